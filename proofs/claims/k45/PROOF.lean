import PyProof.Rows.All
import Wide.All
import OpenK.AllK
import Wide.FinOn
import Lean
import PyProof.EqAt
import PyProof.EqKinds
import PyProof.TupleCall
import PyProof.NeData
import PyProof.P3In
import PyProof.FactsAll.set
import PyProof.CollectWalk
import PyProof.FactsAll.range
import PyProof.MinMaxWalk
import KE.KMinKey
import PyProof.WalkInts
import PyProof.Rows.CallKwBuiltin
import KE.KLam
import KE.KSortTup
import PyProof.Rows.Range3
import PyProof.ListRange
import PyProof.DictRoadsH
import KE.KDictList
import PyProof.Rows.SortKeyStr
import PyProof.DictCompW
import PyProof.DictWalks
import PyProof.Rows.CompDC
import PyProof.SumAny
import PyProof.TupleOfGen
import PyProof.CollectIter
import KE.KTryMore
import OpenK.KOwn
import PyProof.ExcBaseAll.ValueError
import KE.KNestM
import PyProof.NsDelKeeps
import PyProof.ExcAttrAll.ValueError
import PyProof.InstStoreFacts
import PyProof.Rows.SumAny
import PySem.Challenge.RW_twinmoulds_k45_sheets_counted
set_option bootstrap.genMatcherCode false
set_option genInjectivity false
set_option genSizeOfSpec false
set_option Elab.async false
set_option linter.all false
set_option maxRecDepth 100000
set_option maxHeartbeats 4000000
open PySem renaming wpAny_bind→À,Shared→Á,Value→Ã,starEach→Æ,mainGlobals→È,wpAny_pure→Ì,Addr→Í,sizeLine→Ï,Program→Ò,wpAny→Ó,Around→Ö,model→Ø,World→é,bootBuiltins→ì,FuncData→ô,wpAny_mono→ù,Expr→ÿ,compareOp→Ā,Heap→ā,mem_of_lookup→Ă,wpAny_holding→ą,binaryOp→č,wpAny_seqItems→Ď,backTo→ď,foldedSetIterable→ĕ,wpAny_field→ę,eval→Ĝ,wpAny_setField_rec→ġ,sysModules→Ĥ,assignEach→ĥ,NameKind→Ĩ,wpAny_callSpecial?_slot→ĩ,wpAny_call_entry→Ī,wpAny_truthy_bool→Ĺ,wpAny_newObj_type→ĺ,attributeBase→Ļ,wpAny_call→ļ,wpAny_loadPart_at→Ŀ,wpAny_newFunctionEnv_cells→ŀ,Scope→Ł,codeAny_call_builtin→ł,cellsFrom→ń,PyData→ņ,IsPair→Ň,wpAny_standAt→Ŕ,letOwnedTupleGo→ŕ,wpAny_passesOwn→Ŗ,behindInMarks→ŗ,wpAny_Call_Name_kw→ř,Arguments→ś,sizeLine_eq→š,eqIsQuiet_byValue→Ť,recursionLimit→ŧ,rawInt→Ũ,codeAny_mono→ũ,codeAny_call_function→ū,wpAny_execs_cons→ů,swapsWithSole→ų,swappedStores→Ŵ,wpAny_attempt→ŵ,wpAny_execs_nil→ź,codeAny→ż,getAttrByItsOwn→ζ,excClassObj→η,Stmt→μ,Keyword→ξ,Builtin→ο
open PySem.Heap renaming get?_push_of_some→Â,lt_size→Ç,get?_push_size→Ñ,size_push→õ,get?_some_iff→İ,SameBut→Ĳ,get?_update_self→Ŭ,FlyingW→Ů,get?_update_ne→ε
open Bool renaming and_eq_true→Ä,false_eq_true→Ë,false_ne_true→Î,not_true→ĉ,eq_iff_iff→Ĵ,and_self→Ľ,not_eq_true'→ľ
open Nat renaming lt_of_lt_of_le→Å,le_trans→ß,ne_of_lt→à,lt_irrefl→ê,ne_of_gt→ĳ,zero_le→ĵ,le_of_not_lt→Ű,mul_le_mul_right→Ų,add_assoc→ŷ,not_lt→Ÿ
open List renaming getElem?_eq_some_iff→É,replicate→Ê,mem_cons_of_mem→Ð,getElem?_append_left→Õ,size_toArray→Ù,mem_cons_self→Ý,getElem?_set_ne→Þ,mem_append_right→á,getElem?_set_self→â,mem_cons→ã,length_map→å,getElem?_eq_getElem→æ,getElem?_append_right→è,map_cons→ñ,getElem?_map→ò,set_cons_succ→ö,set_cons_zero→ø,length_set→ú,lookup_cons→û,length_cons→þ,append_nil→Ć,length_append→ć,not_mem_nil→Ċ,replicate_succ→ċ,all_eq_true→Đ,cons_append→đ,getElem?_replicate→Ē,mem_append→ė,nil_append→Ę,length_nil→Ě,mem_append_left→Ģ,mem_of_getElem?→ģ,flatten_cons→Ħ,mem_filterMap→Į,zip_cons_cons→į,range→ĸ,mem_range→Ń,drop_eq_getElem_cons→Ŋ,filterMap_cons→Ŏ,filter_eq_self→Ő,of_mem_zip→Ś,forIn_cons→ŝ,append_assoc→Ţ,length_replicate→Ū,map_nil→ŭ,mem_filter→Ź,nodup_cons→Ž
open PySem.NameKind renaming free→Û
open PySem.W renaming nsIn→Ü,mg_none_of→ç,Frag→ð,keepIn→Ą,mg_of→ē,fnOf→Ĕ,cellsFrom_some→Ĭ,looks_findIn→Ķ,codeIn→Ņ,hideAll_get→ō,findIn→Ŧ,callWith_K→ι,lookIn→ν,methodObj→ς,tabIn→ψ,excIn→ω
open PySem.Builtin.SmallTypes renaming nextOf→ä,ownedTupleIsFree→ă,ownedTupleHandOut→ň
open False renaming elim→ï
open PySem.PyData renaming eqv→ý,weightAll→Ō,depthAll→Ş
open ForInStep renaming yield→Ĉ
open PyProof.Rows renaming envOfC→Č,callWith_type1→Ż,AllBare→υ,envOfC→MF
open PySem.Value renaming ref→Ė,bool→Ğ
open PySem.F renaming slot_tuple_iterator_next→ĝ,isi_meta_tuple→Ġ,isi_meta_list→ħ,args_tuple_add_2→Œ,entry_tuple_add→Ŝ,slot_tuple_add→Š,slot_tuple_hash→ţ,attr_ValueError→ť,slot_int_rmul→ž,slot_zip_next→ſ
open PySem.Sem renaming wp→ī
open Int renaming emod_lt_of_pos→ı,emod_nonneg→ş
open PySem.PassesOwn renaming never→ķ
open PySem.Builtin.Tuple renaming tupleHashOf→ŋ,tupleItemsOf→θ
open Array renaming length_toList→ŏ
open Option renaming isSome_iff_exists→ő,map_some→δ
open PySem.Builtin.List renaming listTooLong→œ
open PySem.Calls renaming spliced_cons→Ř,evalArgs_plain→ű
open Ne renaming symm→χ
def Ô:=@decide_eq_true_eq
def Ú:=@decide_eq_true
def ë:=@if_pos
def í:=@decide_eq_false
def î:=@if_neg
def ó:=@of_decide_eq_true
def ü:=@if_false
def ě:=@congrArg
def ğ:=@beq_self_eq_true
def ĭ:=@if_true
def Ŷ:=@and_self
def MK:=@Nat.le_refl
def MN:=@Option.some.inj
abbrev MO:PySem.Str:="_law_script"
abbrev MP:PySem.Str:="_law_state_here"
abbrev MQ:PySem.Str:="_law_many"
abbrev MR:PySem.Str:="_law_due"
abbrev MT:PySem.Str:="_law_told"
abbrev MU:PySem.Str:="_law_bad"
abbrev MV:PySem.Str:="_law_count_here"
noncomputable section
local macro_rules | `(tactic| omega) => `(tactic| lia)
open PySem.W (Frag)
namespace L2
open PySem PySem.Spec PyProof.Rows
noncomputable abbrev Key:=Sum Int Str
def sU:Key->Ã->Bool
 | .inl k,v=>Value.isInt k v
 | .inr x,v=>Value.isStrOf x v
def Iu (w:é):Key->Int
 | .inl k=>hashInt k
 | .inr x=>hashStr w x
def ie:∀{k:Key} {v:Ã},sU k v=true->(∃i t,k=Sum.inl i/\v=Value.int i t)\/(∃x t,k=Sum.inr x/\v=Value.str x t)
 | .inl i,v,h=>by
  obtain ⟨t,e⟩:=Value.isInt_shape (k:=i) (v:=v) h;exact .inl ⟨i,t,rfl,e⟩
 | .inr x,v,h=>by
  obtain ⟨t,e⟩:=Value.isStrOf_shape (x:=x) (v:=v) h;exact .inr ⟨x,t,rfl,e⟩
def Fd (a b:Int):decide ((Sum.inl a:Key)=Sum.inl b)=(a==b):=by
 by_cases e:a=b
 ·subst e;simp
 ·have h:¬ (Sum.inl a:Key)=Sum.inl b:=fun q=>e (Sum.inl.inj q)
  rw [í h];exact (beq_eq_false_iff_ne.mpr e).symm
def Fe (a b:Str):decide ((Sum.inr a:Key)=Sum.inr b)=decide (a=b):=by
 by_cases e:a=b
 ·subst e;simp
 ·have h:¬ (Sum.inr a:Key)=Sum.inr b:=fun q=>e (Sum.inr.inj q)
  rw [í h,í e]
def Ff (a:Int) (b:Str):decide ((Sum.inl a:Key)=Sum.inr b)=false:=í (fun q=>nomatch q)
def Fg (a:Str) (b:Int):decide ((Sum.inr a:Key)=Sum.inl b)=false:=í (fun q=>nomatch q)
def o7 (prog:Ò) (w:é):PySem.KeyKind prog w Key where
 is:=sU
 hash:=Iu w
 inj:=fun v a b X Y=>by
  rcases ie X with ⟨i,t,rfl,rfl⟩ | ⟨x,t,rfl,rfl⟩
  ·rcases ie Y with ⟨j,u,rfl,e⟩ | ⟨y,u,rfl,e⟩
   ·injection e with e1 _;rw [e1]
   ·exact nomatch e
  ·rcases ie Y with ⟨j,u,rfl,e⟩ | ⟨y,u,rfl,e⟩
   ·exact nomatch e
   ·injection e with e1 _;rw [e1]
 byValue:=fun k v h=>by
  rcases ie h with ⟨i,t,rfl,rfl⟩ | ⟨x,t,rfl,rfl⟩<;>rfl
 pyHash:=fun Z h=>by
  rcases ie Z with ⟨i,t,rfl,rfl⟩ | ⟨x,t,rfl,rfl⟩
  ·exact wpAny_pyHash_int h
  ·exact wpAny_pyHash_str h
 eqBool:=fun W Z h=>by
  rcases ie W with ⟨i,t,rfl,rfl⟩ | ⟨x,t,rfl,rfl⟩
  ·rcases ie Z with ⟨j,u,rfl,rfl⟩ | ⟨y,u,rfl,rfl⟩
   ·rw [Fd] at h;exact wpAny_eqBool_int h
   ·rw [Ff] at h;exact SeqAt.EqAt.int_str i t y u _ _ _ _ h
  ·rcases ie Z with ⟨j,u,rfl,rfl⟩ | ⟨y,u,rfl,rfl⟩
   ·rw [Fg] at h;exact SeqAt.EqAt.str_int x t j u _ _ _ _ h
   ·rw [Fe] at h;exact wpAny_eqBool_str h
 «strs»:=fun k x t v h=>by
  rcases ie h with ⟨i,u,rfl,e⟩ | ⟨y,u,rfl,e⟩
  ·exact nomatch e
  ·injection e with e1 _
   subst e1
   cases v<;>rfl
set_option genInjectivity true in
inductive V where
 |aq|bl (b:Bool)|int (i:Int)|str (x:Str)|fC (b:Array UInt8)|nQ (b:UInt64)|ref (a:Í)|ty (n:String)
 deriving DecidableEq
def RelV:V->Ã->Prop
 | .aq,u=>u=Value.none
 | .bl b,u=>u=Ğ b
 | .int i,u=>∃t,u=Value.int i t
 | .str x,u=>∃t,u=Value.str x t
 | .fC b,u=>∃t,u=Value.bytes b t
 | .nQ b,u=>∃t,u=Value.float b t
 | .ref a,u=>u=Ė a
 | .ty n,u=>u=Value.type n
abbrev Vals:List V->List Ã->Prop:=Paired RelV
theorem Vals.length (r:Vals xs us):xs.length=us.length:=Paired.length r
theorem Vals.get:∀{xs:List V} {us:List Ã} {i:Nat} {x:V},Vals xs us->xs[i]?=some x->∃u,us[i]?=some u/\RelV x u
 |_,_,_,_,.nil,e=>by simp at e
 |_,_,0,_,.cons r _,e=>by simp at e;subst e;exact ⟨_,rfl,r⟩
 |_,_,i+1,x,.cons _ t,e=>by
  obtain ⟨u,Z,Y⟩:=Vals.get (i:=i) (x:=x) t (by simpa using e);exact ⟨u,by simpa using Z,Y⟩
theorem Vals.set (r:RelV x u):∀{xs:List V} {us:List Ã} (i:Nat),Vals xs us->Vals (xs.set i x) (us.set i u)
 |_,_,_,.nil=>.nil
 |_,_,0,.cons _ t=>.cons r t
 |_,_,i+1,.cons q t=>.cons q (Vals.set r i t)
theorem Vals.append:∀{xs ys:List V} {us ws:List Ã},Vals xs us->Vals ys ws->Vals (xs++ys) (us++ws)
 |_,_,_,_,.nil,s=>s
 |_,_,_,_,.cons r t,s=>.cons r (Vals.append t s)
def zC:Option V->Option Ã->Prop
 |some v,some u=>RelV v u
 |none,none=>True
 |_,_=>False
def KV {κ:Type}:List (κ×V)->List (κ×Ã)->Prop:=Paired fun (p:κ×V) (q:κ×Ã)=>p.1=q.1/\RelV p.2 q.2
def kV:Key->V
 | .inl i=>.int i
 | .inr x=>.str x
inductive HO where
 |lst (xs:List V)
 |tup (xs:List V)
 |dK (az:List (Key×V))|dT (az:List (List Key×V))
 |set (S:Int->Bool) (n:Nat)
 |ins (C dx:Í) (fs:List (Str×V))
 |own (x:Í)
 |xd (fs:List (Str×V))
 |met (f x:Í)
 |dF (lo hi:Int)
 |aI (o:Obj) (u:HO)
 |cf (ps:Array Ã)
 |ext (φ:ā->Prop)
noncomputable abbrev Hp:=Í->Option HO
def upd (H:Hp) (a:Í) (o:HO):Hp:=fun b=>if b=a then some o else H b
def b9:upd H a o a=some o:=by unfold upd;rw [ë rfl]
def aF (h:b≠a):upd H a o b=H b:=by unfold upd;rw [î h]
def bA {H:Hp} {a b:Í} {o:HO} (h:H a=some o) (h':H b=none):a≠b:=by
 intro e;subst e;rw [h] at h';cases h'
section
variable (P:Ò) (w:é)
def cB (H:Hp) (h:ā) (a:Í):HO->Prop
 | .lst Z=>Z.length<=Ï/\∃(ah:List Ã) (n:Nat),Vals Z ah/\h.get? a=some { cls:=.type "list",data:=.seq ah.toArray n }
 | .tup Z=>Z.length<=Ï/\∃ah:List Ã,Vals Z ah/\IsTup h a ah.toArray
 | .dK X=>X.length<=Ï/\(a==Ĥ)=false/\∃R,KV X R/\h.DictOf (o7 P w) a R
 | .dT X=>X.length<=Ï/\(a==Ĥ)=false/\∃Z:List (List Key×Í×Ã),
   Paired (fun (p:List Key×V) (q:List Key×Í×Ã)=>p.1=q.1/\H q.2.1=some (.tup (p.1.map kV))/\RelV p.2 q.2.2) X Z /\
   ∃o Q M,h.get? a=some o/\o.ExactDict/\o.data=.dict Q M/\Q.toList=Z.map (entryOfKey (tupleKind (o7 P w)))/\(Z.map (·.1)).Nodup
 | .set S n=>h.SetOf (intKind P w) a S n
 | .ins C U fs=>H U=some (.own a)/\fs.length<=1000/\U≠a/\h.get? a=some (PySem.W.instObj C U) /\
   ∃Y,h.Ns1 U Y/\(∀f,zC (fs.lookup f) (Y f))/\PySem.Within Y (fs.map (·.1))
 | .own _=>∃o,h.get? a=some o
 | .xd fs=>∃Y,h.Ns1 a Y/\∀f,zC (fs.lookup f) (Y f)
 | .dF lo hi=>∃t u v,h.get? a=some { cls:=.type "range",data:=.fields #[.int lo t,.int hi u,.int 1 v] }
 | .aI o u=>h.get? a=some o/\cB H h a u
 | .cf L=>h.get? a=some { cls:=.none,data:=.fields L }
 | .met f x=>h.get? a=some (ς (.ref f) (.ref x))
 | .ext T=>T h/\(∃o,h.get? a=some o)/\∀O N:ā,T O->(∀o,O.get? a=some o->N.get? a=some o)->T N
def bE (H:Hp) (h:ā):Prop:=∀a o,H a=some o->cB P w H h a o
end
section
variable {P:Ò} {w:é} {H H':Hp} {h h':ā} {a:Í} {o:HO}
theorem cB.lt (x:cB P w H h a o):a<h.objs.size:=by
 cases o with
 |lst Z=>obtain ⟨_,_,_,_,e⟩:=x;exact Ç e
 |tup Z=>obtain ⟨_,_,_,p⟩:=x;exact p.lt
 |dK Y=>obtain ⟨_,_,_,_,o,_,_,e,_⟩:=x;exact Ç e
 |dT Y=>obtain ⟨_,_,_,_,o,_,_,e,_⟩:=x;exact Ç e
 |set S n=>obtain ⟨o,_,_,_,e,_⟩:=x;exact Ç e
 |ins C X fs=>obtain ⟨_,_,_,e,_⟩:=x;exact Ç e
 |own y=>obtain ⟨_,e⟩:=x;exact Ç e
 |xd fs=>obtain ⟨_,⟨_,_,_,e,_⟩,_⟩:=x;exact Ç e
 |dF lo hi=>obtain ⟨_,_,_,e⟩:=x;exact Ç e
 |aI W u=>obtain ⟨e,_⟩:=x;exact Ç e
 |cf V=>exact Ç (show h.get? a=some _ from x)
 |met f y=>exact Ç (show h.get? a=some _ from x)
 |ext U=>obtain ⟨_,⟨_,e⟩,_⟩:=x;exact Ç e
theorem Paired.zD {α β:Type} {F G:α->β->Prop}:∀{zE:List α} {zF:List β},Paired F zE zF->(∀a b,F a b->G a b)->Paired G zE zF
 |_,_,.nil,_=>.nil
 |_,_,.cons r t,f=>.cons (f _ _ r) (Paired.zD t f)
def cB.cu (x:cB P w H h a o) (k:∀b u,(b=a\/H b=some (.own a))->h.get? b=some u->h'.get? b=some u)
  (ho:∀b,H b=some (.own a)->H' b=some (.own a)) (ht:∀b xs,H b=some (.tup xs)->H' b=some (.tup xs)):cB P w H' h' a o:=by
 induction o with
 |lst xs=>obtain ⟨z,ah,n,r,e⟩:=x;exact ⟨z,ah,n,r,k _ _ (.inl rfl) e⟩
 |tup xs=>obtain ⟨z,ah,r,Z,e,c⟩:=x;exact ⟨z,ah,r,Z,k _ _ (.inl rfl) e,c⟩
 |dK R=>obtain ⟨z,y,Q,r,Z,Y,X,e,c⟩:=x;exact ⟨z,y,Q,r,Z,Y,X,k _ _ (.inl rfl) e,c⟩
 |dT R =>
  obtain ⟨z,y,xs,r,Z,Y,X,e,c⟩:=x;exact ⟨z,y,xs,Paired.zD r fun p q z=>⟨z.1,ht _ _ z.2.1,z.2.2⟩,Z,Y,X,k _ _ (.inl rfl) e,c⟩
 |set S n=>obtain ⟨Z,Y,X,t,e,c⟩:=x;exact ⟨Z,Y,X,t,k _ _ (.inl rfl) e,c⟩
 |ins C O fs =>
  obtain ⟨d,z,ne,e,W,⟨V,Y,X,e2,c⟩,r⟩:=x;exact ⟨ho _ d,z,ne,k _ _ (.inl rfl) e,W,⟨V,Y,X,k _ _ (.inr d) e2,c⟩,r⟩
 |own y=>obtain ⟨Z,e⟩:=x;exact ⟨Z,k _ _ (.inl rfl) e⟩
 |xd fs=>obtain ⟨W,⟨V,Y,X,e,c⟩,r⟩:=x;exact ⟨W,⟨V,Y,X,k _ _ (.inl rfl) e,c⟩,r⟩
 |dF lo hi=>obtain ⟨t,u,v,e⟩:=x;exact ⟨t,u,v,k _ _ (.inl rfl) e⟩
 |aI Z u ih=>obtain ⟨e,q⟩:=x;exact ⟨k _ _ (.inl rfl) e,ih q⟩
 |cf U =>
  have e:h.get? a=some { cls:=.none,data:=.fields U }:=x;show h'.get? a=some { cls:=.none,data:=.fields U };exact k a _ (.inl rfl) e
 |met f y =>
  have e:h.get? a=some (ς (.ref f) (.ref y)):=x;show h'.get? a=some (ς (.ref f) (.ref y));exact k a _ (.inl rfl) e
 |ext N=>obtain ⟨p,⟨o,e⟩,T⟩:=x;exact ⟨T _ _ p fun o q=>k _ _ (.inl rfl) q,⟨o,k _ _ (.inl rfl) e⟩,T⟩
theorem bE.lt (x:bE P w H h) (e:H a=some o):a<h.objs.size:=(x a o e).lt
def bE.fresh (x:bE P w H h) (e:h.objs.size<=a):H a=none:=by
 cases q:H a with
 |none=>rfl
 |some u=>exact absurd (Å (x.lt q) e) (ê _)
def bE.kept (x:bE P w H h) (k:∀b u,h.get? b=some u->h'.get? b=some u):bE P w H h':=fun a o e =>
 (x a o e).cu (fun b u _ q=>k b u q) (fun _ q=>q) fun _ _ q=>q
def bE.laid (x:bE P w H h) (k:∀b u,h.get? b=some u->h'.get? b=some u) (hp:h.objs.size<=a) (new:cB P w (upd H a o) h' a o):bE P w (upd H a o) h':=fun b u e=>by
 have Z:=x.fresh hp;by_cases Y:b=a
 ·subst Y;rw [b9] at e;cases e;exact new
 ·rw [aF Y] at e
  exact (x b u e).cu (fun c v _ q=>k c v q) (fun c q=>by rw [aF (bA q Z)];exact q) fun c X q=>by rw [aF (bA q Z)];exact q
end
def Rd (H:Hp) (a:Í) (u:HO):Prop:=H a=some u\/∃o,H a=some (.aI o u)
def Rd.ok (r:Rd H a u) (x:bE P w H h):cB P w H h a u:=by
 rcases r with r | ⟨o,r⟩
 ·exact x a u r
 ·obtain ⟨_,q⟩:=x a _ r
  exact q
def qt:Option HO->Prop
 |some (.lst _)=>True
 |some (.dK _)=>True
 |some (.dT _)=>True
 |some (.set _ _)=>True
 |some (.ins _ _ _)=>True
 |some (.ext _)=>True
 |_=>False
section
variable {P:Ò} {w:é} {H:Hp} {h h':ā} {x e:Í} {o':HO}
def bE.write (ok:bE P w H h) (mu:qt (H x)) (he:e=x\/H e=some (.own x)) (k:∀b u,b≠e->h.get? b=some u->h'.get? b=some u) (lO:∃u,h'.get? e=some u)
  (new:cB P w (upd H x o') h' x o'):bE P w (upd H x o') h':=fun b u q=>by
 have W:∀c y,H c=some (.own y)->c≠x:=fun c y r z=>by subst z;rw [r] at mu;exact mu
 have U:∀c Z,H c=some (.tup Z)->c≠x:=fun c Z r z=>by subst z;rw [r] at mu;exact mu
 by_cases Y:b=x
 ·subst Y;rw [b9] at q;cases q;exact new
 ·rw [aF Y] at q
  by_cases X:b=e
  ·have V:H b=some (.own x):=by
    rcases he with z|z
    ·exact absurd (X.trans z) Y
    ·rw [X];exact z
   rw [q] at V;cases V;obtain ⟨v,T⟩:=lO;exact ⟨v,by rw [X];exact T⟩
  ·refine (ok b u q).cu (fun c v hc r=>k c v ?_ r) (fun c r=>by rw [aF (W c b r)];exact r) fun c Z r=>by rw [aF (U c Z r)];exact r
   rcases hc with rfl|hc
   ·exact X
   ·rintro rfl
    rcases he with z|z
    ·exact W c b hc z
    ·rw [hc] at z;cases z;exact Y rfl
end
structure Un (fs ex:List Í) (H H':Hp) (h h':ā):Prop where
 keep:∀b o,h.get? b=some o->H b=none->b∉fs->b∉ex->h'.get? b=some o
 slot:∀b o,h.get? b=some o->H b=none->b∈fs->b∉ex->∃sl,h'.get? b=some { o with slots:=sl }
 free:∀b o,h.get? b=some o->H b=none->b∉ex->H' b=none
 there:∀b o,h.get? b=some o->b∉ex->∃o',h'.get? b=some o'
 cN:∀b xs,H b=some (.tup xs)->H' b=some (.tup xs)
 cE:∀b o u,H b=some (.aI o u)->H' b=some (.aI o u)
 cO:∀b ps,H b=some (.cf ps)->∃more,H' b=some (.cf (ps++more))
section
variable {fs JJ ex Me:List Í} {H H1 H2:Hp} {h h1 h2 h':ā} {a x e:Í} {o:HO}
def Un.any (u:Un fs ex H H1 h h1) (q:h.get? b=some ob) (n:H b=none) (hx:b∉ex):∃sl,h1.get? b=some { ob with slots:=sl }:=by
 by_cases Z:b∈fs
 ·exact u.slot b ob q n Z hx
 ·exact ⟨ob.slots,u.keep b ob q n Z hx⟩
def Un.kept (k:∀b u,h.get? b=some u->h'.get? b=some u):Un fs ex H H h h' :=
 ⟨fun b Z q _ _ _=>k b Z q,fun b Z q _ _ _=>⟨Z.slots,k b Z q⟩,fun _ _ _ n _=>n,fun b Z q _=>⟨Z,k b Z q⟩,fun _ _ q=>q,fun _ _ _ q=>q,fun _ Y q=>⟨#[],by rw [q];simp⟩⟩
def Un.refl:Un fs ex H H h h:=Un.kept fun _ _ q=>q
def Un.laid (k:∀b u,h.get? b=some u->h'.get? b=some u) (hp:h.objs.size<=a) (hn:H a=none):Un fs ex H (upd H a o) h h' where
 keep:=fun b u q _ _ _=>k b u q
 slot:=fun b u q _ _ _=>⟨u.slots,k b u q⟩
 free:=fun b u q n _=>by rw [aF (à (Å (Ç q) hp))];exact n
 there:=fun b u q _=>⟨u,k b u q⟩
 cN:=fun b Z q=>by rw [aF (bA q hn)];exact q
 cE:=fun b u Z q=>by rw [aF (bA q hn)];exact q
 cO:=fun b Y q=>⟨#[],by rw [aF (bA q hn),q];simp⟩
def Un.write (mu:qt (H x)) (he:e=x\/H e=some (.own x)) (k:∀b u,b≠e->h.get? b=some u->h'.get? b=some u) (lO:∃u,h'.get? e=some u):Un fs ex H (upd H x o) h h':=by
 have Y:∀b,H b=none->b≠x:=fun b n z=>by subst z;rw [n] at mu;exact mu
 have X:∀b,H b=none->b≠e:=fun b n z=>by
  subst z
  rcases he with r|r
  ·exact Y b n r
  ·rw [n] at r;cases r
 have Z:∀b u,H b=some u->¬ qt (some u)->b≠x:=fun b u q nm z=>by subst z;rw [q] at mu;exact nm mu
 refine ⟨fun b u q n _ _=>k b u (X b n) q,fun b u q n _ _=>⟨u.slots,k b u (X b n) q⟩,fun b u q n _=>by rw [aF (Y b n)];exact n,fun b u q _=>?_,
  fun b V q=>by rw [aF (Z b _ q fun z=>z)];exact q,fun b u V q=>by rw [aF (Z b _ q fun z=>z)];exact q,fun b U q=>⟨#[],by rw [aF (Z b _ q fun z=>z),q];simp⟩⟩
 by_cases W:b=e
 ·subst W;exact lO
 ·exact ⟨u,k b u W q⟩
end
def lP (h:ā) (H:Hp):List Í:=(ĸ h.objs.size).filter fun a=>(H a).isSome
def iZ (h:ā) (H:Hp):ā:=PySem.W.hideAll h (lP h H)
def Cn (h:ā) (H:Hp):(iZ h H).objs.size=h.objs.size:=PySem.W.hideAll_size _ _
def rq (e:h.get? b=some o) (n:H b=none):(iZ h H).get? b=some o :=
 ō _ e fun Z=>by
  have q:(H b).isSome=true:=(Ź.mp Z).2;rw [n] at q;simp at q
def Ee (e:(iZ h H).get? b=some o):h.get? b=some o/\H b=none:=by
 have Z:h.get? b=some o:=PySem.W.of_hideAll (lP h H) e;refine ⟨Z,?_⟩
 cases q:H b with
 |none=>rfl
 |some x =>
  have Y:b∈lP h H:=Ź.mpr ⟨Ń.mpr (Ç Z),by simp [q]⟩;have z:(iZ h H).get? b=none:=PySem.W.hideAll_none (lP h H) Y;rw [z] at e;cases e
noncomputable def Ef (g h:ā) (L:Í):List (Í×Obj):=(ĸ h.objs.size).filterMap fun a=>if a=L\/(g.get? a).isSome=true then none else (h.get? a).map fun o=>(a,o)
def rest (g h:ā) (L d:Í):List (Í×Obj):=(Ef g h L).filter fun p=>decide (p.1≠d)
structure Mod (K:ð) (mg:Str->Option Ã) (base:ā):Prop where
 gg:K.In base
 glob:base.Ns È mg
 blt:∃mb,base.Ns builtinsNs mb/\∀x:Str,x≠"__name__"->mb x=ì x
 nolimit:base.NoLimit
structure Cx where
 prog:Ò
 w:é
 K:ð
 mg:Str->Option Ã
 base:ā
 A:Ö
 N:List Str
 bM:Á
 iw:Hp
 env:Env
 outer:List Env
 stack:List Env
 ex:List Í
 fn:Str->Bool
 calm:Bool
 pn:List (Í×Obj)
 xe:Ã->Á->Prop
noncomputable def bh (l:List Env):List Í:=l.filterMap (·.frame)
abbrev Cx.fs (X:Cx):List Í:=bh X.outer
def lQ (sc:Ł) (x:Str):Prop:=sc.names.lookup x=some .local\/sc.names.lookup x=some .cell\/sc.names.lookup x=some .free
def Loc (sc:Ł) (x:Str):Prop:=sc.names.lookup x=some .local\/sc.names.lookup x=some .cell
def Look (env:Env) (h:ā) (m:Str->Option Ã) (x:Str) (u:Ã):Prop :=
 (env.kindOf x=some .local/\m x=some u)\/((env.kindOf x=some .cell\/env.kindOf x=some .free)/\∃c,env.cells.lookup x=some c/\h.IsCell c (some u))
structure Cx.Ok (X:Cx):Prop where
 mod:Mod X.K X.mg X.base
 kind:X.env.scope.kind=.function
 glob:X.env.globals=È
 blt:X.env.builtins=builtinsNs
 above:X.bM.heap.objs.size<=X.env.locals
 inj:∀x y c,X.env.cells.lookup x=some c->X.env.cells.lookup y=some c->x=y
 has:∀x,(X.env.kindOf x=some .cell\/X.env.kindOf x=some .free)->∃c,X.env.cells.lookup x=some c
 lR:∀x c,X.fn x=true->X.env.cells.lookup x=some c->X.bM.heap.objs.size<=c
 hd:X.calm=true->X.A.handled=none
 frames:X.A.frames=some X.stack
 gj:X.stack=X.outer\/(X.stack=X.env::X.outer/\X.env.frame=some X.env.locals)
 Ar:∀b∈X.ex,b≠X.env.locals/\∀x c,X.env.cells.lookup x=some c->c≠b
 bs:∀b o,X.base.get? b=some o->X.bM.heap.get? b=some o/\X.iw b=none
 gk:X.base.objs.size<=X.bM.heap.objs.size
 ke:∀b o,X.base.get? b=some o->b∉X.ex
 p6:∀b∈X.ex,b∉X.fs
 eZ:X.bM.heap.FunFrames X.base X.outer
 gO:∀b∈X.fs,X.iw b=none
structure Inv (X:Cx) (π:List (Í×Obj)) (σ:List (Option V)) (H:Hp) (s:Á):Prop where
 ok:X.Ok
 os:s.os=X.bM.os
 bare:υ s.gens
 base:Un X.fs X.ex X.iw H X.bM.heap s.heap
 loc:∃m,s.heap.Ns X.env.locals m/\∀(i:Nat) (x:Str) (v:V),X.N[i]?=some x->σ[i]?=some (some v)->lQ X.env.scope x->∃u,RelV v u/\Look X.env s.heap m x u
 cell:∀x c,X.env.cells.lookup x=some c->∃v,s.heap.IsCell c v
 free:H X.env.locals=none
 fU:∀x c,X.env.cells.lookup x=some c->H c=none
 pin:∀p∈X.pn++π,s.heap.get? p.1=some p.2/\H p.1=none/\p.1≠X.env.locals/\p.1∉X.fs/\∀v,p.2.data≠.cell v
 au:bE X.prog X.w H s.heap
 len:σ.length=X.N.length
section
variable {X:Cx} {π:List (Í×Obj)} {σ:List (Option V)} {H H':Hp} {s:Á} {h':ā}
def Cx.Ok.Iw (ok:X.Ok) (e:X.base.get? b=some o):b∉X.fs:=fun Z=>by
 have:=(ok.eZ.mem Z).1;rw [e] at this;cases this
theorem Inv.bs (I:Inv X π σ H s):∀b o,X.base.get? b=some o->s.heap.get? b=some o/\H b=none:=fun b o e =>
 ⟨I.base.keep b o (I.ok.bs b o e).1 (I.ok.bs b o e).2 (I.ok.Iw e) (I.ok.ke b o e),I.base.free b o (I.ok.bs b o e).1 (I.ok.bs b o e).2 (I.ok.ke b o e)⟩
def Inv.bk (I:Inv X π σ H s):∀b o,X.base.get? b=some o->s.heap.get? b=some o:=fun b o e=>(I.bs b o e).1
theorem Inv.mod (I:Inv X π σ H s):Mod X.K X.mg X.base:=I.ok.mod
def Inv.dR (I:Inv X π σ H s):X.K.In s.heap:=I.ok.mod.gg.keeps I.bk
theorem Inv.nolimit (I:Inv X π σ H s):s.heap.NoLimit:=I.ok.mod.nolimit.keeps I.bk
theorem Inv.lt (I:Inv X π σ H s):X.env.locals<s.heap.objs.size:=let ⟨_,Z,_⟩:=I.loc;Z.lt
def Inv.sz (I:Inv X π σ H s):X.bM.heap.objs.size<=s.heap.objs.size:=ß I.ok.above (Nat.le_of_lt I.lt)
def Inv.tV (I:Inv X π σ H s) {a:Í} (h:s.heap.objs.size<=a):a∉X.fs:=fun Z=>by
 obtain ⟨_,o,Y,_⟩:=I.ok.eZ.mem Z;exact absurd (Å (Ç Y) (ß I.sz h)) (ê _)
def Inv.gm (I:Inv X π σ H s):∀x c,X.env.cells.lookup x=some c->c≠X.env.locals:=fun x c e z=>by
 obtain ⟨v,o,Z,Y⟩:=I.cell x c e;obtain ⟨m,⟨U,T,S,W,V,_⟩,_⟩:=I.loc;rw [z,W] at Z;cases Z;rw [V] at Y;cases Y
theorem Inv.eZ (I:Inv X π σ H s):s.heap.FunFrames X.base X.outer:=by
 have all:∀(l:List Env),(∀b∈bh l,b∈X.fs)->X.bM.heap.FunFrames X.base l->s.heap.FunFrames X.base l:=by
  intro l
  induction l with
  |nil=>intro _ _;trivial
  |cons env r ih =>
   intro hs V;obtain ⟨U,⟨L,o,Z,T,S,R⟩,Q⟩:=V;have Y:L∈X.fs:=hs L (by unfold bh;rw [Ŏ,Z];exact Ý);obtain ⟨P,e⟩:=I.base.slot L o S (I.ok.gO L Y) Y fun z=>I.ok.p6 L z Y;exact ⟨U,⟨L,_,Z,T,e,R⟩,ih (fun b W=>hs b (by unfold bh;rw [Ŏ,Z];exact Ð _ W)) Q⟩
 exact all X.outer (fun _ W=>W) I.ok.eZ
theorem Inv.stack (I:Inv X π σ H s):s.heap.FunFrames X.base X.stack:=by
 rcases I.ok.gj with e | ⟨e,Z⟩
 ·rw [e];exact I.eZ
 ·rw [e]
  obtain ⟨m,Y,_⟩:=I.loc;refine .cons (by rw [I.ok.kind];decide) Z Y ?_ I.eZ;exact Heap.get?_none_of_le (ß I.ok.gk I.ok.above)
def Inv.jW (I:Inv X π σ H s):∀b∈bh X.stack,b∈X.env.locals::X.fs:=fun b Z=>by
 rcases I.ok.gj with e | ⟨e,Y⟩
 ·rw [e] at Z;exact Ð _ Z
 ·rw [e] at Z
  unfold bh at Z;rw [Ŏ,Y] at Z;exact Z
def Inv.mz (I:Inv X π σ H s):∀b∈bh X.stack,H b=none:=fun b hb=>by
 rcases ã.mp (I.jW b hb) with e|hb
 ·rw [e];exact I.free
 ·obtain ⟨_,o,Z,_⟩:=I.ok.eZ.mem hb
  exact I.base.free b o Z (I.ok.gO b hb) fun z=>I.ok.p6 b z hb
def Inv.step {g':Array GenState} {t':Nat} {d':Drawn} {ch:List Í} (I:Inv X π σ H s)
  (iD:∀b∈ch,(b∈X.ex\/X.bM.heap.objs.size<=b)/\b≠X.env.locals/\(∀x c,X.env.cells.lookup x=some c->c≠b)/\∀p∈X.pn++π,p.1≠b)
  (keep:∀b o,b≠X.env.locals->b∉X.fs->b∉ch->s.heap.get? b=some o->H b=none->h'.get? b=some o)
  (slot:∀b o,b≠X.env.locals->b∈X.fs->b∉ch->s.heap.get? b=some o->H b=none->∃sl,h'.get? b=some { o with slots:=sl }) (free:∀b o,b∉ch->s.heap.get? b=some o->H b=none->H' b=none)
  (there:∀b o,b∉ch->s.heap.get? b=some o->∃o',h'.get? b=some o')
  (cN:∀b xs,H b=some (.tup xs)->H' b=some (.tup xs)) (cE:∀b o u,H b=some (.aI o u)->H' b=some (.aI o u)) (cO:∀b ps,H b=some (.cf ps)->∃more,H' b=some (.cf (ps++more)))
  (ns:∀m,s.heap.Ns X.env.locals m->h'.Ns X.env.locals m) (au:bE X.prog X.w H' h') (hg:υ g') :
  Inv X π σ H' { s with heap:=h',gens:=g',drawn:=d',toks:=t' }:=by
 have S:∀b o,X.bM.heap.get? b=some o->b≠X.env.locals:=fun b o e=>à (Å (Ç e) I.ok.above);have U:∀b o,X.bM.heap.get? b=some o->b∉X.ex->b∉ch:=fun b o e Z Y=>by
  rcases (iD b Y).1 with z|z
  ·exact Z z
  ·exact absurd (Å (Ç e) z) (ê _)
 have cellK:∀x c,X.env.cells.lookup x=some c->∀v,s.heap.IsCell c v->h'.IsCell c v:=fun x c e v ⟨o,W,T⟩=>by
  have V:c∉ch:=fun z=>(iD c z).2.2.1 x c e rfl;by_cases R:c∈X.fs
  ·obtain ⟨sl,q⟩:=slot c o (I.gm x c e) R V W (I.fU x c e)
   exact ⟨_,q,T⟩
  ·exact ⟨o,keep c o (I.gm x c e) R V W (I.fU x c e),T⟩
 refine ⟨I.ok,I.os,hg,⟨fun b o e n Y Z=>?_,fun b o e n Y Z=>?_,fun b o e n Z=>?_,fun b o e Z=>?_,fun b xs e=>cN b xs (I.base.cN b xs e),fun b o xs e=>cE b o xs (I.base.cE b o xs e),fun b ps e=>?_⟩,?_,fun x c e=>?_,?_,fun x c e=>?_,fun p Q=>?_,au,I.len⟩
 ·exact keep b o (S b o e) Y (U b o e Z) (I.base.keep b o e n Y Z) (I.base.free b o e n Z)
 ·obtain ⟨sl,e1⟩:=I.base.slot b o e n Y Z
  obtain ⟨O,e2⟩:=slot b _ (S b o e) Y (U b o e Z) e1 (I.base.free b o e n Z);exact ⟨O,e2⟩
 ·obtain ⟨o',e1⟩:=I.base.there b o e Z
  exact free b o' (U b o e Z) e1 (I.base.free b o e n Z)
 ·obtain ⟨o',e1⟩:=I.base.there b o e Z
  exact there b o' (U b o e Z) e1
 ·obtain ⟨N,e1⟩:=I.base.cO b ps e
  obtain ⟨M,e2⟩:=cO b _ e1;exact ⟨N++M,by rw [e2,Array.append_assoc]⟩
 ·obtain ⟨m,L,K⟩:=I.loc
  refine ⟨m,ns m L,fun i x v e1 e2 J=>?_⟩;obtain ⟨u,r,l⟩:=K i x v e1 e2 J;refine ⟨u,r,?_⟩
  rcases l with l | ⟨k,c,e,z⟩
  ·exact .inl l
  ·exact .inr ⟨k,c,e,cellK x c e _ z⟩
 ·obtain ⟨v,z⟩:=I.cell x c e
  exact ⟨v,cellK x c e v z⟩
 ·obtain ⟨m,⟨o,_,_,W,_⟩,_⟩:=I.loc
  exact free _ o (fun z=>(iD _ z).2.1 rfl) W I.free
 ·obtain ⟨v,o,W,T⟩:=I.cell x c e
  exact free c o (fun z=>(iD c z).2.2.1 x c e rfl) W (I.fU x c e)
 ·obtain ⟨e,n,ne,P,d⟩:=I.pin p Q
  have V:p.1∉ch:=fun z=>(iD p.1 z).2.2.2 p Q rfl;exact ⟨keep p.1 p.2 ne P V e n,free p.1 p.2 V e n,ne,P,d⟩
def Inv.un {t':Nat} (I:Inv X π σ H s) (u:Un X.fs [] H H' s.heap h') (au:bE X.prog X.w H' h'):Inv X π σ H' { s with heap:=h',toks:=t' }:=by
 obtain ⟨m,⟨o,Q,P,Y,r⟩,_⟩:=id I.loc;obtain ⟨O,V⟩:=u.any Y I.free (by simp)
 exact I.step (g':=s.gens) (d':=s.drawn) (ch:=[]) (fun _ z=>nomatch z) (fun b o _ Z _ e n=>u.keep b o e n Z (by simp)) (fun b o _ Z _ e n=>u.slot b o e n Z (by simp)) (fun b o _ e n=>u.free b o e n (by simp)) (fun b o _ e=>u.there b o e (by simp)) u.cN u.cE u.cO (fun N U=>by
  obtain ⟨M,T,S,W,R⟩:=U;rw [Y] at W;cases W;exact ⟨_,T,S,V,R⟩) au I.bare
def Inv.call {g':Array GenState} {t':Nat} {d':Drawn} {ch:List Í} (I:Inv X π σ H s) (u:Un (bh X.stack) ch H H' s.heap h') (au:bE X.prog X.w H' h') (hg:υ g')
  (iD:∀b∈ch,(b∈X.ex\/X.bM.heap.objs.size<=b)/\b≠X.env.locals/\(∀x c,X.env.cells.lookup x=some c->c≠b)/\∀p∈X.pn++π,p.1≠b) :
  Inv X π σ H' { s with heap:=h',gens:=g',drawn:=d',toks:=t' }:=by
 obtain ⟨m,⟨o,P,O,W,r⟩,_⟩:=id I.loc;obtain ⟨N,Y⟩:=u.any W I.free fun z=>(iD _ z).2.1 rfl;exact I.step (ch:=ch) iD (fun b o Y U Z e n=>u.keep b o e n (fun z=>(ã.mp (I.jW b z)).elim Y U) Z) (fun b o _ _ Z e n=>u.any e n Z) (fun b o Z e n=>u.free b o e n Z) (fun b o Z e=>u.there b o e Z) u.cN u.cE u.cO (fun M T=>by
  obtain ⟨L,S,R,V,Q⟩:=T;rw [W] at V;cases V;exact ⟨_,S,R,Y,Q⟩) au hg
def Inv.turned {t':Nat} {it:Í} (I:Inv X π σ H s) (k:∀b o,b≠it->s.heap.get? b=some o->h'.get? b=some o) (hn:H it=none) (hL:it≠X.env.locals)
  (h1:it∈X.ex\/X.bM.heap.objs.size<=it) (h2:∀x c,X.env.cells.lookup x=some c->c≠it) (h3:∀p∈X.pn++π,p.1≠it):Inv X π σ H { s with heap:=h',toks:=t' }:=by
 have Y:∀b u,H b=some u->b≠it:=fun b u e z=>by rw [z,hn] at e;cases e
 refine I.step (g':=s.gens) (d':=s.drawn) (ch:=[it]) (fun b W=>?_) (fun b o _ _ Z e _=>k b o (fun z=>Z (by simp [z])) e) (fun b o _ _ Z e _=>⟨o.slots,k b o (fun z=>Z (by simp [z])) e⟩) (fun _ _ _ _ n=>n)
  (fun b o Z e=>⟨o,k b o (fun z=>Z (by simp [z])) e⟩) (fun _ _ e=>e) (fun _ _ _ e=>e) (fun b R e=>⟨#[],by rw [e];simp⟩) (fun m V=>?_) (fun b u e=>?_) I.bare
 ·have e:b=it:=by simpa using W
  subst e;exact ⟨h1,hL,h2,h3⟩
 ·obtain ⟨o,U,T,S,r⟩:=V
  exact ⟨o,U,T,k _ o (χ hL) S,r⟩
 ·refine (I.au b u e).cu (fun c v Z q=>k c v ?_ q) (fun _ q=>q) fun _ _ q=>q
  rcases Z with z|z
  ·rw [z];exact Y b u e
  ·exact Y c _ z
def Inv.tok (I:Inv X π σ H s) (t:Nat):Inv X π σ H { s with toks:=t }:=I.un (h':=s.heap) (t':=t) Un.refl I.au
theorem Inv.kept (I:Inv X π σ H s) (k:∀b u,s.heap.get? b=some u->h'.get? b=some u):Inv X π σ H { s with heap:=h',toks:=t' }:=I.un (Un.kept k) (I.au.kept k)
theorem Inv.laid {a:Í} {o:HO} {t':Nat} (I:Inv X π σ H s) (k:∀b u,s.heap.get? b=some u->h'.get? b=some u) (hp:s.heap.objs.size<=a) (new:cB X.prog X.w (upd H a o) h' a o) :
  Inv X π σ (upd H a o) { s with heap:=h',toks:=t' }:=I.un (Un.laid k hp (I.au.fresh hp)) (I.au.laid k hp new)
theorem Inv.write (I:Inv X π σ H s) (mu:qt (H x)) (he:e=x\/H e=some (.own x)) (k:∀b u,b≠e->s.heap.get? b=some u->h'.get? b=some u) (lO:∃u,h'.get? e=some u)
 (new:cB X.prog X.w (upd H x o) h' x o):Inv X π σ (upd H x o) { s with heap:=h',toks:=t' }:=I.un (Un.write mu he k lO) (I.au.write mu he k lO new)
def Inv.kK (I:Inv X π σ H s) (h:∀p∈G6,s.heap.get? p.1=some p.2/\H p.1=none/\p.1≠X.env.locals/\p.1∉X.fs/\∀v,p.2.data≠.cell v):Inv X G6 σ H s :=
 ⟨I.ok,I.os,I.bare,I.base,I.loc,I.cell,I.free,I.fU,fun p Z=>(ė.mp Z).elim (fun z=>I.pin p (Ģ _ z)) (h p),I.au,I.len⟩
def rz {N:List Str} (hN:N.Nodup) {i j:Nat} {x:Str} (a:N[i]?=some x) (b:N[j]?=some x):i=j:=by
 obtain ⟨Z,e1⟩:=É.mp a;obtain ⟨Y,e2⟩:=É.mp b;exact (List.getElem_inj hN).mp (e1.trans e2.symm)
def Co {M:Model} {A:Ö} {E:Ã->Á->Prop} {i:Nat} {x:Str} {v:V} {u:Ã} {Q:Unit->Á->Prop} (I:Inv X π σ H s) (hN:X.N.Nodup) (hi:X.N[i]?=some x) (hx:Loc X.env.scope x) (r:RelV v u)
  (h:∀s',Inv X π (σ.set i (some v)) H s'->(∃a,Ĳ a s.heap s'.heap/\(a=X.env.locals\/X.env.cells.lookup x=some a))->Q () s') (hf:X.fn x=true\/X.env.scope.names.lookup x=some .local:=by first|exact .inl rfl|exact .inr rfl|assumption):Ó M A (storeName X.env x u) Q E s:=by
 obtain ⟨m,T,D⟩:=id I.loc;have nv:(X.env.scope.kind==.class||(X.env.scope.kind==.module&&X.env.locals != X.env.globals))=false:=by rw [I.ok.kind];rfl
 have C:i < σ.length:=by rw [I.len];exact (É.mp hi).1
 have gm:=I.gm;have tracked:∀{a:Í} {h':ā},(∃o,s.heap.get? a=some o/\H a=none)->Ĳ a s.heap h'->bE X.prog X.w H h':=fun {a h'} ha hs b ob e=>by
  obtain ⟨_,_,B⟩:=ha;refine (I.au b ob e).cu (fun c W hc q=>(hs.2 c ?_).trans q) (fun _ q=>q) fun _ _ q=>q;rintro rfl
  rcases hc with rfl|hc
  ·rw [B] at e;cases e
  ·rw [B] at hc;cases hc
 rcases hx with hk|hk
 ·refine wpAny_storeName_local hk T (fun h' fD hs=>?_) nv
  obtain ⟨oL,_,_,Av,_⟩:=id T;refine h _ ⟨I.ok,I.os,I.bare,⟨fun b o e n Z hx=>?_,fun b o e n Z hx=>?_,I.base.free,fun b o e hx=>?_,I.base.cN,I.base.cE,I.base.cO⟩,⟨_,fD,fun j y S e1 e2 R=>?_⟩,fun y c e=>?_,I.free,I.fU,fun p P=>?_,tracked ⟨oL,Av,I.free⟩ hs,by simpa using I.len⟩ ⟨_,hs,.inl rfl⟩
  ·exact (hs.2 b (à (Å (Ç e) I.ok.above))).trans (I.base.keep b o e n Z hx)
  ·obtain ⟨O,e1⟩:=I.base.slot b o e n Z hx
   exact ⟨O,(hs.2 b (à (Å (Ç e) I.ok.above))).trans e1⟩
  ·obtain ⟨L,e1⟩:=I.base.there b o e hx
   exact ⟨L,(hs.2 b (à (Å (Ç e) I.ok.above))).trans e1⟩
  ·by_cases Y:j=i
   ·subst Y
    rw [hi] at e1;cases e1;rw [â C] at e2;cases e2;exact ⟨u,r,.inl ⟨hk,by simp⟩⟩
   ·rw [Þ (χ Y)] at e2
    obtain ⟨K,J,q⟩:=D j y S e1 e2 R;refine ⟨K,J,?_⟩
    rcases q with ⟨k,e⟩ | ⟨k,c,e,z⟩
    ·refine .inl ⟨k,?_⟩
     have:y≠x:=fun e=>Y (rz hN e1 (e ▸ hi));simp [this,e]
    ·exact .inr ⟨k,c,e,z.sameBut hs (gm y c e)⟩
  ·obtain ⟨W,z⟩:=I.cell y c e
   exact ⟨W,z.sameBut hs (gm y c e)⟩
  ·obtain ⟨e,n,ne,G,d⟩:=I.pin p P
   exact ⟨(hs.2 p.1 ne).trans e,n,ne,G,d⟩
 ·have F:X.fn x=true:=by
   rcases hf with z|z
   ·exact z
   ·rw [z] at hk;cases hk
  obtain ⟨c,hc⟩:=I.ok.has x (.inl hk);obtain ⟨W,z⟩:=I.cell x c hc;refine wpAny_storeName_cell I.ok.kind hk hc z (fun h' t hs=>?_);obtain ⟨l,g,Iy⟩:=id z
  refine h { s with heap:=h' } ⟨I.ok,I.os,I.bare,⟨fun b o e n Z hx=>?_,fun b o e n Z hx=>?_,I.base.free,fun b o e hx=>?_,I.base.cN,I.base.cE,I.base.cO⟩,⟨m,T.sameBut hs (χ (gm x c hc)),fun j y S e1 e2 R=>?_⟩,fun y U e=>?_,I.free,I.fU,fun p P=>?_,tracked ⟨l,g,I.fU x c hc⟩ hs,by simpa using I.len⟩ ⟨c,hs,.inr hc⟩
  ·exact (hs.2 b (à (Å (Ç e) (I.ok.lR x c F hc)))).trans (I.base.keep b o e n Z hx)
  ·obtain ⟨O,e1⟩:=I.base.slot b o e n Z hx
   exact ⟨O,(hs.2 b (à (Å (Ç e) (I.ok.lR x c F hc)))).trans e1⟩
  ·obtain ⟨L,e1⟩:=I.base.there b o e hx
   exact ⟨L,(hs.2 b (à (Å (Ç e) (I.ok.lR x c F hc)))).trans e1⟩
  ·by_cases Y:j=i
   ·subst Y
    rw [hi] at e1;cases e1;rw [â C] at e2;cases e2;exact ⟨u,r,.inr ⟨.inl hk,c,hc,t⟩⟩
   ·rw [Þ (χ Y)] at e2
    obtain ⟨K,J,q⟩:=D j y S e1 e2 R;refine ⟨K,J,?_⟩
    rcases q with q | ⟨k,U,e,z'⟩
    ·exact .inl q
    ·refine .inr ⟨k,U,e,z'.sameBut hs ?_⟩
     rintro rfl;exact Y (rz hN e1 (I.ok.inj _ _ _ e hc ▸ hi))
  ·by_cases f:U=c
   ·subst f;exact ⟨_,t⟩
   ·obtain ⟨w2,z2⟩:=I.cell y U e
    exact ⟨w2,z2.sameBut hs f⟩
  ·obtain ⟨e,n,ne,G,d⟩:=I.pin p P
   refine ⟨(hs.2 p.1 ?_).trans e,n,ne,G,d⟩;intro q;rw [q,g] at e;have q':l=p.2:=MN e;exact d W (by rw [<- q'];exact Iy)
def mq (I:Inv X π σ H s) (hN:X.N.Nodup) (hi:X.N[i]?=some x) (hx:Loc X.env.scope x) (r:RelV v u)
 (h:∀s',Inv X π (σ.set i (some v)) H s'->Q () s') (hf:X.fn x=true\/X.env.scope.names.lookup x=some .local:=by first|exact .inl rfl|exact .inr rfl|assumption):Ó M A (storeName X.env x u) Q E s :=
 Co I hN hi hx r (fun s' Z _=>h s' Z) hf
def Inv.sV (I:Inv X π σ H s) (ho:s'.os=s.os) (u:Un (bh X.stack) ch H H' s.heap s'.heap) (au:bE X.prog X.w H' s'.heap) (hg:υ s'.gens)
 (iD:∀b∈ch,(b∈X.ex\/X.bM.heap.objs.size<=b)/\b≠X.env.locals/\(∀x c,X.env.cells.lookup x=some c->c≠b)/\∀p∈X.pn++π,p.1≠b):Inv X π σ H' s':=by
 obtain ⟨h',g',d',t',Z⟩:=s';have e:Z=s.os:=ho;subst e;exact I.call (g':=g') (t':=t') (d':=d') u au hg iD
end
abbrev XK:=Ã->Option Í->Hp->Prop
noncomputable abbrev St:=List (Option V)
abbrev VK:=V->Hp->Prop
abbrev TE:=St->Hp->VK->Prop
abbrev TT:=St->Hp->(Bool->Hp->Prop)->Prop
abbrev TA:=St->Hp->(List V->Hp->Prop)->Prop
structure Ends where
 nx:St->Hp->Prop
 rt:VK
 bk:St->Hp->Prop:=fun _ _=>False
 ct:St->Hp->Prop:=fun _ _=>False
abbrev TS:=Ends->St->Hp->Prop
def EP (X:Cx) (π:List (Í×Obj)) (σ:St) (Q:VK) (u:Ã) (s':Á):Prop:=∃v Z,Inv X π σ Z s'/\RelV v u/\Q v Z
def TP (X:Cx) (π:List (Í×Obj)) (σ:St) (Q:Bool->Hp->Prop) (b:Bool) (s':Á):Prop:=∃Z,Inv X π σ Z s'/\Q b Z
def AP (X:Cx) (π:List (Í×Obj)) (σ:St) (Q:List V->Hp->Prop) (us:List Ã) (s':Á):Prop:=∃Z Y,Inv X π σ Y s'/\Vals Z us/\Q Z Y
def SP (X:Cx) (π:List (Í×Obj)) (D:Ends) (f:Flow) (s':Á):Prop :=
 match f with
 | .next=>∃ Y Z,Inv X π Y Z s'/\D.nx Y Z
 | .brk=>∃ Y Z,Inv X π Y Z s'/\D.bk Y Z
 | .cont=>∃ Y Z,Inv X π Y Z s'/\D.ct Y Z
 | .ret u=>∃v Y Z,Inv X π Y Z s'/\RelV v u/\D.rt v Z
def PE (X:Cx) (e:ÿ) (t:TE):Prop :=
 ∀(Z:List (Í×Obj)) (s:Á) (σ:St) (H:Hp) (Q:VK),Inv X Z σ H s->t σ H Q->Ó (Ø X.prog X.w) X.A (Ĝ e X.env) (EP X Z σ Q) X.xe s
def PT (X:Cx) (e:ÿ) (t:TT):Prop :=
 ∀(Z:List (Í×Obj)) (s:Á) (σ:St) (H:Hp) (Q:Bool->Hp->Prop),Inv X Z σ H s->t σ H Q->Ó (Ø X.prog X.w) X.A (isTrue e X.env (Ĝ e X.env)) (TP X Z σ Q) X.xe s
def PW (X:Cx) (e:ÿ) (t:TT):Prop :=
 ∀(whole:Sem Ã) (Z:List (Í×Obj)) (s:Á) (σ:St) (H:Hp) (Q:Bool->Hp->Prop),Inv X Z σ H s->t σ H Q->Ó (Ø X.prog X.w) X.A (isTrue e X.env whole) (TP X Z σ Q) X.xe s
def PW.pt (h:PW X e t):PT X e t:=h _
def PA (X:Cx) (es:List ÿ) (t:TA):Prop :=
 ∀(pos:Pos) (Z:List (Í×Obj)) (s:Á) (σ:St) (H:Hp) (Q:List V->Hp->Prop),Inv X Z σ H s->t σ H Q->Ó (Ø X.prog X.w) X.A (spliced (ď pos (Æ es X.env))) (AP X Z σ Q) X.xe s
def PS (X:Cx) (st:μ) (t:TS):Prop :=
 ∀(Z:List (Í×Obj)) (s:Á) (σ:St) (H:Hp) (D:Ends),Inv X Z σ H s->t D σ H->Ó (Ø X.prog X.w) X.A (exec st X.env) (SP X Z D) X.xe s
def bQ (X:Cx) (st:List μ) (t:TS):Prop :=
 ∀(Z:List (Í×Obj)) (s:Á) (σ:St) (H:Hp) (D:Ends),Inv X Z σ H s->t D σ H->Ó (Ø X.prog X.w) X.A (execs st X.env) (SP X Z D) X.xe s
def aL {α:Type} {t:Sem α} {Q Q':α->Á->Prop} {M:Model} {A:Ö} {E:Ã->Á->Prop} {s:Á} (h:Ó M A t Q E s) (hQ:∀a s,Q a s->Q' a s):Ó M A t Q' E s:=ù h hQ fun _ _ x=>x
section
variable {X:Cx}
def Iz (i:Nat):TE:=fun σ H Q=>∃v,σ[i]?=some (some v)/\Q v H
def tC (v:V):TE:=fun _ H Q=>Q v H
def xT {i:Nat} {x:Str} {pos:Pos} (hN:X.N[i]?=some x) (hv:lQ X.env.scope x) (hd:(x==("__debug__":Str))=false:=by decide) (bF:(x==("__classdict__":Str))=false:=by decide):PE X (.Name x pos) (Iz i):=by
 intro W s σ H Q I h;obtain ⟨v,e,h⟩:=h;obtain ⟨m,V,U⟩:=I.loc;obtain ⟨u,r,l⟩:=U i x v hN e hv;have fin:EP X W σ Q u s:=⟨v,H,I,r,h⟩
 rcases l with ⟨hk,T⟩ | ⟨hk,c,Z,Y⟩
 ·exact wpAny_Name (wpAny_loadName_local I.ok.kind hk V T fin) hd
 ·rcases hk with hk|hk
  ·exact wpAny_Name (wpAny_loadName_cell I.ok.kind hk Z Y fin) hd
  ·exact wpAny_Name (wpAny_loadName_free I.ok.kind hk Z Y fin bF) hd
def Fh {i j pos}:PE X (.Constant (.int i) j pos) (tC (.int i)):=fun _ _ _ H _ I h=>wpAny_Constant_int ⟨.int i,H,I.tok _,⟨_,rfl⟩,h⟩
def sW {b j pos}:PE X (.Constant (.bool b) j pos) (tC (.bl b)):=fun _ _ _ H _ I h=>Constant_bool ⟨.bl b,H,I,rfl,h⟩
def Fi {j pos}:PE X (.Constant .none j pos) (tC .aq):=fun _ _ _ H _ I h=>Constant_none ⟨.aq,H,I,rfl,h⟩
def Fj {x j pos}:PE X (.Constant (.str x) j pos) (tC (.str x)):=fun _ _ _ H _ I h=>Calls.Constant_str ⟨.str x,H,I.tok _,⟨_,rfl⟩,h⟩
def Gl (X:Cx) (x:Str):Prop:=X.env.kindOf x=some .globalImplicit
def jU {E:Ã->Á->Prop} {π:List (Í×Obj)} {s:Á} {σ:St} {H:Hp} {x:Str} {u:Ã} {pos:Pos} {Q:Ã->Á->Prop} (I:Inv X π σ H s) (hg:Gl X x) (hm:X.mg x=some u) (h:Q u s)
  (hd:(x==("__debug__":Str))=false:=by decide):Ó (Ø X.prog X.w) X.A (Ĝ (.Name x pos) X.env) Q E s :=
 Calls.Name_function_global I.ok.kind hg (Calls.loadGlobal_global (by rw [I.ok.glob];exact I.mod.glob.keeps I.bk) hm h) hd
def pA {E:Ã->Á->Prop} {π:List (Í×Obj)} {s:Á} {σ:St} {H:Hp} {x:Str} {u:Ã} {pos:Pos} {Q:Ã->Á->Prop} (I:Inv X π σ H s) (hg:Gl X x) (hm:X.mg x=none) (hv:ì x=some u) (h:Q u s)
  (hn:x≠"__name__":=by decide) (hd:(x==("__debug__":Str))=false:=by decide):Ó (Ø X.prog X.w) X.A (Ĝ (.Name x pos) X.env) Q E s:=by
 obtain ⟨W,Z,Y⟩:=I.mod.blt;exact Calls.Name_function_global I.ok.kind hg (Calls.loadGlobal_builtin (by rw [I.ok.glob];exact I.mod.glob.keeps I.bk) hm (by rw [I.ok.blt];exact Z.keeps I.bk) ((Y x hn).trans hv) h) hd
def w9 (hg:Gl X x) (hm:X.mg x=some u) (r:RelV v u) (hd:(x==("__debug__":Str))=false:=by decide):PE X (.Name x pos) (tC v) :=
 fun _ _ _ H _ I h=>jU I hg hm ⟨v,H,I,r,h⟩ hd
def o8 {x:Str} {v:V} {u:Ã} {pos:Pos} (hg:Gl X x) (hm:X.mg x=none) (hv:ì x=some u) (r:RelV v u) (hn:x≠"__name__":=by decide) (hd:(x==("__debug__":Str))=false:=by decide):PE X (.Name x pos) (tC v) :=
 fun _ _ _ H _ I h=>pA I hg hm hv ⟨v,H,I,r,h⟩ hn hd
variable {a b:ÿ} {ta tb:TE} {pos:Pos}
variable {tA Aw:TT} {rest:List ÿ}
def tW (t u:TT):TT:=fun σ H Q=>t σ H fun c Z=>if c=true then u σ Z Q else Q false Z
def gn (t u:TT):TT:=fun σ H Q=>t σ H fun c Z=>if c=true then Q true Z else u σ Z Q
def fc (t:TT):TT:=fun σ H Q=>t σ H fun c Z=>Q (!c) Z
def Fm (ha:PT X a tA):PW X (.BoolOp .Or [a] pos) tA:=by
 intro Y Z s σ H Q I h;refine isTrue_or (aL (ha Z s σ H Q I h) fun c W e=>?_)
 cases c with
 |false=>exact isTrue_or_nil e
 |true=>exact e
def G7 (ha:PT X a tA) (hb:PW X (.BoolOp .Or (b::rest) pos) Aw):PW X (.BoolOp .Or (a::b::rest) pos) (gn tA Aw):=by
 intro U Z s σ H Q I h;refine isTrue_or (aL (ha Z s σ H _ I h) fun c T ⟨Y,W,V⟩=>?_)
 cases c with
 |true=>exact ⟨Y,W,V⟩
 |false=>exact hb U Z T σ Y Q W V
def Fn (ha:PT X a tA):PT X (.UnaryOp .Not a pos) (fc tA):=by
 intro Z s σ H Q I h;exact isTrue_not (ha Z s σ H (fun c Y=>Q (!c) Y) I h)
def G8 (ta tb:TE):TE:=fun σ H Q=>ta σ H fun x Z=>∃c,x=.bl c/\if c=true then tb σ Z Q else Q (.bl false) Z
def G9 (ta:TE):TE:=fun σ H Q=>ta σ H fun x Z=>∃c,x=.bl c/\Q (.bl (!c)) Z
def Fo {op} (h:PE X a t):PE X (.BoolOp op [a] pos) t:=fun Z s σ H Q I hw=>BoolOp_one (h Z s σ H Q I hw)
def Fp (ha:PE X a ta) (hb:PE X (.BoolOp .And (b::rest) pos) tb):PE X (.BoolOp .And (a::b::rest) pos) (G8 ta tb):=by
 intro Y s σ H Q I h;refine BoolOp_and (aL (ha Y s σ H _ I h) fun v U ⟨x,W,V,T,Z⟩=>?_);obtain ⟨c,rfl,Z⟩:=Z;cases T;refine Ĺ ?_
 cases c with
 |true=>exact hb Y U σ W Q V Z
 |false=>exact ⟨.bl false,W,V,rfl,Z⟩
def Fq (ha:PE X a ta):PE X (.UnaryOp .Not a pos) (G9 ta):=by
 intro Y s σ H Q I h;refine UnaryOp_ (aL (ha Y s σ H _ I h) fun v T ⟨x,W,V,U,Z⟩=>?_);obtain ⟨c,rfl,Z⟩:=Z;cases U;exact not_of (Ĺ ⟨.bl (!c),W,V,rfl,Z⟩)
def JK (t:TT) (ta tb:TE):TE:=fun σ H Q=>t σ H fun c Z=>if c=true then ta σ Z Q else tb σ Z Q
def Dd {c:ÿ} (hc:PT X c tA) (ha:PE X a ta) (hb:PE X b tb):PE X (.IfExp c a b pos) (JK tA ta tb):=by
 intro Z s σ H Q I h;refine wpAny_IfExp (aL (hc Z s σ H _ I h) fun d Y ⟨W,V,U⟩=>?_)
 cases d with
 |true=>exact ha Z Y σ W Q V U
 |false=>exact hb Z Y σ W Q V U
end
def bo (K:ð) (H:Hp) (a:Í) (xs:List V):Prop :=
 Rd H a (.lst xs) \/
  ∃(o:Obj) (ah:Array Ã) (n:Nat),K.lookup a=some o/\o.cls=.type "list"/\o.dict=none/\o.data=.seq ah n/\ah.size<=Ï/\Vals xs ah.toList
def bg (K:ð) (H:Hp) (a:Í) (xs:List V):Prop :=
 Rd H a (.tup xs) \/
  ∃(o:Obj) (ah:Array Ã) (n:Nat),K.lookup a=some o/\o.cls=.type "tuple"/\o.data=.seq ah n/\ah.size<=Ï/\Vals xs ah.toList
noncomputable def IA:Ã->Option V
 | .none=>some .aq
 | .bool b=>some (.bl b)
 | .int i _=>some (.int i)
 | .str x _=>some (.str x)
 | .bytes b _=>some (.fC b)
 | .float b _=>some (.nQ b)
 | .ref a=>some (.ref a)
 | .type n=>some (.ty n)
 |_=>none
def RelV.abs (r:RelV x u):IA u=some x:=by
 cases x with
 |aq=>cases r;rfl
 |bl _=>cases r;rfl
 |int _=>obtain ⟨t,rfl⟩:=r;rfl
 |str _=>obtain ⟨t,rfl⟩:=r;rfl
 |fC _=>obtain ⟨t,rfl⟩:=r;rfl
 |nQ _=>obtain ⟨t,rfl⟩:=r;rfl
 |ref _=>cases r;rfl
 |ty _=>cases r;rfl
def RelV.inj (r:RelV x u) (q:RelV y u):x=y:=MN (r.abs.symm.trans q.abs)
theorem Vals.inj:∀{xs ys:List V} {us:List Ã},Vals xs us->Vals ys us->xs=ys
 |_,_,_,.nil,.nil=>rfl
 |_,_,_,.cons r t,.cons Z Y=>by rw [r.inj Z,Vals.inj t Y]
section
variable {X:Cx} {π:List (Í×Obj)} {σ:St} {H:Hp} {s:Á} {a:Í} {xs ys:List V}
def bo.of {K:ð} (h:H a=some (.lst xs)):bo K H a xs:=.inl (.inl h)
def bg.of {K:ð} (h:H a=some (.tup xs)):bg K H a xs:=.inl (.inl h)
def Inv.list (I:Inv X π σ H s) (h:bo X.K H a xs):∃ah:List Ã,Vals xs ah/\PlainL s.heap a ah.toArray/\xs.length<=Ï:=by
 rcases h with h | ⟨o,ah,n,Z,Y,W,hs,V,r⟩
 ·obtain ⟨z,ah,n,r,e⟩:=h.ok I.au
  exact ⟨ah,r,⟨_,n,e,rfl,rfl,rfl⟩,z⟩
 ·refine ⟨ah.toList,r,⟨o,n,I.dR a o Z,Y,W,by simpa using hs⟩,?_⟩
  have e:=r.length;simp only [ŏ] at e;omega
def Inv.tuple (I:Inv X π σ H s) (h:bg X.K H a xs):∃ah:List Ã,Vals xs ah/\IsTup s.heap a ah.toArray/\xs.length<=Ï:=by
 rcases h with h | ⟨o,ah,n,Z,Y,hs,W,r⟩
 ·obtain ⟨z,ah,r,p⟩:=h.ok I.au
  exact ⟨ah,r,p,z⟩
 ·refine ⟨ah.toList,r,⟨o,I.dR a o Z,Y,n,by simpa using hs⟩,?_⟩
  have e:=r.length;simp only [ŏ] at e;omega
def Inv.wB (I:Inv X π σ H s) (h:bo X.K H a xs) (h':bo X.K H a ys):xs=ys:=by
 obtain ⟨ah,r,⟨o,n,e,_,_,d⟩,_⟩:=I.list h;obtain ⟨W,V,⟨T,S,Z,_,_,Y⟩,_⟩:=I.list h';rw [e] at Z;cases Z;rw [d] at Y
 injection Y with U _
 have:ah=W:=by simpa using ě Array.toList U
 subst this;exact r.inj V
def Inv.wd (I:Inv X π σ H s) (h:bg X.K H a xs) (h':bg X.K H a ys):xs=ys:=by
 obtain ⟨ah,r,⟨o,e,_,n,d⟩,_⟩:=I.tuple h;obtain ⟨W,V,⟨T,Z,_,S,Y⟩,_⟩:=I.tuple h';rw [e] at Z;cases Z;rw [d] at Y
 injection Y with U _
 have:ah=W:=by simpa using ě Array.toList U
 subst this;exact r.inj V
end
noncomputable abbrev Cx.fZ (X:Cx) (E:Ã->Á->Prop):Cx:={ X with xe:=E }
noncomputable abbrev Cx.i9 (X:Cx):Cx:=X.fZ fun _ _=>False
theorem Cx.Ok.fZ {X:Cx} (ok:X.Ok) (E:Ã->Á->Prop):(X.fZ E).Ok :=
 ⟨ok.mod,ok.kind,ok.glob,ok.blt,ok.above,ok.inj,ok.has,ok.lR,ok.hd,ok.frames,ok.gj,ok.Ar,ok.bs,ok.gk,ok.ke,ok.p6,ok.eZ,ok.gO⟩
def Cx.Ok.iS {X:Cx} {E:Ã->Á->Prop} (ok:(X.fZ E).Ok):X.Ok :=
 ⟨ok.mod,ok.kind,ok.glob,ok.blt,ok.above,ok.inj,ok.has,ok.lR,ok.hd,ok.frames,ok.gj,ok.Ar,ok.bs,ok.gk,ok.ke,ok.p6,ok.eZ,ok.gO⟩
section
variable {X:Cx} {π:List (Í×Obj)} {σ:St} {H:Hp} {s:Á} {E:Ã->Á->Prop}
theorem Inv.fZ (I:Inv X π σ H s) (E:Ã->Á->Prop):Inv (X.fZ E) π σ H s:=⟨I.ok.fZ E,I.os,I.bare,I.base,I.loc,I.cell,I.free,I.fU,I.pin,I.au,I.len⟩
theorem Inv.iS (I:Inv (X.fZ E) π σ H s):Inv X π σ H s:=⟨I.ok.iS,I.os,I.bare,I.base,I.loc,I.cell,I.free,I.fU,I.pin,I.au,I.len⟩
theorem SP.iS (h:SP (X.fZ E) π D f s'):SP X π D f s':=by
 cases f with
 |next=>obtain ⟨Z,Y,I,q⟩:=h;exact ⟨Z,Y,I.iS,q⟩
 |brk=>obtain ⟨Z,Y,I,q⟩:=h;exact ⟨Z,Y,I.iS,q⟩
 |cont=>obtain ⟨Z,Y,I,q⟩:=h;exact ⟨Z,Y,I.iS,q⟩
 |ret u=>obtain ⟨v,Z,Y,I,r,q⟩:=h;exact ⟨v,Z,Y,I.iS,r,q⟩
theorem bQ.i9 {st:List μ} {t:TS} (h:bQ X.i9 st t):bQ X st t:=fun π s σ H D I hw =>
 ù (h π s σ H D (I.fZ _) hw) (fun _ _ q=>q.iS) fun _ _ z=>ï z
end
section
variable {X:Cx} {st:μ} {rest:List μ} {t u:TS} {e:ÿ} {te:TE} {pos:Pos}
def Ha:TS:=fun D σ H=>D.nx σ H
def IC (t u:TS):TS:=fun D σ H=>t { D with nx:=u D } σ H
def Eg:bQ X [] Ha:=fun _ _ σ H _ I h=>ź ⟨σ,H,I,h⟩
def De (h1:PS X st t) (h2:bQ X rest u):bQ X (st::rest) (IC t u):=by
 intro Z s σ H D I h
 refine ů (aL (h1 Z s σ H { D with nx:=u D } I h) fun f Y q=>?_)
 cases f with
 |next =>
  obtain ⟨W,V,U,q⟩:=q;exact h2 Z Y W V D U q
 |ret v=>exact q
 |brk=>exact q
 |cont=>exact q
def Eh (h1:PS X st t):bQ X [st] t:=by
 intro Z s σ H D I h;refine ů (aL (h1 Z s σ H D I h) fun f Y q=>?_)
 cases f with
 |next=>exact ź q
 |ret v=>exact q
 |brk=>exact q
 |cont=>exact q
def ID (te:TE):TS:=fun D σ H=>te σ H D.rt
def Fs (he:PE X e te):PS X (.Return (some e) pos) (ID te):=by
 intro Z s σ H D I h;exact wpAny_Return_some (aL (he Z s σ H _ I h) fun v T ⟨x,Y,W,V,U⟩=>⟨x,σ,Y,W,V,U⟩)
def IE (c:TT) (t u:TS):TS:=fun D σ H=>c σ H fun b Z=>if b=true then t D σ Z else u D σ Z
def Hb {c:ÿ} {a b:List μ} {tc:TT} (hc:PT X c tc) (ha:bQ X a t) (hb:bQ X b u):PS X (.If c a b pos) (IE tc t u):=by
 intro Z s σ H D I h;refine wpAny_If (aL (hc Z s σ H _ I h) fun d Y ⟨W,V,U⟩=>?_)
 cases d with
 |true=>exact ha Z Y σ W D V U
 |false=>exact hb Z Y σ W D V U
end
abbrev TG:=V->St->Hp->(St->Hp->Prop)->Prop
abbrev gR:=List V->St->Hp->(St->Hp->Prop)->Prop
def PG (X:Cx) (target:ÿ) (t:TG):Prop :=
 ∀(Z:List (Í×Obj)) (s:Á) (σ:St) (H:Hp) (v:V) (u:Ã) (Q:St->Hp->Prop),Inv X Z σ H s->RelV v u->t v σ H Q ->
  Ó (Ø X.prog X.w) X.A (assign target X.env u) (fun _ U=>∃ Y W,Inv X Z Y W U/\Q Y W) X.xe s
def iE (X:Cx) (ts:List ÿ) (t:gR):Prop :=
 ∀(Z:List (Í×Obj)) (s:Á) (σ:St) (H:Hp) (Y:List V) (W:List Ã) (Q:St->Hp->Prop),Inv X Z σ H s->Vals Y W->t Y σ H Q ->
  Ó (Ø X.prog X.w) X.A (assignInOrder ((ĥ ts X.env).map (·.2)) W) (fun _ S=>∃ U T,Inv X Z U T S/\Q U T) X.xe s
abbrev tX:=V->V->V->Hp->(Hp->Prop)->Prop
def zI (X:Cx) (t:tX):Prop :=
 ∀(Z:List (Í×Obj)) (s:Á) (σ:St) (H:Hp) (o i v:V) (Y W u:Ã) (Q:Hp->Prop),Inv X Z σ H s->RelV o Y->RelV i W->RelV v u->t o i v H Q ->
  Ó (Ø X.prog X.w) X.A (setItem Y W u) (fun _ T=>∃U,Inv X Z σ U T/\Q U) X.xe s
section
variable {X:Cx} {pos:Pos}
def j3 (i:Nat):TG:=fun v σ H Q=>Q (σ.set i (some v)) H
def o9 (hN:X.N.Nodup) (hi:X.N[i]?=some x) (hx:Loc X.env.scope x) (hf:X.fn x=true\/X.env.scope.names.lookup x=some .local:=by first|exact .inl rfl|exact .inr rfl|assumption):PG X (.Name x pos) (j3 i):=by
 intro Y s σ H v u Q I r h;exact wpAny_assign_Name (mq I hN hi hx r (fun W Z=>⟨_,H,Z,h⟩) hf)
def tY:gR:=fun Z σ H Q=>Z=[]/\Q σ H
def sX (t:TG) (u:gR):gR:=fun Z σ H Q=>∃v r,Z=v::r/\t v σ H fun Y X=>u r Y X Q
def xa:iE X [] tY:=by
 intro Z s σ H Y W Q I r h;obtain ⟨e,h⟩:=h;subst e;cases r;exact assignInOrder_nil ⟨σ,H,I,h⟩
def rA {e:ÿ} {es:List ÿ} {t:TG} {u:gR} (h1:PG X e t) (h2:iE X es u)
  (hs:(ĥ (e::es) X.env).map (·.2)=assign e X.env::(ĥ es X.env).map (·.2):=by rfl):iE X (e::es) (sX t u):=by
 intro Z s σ H R P Q I r h;obtain ⟨v,O,e1,h⟩:=h;subst e1
 cases r with
 |cons r Y =>
  rw [hs];refine assignInOrder_cons (aL (h1 Z s σ H _ _ _ I r h) fun _ W ⟨V,U,T,S⟩=>?_);exact h2 Z W V U _ _ Q T Y S
def tZ (K:ð) (n:Nat) (t:gR):TG:=fun v σ H Q=>∃a Z,v=.ref a/\bg K H a Z/\Z.length=n/\t Z σ H Q
def xU {k:Nat} {n:Nat} (hc:X.calm=true) (h:iE X es t)
 (hn:(ĥ es X.env).length=n:=by rfl) (uK:(ĥ es X.env).findIdx? (·.1)=none:=by rfl):PG X (.Tuple es k pos) (tZ X.K n t):=by
 intro Z s σ H v u Q I r hw;obtain ⟨a,W,e1,V,U,hw⟩:=hw;subst e1;cases r;obtain ⟨ah,Y,T,O⟩:=I.tuple V;refine assign_Tuple_tuple (I.ok.hd hc) T (by simp [hn,<- U,Y.length]) uK fun S R=>?_
 have P:Inv X Z σ H { s with heap:=S }:=I.kept (t':=s.toks) fun b o e=>R b o (à (Ç e)) e
 exact h Z _ σ H W _ Q P (by simpa using Y) hw
def IF (to ti:TE) (t:tX):TG:=fun v σ H Q=>to σ H fun o Z=>ti σ Z fun i Y=>t o i v Y fun X=>Q σ X
def Fu {o i:ÿ} {to ti:TE} {t:tX} (ho:PE X o to) (hi:PE X i ti) (hs:zI X t)
  (ha:∀v,assign (.Subscript o i pos) X.env v=(do
   let ov <- holding [v] (Ĝ o X.env)
   let iv <- holding [v,ov] (Ĝ i X.env)
   standAt pos
   holding [v,ov,iv] (setItem ov iv v)
   release [v,ov,iv] []):=by intro _;rfl):PG X (.Subscript o i pos) (IF to ti t):=by
 intro Z s σ H v u Q I r h;rw [ha];refine À (ą (aL (ho Z s σ H _ I h) fun ov Y ⟨x,W,V,U,T⟩=>?_));refine À (ą (aL (hi Z Y σ W _ V T) fun iv S ⟨y,R,P,O,N⟩=>?_));refine À (Ŕ (À (ą (aL (hs Z S σ R x y v ov iv u _ P U O r N) fun _ J ⟨M,L,K⟩=>?_))));exact wpAny_release ⟨σ,M,L,K⟩
def ny (te:TE) (g:TG):TS:=fun D σ H=>te σ H fun x Z=>g x σ Z D.nx
def xV {tg e:ÿ} {te:TE} {g:TG} (he:PE X e te) (hg:PG X tg g) (hs:ų [tg] e pos.line X.env=pure false:=by rfl) (hw:Ŵ [tg] e X.env=pure none:=by rfl)
  (h1:(ĥ [tg] X.env).map (·.2)=[assign tg X.env]:=by rfl):PS X (.Assign [tg] e pos) (ny te g):=by
 intro Z s σ H D I h;refine wpAny_Assign_stores (aL (he Z s σ H _ I h) fun v Y ⟨x,W,V,U,T⟩=>?_) hs hw;rw [h1];exact aL (hg Z Y σ W x v _ V U T) fun _ S q=>q
def Fv {i:Nat} {x:Str} {e:ÿ} {te:TE} {pos':Pos} (hN:X.N.Nodup) (hi:X.N[i]?=some x) (hx:Loc X.env.scope x) (he:PE X e te) (hs:swapsWith e (some (.Name x pos')) pos.line X.env=pure false:=by rfl) (hf:X.fn x=true\/X.env.scope.names.lookup x=some .local:=by first|exact .inl rfl|exact .inr rfl|assumption) :
  PS X (.Assign [.Name x pos'] e pos) (ny te (j3 i)):=by
 intro Z s σ H D I h;refine wpAny_Assign_Name (aL (he Z s σ H _ I h) fun v S ⟨y,Y,W,V,U⟩=>?_) hs;exact mq W hN hi hx V (fun R T=>⟨_,Y,T,U⟩) hf
def IG (i j:Nat) (ta:TA):TS:=fun D σ H=>ta σ H fun Z Y=>∃v w,Z=[v,w]/\D.nx ((σ.set i (some v)).set j (some w)) Y
def Fx {i j:Nat} {x y:Str} {a b:ÿ} {ta:TA} {px py pt:Pos} {kt k2 ko} (hc:X.calm=true) (hN:X.N.Nodup) (hi:X.N[i]?=some x) (hj:X.N[j]?=some y) (gS:i≠j)
  (hx:X.env.scope.names.lookup x=some .local) (hy:X.env.scope.names.lookup y=some .local) (ha:PA X [a,b] ta)
  (hw:Ŵ [.Tuple [.Name x px,.Name y py] kt pt] (.Tuple [a,b] k2 ko) X.env=pure (some [x,y]))
  (hs:ų [.Tuple [.Name x px,.Name y py] kt pt] (.Tuple [a,b] k2 ko) pos.line X.env=pure false:=by rfl) :
  PS X (.Assign [.Tuple [.Name x px,.Name y py] kt pt] (.Tuple [a,b] k2 ko) pos) (IG i j ta):=by
 intro U s σ H D I h;rw [exec_Assign_arm];refine À (Ŕ ?_);rw [hs];refine À (Ì ?_);rw [î (by decide)];refine À (Tuple_ (aL (ha _ U s σ H _ I h) fun R Z ⟨C,T,Q,P,V⟩=>?_));obtain ⟨v,w,e1,V⟩:=V;subst e1;obtain ⟨Y,W,rfl,O,M⟩:∃Y W,R=[Y,W]/\RelV v Y/\RelV w W:=by
  cases P with
  |cons p q =>
   cases q with
   |cons L K =>
    cases K;exact ⟨_,_,rfl,p,L⟩
 refine ĺ ?_ (by show 2<=Ï;decide)
 have J:Inv X U σ T { Z with heap:=Z.heap.push { cls:=.type "tuple",data:=.seq [Y,W].toArray } }:=Q.kept (t':=Z.toks) fun b o e=>Â _ e
 rw [hw];refine À (Ì ?_)
 show Ó (Ø X.prog X.w) X.A (do rule "assign.swapped-stores";let items <- unpackItems (.ref Z.heap.objs.size) 2 none;assignInOrder [fun v=>bindName X.env y v,fun v=>bindName X.env x v] items.reverse;pure Flow.next) _ _ _
 refine À (wpAny_rule (À (unpackItems_tuple (items:=#[Y,W]) (I.ok.hd hc) (IsTup.new Z.heap _) fun h' G=>?_)));have F:=J.kept (h':=h') (t':=Z.toks) fun b o e=>G b o (à (Ç e)) e
 show Ó _ _ (assignInOrder [fun v=>bindName X.env y v,fun v=>bindName X.env x v] [W,Y] >>= fun _=>pure Flow.next) _ _ _
 refine À (assignInOrder_cons (wpAny_bindName (mq F hN hj (.inl hy) M (fun B E=>?_) (.inr hy))));refine assignInOrder_cons (wpAny_bindName (mq E hN hi (.inl hx) O (fun z S=>assignInOrder_nil (Ì ?_)) (.inr hx)));rw [List.set_comm _ _ (χ gS)] at S;exact ⟨_,T,S,V⟩
end
section
variable {X:Cx} {pos:Pos}
end
structure It where
 go:Nat->Hp->Prop
 nU:Nat->Hp->V->Hp->Prop
 stop:Nat->Hp->Prop
def fe (X:Cx) (π:List (Í×Obj)) (H:Hp) (b:Í):Prop :=
 H b=none/\b≠X.env.locals/\b∉X.fs/\(b∈X.ex\/X.bM.heap.objs.size<=b)/\(∀x c,X.env.cells.lookup x=some c->c≠b)/\∀p∈X.pn++π,p.1≠b
def Inv.p9 {X:Cx} {π:List (Í×Obj)} {σ:St} {H H':Hp} {s:Á} {b:Í} (I:Inv X π σ H s) (hb:s.heap.objs.size<=b) (hn:H' b=none):fe X π H' b:=by
 refine ⟨hn,ĳ (Å I.lt hb),I.tV hb,.inr (ß I.sz hb),fun x c e z=>?_,fun p Z z=>?_⟩
 ·obtain ⟨v,q⟩:=I.cell x c e
  exact absurd (Å q.lt (by rw [z];exact hb)) (ê _)
 ·exact absurd (Å (Ç (I.pin p Z).1) (by rw [z];exact hb)) (ê _)
structure Turn (P:Ò) (w:é) (K:ð) (tg:ÿ) (J:It) (fp:List Í) (it:Í) (tn:Nat->ā->Prop):Prop where
 mem:it∈fp
 obj:∀i h,tn i h->∀b∈fp,∃o,h.get? b=some o/\∀v,o.data≠.cell v
 keep:∀i h h',tn i h->(∀b∈fp,∀o,h.get? b=some o->h'.get? b=some o)->tn i h'
 item:∀(X:Cx),X.prog=P->X.w=w->X.K=K->X.calm=true->∀(i:Nat) (π:List (Í×Obj)) (s:Á) (σ:St) (H:Hp) (E:Ã->Á->Prop),Inv X π σ H s->(∀b∈fp,fe X π H b)->tn i s.heap->J.go i H ->
  Ó (Ø P w) X.A (pyNext (.ref it)) (fun r s1=>∃u,r=some u /\
   Ó (Ø P w) X.A (ŕ tg (.ref it) u) (fun _ s2=>∃x H',Inv X π σ H' s2/\RelV x u/\J.nU i H x H'/\tn (i+1) s2.heap/\∀b∈fp,H' b=none) E s1) E s
 done:∀(X:Cx),X.prog=P->X.w=w->X.K=K->X.calm=true->∀(i:Nat) (π:List (Í×Obj)) (s:Á) (σ:St) (H:Hp) (E:Ã->Á->Prop),Inv X π σ H s->(∀b∈fp,fe X π H b)->tn i s.heap->J.stop i H ->
  Ó (Ø P w) X.A (pyNext (.ref it)) (fun r s1=>r=none/\Inv X π σ H s1) E s
 self:∀(A:Ö) (i:Nat) (s:Á) (Q:Ã->Á->Prop) (E:Ã->Á->Prop),tn i s.heap->Q (.ref it) s->Ó (Ø P w) A (pyIter (.ref it)) Q E s
abbrev TI:=St->Hp->(It->Hp->Prop)->Prop
def Ay (X:Cx) (π:List (Í×Obj)) (σ:St) (tg:ÿ) (R:It->Hp->Prop) (gU:Ã) (s2:Á):Prop :=
 ∃(it:Í) (Y:List Í) (W:Nat->ā->Prop) (J:It) (Z:Hp),gU=.ref it/\Inv X π σ Z s2/\Turn X.prog X.w X.K tg J Y it W/\W 0 s2.heap/\(∀b∈Y,fe X π Z b)/\R J Z
def PI (X:Cx) (tg iter:ÿ) (wi:TI):Prop :=
 ∀(Z:List (Í×Obj)) (s:Á) (σ:St) (H:Hp) (R:It->Hp->Prop),Inv X Z σ H s->wi σ H R ->
  Ó (Ø X.prog X.w) X.A (Ĝ iter X.env) (fun v Y=>Ó (Ø X.prog X.w) X.A (pyIter v) (Ay X Z σ tg R) X.xe Y) X.xe s
def sY (ho:s.heap.get? it=some o) (hc:o.cls=.type n) (hd:o.data=.fields vs)
 (hn:["enumerate","zip","dict_itemiterator","dict_reverseitemiterator","odict_iterator","itertools.zip_longest","itertools.pairwise"].contains n=false) (hQ:Q () s):Ó M A (ŕ tg (.ref it) u) Q E s:=by
 unfold ŕ
 cases tg<;>first
  |exact Ì hQ
  |(cases u<;>first
    |exact Ì hQ
    |(refine À (wpAny_load ho ?_)
      rw [hc,hd]
      show Ó M A (if (["enumerate","zip","dict_itemiterator","dict_reverseitemiterator","odict_iterator","itertools.zip_longest","itertools.pairwise"].contains n&&vs[0]?==some (Ũ _))=true then _ else _) Q E s
      rw [î (by intro h;rw [hn,Bool.false_and] at h;cases h)];exact Ì hQ))
noncomputable def uL (K:ð) (a:Í):It :=
 ⟨fun i H=>∃Z x,bo K H a Z/\Z[i]?=some x,fun i H x Y=>Y=H/\∀Z,bo K H a Z->Z[i]?=some x,fun i H=>∃Z,bo K H a Z/\Z.length<=i⟩
noncomputable def uM (K:ð) (a:Í):It :=
 ⟨fun i H=>∃Z x,bg K H a Z/\Z[i]?=some x,fun i H x Y=>Y=H/\∀Z,bg K H a Z->Z[i]?=some x,fun i H=>∃Z,bg K H a Z/\Z.length<=i⟩
noncomputable def qx (lo:Int) (n:Nat):It:=⟨fun i _=>i<n,fun i H x Z=>Z=H/\x=.int (lo+i),fun i _=>n<=i⟩
def Cp {P:Ò} {w:é} {K:ð} {tg:ÿ} (a it:Í):Turn P w K tg (uL K a) [it] it (fun i h=>h.IsListIter it a i) where
 mem:=by simp
 obj:=fun i h Z b Y=>by
  have e:b=it:=by simpa using Y
  subst e;obtain ⟨o,e,c,d⟩:=Z;exact ⟨o,e,fun v z=>by rw [d] at z;cases z⟩
 keep:=fun i h W Z k=>Z.at fun o e=>k it (by simp) o e
 item:=by
  intro X T hw S L i J s σ H E I V Z R;subst T hw S;obtain ⟨F,x,U,Q⟩:=R;obtain ⟨ah,O,p,D⟩:=I.list U;obtain ⟨u,C,B⟩:=O.get Q;obtain ⟨f0,f1,f2,N,f4,M⟩:=V it (by simp);refine wpAny_pyNext_list_item Z p.isList (x:=u) (by simpa using C) fun W G A=>?_
  have y:Inv X J σ H { s with heap:=W }:=I.turned (t':=s.toks) (fun b o Y e=>(A.2 b Y).trans e) f0 f1 N f4 M
  obtain ⟨o,e,c,d⟩:=id G
  exact ⟨u,rfl,sY (s:={ s with heap:=W }) e c d (by decide) ⟨x,H,y,B,⟨rfl,fun q t=>by rw [I.wB t U];exact Q⟩,G,fun b Y=>(V b Y).1⟩⟩
 done:=by
  intro X T hw S L i J s σ H E I V Z R;subst T hw S;obtain ⟨F,U,Q⟩:=R;obtain ⟨ah,O,p,D⟩:=I.list U;obtain ⟨f0,f1,f2,N,f4,M⟩:=V it (by simp);have n:=O.length;exact wpAny_pyNext_list_end (I.ok.hd L) Z p.isList (by simp;omega) fun W r=>⟨rfl,I.turned (t':=s.toks) (fun b o Y e=>r b o Y e) f0 f1 N f4 M⟩
 self:=fun _ _ _ _ _ Z h=>wpAny_pyIter_listiter Z h
def BV {P:Ò} {w:é} {K:ð} {tg:ÿ} (a it:Í):Turn P w K tg (uM K a) [it] it (fun i h=>h.IsTupleIter it a i) where
 mem:=by simp
 obj:=fun i h Z b Y=>by
  have e:b=it:=by simpa using Y
  subst e;obtain ⟨o,e,c,d⟩:=Z;exact ⟨o,e,fun v z=>by rw [d] at z;cases z⟩
 keep:=fun i h W Z k=>Z.at fun o e=>k it (by simp) o e
 item:=by
  intro X T hw S L i J s σ H E I V Z R;subst T hw S;obtain ⟨F,x,U,Q⟩:=R;obtain ⟨ah,O,p,D⟩:=I.tuple U;obtain ⟨u,C,B⟩:=O.get Q;obtain ⟨f0,f1,f2,N,f4,M⟩:=V it (by simp);refine wpAny_pyNext_tuple_item Z (show s.heap.IsTuple a ah.toArray from p) (x:=u) (by simpa using C) fun W G A=>?_
  have y:Inv X J σ H { s with heap:=W }:=I.turned (t':=s.toks) (fun b o Y e=>(A.2 b Y).trans e) f0 f1 N f4 M
  obtain ⟨o,e,c,d⟩:=id G
  exact ⟨u,rfl,sY (s:={ s with heap:=W }) e c d (by decide) ⟨x,H,y,B,⟨rfl,fun q t=>by rw [I.wd t U];exact Q⟩,G,fun b Y=>(V b Y).1⟩⟩
 done:=by
  intro X T hw S L i J s σ H E I V Z R;subst T hw S;obtain ⟨F,U,Q⟩:=R;obtain ⟨ah,O,p,D⟩:=I.tuple U;obtain ⟨f0,f1,f2,N,f4,M⟩:=V it (by simp);have n:=O.length;exact wpAny_pyNext_tuple_end (I.ok.hd L) Z (show s.heap.IsTuple a ah.toArray from p) (by simp;omega) fun W r=>⟨rfl,I.turned (t':=s.toks) (fun b o Y e=>r b o Y e) f0 f1 N f4 M⟩
 self:=fun _ _ _ _ _ Z h=>wpAny_pyIter_tupleiter Z h
def BW {P:Ò} {w:é} {K:ð} {tg:ÿ} (it:Í) (lo:Int) (n:Nat):Turn P w K tg (qx lo n) [it] it (fun i h=>IsRangeIter h it (lo+(i:Nat)*1) ((n:Int)-(i:Nat)) 1) where
 mem:=by simp
 obj:=fun i h Z b Y=>by
  have e:b=it:=by simpa using Y
  subst e;exact ⟨_,Z,fun v z=>by
   have G:Data.fields _=Data.cell v:=z;cases G⟩
 keep:=fun i h V Z k=>k it (by simp) _ Z
 item:=by
  intro X T hw S R i M s σ H E I U Z Q;subst T hw S;obtain ⟨f0,f1,f2,O,f4,N⟩:=U it (by simp);have W:=Walks.range (prog:=X.prog) (w:=X.w) (I.ok.hd R) it lo 1 n;refine W.item i s _ _ Q Z fun v V L F J D=>?_;obtain ⟨t,rfl⟩:=F
  have C:Inv X M σ H { s with heap:=V,toks:=L }:=I.turned (fun b o Y e=>D b o (by simpa using Y) e) f0 f1 O f4 N
  refine ⟨_,rfl,sY (s:={ s with heap:=V,toks:=L }) (n:="range_iterator") J rfl rfl (by decide) ⟨.int (lo+i),H,C,⟨t,?_⟩,⟨rfl,rfl⟩,J,fun b Y=>(U b Y).1⟩⟩
  rw [Int.mul_one]
 done:=by
  intro X T hw S R i M s σ H E I U Z Q;subst T hw S;obtain ⟨f0,f1,f2,O,f4,N⟩:=U it (by simp);exact wpAny_pyNext_range_end (I.ok.hd R) Z (by have:n<=i:=Q;omega) fun V B=>⟨rfl,I.turned (t':=s.toks) (fun b o Y e=>B b o Y e) f0 f1 O f4 N⟩
 self:=fun _ _ _ _ _ Z h=>wpAny_pyIter_rangeiter Z h
section
variable {X:Cx} {tg:ÿ}
def yS (K:ð) (tl:TE):TI:=fun σ H R=>tl σ H fun x Z=>∃a,x=.ref a/\(∃Y,bo K Z a Y)/\R (uL K a) Z
def zJ (K:ð) (tl:TE):TI:=fun σ H R=>tl σ H fun x Z=>∃a,x=.ref a/\(∃Y,bg K Z a Y)/\R (uM K a) Z
def Ei {l:ÿ} {tl:TE} (hl:PE X l tl):PI X tg l (yS X.K tl):=by
 intro W s σ H R I h;refine aL (hl W s σ H _ I h) fun v Z ⟨x,V,Y,U,T⟩=>?_;obtain ⟨a,e,⟨P,S⟩,q⟩:=T;subst e;cases U;obtain ⟨ah,O,p,N⟩:=Y.list S;refine wpAny_pyIter_list p.isList ?_;refine ⟨Z.heap.objs.size,[Z.heap.objs.size],_,_,V,rfl,Y.kept (t':=Z.toks) fun b o e=>Â _ e,Cp a _,⟨_,Ñ _ rfl,rfl,rfl⟩,fun b Q=>?_,q⟩;have e:b=Z.heap.objs.size:=by simpa using Q
 subst e;exact Y.p9 (MK _) (Y.au.fresh (MK _))
def Fy {l:ÿ} {tl:TE} (hl:PE X l tl):PI X tg l (zJ X.K tl):=by
 intro W s σ H R I h;refine aL (hl W s σ H _ I h) fun v Z ⟨x,V,Y,U,T⟩=>?_;obtain ⟨a,e,⟨P,S⟩,q⟩:=T;subst e;cases U;obtain ⟨ah,O,p,N⟩:=Y.tuple S;refine wpAny_pyIter_tuple (show Z.heap.IsTuple a ah.toArray from p) ?_;refine ⟨Z.heap.objs.size,[Z.heap.objs.size],_,_,V,rfl,Y.kept (t':=Z.toks) fun b o e=>Â _ e,BV a _,⟨_,Ñ _ rfl,rfl,rfl⟩,fun b Q=>?_,q⟩;have e:b=Z.heap.objs.size:=by simpa using Q
 subst e;exact Y.p9 (MK _) (Y.au.fresh (MK _))
def Dg {π:List (Í×Obj)} {σ:St} {H:Hp} {s:Á} {R:It->Hp->Prop} {E:Ã->Á->Prop} {lo hi:Int} {t u v:Tok} {tk:Nat} (I:Inv X π σ H s) (h1:-(2 ^ 62)<=lo) (h2:lo<2 ^ 62) (h3:-(2 ^ 62)<=hi) (h4:hi<2 ^ 62)
  (q:R (qx lo (hi-lo).toNat) H):Ó (Ø X.prog X.w) X.A (pyIter (.ref s.heap.objs.size)) (Ay X π σ tg R) E { s with heap:=s.heap.push { cls:=.type "range",data:=.fields #[.int lo t,.int hi u,.int 1 v] },toks:=tk }:=by
 refine wpAny_pyIter_range (IsRange.new ..) (small_one h1 h2 h3 h4) ?_
 have Z:Inv X π σ H { s with heap:=s.heap.push { cls:=.type "range",data:=.fields #[.int lo t,.int hi u,.int 1 v] },toks:=tk }:=I.kept fun b o e=>Â _ e
 refine ⟨(s.heap.push { cls:=.type "range",data:=.fields #[.int lo t,.int hi u,.int 1 v] }).objs.size,[(s.heap.push { cls:=.type "range",data:=.fields #[.int lo t,.int hi u,.int 1 v] }).objs.size],_,_,H,rfl,
  Z.kept (t':=tk) fun b o e=>Â _ e,BW _ lo (hi-lo).toNat,?_,fun b Y=>?_,q⟩
 ·have e1:lo+((0:Nat):Int)*1=lo:=by simp
  have e2:(((hi-lo).toNat:Nat):Int)-((0:Nat):Int)=Builtin.Range.rangeSize lo hi 1:=by rw [rangeSize_one];split<;>omega
  show IsRangeIter _ _ (lo+((0:Nat):Int)*1) ((((hi-lo).toNat:Nat):Int)-((0:Nat):Int)) 1;rw [e1,e2];exact Ñ _ rfl
 ·have e:b=(s.heap.push { cls:=.type "range",data:=.fields #[.int lo t,.int hi u,.int 1 v] }).objs.size:=by simpa using Y
  subst e;exact Z.p9 (MK _) (Z.au.fresh (MK _))
def Hc (ta:TA):TI:=fun σ H R=>ta σ H fun Z Y=>∃j:Int,Z=[.int j]/\-(2 ^ 62)<=j/\j<2 ^ 62/\R (qx 0 j.toNat) Y
def Cq {a:ÿ} {ta:TA} {p pos:Pos} (hg:Gl X "range") (hm:X.mg "range"=none) (ha:PA X [a] ta) (hs:Æ [a] X.env=[(false,Ĝ a X.env)]:=by rfl):PI X tg (.Call (.Name "range" p) [a] [] pos) (Hc ta):=by
 intro Y s σ H R I h;refine Call_ (pA I hg hm boot_range (Ż (aL (ha pos Y s σ H _ I h) fun S Q ⟨P,O,W,V,Z⟩=>?_) hs rfl));obtain ⟨j,e,Z,U,q⟩:=Z;subst e
 cases V with
 |cons r T =>
  cases T;obtain ⟨t,rfl⟩:=r;exact call_range_1 (Dg W (by omega) (by omega) Z U (by simpa using q))
def zK (wi:TI) (g:TG) (tb:TS):TS:=fun D σ H=>wi σ H fun J V=>∃W:Nat->Nat->St->Hp->Prop,(∃m,W 0 m σ V)/\∀i m σ H,W i m σ H ->
 (J.stop i H/\D.nx σ H)\/(J.go i H/\∃N:St->Hp->Prop,(∀ Y Z,N Y Z->∃X,X < m/\W (i+1) X Y Z)/\∀x Z,J.nU i H x Z->g x σ Z fun U T=>tb { D with nx:=N,ct:=N,bk:=D.nx } U T)
noncomputable def mH (fp:List Í) (h:ā):List (Í×Obj):=fp.filterMap fun b=>(h.get? b).map fun o=>(b,o)
def oI (hb:b∈fp) (e:h.get? b=some o):(b,o)∈mH fp h:=Į.mpr ⟨b,hb,by rw [e];rfl⟩
def Cr (hp:p∈mH fp h):p.1∈fp/\h.get? p.1=some p.2:=by
 obtain ⟨b,Z,e⟩:=Į.mp hp
 cases q:h.get? b with
 |none=>rw [q] at e;cases e
 |some o =>
  rw [q] at e;have Y:(b,o)=p:=MN e;subst Y;exact ⟨Z,q⟩
def Inv.pinned {π:List (Í×Obj)} {σ:St} {H:Hp} {s:Á} {fp:List Í} (I:Inv X π σ H s) (hf:∀b∈fp,fe X π H b) (ho:∀b∈fp,∃o,s.heap.get? b=some o/\∀v,o.data≠.cell v):Inv X (π++mH fp s.heap) σ H s :=
 I.kK fun p W=>(ė.mp W).elim (fun z=>I.pin p (á _ z)) fun z=>by
  obtain ⟨Z,e⟩:=Cr z;obtain ⟨f0,f1,f2,_⟩:=hf p.1 Z;obtain ⟨o,Y,d⟩:=ho p.1 Z;rw [e] at Y;cases Y;exact ⟨e,f0,f1,f2,d⟩
def Inv.oS {π pl:List (Í×Obj)} {σ:St} {H:Hp} {s:Á} (I:Inv X (π++pl) σ H s):Inv X π σ H s:=I.kK fun p Z=>I.pin p (á _ (Ģ _ Z))
def Fz {iter:ÿ} {body:List μ} {wi:TI} {g:TG} {tb:TS} {pos:Pos} (hp:PassesOwn (Ø X.prog X.w) X.A X.env X.xe) (hc:X.calm=true) (hi:PI X tg iter wi) (hg:PG X tg g) (hb:bQ X body tb)
  (hs:∀x,ĕ iter X.env x=pure x:=by intro _;rfl):PS X (.For tg iter body [] pos) (zK wi g tb):=by
 intro R s σ H D I h;refine wpAny_For (aL (hi R s σ H _ I h) fun v s1 p=>aL p fun gU s2 l=>?_) hs;obtain ⟨it,Q,E,J,k,e,j,T,c,f2,W,⟨m0,a⟩,turn⟩:=l;subst e;have stat:∀{U:Hp},(∀b∈Q,U b=none)->∀b∈Q,fe X R U b:=fun hn b hb=>⟨hn b hb,(f2 b hb).2⟩;refine codeAny_forLoop_any (fun n C=>∃i P U,Inv X R P U C/\E i C.heap/\(∀b∈Q,U b=none)/\W i n P U) ?_ m0 ⟨0,σ,k,j,c,fun b hb=>(f2 b hb).1,a⟩;rintro n B ⟨i,O,L,z,y,t,w3⟩
 rcases turn i n O L w3 with ⟨stop,qn⟩ | ⟨go,N,hN,step⟩
 ·refine Ŗ hp (aL (T.done X rfl rfl rfl hc i R B O L X.xe z (stat t) y stop) fun r s4 ⟨K,I4⟩=>?_)
  subst K;exact ź ⟨O,L,I4,qn⟩
 ·refine Ŗ hp (aL (T.item X rfl rfl rfl hc i R B O L X.xe z (stat t) y go) fun r s4 ⟨u,K,h4⟩=>?_)
  subst K;refine Ŗ hp (aL h4 fun _ s5 ⟨x,q,I5,r5,y5,G,uN⟩=>?_);have uO:=I5.pinned (stat uN) (T.obj _ _ G);refine Ŗ hp (aL (hg _ s5 O q x u _ uO r5 (step x q y5)) fun _ s6 ⟨JM,H6,I6,q6⟩=>?_);refine Ŗ hp (aL (hb _ s6 JM H6 _ I6 q6) fun f F S=>?_);have again:∀{Z:St} {Y:Hp},Inv X (R++mH Q s5.heap) Z Y F->N Z Y->∃m,m<n/\∃i P U,Inv X R P U F/\E i F.heap/\(∀b∈Q,U b=none)/\W i m P U:=fun {Z Y} V M=>by
   obtain ⟨m',hm,w7⟩:=hN Z Y M;refine ⟨m',hm,i+1,Z,Y,V.oS,T.keep _ _ _ G fun b hb o e=>(V.pin (b,o) (á _ (á _ (oI hb e)))).1,fun b hb=>?_,w7⟩;obtain ⟨o,e,d⟩:=T.obj _ _ G b hb;exact (V.pin (b,o) (á _ (á _ (oI hb e)))).2.1
  cases f with
  |next=>obtain ⟨Z,Y,V,M⟩:=S;exact again V M
  |cont=>obtain ⟨Z,Y,V,M⟩:=S;exact again V M
  |brk=>obtain ⟨Z,Y,V,S⟩:=S;exact ⟨Z,Y,V.oS,S⟩
  |ret v=>obtain ⟨x7,Z,Y,V,r7,S⟩:=S;exact ⟨x7,Z,Y,V.oS,r7,S⟩
end
abbrev R2:=V->V->Hp->VK->Prop
def bp (X:Cx) (f:Ã->Ã->Sem Ã) (r:R2):Prop :=
 ∀(Z:List (Í×Obj)) (s:Á) (σ:St) (H:Hp) (x y:V) (v u:Ã) (Q:VK),Inv X Z σ H s->RelV x v->RelV y u->r x y H Q ->
  Ó (Ø X.prog X.w) X.A (f v u) (EP X Z σ Q) X.xe s
def nW (X:Cx) (f:Ã->Sem Ã) (r:V->Hp->VK->Prop):Prop :=
 ∀(Z:List (Í×Obj)) (s:Á) (σ:St) (H:Hp) (x:V) (v:Ã) (Q:VK),Inv X Z σ H s->RelV x v->r x H Q ->
  Ó (Ø X.prog X.w) X.A (f v) (EP X Z σ Q) X.xe s
def cC (X:Cx) (f:Ã) (r:List V->Hp->VK->Prop):Prop :=
 ∀(Z:List (Í×Obj)) (s:Á) (σ:St) (H:Hp) (Y:List V) (W:List Ã) (Q:VK),Inv X Z σ H s->Vals Y W->r Y H Q ->
  Ó (Ø X.prog X.w) X.A (call f W) (EP X Z σ Q) X.xe s
def IH (X:Cx) (r:V->Hp->(Bool->Hp->Prop)->Prop):Prop :=
 ∀(Z:List (Í×Obj)) (s:Á) (σ:St) (H:Hp) (x:V) (v:Ã) (Q:Bool->Hp->Prop),Inv X Z σ H s->RelV x v->r x H Q ->
  Ó (Ø X.prog X.w) X.A (truthy v) (TP X Z σ Q) X.xe s
def nX (r:R2) (ta tb:TE):TE:=fun σ H Q=>ta σ H fun x Z=>tb σ Z fun y Y=>r x y Y Q
def JN (r:V->Hp->VK->Prop) (ta:TE):TE:=fun σ H Q=>ta σ H fun x Z=>r x Z Q
def rI (C:Int->Int->Prop) (g:Int->Int->V):R2:=fun x y H Q=>∃i j,x=.int i/\y=.int j/\C i j/\Q (g i j) H
def kz (g:Int->Int->V):R2:=fun x y H Q=>∃i j,x=.int i/\y=.int j/\Q (g i j) H
def rU (g:Int->V):V->Hp->VK->Prop:=fun x H Q=>∃i,x=.int i/\Q (g i) H
section
variable {X:Cx} {a b c:ÿ} {ta tb tc:TE} {pos:Pos}
def t5 (ha:PE X a ta) (hb:PE X b tb) {π:List (Í×Obj)} {s:Á} {σ:St} {H:Hp} {R:V->V->Hp->Prop} (I:Inv X π σ H s)
  (h:ta σ H fun x H1=>tb σ H1 fun y H2=>R x y H2) {Q:Ã->Á->Prop} {f:Ã->Ã->Sem Ã}
  (hf:∀v u s2 x y H2,Inv X π σ H2 s2->RelV x v->RelV y u->R x y H2->Ó (Ø X.prog X.w) X.A (f v u) Q X.xe s2) :
  Ó (Ø X.prog X.w) X.A (Ĝ a X.env) (fun v aU=>Ó (Ø X.prog X.w) X.A (Ĝ b X.env) (fun u ek=>Ó (Ø X.prog X.w) X.A (f v u) Q X.xe ek) X.xe aU) X.xe s:=by
 refine aL (ha π s σ H _ I h) fun v Z ⟨x,H1,Y,W,U⟩=>?_;refine aL (hb π Z σ H1 _ Y U) fun u s2 ⟨y,H2,T,S,P⟩=>?_;exact hf v u s2 x y H2 T W S P
def Hd (ho:bp X (č op) r) (ha:PE X a ta) (hb:PE X b tb):PE X (.BinOp a op b pos) (nX r ta tb):=by
 intro Z s σ H Q I h;exact wpAny_BinOp (t5 ha hb I h fun v u Y x y W V U T q=>ho Z Y σ W x y v u Q V U T q)
def He {op:UnaryOp} {r:V->Hp->VK->Prop} (ho:nW X (unaryOp op) r) (ha:PE X a ta):PE X (.UnaryOp op a pos) (JN r ta):=by
 intro Z s σ H Q I h;exact UnaryOp_ (aL (ha Z s σ H _ I h) fun v Y ⟨x,W,U,T,S⟩=>ho Z Y σ W x v Q U T S)
def qy {C:Int->Int->Prop} {g:Int->Int->Int}
 (rule:∀(i j:Int) (t u:Tok) (s:Á) (Q:Ã->Á->Prop) (E:Ã->Á->Prop),C i j->Q (.int (g i j) s.toks) { s with toks:=s.toks+1 }->Ó (Ø X.prog X.w) X.A (f (.int i t) (.int j u)) Q E s) :
  bp X f (rI C fun i j=>.int (g i j)):=by
 intro U s σ H x y v u Q I Z Y h;obtain ⟨i,j,rfl,rfl,W,q⟩:=h;obtain ⟨t,rfl⟩:=Z;obtain ⟨V,rfl⟩:=Y;exact rule i j t V s _ _ W ⟨.int (g i j),H,I.tok _,⟨_,rfl⟩,q⟩
def zL {g:Int->Int->Int}
 (rule:∀(i j:Int) (t u:Tok) (s:Á) (Q:Ã->Á->Prop) (E:Ã->Á->Prop),Q (.int (g i j) s.toks) { s with toks:=s.toks+1 }->Ó (Ø X.prog X.w) X.A (f (.int i t) (.int j u)) Q E s) :
  bp X f (kz fun i j=>.int (g i j)):=by
 intro V s σ H x y v u Q I Z Y h;obtain ⟨i,j,rfl,rfl,q⟩:=h;obtain ⟨t,rfl⟩:=Z;obtain ⟨W,rfl⟩:=Y;exact rule i j t W s _ _ ⟨.int (g i j),H,I.tok _,⟨_,rfl⟩,q⟩
def t6 {g:Int->Int->Bool}
 (rule:∀(i j:Int) (t u:Tok) (s:Á) (Q:Ã->Á->Prop) (E:Ã->Á->Prop),Q (.bool (g i j)) s->Ó (Ø X.prog X.w) X.A (f (.int i t) (.int j u)) Q E s) :
  bp X f (kz fun i j=>.bl (g i j)):=by
 intro V s σ H x y v u Q I Z Y h;obtain ⟨i,j,rfl,rfl,q⟩:=h;obtain ⟨t,rfl⟩:=Z;obtain ⟨W,rfl⟩:=Y;exact rule i j t W s _ _ ⟨.bl (g i j),H,I,rfl,q⟩
def II (i j:Int):Prop:=0<j/\j<1073741824
def IJ (i j:Int):Prop:=0<=j/\j<=1000000/\i.natAbs<2 ^ 64
def qa (i j:Int):Prop:=(-(2 ^ 64)<i/\i<2 ^ 64)\/(-(2 ^ 64)<j/\j<2 ^ 64)
def qa.ok (h:qa i j):IntMulOk i j:=by
 rcases h with ⟨Z,Y⟩ | ⟨Z,Y⟩
 ·exact .of_left (intBits_le_64 Z Y)
 ·exact .of_right (intBits_le_64 Z Y)
def FA:bp X (č .Add) (kz fun i j=>.int (i+j)):=zL fun _ _ _ _ _ _ _ q=>add_int q
def FC:bp X (č .Sub) (kz fun i j=>.int (i-j)):=zL fun _ _ _ _ _ _ _ q=>sub_int q
def FD:bp X (č .Mult) (rI qa fun i j=>.int (i*j)):=qy fun _ _ _ _ _ _ _ Z q=>mul_int q Z.ok
def Ej:bp X (č .FloorDiv) (rI II fun i j=>.int (i / j)):=qy fun i j _ _ _ _ _ Z q=>by
 have Y:(0:Int)<j:=Z.1;have W:j<1073741824:=Z.2;exact floordiv_int (by omega) (by rw [Int.fdiv_eq_ediv_of_nonneg i (by omega)];exact q) (.inl (PyProof.noPylong_small (by omega)))
def FE:bp X (č .Mod) (rI (fun _ j=>0<j) fun i j=>.int (i % j)):=qy fun i j _ _ _ _ _ Z q=>by
 have Y:(0:Int)<j:=Z;exact mod_int' (by omega) (by rw [Int.fmod_eq_emod_of_nonneg i (by omega)];exact q)
def FF:bp X (č .Pow) (rI IJ fun i j=>.int (i ^ j.toNat)):=qy fun _ _ _ _ _ _ _ Z q=>pow_int_small Z.1 Z.2.1 Z.2.2 q
def JO {g:Int->Int}
 (rule:∀(i:Int) (t:Tok) (s:Á) (Q:Ã->Á->Prop) (E:Ã->Á->Prop),Q (.int (g i) s.toks) { s with toks:=s.toks+1 }->Ó (Ø X.prog X.w) X.A (f (.int i t)) Q E s) :
  nW X f (rU fun i=>.int (g i)):=by
 intro Y s σ H x v Q I Z h;obtain ⟨i,rfl,q⟩:=h;obtain ⟨t,rfl⟩:=Z;exact rule i t s _ _ ⟨.int (g i),H,I.tok _,⟨_,rfl⟩,q⟩
def FG:nW X (unaryOp .USub) (rU fun i=>.int (-i)):=JO fun _ _ _ _ _ q=>neg_int q
end
noncomputable def t9:V->V->Bool
 | .aq,.aq=>true | .aq,.int _=>true | .int _,.aq=>true | .aq,.bl _=>true | .bl _,.aq=>true | .aq,.str _=>true | .str _,.aq=>true
 | .int _,.int _=>true | .bl _,.bl _=>true | .str _,.str _=>true | .fC _,.fC _=>true
 | .int _,.str _=>true | .str _,.int _=>true | .bl _,.str _=>true | .str _,.bl _=>true
 |_,_=>false
def JP:R2:=fun x y H Q=>t9 x y=true/\Q (.bl (decide (x=y))) H
def JQ:R2:=fun x y H Q=>t9 x y=true/\Q (.bl (!decide (x=y))) H
def xb:decide (V.int i=V.int j)=(i==j):=by
 rw [Ĵ];simp
def xW:decide (V.bl i=V.bl j)=(i==j):=by
 rw [Ĵ];simp
def rT:decide (V.str i=V.str j)=(i==j):=by
 rw [Ĵ];simp
def xc:decide (V.fC i=V.fC j)=(i.toList==j.toList):=by
 rw [Ĵ];cases i;cases j;simp
section
variable {X:Cx} {a b c:ÿ} {ta tb tc:TE} {pos:Pos}
def bL {π:List (Í×Obj)} {σ:St} {H:Hp} {s:Á} {Q:VK} {k k':Bool} (I:Inv X π σ H s) (q:Q (.bl k) H) (e:k=k'):EP X π σ Q (.bool k') s:=by
 subst e;exact ⟨.bl k,H,I,rfl,q⟩
def Hf:bp X (Ā .Eq) JP:=by
 intro U s σ H x y v u Q I V Z h;obtain ⟨hs,q⟩:=h
 cases x with
 |aq =>
  cases V
  cases y with
  |aq=>cases Z;exact PySem.EqNone.eq_none_none (bL I q (by simp))
  |bl j=>cases Z;exact PySem.EqNone.eq_none_bool (bL I q (by simp))
  |int j=>obtain ⟨Y,rfl⟩:=Z;exact PySem.EqNone.eq_none_int (bL I q (by simp))
  |str j=>obtain ⟨Y,rfl⟩:=Z;exact PySem.EqNone.eq_none_str (bL I q (by simp))
  |_=>exact absurd (show false=true from hs) Î
 |bl i =>
  cases V
  cases y with
  |aq=>cases Z;exact PySem.EqNone.eq_bool_none (bL I q (by simp))
  |bl j=>cases Z;exact eq_bool (bL I q xW)
  |str j=>obtain ⟨Y,rfl⟩:=Z;exact PySem.EqMixed.eq_bool_str (bL I q (by simp))
  |_=>exact absurd (show false=true from hs) Î
 |int i =>
  obtain ⟨t,rfl⟩:=V
  cases y with
  |aq=>cases Z;exact PySem.EqNone.eq_int_none (bL I q (by simp))
  |int j=>obtain ⟨Y,rfl⟩:=Z;exact eq_int (bL I q xb)
  |str j=>obtain ⟨Y,rfl⟩:=Z;exact PySem.EqMixed.eq_int_str (bL I q (by simp))
  |_=>exact absurd (show false=true from hs) Î
 |str i =>
  obtain ⟨t,rfl⟩:=V
  cases y with
  |aq=>cases Z;exact PySem.EqNone.eq_str_none (bL I q (by simp))
  |bl j=>cases Z;exact PySem.EqMixed.eq_str_bool (bL I q (by simp))
  |int j=>obtain ⟨Y,rfl⟩:=Z;exact PySem.EqMixed.eq_str_int (bL I q (by simp))
  |str j=>obtain ⟨Y,rfl⟩:=Z;exact eq_str (bL I q rT)
  |_=>exact absurd (show false=true from hs) Î
 |fC i =>
  obtain ⟨t,rfl⟩:=V
  cases y with
  |fC j=>obtain ⟨Y,rfl⟩:=Z;exact PySem.W.eq_bytes (bL I q xc)
  |_=>exact absurd (show false=true from hs) Î
 |_=>cases y<;>exact absurd (show false=true from hs) Î
def yT:bp X (Ā .NotEq) JQ:=by
 intro U s σ H x y v u Q I V Z h;obtain ⟨hs,q⟩:=h
 cases x with
 |aq =>
  cases V
  cases y with
  |aq=>cases Z;exact PySem.EqNone.ne_none_none (bL I q (by simp))
  |bl j=>cases Z;exact PySem.EqNone.ne_none_bool (bL I q (by simp))
  |int j=>obtain ⟨Y,rfl⟩:=Z;exact PySem.EqNone.ne_none_int (bL I q (by simp))
  |str j=>obtain ⟨Y,rfl⟩:=Z;exact PySem.EqNone.ne_none_str (bL I q (by simp))
  |_=>exact absurd (show false=true from hs) Î
 |bl i =>
  cases V
  cases y with
  |aq=>cases Z;exact PySem.EqNone.ne_bool_none (bL I q (by simp))
  |bl j=>cases Z;exact ne_bool (bL I q (ě not xW))
  |str j=>obtain ⟨Y,rfl⟩:=Z;exact PySem.EqMixed.ne_bool_str (bL I q (by simp))
  |_=>exact absurd (show false=true from hs) Î
 |int i =>
  obtain ⟨t,rfl⟩:=V
  cases y with
  |aq=>cases Z;exact PySem.EqNone.ne_int_none (bL I q (by simp))
  |int j=>obtain ⟨Y,rfl⟩:=Z;exact ne_int (bL I q (ě not xb))
  |str j=>obtain ⟨Y,rfl⟩:=Z;exact PySem.EqMixed.ne_int_str (bL I q (by simp))
  |_=>exact absurd (show false=true from hs) Î
 |str i =>
  obtain ⟨t,rfl⟩:=V
  cases y with
  |aq=>cases Z;exact PySem.EqNone.ne_str_none (bL I q (by simp))
  |bl j=>cases Z;exact PySem.EqMixed.ne_str_bool (bL I q (by simp))
  |int j=>obtain ⟨Y,rfl⟩:=Z;exact PySem.EqMixed.ne_str_int (bL I q (by simp))
  |str j=>obtain ⟨Y,rfl⟩:=Z;exact ne_str (bL I q (ě not rT))
  |_=>exact absurd (show false=true from hs) Î
 |fC i =>
  obtain ⟨t,rfl⟩:=V
  cases y with
  |fC j=>obtain ⟨Y,rfl⟩:=Z;exact PySem.W.ne_bytes (bL I q (ě not xc))
  |_=>exact absurd (show false=true from hs) Î
 |_=>cases y<;>exact absurd (show false=true from hs) Î
def Hg:bp X (Ā .LtE) (kz fun i j=>.bl (decide (i<=j))):=t6 fun _ _ _ _ _ _ _ q=>le_int q
def Hh:bp X (Ā .Gt) (kz fun i j=>.bl (decide (j<i))):=t6 fun _ _ _ _ _ _ _ q=>gt_int q
def Hi:bp X (Ā .GtE) (kz fun i j=>.bl (decide (j<=i))):=t6 fun _ _ _ _ _ _ _ q=>ge_int q
def cj (b:ÿ) (h:op≠.In:=by decide) (h2:op≠.NotIn:=by decide):ŗ op b=false:=by
 have e1:(op==CmpOp.In)=false:=by cases op<;>first|rfl|exact absurd rfl h
 have e2:(op==CmpOp.NotIn)=false:=by cases op<;>first|rfl|exact absurd rfl h2
 cases b<;>simp [ŗ,e1,e2]
def Ek (ho:bp X (Ā op) r) (ha:PE X a ta) (hb:PE X b tb) (hm:ŗ op b=false):PE X (.Compare a [op] [b] pos) (nX r ta tb):=by
 intro Z s σ H Q I h;exact wpAny_Compare1 (t5 ha hb I h fun v u Y x y W V U T q=>ho Z Y σ W x y v u Q V U T q) hm
def pT (t:TE):TT:=fun σ H Q=>t σ H fun x Z=>∃k,x=.bl k/\Q k Z
def El {op:CmpOp} {r:R2} (ho:bp X (Ā op) r) (ha:PE X a ta) (hb:PE X b tb) (hm:ŗ op b=false):PT X (.Compare a [op] [b] pos) (pT (nX r ta tb)):=by
 intro Z s σ H Q I h;refine wpAny_isTrue_Compare1 (aL (ha Z s σ H _ I h) fun v Y ⟨x,W,V,U,T⟩=>aL (hb Z Y σ W _ V T) fun u S ⟨y,R,P,O,N⟩ =>
  aL (ho Z S σ R x y v u _ P U O N) fun c G ⟨z,M,L,K,k,e,J⟩=>?_) hm
 subst e;cases K;exact Ĺ ⟨M,L,J⟩
def nA (K:ð) (x:V) (H:Hp) (k:Bool):Prop :=
 match x with
 | .aq=>k=false
 | .bl b=>k=b
 | .int i=>k=(i != 0)
 | .str y=>y.length<=Ï/\k=((y.length:Int) != 0)
 | .fC y=>y.size<=Ï/\k=((y.size:Int) != 0)
 | .ref p=>(∃Z,bo K H p Z/\k=!Z.isEmpty)\/(∃Z,bg K H p Z/\k=!Z.isEmpty)\/∃Y,H p=some (.dK Y)/\k=!Y.isEmpty
 |_=>False
def BX {κ:Type} {az:List (κ×V)} {vs:List (κ×Ã)} (r:KV az vs):(!vs.isEmpty)=!az.isEmpty:=by
 cases r<;>rfl
def vZ (r:Vals xs ah):(!ah.toArray.isEmpty)=!xs.isEmpty:=by
 cases r<;>simp
def jX:(Ï:Nat)<2 ^ 63:=by rw [š];decide
def FH:IH X (fun x H Q=>∃k,nA X.K x H k/\Q k H):=by
 intro J s σ H x v Q I U h;obtain ⟨k,e,q⟩:=h;have G:=jX;have hs:Ï=16777216:=š
 cases x with
 |aq =>
  cases U;have Z:k=false:=e;subst Z;exact truthy_none ⟨H,I,q⟩
 |bl b =>
  cases U;have Z:k=b:=e;subst Z;exact Ĺ ⟨H,I,q⟩
 |int i =>
  obtain ⟨t,rfl⟩:=U;have Z:k=(i != 0):=e;subst Z;exact PySem.P.truthy_int ⟨H,I,q⟩
 |str y =>
  obtain ⟨t,rfl⟩:=U;obtain ⟨M,Z⟩:y.length<=Ï/\k=((y.length:Int) != 0):=e;subst Z;exact PySem.P.truthy_str (by omega) ⟨H,I.tok _,q⟩
 |fC y =>
  obtain ⟨t,rfl⟩:=U;obtain ⟨M,Z⟩:y.size<=Ï/\k=((y.size:Int) != 0):=e;subst Z;exact PySem.W.truthy_bytes (by omega) ⟨H,I.tok _,q⟩
 |ref p =>
  cases U;have Z:(∃V,bo X.K H p V/\k=!V.isEmpty)\/(∃V,bg X.K H p V/\k=!V.isEmpty)\/∃T,H p=some (.dK T)/\k=!T.isEmpty:=e
  rcases Z with ⟨V,S,Z⟩ | ⟨V,S,Z⟩ | ⟨T,S,Z⟩
  ·subst Z
   obtain ⟨ah,r,O,N⟩:=I.list S;have Y:=r.length;exact wpAny_truthy_list O.isList (by simp only [Ù];omega) ⟨H,I.tok _,by rw [vZ r];exact q⟩
  ·subst Z
   obtain ⟨ah,r,O,N⟩:=I.tuple S;have Y:=r.length;exact truthy_tuple O (by simp only [Ù];omega) ⟨H,I.tok _,by rw [vZ r];exact q⟩
  ·subst Z
   obtain ⟨N,L,R,r,m⟩:T.length<=Ï/\(p==Ĥ)=false/\∃R,KV T R/\s.heap.DictOf (o7 X.prog X.w) p R:=I.au p _ S;have Y:T.length=R.length:=Paired.length r;exact wpAny_truthy_dict L m (by omega) ⟨H,I.tok _,by rw [BX r];exact q⟩
 |_=>exact (show False from e).elim
def Dh (ha:PE X a ta) (he:∀whole,isTrue a X.env whole=(do let v <- whole;standAt a.pos;holding [v] (truthy v))) :
  PT X a (fun σ H Q=>ta σ H fun x H'=>∃k,nA X.K x H' k/\Q k H'):=by
 intro Z s σ H Q I h;exact isTrue_plain (aL (ha Z s σ H _ I h) fun v Y ⟨x,W,V,U,T⟩=>FH Z Y σ W x v Q V U T) (he _)
def BY:bp X (č .Add) (fun x y H Q=>∃i j,x=.str i/\y=.str j/\i.length+j.length<=Ï/\Q (.str (i++j)) H):=by
 intro U s σ H x y v u Q I Z Y h;obtain ⟨i,j,rfl,rfl,W,q⟩:=h;obtain ⟨t,rfl⟩:=Z;obtain ⟨V,rfl⟩:=Y;exact add_str (fun V T=>⟨.str (i++j),H,I.tok _,⟨_,rfl⟩,q⟩) W
def vals1 (r:Vals [x] us):∃u,us=[u]/\RelV x u:=by
 cases r with
 |cons Z Y=>cases Y;exact ⟨_,rfl,Z⟩
def vals2 (r:Vals [x,y] us):∃u w',us=[u,w']/\RelV x u/\RelV y w':=by
 cases r with
 |cons Z Y =>
  cases Y with
  |cons X W=>cases W;exact ⟨_,_,rfl,Z,X⟩
def Cu (hc:X.calm=true):cC X (.builtin "max") (fun xs H Q=>∃i j,xs=[.int i,.int j]/\Q (.int (if j > i then j else i)) H):=by
 intro Y s σ H xs W Q I r h;obtain ⟨i,j,rfl,q⟩:=h;obtain ⟨u,V,rfl,⟨t,rfl⟩,⟨U,rfl⟩⟩:=vals2 r;refine max_two_ints (I.ok.hd hc) fun T S k=>⟨_,H,I.kept k,?_,q⟩;by_cases Z:j > i
 ·rw [ë Z,ë Z];exact ⟨_,rfl⟩
 ·rw [î Z,î Z];exact ⟨_,rfl⟩
def Cv (hc:X.calm=true):cC X (.builtin "min") (fun xs H Q=>∃i j,xs=[.int i,.int j]/\Q (.int (if j<i then j else i)) H):=by
 intro Y s σ H xs W Q I r h;obtain ⟨i,j,rfl,q⟩:=h;obtain ⟨u,V,rfl,⟨t,rfl⟩,⟨U,rfl⟩⟩:=vals2 r;refine min_two_ints (I.ok.hd hc) fun T S k=>⟨_,H,I.kept k,?_,q⟩;by_cases Z:j<i
 ·rw [ë Z,ë Z];exact ⟨_,rfl⟩
 ·rw [î Z,î Z];exact ⟨_,rfl⟩
end
structure L7 (h:ā) (x dx C:Í) (mA:Str->Option Ã):Prop where
 obj:h.get? x=some (PySem.W.instObj C dx)
 ns:h.Ns1 dx mA
 ne:dx≠x
def Cw {h:ā} {dx:Í} {mA:Str->Option Ã} (n:h.Ns1 dx mA):∃od,h.get? dx=some od/\∀name,ν name od=some (mA name):=by
 obtain ⟨o,Z,R,Y,X,W,_,V⟩:=n;refine ⟨o,Y,fun name=>?_⟩;have e:=V name;unfold nsFind findBy at e;rw [<- Array.find?_toList] at e;unfold ν;rw [X];dsimp only;split
 ·rename_i y q
  rw [q] at e;exact ě some e
 ·rename_i q
  rw [q] at e;have a:Z.toList.any (·.refKey)=false:=by
   rw [List.any_eq_false];intro y U;obtain ⟨z,t,T⟩:=W y (Array.mem_toList_iff.mp U);simp [DictEntry.refKey,T]
  have S:¬ Z.toList.any (·.refKey)=true:=by rw [a];exact Î
  rw [î S];exact ě some e
section
variable {prog:Ò} {w:é} {A:Ö} {E:Ã->Á->Prop} {s:Á} {K:ð} {x dx C f:Í} {mA:Str->Option Ã} {name:Str} {v:Ã}
end
section
variable {P:Ò} {w:é} {H H':Hp} {h h':ā} {a C dx:Í} {fs JJ:List (Str×V)}
end
structure JR (K:ð) (C:Í):Prop where
 pg:PySem.W.plainGet K C Str.empty=true
 hd:PySem.W.hasDictIn K C=true
 po:PySem.W.plainOver K C=true
 sa:Ŧ K (.ref C) "__setattr__"=some (some (.builtin "object.__setattr__"))
structure Mf (K:ð) (C:Í) (f:Str) (v:V) (u:Ã):Prop where
 at_:Ŧ K (.ref C) f=some (some u)
 rel:RelV v u
 get:PySem.W.specialIn K u "__get__"=some none
 cp:PySem.W.copiedNames.contains f=false
structure Meth (K:ð) (C:Í) (m:Str) (f:Í):Prop where
 at_:Ŧ K (.ref C) m=some (some (.ref f))
 fn:PySem.W.isFn K (.ref f)=true
 kp:Ą K (.ref f)=true
section
variable {X:Cx} {π:List (Í×Obj)} {σ:St} {H:Hp} {s:Á} {a C dx:Í} {fs:List (Str×V)} {f:Str} {v:V} {A:Ö} {E:Ã->Á->Prop}
def Em (hb:Ļ e f env (Ĝ e env)=Ĝ e env)
 (h:Ó (Ø prog w) A (Ĝ e env) (fun o aU=>Ó (Ø prog w) A (getAttr o f true) Q E aU) E s):Ó (Ø prog w) A (Ĝ (.Attribute e f pos) env) Q E s :=
 Attribute_any_ h (by rw [arm_eval_Attribute,hb])
end
section
variable {X:Cx} {o e value:ÿ} {f:Str} {pos pos' nB:Pos} {ta tv:TE}
end
section
variable {X:Cx} {π:List (Í×Obj)} {σ:St} {H:Hp} {s:Á} {A:Ö} {E:Ã->Á->Prop} {Q:Ã->Á->Prop} {c:Ã} {b:Bool}
inductive gJ (K:ð) (H:Hp):V->Ã->Prop where
 |aq:gJ K H .aq (.type "NoneType")
 |bl (x:Bool):gJ K H (.bl x) (.type "bool")
 |int (i:Int):gJ K H (.int i) (.type "int")
 |str (x:Str):gJ K H (.str x) (.type "str")
 |nQ (x:UInt64):gJ K H (.nQ x) (.type "float")
 |lst {a:Í} {xs:List V} (e:H a=some (.lst xs)):gJ K H (.ref a) (.type "list")
 |aI {a:Í} {o:Obj} {xs:List V} (e:H a=some (.aI o (.lst xs))):gJ K H (.ref a) (.type "list")
 |tup {a:Í} {xs:List V} (e:H a=some (.tup xs)):gJ K H (.ref a) (.type "tuple")
 |dK {a:Í} {az:List (Key×V)} (e:H a=some (.dK az)):gJ K H (.ref a) (.type "dict")
 |dT {a:Í} {az:List (List Key×V)} (e:H a=some (.dT az)):gJ K H (.ref a) (.type "dict")
 |ins {a C dx:Í} {fs:List (Str×V)} (e:H a=some (.ins C dx fs)) (cl:JR K C) (ha:Ŧ K (.ref C) "__class__"=some (some (.builtin "object.__class__")))
   (hn:PySem.W.specialIn K (.builtin "object.__class__") "__get__"=some (some (.builtin "getset_descriptor.__get__"))) (Mg:PySem.W.takesIn K (.builtin "object.__class__")=some true)
   (hm:PySem.W.mroIn K C (.type "object")=some true):gJ K H (.ref a) (.ref C)
end
structure bc (k:Nat) (A:Ö):Prop where
 hd:A.handled=none
 dp:A.depth+3*k+5<ŧ
 un:A.units+16*k+200<cLine
 gd:A.guards=some []
def bc.mono (r:bc k A) (h:j<=k):bc j A:=⟨r.hd,by have:=r.dp;omega,by have:=r.un;omega,r.gd⟩
theorem bc.deeper (r:bc (k+1) A) (env:Env):bc k (A.deeper env) :=
 ⟨r.hd,by have:=r.dp;show A.depth+1+3*k+5 < _;omega,by have:=r.un;show A.units+3+16*k+200 < _;omega,r.gd⟩
def BZ {A:Ö} {C:Í} {us:List Ã} {kw:List (Str×Ã)}:(A.under (.builtin "type.__call__" ⟨.ref C::us,kw⟩)).depth=A.depth+1:=by
 first|rfl|simp [Around.under,Code.weight,Code.isCreation,Code.isGuard,Code.isCaller,Code.frames,Code.isFrame,guardIds]
theorem bc.depth (r:bc k A):A.depth<ŧ:=by have:=r.dp;omega
def IL:TA:=fun _ H Q=>Q [] H
def Hj (ta:TE) (tr:TA):TA:=fun σ H Q=>ta σ H fun x Z=>tr σ Z fun Y X=>Q (x::Y) X
section
variable {X:Cx} {e:ÿ} {es:List ÿ} {te:TE} {t:TA} {pos:Pos}
def jY:PA X [] IL:=fun _ _ _ _ H Q I h=>Calls.spliced_nil ⟨[],H,I,.nil,h⟩
def ig (ha:PE X e te) (hr:PA X es t) (hs:Æ (e::es) X.env=(false,Ĝ e X.env)::Æ es X.env:=by rfl):PA X (e::es) (Hj te t):=by
 intro pos Z s σ H Q I h;rw [hs];show Ó _ _ (spliced ((false,Ĝ e X.env)::ď pos (Æ es X.env))) _ _ s;refine Ř (aL (ha Z s σ H _ I h) fun u Y ⟨x,W,V,U,T⟩=>?_);exact aL (hr pos Z Y σ W _ V T) fun M L ⟨S,R,P,O,N⟩=>⟨x::S,R,P,.cons U O,N⟩
def IM (t:TA):TE:=fun σ H Q=>t σ H fun Z Y=>Z.length<=Ï/\∀p,Y p=none->Q (.ref p) (upd Y p (.tup Z))
def IP (t:TA):TE:=fun σ H Q=>t σ H fun Z Y=>Z.length<=Ï/\∀p,Y p=none->Q (.ref p) (upd Y p (.lst Z))
def FI {x1} (h:PA X es t):PE X (.Tuple es x1 pos) (IM t):=by
 intro V s σ H Q I U;refine wpAny_Tuple_spliced (aL (h pos V s σ H _ I U) fun T Z ⟨S,Y,W,r,z,q⟩=>⟨by rw [<- r.length];exact z,?_⟩);have R:Y Z.heap.objs.size=none:=W.au.fresh (MK _);refine ⟨.ref Z.heap.objs.size,upd Y Z.heap.objs.size (.tup S),W.laid (t':=Z.toks) (fun b u e=>Â _ e) (MK _) ?_,rfl,q _ R⟩;exact ⟨z,T,r,⟨_,Ñ _ rfl,rfl,_,rfl⟩⟩
def xX (h:PA X es t):PE X (.List es pos) (IP t):=by
 intro V s σ H Q I U;refine wpAny_List_spliced (aL (h pos V s σ H _ I U) fun T Z ⟨S,Y,W,r,z,q⟩=>⟨by rw [<- r.length];exact z,?_⟩);have R:Y Z.heap.objs.size=none:=W.au.fresh (MK _);refine ⟨.ref Z.heap.objs.size,upd Y Z.heap.objs.size (.lst S),W.laid (t':=Z.toks) (fun b u e=>Â _ e) (MK _) ?_,rfl,q _ R⟩;exact ⟨z,T,0,r,Ñ _ rfl⟩
end
abbrev Sp:=List V->Hp->VK->XK->Prop
abbrev fE:=List Env->Hp->Á->XK->Ã->Á->Prop
structure lr (P:Ò) (w:é) (K:ð) (mg:Str->Option Ã) (base:ā) (A:Ö) (outer:List Env) (s:Á) (H:Hp):Prop where
 frames:A.frames=some outer
 mod:Mod K mg base
 bs:∀b o,base.get? b=some o->s.heap.get? b=some o/\H b=none
 gk:base.objs.size<=s.heap.objs.size
 eZ:s.heap.FunFrames base outer
 gO:∀b∈bh outer,H b=none
 au:bE P w H s.heap
 bare:υ s.gens
def CE (outer:List Env) (P:Ò) (w:é) (H:Hp) (s:Á) (Q:VK) (u:Ã) (s':Á):Prop :=
 ∃v Z,s'.os=s.os/\υ s'.gens/\Un (bh outer) [] H Z s.heap s'.heap/\bE P w Z s'.heap/\RelV v u/\Q v Z
def CR (CX:fE) (outer:List Env) (P:Ò) (w:é) (H:Hp) (s:Á) (Q:VK) (E:XK) (r:Result) (s':Á):Prop :=
 match r with
 | .ok (.ret u)=>CE outer P w H s Q u s'
 | .ok _=>False
 | .error e=>CX outer H s E e s'
structure bP (P:Ò) (w:é) (K:ð) (mg:Str->Option Ã) (base:ā) (CX:fE) (k:Nat) (f:Í) (fd:ô) (ps:List Str) (sp:Sp):Prop where
 len:∀vs H Q E,sp vs H Q E->vs.length=ps.length
 run:∀(A:Ö) (outer:List Env) (s:Á) (H:Hp) (args:Args) (us:List Ã) (vs:List V) (Q:VK) (E:XK),bc k A->lr P w K mg base A outer s H->BindsTo s fd args (ps.zip us)->Vals vs us->sp vs H Q E ->
  ż (Ø P w) A (.call (.ref f) args) (CR CX outer P w H s Q E) s
def bP.imp {P:Ò} {w:é} {K:ð} {mg:Str->Option Ã} {base:ā} {CX:fE} {k:Nat} {f:Í} {fd:ô} {ps:List Str} {sp Az:Sp} (F:bP P w K mg base CX k f fd ps sp)
  (h:∀vs H Q E,Az vs H Q E->sp vs H Q E):bP P w K mg base CX k f fd ps Az :=
 ⟨fun vs H Q E q=>F.len vs H Q E (h _ _ _ _ q),fun A outer s H args Z vs Q E Y X W V hs=>F.run A outer s H args Z vs Q E Y X W V (h _ _ _ _ hs)⟩
section
variable {X:Cx} {π:List (Í×Obj)} {σ:St} {H:Hp} {s s':Á}
def Inv.kf (I:Inv X π σ H s):lr X.prog X.w X.K X.mg X.base X.A X.stack s H :=
 ⟨I.ok.frames,I.ok.mod,I.bs,ß I.ok.gk I.sz,I.stack,I.mz,I.au,I.bare⟩
def Inv.after (I:Inv X π σ H s) (h:CE X.stack X.prog X.w H s Q u s'):EP X π σ Q u s':=by
 obtain ⟨v,Z,os,bare,un,Y,r,q⟩:=h;obtain ⟨W,g,d,t,V⟩:=s';obtain rfl:V=s.os:=os;exact ⟨v,Z,I.call (h':=W) (g':=g) (d':=d) (t':=t) (ch:=[]) un Y bare (fun b z=>absurd z (by simp)),r,q⟩
end
def yU (sp:Sp) (ao:List V) (E:XK) (t:TA):TE:=fun σ H Q=>t σ H fun Z Y=>sp (Z++ao) Y Q E
def Binds (K:ð) (fd:ô) (ps:List Str) (ds:List Ã):Prop :=
 ∀(s:Á) (Z:List Ã),K.In s.heap->(Z++ds).length=ps.length->BindsTo s fd ⟨Z,[]⟩ (ps.zip (Z++ds))
def Binds.all {K:ð} {fd:ô} {ps:List Str} (h:∀us:List Ã,us.length=ps.length->bindArgs fd ⟨us,[]⟩=pure (ps.zip us)):Binds K fd ps []:=fun s us _ Z=>by
 rw [Ć] at Z |-;exact .of_eq (h us Z)
def Passes (CX:fE) (X:Cx) (E:XK):Prop:=∀(Y:List (Í×Obj)) (σ:St) (H:Hp) (s:Á) (e:Ã) (Z:Á),Inv X Y σ H s->CX X.stack H s E e Z->X.xe e Z
section
variable {X:Cx} {CX:fE} {k:Nat} {f C:Í} {fd:ô} {ps:List Str} {sp:Sp} {ao:List V} {ds:List Ã} {E:XK} {x m:Str} {p pos apos:Pos} {e o:ÿ} {es:List ÿ} {ta:TE} {t:TA}
def FJ {π:List (Í×Obj)} {σ:St} {H:Hp} {s:Á} {Q:VK} {us:List Ã} {vs:List V} (F:bP X.prog X.w X.K X.mg X.base CX k f fd ps sp) (hr:bc k X.A) (hb:Binds X.K fd ps ds) (hd:Vals ao ds) (hx:Passes CX X E)
  (I:Inv X π σ H s) (r:Vals vs us) (h:sp (vs++ao) H Q E):Ó (Ø X.prog X.w) X.A (call (.ref f) us) (EP X π σ Q) X.xe s:=by
 have Y:Vals (vs++ao) (us++ds):=r.append hd;have W:(us++ds).length=ps.length:=by rw [<- Y.length];exact F.len _ _ _ _ h
 refine ļ (ũ (F.run X.A X.stack s H ⟨us,[]⟩ (us++ds) (vs++ao) Q E hr I.kf (hb s us I.dR W) Y h) fun r U Z=>?_)
 cases r with
 |error e=>exact hx π σ H s e U I Z
 |ok T =>
  cases T with
  |ret u=>exact I.after Z
  |next=>exact ï Z
  |brk=>exact ï Z
  |cont=>exact ï Z
def rV (F:bP X.prog X.w X.K X.mg X.base CX k f fd ps sp) (hr:bc k X.A) (hg:Gl X x) (hm:X.mg x=some (.ref f)) (hk:Ą X.K (.ref f)=true) (hb:Binds X.K fd ps ds) (hd:Vals ao ds) (hx:Passes CX X E)
  (ha:PA X (e::es) t) (cG:(x==("__debug__":Str))=false:=by decide) (he:Æ (e::es) X.env=(false,Ĝ e X.env)::Æ es X.env:=by rfl) (bN:(ď pos (Æ es X.env)).any (·.1)=false:=by rfl) :
  PE X (.Call (.Name x p) (e::es) [] pos) (yU sp ao E t):=by
 intro Y s σ H Q I h;refine ř (jU I hg hm ?_ cG);refine ι (h₀:=X.base) I.ok.mod.gg hk (aL (ha pos Y s σ H _ I h) fun W V ⟨U,T,Z,r,q⟩=>⟨Z.dR,?_⟩) he bN;exact FJ F hr hb hd hx Z r q
structure Mk (K:ð) (C f:Í):Prop where
 makes:PySem.W.makesIn K C=true
 init:Ŧ K (.ref C) "__init__"=some (some (.ref f))
 fn:PySem.W.isFn K (.ref f)=true
 kp:Ą K (.ref C)=true
end
section
variable {X:Cx} {CX:fE} {k:Nat} {f C:Í} {fd:ô} {ps ks:List Str} {sp:Sp} {E:XK} {x m:Str} {p pos apos IQ:Pos} {e o:ÿ} {es:List ÿ} {Mh:List ξ} {te ta:TE} {t tk:TA} {nm:Option Str}
structure L3 (K:ð) (fd:ô) (ps ks:List Str) (g:List Ã->List Ã->List Ã) (gV:List V->List V->List V):Prop where
 to:∀(s:Á) (us ws:List Ã),K.In s.heap->(g us ws).length=ps.length->BindsTo s fd ⟨us,ks.zip ws⟩ (ps.zip (g us ws))
 rel:∀{vs:List V} {us:List Ã} {zs:List V} {ws:List Ã},Vals vs us->Vals zs ws->Vals (gV vs zs) (g us ws)
variable {g:List Ã->List Ã->List Ã} {gV:List V->List V->List V}
end
structure iQ (N P:List Str) (sc:Ł):Prop where
 kind:sc.kind=.function
 co:sc.isCoroutine=false
 gen:sc.isGenerator=false
 nd:N.Nodup
 pre:N.take P.length=P
 par:∀x∈P,sc.names.lookup x=some .local\/sc.names.lookup x=some .cell
 FK:∀y∈sc.names,y.2≠.free
theorem we {kindOf:Str->Option Ĩ} {x:Str}:∀{binds:List (Str×Ã)} {m:Str->Option Ã},(∀v,(x,v)∉binds)->bindL kindOf binds m x=m x
 | [],_,_=>rfl
 |(n,v)::r,m,h=>by
  unfold bindL;rw [we fun w hw=>h w (Ð _ hw)];split
  ·have:x≠n:=by rintro rfl;exact h v Ý
   simp [this]
  ·rfl
theorem wg {kindOf:Str->Option Ĩ} {x:Str}:∀{binds:List (Str×Ã)} {m:Str->Option Ã},(∀v,(x,v)∉binds)->bindC kindOf binds m x=m x
 | [],_,_=>rfl
 |(n,v)::r,m,h=>by
  unfold bindC;rw [wg fun w hw=>h w (Ð _ hw)];split
  ·rfl
  ·have:x≠n:=by rintro rfl;exact h v Ý
   simp [this]
theorem oM {kindOf:Str->Option Ĩ} {x:Str} {v:Ã}:∀{P:List Str} {vs:List Ã} {i:Nat} {m:Str->Option Ã},P.Nodup->P[i]?=some x->vs[i]?=some v->kindOf x=some .local ->
  bindL kindOf (P.zip vs) m x=some v
 | [],_,_,_,_,h,_,_=>by simp at h
 |_::_,[],_,_,_,_,h,_=>by simp at h
 |p::P,w::vs,0,m,X,Z,Y,W=>by
  simp at Z Y;subst Z;subst Y;show bindL kindOf ((p,w)::P.zip vs) m p=_;unfold bindL;rw [we fun v V=>(Ž.mp X).1 (Ś V).1,ë W];simp
 |p::P,w::vs,i+1,m,X,Z,Y,W=>by
  show bindL kindOf ((p,w)::P.zip vs) m x=_;unfold bindL;exact oM (i:=i) (Ž.mp X).2 (by simpa using Z) (by simpa using Y) W
theorem wj {kindOf:Str->Option Ĩ} {x:Str} {v:Ã}:∀{P:List Str} {vs:List Ã} {i:Nat} {m:Str->Option Ã},P.Nodup->P[i]?=some x->vs[i]?=some v->kindOf x≠some .local ->
  bindC kindOf (P.zip vs) m x=some v
 | [],_,_,_,_,h,_,_=>by simp at h
 |_::_,[],_,_,_,_,h,_=>by simp at h
 |p::P,w::vs,0,m,X,Z,Y,W=>by
  simp at Z Y;subst Z;subst Y;show bindC kindOf ((p,w)::P.zip vs) m p=_;unfold bindC;rw [wg fun v V=>(Ž.mp X).1 (Ś V).1,î W];simp
 |p::P,w::vs,i+1,m,X,Z,Y,W=>by
  show bindC kindOf ((p,w)::P.zip vs) m x=_;unfold bindC;exact wj (i:=i) (Ž.mp X).2 (by simpa using Z) (by simpa using Y) W
def start (N:List Str) (vs:List V):St:=vs.map some++Ê (N.length-vs.length) none
def er (CX:fE) (P:Ò) (w:é) (K:ð) (mg:Str->Option Ã) (base:ā) (N:List Str) (qual:Str) (scope:Ł) (f:Í) (cd:Ã) (A:Ö) (outer:List Env) (s:Á) (H:Hp) (E:XK):Cx where
 prog:=P
 w:=w
 K:=K
 mg:=mg
 base:=base
 A:=A.deeper (MF qual scope s.heap.objs.size f cd)
 N:=N
 bM:=s
 iw:=H
 env:=MF qual scope s.heap.objs.size f cd
 outer:=outer
 stack:=MF qual scope s.heap.objs.size f cd::outer
 ex:=[]
 calm:=true
 fn:=fun _=>true
 pn:=[]
 xe:=fun e Y=>Ó (Ø P w) (A.deeper (MF qual scope s.heap.objs.size f cd)) (leaving (MF qual scope s.heap.objs.size f cd) e) (fun _ Z=>CX outer H s E e Z) (fun X Z=>CX outer H s E X Z) Y
def wC {sc:Ł} {n:Nat} {x:Str} (h:sc.names.lookup x=some .cell):∃c,(ń n sc.names []).lookup x=some c:=by
 have q:=Ĭ sc.names n [] (.inl h);exact ő.mp q
def wk {CX:fE} {P:Ò} {w:é} {K:ð} {mg:Str->Option Ã} {base:ā} {N ps:List Str} {qual:Str} {scope:Ł} {f:Í} {cd:Ã} {A:Ö} {outer:List Env} {s s1:Á} {H:Hp} {E:XK} {us:List Ã} {vs:List V}
  (S:iQ N ps scope) (hd:A.handled=none) (e0:lr P w K mg base A outer s H) (hl:vs.length=ps.length) (r:Vals vs us)
  (x:InCallC s s.heap.objs.size (bindL (MF qual scope s.heap.objs.size f cd).kindOf (ps.zip us) fun _=>none) (ń (s.heap.objs.size+1) scope.names []) (bindC (MF qual scope s.heap.objs.size f cd).kindOf (ps.zip us) fun _=>none) s1) :
  Inv (er CX P w K mg base N qual scope f cd A outer s H E) [] (start N vs) H s1:=by
 have M:ps.length<=N.length:=by have:=ě List.length S.pre;rw [List.length_take] at this;omega
 obtain ⟨X,L,rfl,U⟩:=x.done;have W:∀b:Í,b∉(er CX P w K mg base N qual scope f cd A outer s H E).ex:=fun b z=>absurd (show b∈([]:List Í) from z) (by simp);refine ⟨⟨e0.mod,S.kind,rfl,rfl,MK _,fun y z c X Z=>?_,fun y hy=>?_,fun y c _ h=>?_,fun _=>hd,Around.frames_deeper e0.frames,.inr ⟨rfl,rfl⟩,fun b z=>absurd z (W b),e0.bs,e0.gk,fun b _ _=>W b,fun b z=>absurd z (W b),e0.eZ,e0.gO⟩,
  rfl,e0.bare,Un.kept U,⟨_,x.toInCall.ns,fun i y v X Z J=>?_⟩,fun y c h=>⟨_,x.cell y c h⟩,e0.au.fresh (MK _),fun y c h=>?_,fun p Y=>absurd (show p∈([]:List (Í×Obj)) from Y) (by simp),e0.au.kept U,?_⟩
 ·exact name_of_addr x.apart (Ă X) (Ă Z)
 ·have hy:scope.names.lookup y=some .cell\/scope.names.lookup y=some .free:=hy
  rcases hy with hy|hy
  ·exact wC hy
  ·exact absurd rfl (S.FK _ (Ă hy))
 ·exact Nat.le_of_lt (x.above y c (Ă h))
 ·have hi:i<vs.length:=by
   unfold start at Z;by_cases hi:i<vs.length
   ·exact hi
   ·rw [è (by simpa using hi)] at Z
    rw [Ē] at Z
    split at Z<;>cases Z
  have Q:vs[i]?=some v:=by
   unfold start at Z;rw [Õ (by simpa using hi),ò] at Z
   cases e:vs[i]? with
   |none=>rw [e] at Z;cases Z
   |some a=>rw [e] at Z;cases Z;rfl
  obtain ⟨u,T,O⟩:=r.get Q;have Y:ps[i]?=some y:=by
   rw [<- S.pre,List.getElem?_take_of_lt (by omega)];exact X
  have R:ps.Nodup:=by rw [<- S.pre];exact S.nd.sublist (List.take_sublist _ _)
  refine ⟨u,O,?_⟩
  rcases S.par y (ģ Y) with k|k
  ·exact .inl ⟨k,oM R Y T k⟩
  ·obtain ⟨c,e⟩:=wC (n:=s.heap.objs.size+1) k
   refine .inr ⟨.inl k,c,e,?_⟩;have q:=x.cell y c e;rw [wj R Y T (by show scope.names.lookup y≠_;rw [k];decide)] at q;exact q
 ·exact e0.au.fresh (Nat.le_of_lt (x.above y c (Ă h)))
 ·unfold start
  show _=N.length;rw [ć,å,Ū];omega
def sZ {CX:fE} {P:Ò} {w:é} {K:ð} {mg:Str->Option Ã} {base:ā} {k:Nat} {f:Í} {name qual:Str} {params:ś} {body:List μ} {scope:Ł} {dV kV doc pm aB ct oc:Ã} {an od:Option Í}
  {cK:Array (Option Ã)} {N ps:List Str} {sp:Sp} (lk:K.lookup f=some ⟨oc,od,.func (Ĕ name qual params body scope dV kV doc pm an aB ct),cK⟩) (bF:Ņ K aB qual=true) (S:iQ N ps scope)
  (len:∀vs H Q E,sp vs H Q E->vs.length=ps.length)
  (gG:∀(A:Ö) (outer:List Env) (s:Á) (H:Hp) (vs:List V) (Q:VK) (E:XK),bc k (A.deeper (MF qual scope s.heap.objs.size f aB))->sp vs H Q E ->
   ∃t,bQ (er CX P w K mg base N qual scope f aB A outer s H E) body t/\t { nx:=fun _ H'=>Q .aq H',rt:=Q } (start N vs) H) :
  bP P w K mg base CX (k+1) f (Ĕ name qual params body scope dV kV doc pm an aB ct) ps sp:=by
 refine ⟨len,fun A outer s H args L vs Q E X Z G r R=>?_⟩;have F:=len _ _ _ _ R;have O:K.In s.heap:=Z.mod.gg.keeps fun b o e=>(Z.bs b o e).1;have lim:s.heap.NoLimit:=Z.mod.nolimit.keeps fun b o e=>(Z.bs b o e).1;have D:∀y∈ps.zip L,scope.names.lookup y.1=some .local\/(scope.names.lookup y.1=some .cell/\((ń (s.heap.objs.size+1) scope.names []).lookup y.1).isSome=true):=fun ⟨n,v⟩ C=>by
  rcases S.par n (Ś C).1 with q|q
  ·exact .inl q
  ·exact .inr ⟨q,Ĭ _ _ _ (.inl q)⟩
 refine ū X.depth (O _ _ lk) rfl S.co S.gen rfl (PySem.W.codeRec_of O bF) (G _ _ _ _ ?_);refine ŀ S.kind D fun env B M x=>?_;subst B;refine ⟨lim.keeps x.toInCall.keep,codeAny_func ?_⟩;obtain ⟨t,z,p⟩:=gG A outer s H vs Q E (X.deeper _) R;have I:Inv (er CX P w K mg base N qual scope f aB A outer s H E) [] (start N vs) H M:=wk S X.hd Z F r x;refine ù (z [] M (start N vs) H _ I p) (fun m U hs=>?_) fun e U hs=>hs;have fin:∀{Y:St} {H':Hp} {v:V} {u:Ã},Inv (er CX P w K mg base N qual scope f aB A outer s H E) [] Y H' U->RelV v u->Q v H'->CE outer P w H s Q u U :=
  fun {Y H' v u} J T q=>⟨v,H',J.os,J.bare,J.base,J.au,T,q⟩
 cases m with
 |ret u =>
  obtain ⟨v,Y,H',J,T,q⟩:=hs;exact fin J T q
 |next =>
  obtain ⟨Y,H',J,q⟩:=hs;exact fin (v:=V.aq) (u:=Value.none) J rfl q
 |brk =>
  obtain ⟨_,_,_,q⟩:=hs;exact ï q
 |cont =>
  obtain ⟨_,_,_,q⟩:=hs;exact ï q
section
variable {X:Cx} {x:Str} {p pos:Pos} {e:ÿ} {es:List ÿ} {t:TA} {id T:String} {r:List V->Hp->VK->Prop}
def AB (r:List V->Hp->VK->Prop) (t:TA):TE:=fun σ H Q=>t σ H fun Z Y=>r Z Y Q
def rB (hc:cC X (.builtin id) r) (hg:Gl X x) (hm:X.mg x=none) (hv:ì x=some (.builtin id)) (ha:PA X (e::es) t) (hn:x≠"__name__":=by decide) (cG:(x==("__debug__":Str))=false:=by decide)
  (he:Æ (e::es) X.env=(false,Ĝ e X.env)::Æ es X.env:=by rfl) (bN:(ď pos (Æ es X.env)).any (·.1)=false:=by rfl):PE X (.Call (.Name x p) (e::es) [] pos) (AB r t):=by
 intro Z s σ H Q I h;refine ř (pA I hg hm hv ?_ hn cG);exact PyProof.Rows.callWith_builtin1 (aL (ha pos Z s σ H _ I h) fun Y W ⟨V,U,T,S,R⟩=>hc Z W σ U V Y Q T S R) he bN
end
end L2
namespace HT
open PySem PyProof.Rows
def wD (A:Ö) (s:Á) (a:Int) (t:Tok) (c:Int) (u:Tok) (prog:Ò) (w:é) (E:Ã->Á->Prop) (Q:Ã->Á->Prop) (h:Q (.bool (decide (a<c))) s) :
  Ó (Ø prog w) A (richCompare .Lt (.int a t) (.int c u)) Q E s :=
 (PyProof.Rows.lt_int h:Ó (Ø prog w) A (Ā .Lt (.int a t) (.int c u)) Q E s)
section
open PySem.SeqAt
open PySem.AutoSeq1 (wpAny_loadPart')
open PySem.MeetsSeq PySem.MeetsSeq2 PySem.MeetsSeq3
end
section
variable {prog:Ò} {w:é} {A:Ö} {E:Ã->Á->Prop} {s:Á}
def En (ht:IsTup s.heap t vs.toArray) (hb:IsTup s.heap b ws.toArray) (hv:vs≠[])
 (h1:ws=[]->Q (.ref t) s) (h2:ws≠[]->Q (.ref s.heap.objs.size) { s with heap:=s.heap.push { cls:=.type "tuple",data:=.seq (vs++ws).toArray } })
 (hsz:vs.length+ws.length<=Ï):Ó (Ø prog w) A (č .Add (.ref t) (.ref b)) Q E s:=by
 obtain ⟨⟨cls,X,data,W⟩,Z,V,n,U⟩:=id ht;obtain ⟨⟨O,T,data2,S⟩,Y,R,P,hd2⟩:=id hb;simp only at V U R hd2;subst V U R hd2;have e:vs.toArray++ws.toArray=(vs++ws).toArray:=by simp
 by_cases hw:ws=[]
 ·exact concat_meets ⟨_,Z,rfl⟩ ⟨_,Y,rfl⟩ noFill_tuple_add seq_tuple_add Š Ŝ (Œ _ _)
   (tuple_addW1 t b vs.toArray ws.toArray n P X T W S (by simpa using hv) (by simp [hw])) ⟨Z,Y,h1 hw⟩
 ·refine concat_meets ⟨_,Z,rfl⟩ ⟨_,Y,rfl⟩ noFill_tuple_add seq_tuple_add Š Ŝ (Œ _ _)
   (tuple_addW2 t b vs.toArray ws.toArray n P X T W S (by simpa using hv) (by simpa using hw) (by rw [Ù,Ù];exact hsz)) ⟨Z,Y,?_⟩
  rw [e];exact h2 hw
noncomputable def uP (n d:Nat):Option Int->Nat
 |none=>d
 |some v=>if v<0 then (v+(n:Int)).toNat else min v.toNat n
end
end HT
namespace L2
open PySem PySem.Spec PyProof.Rows
abbrev TO:=St->Hp->(Option Int->Hp->Prop)->Prop
section
variable {X:Cx} {e:ÿ} {te:TE} {lo hi:Option ÿ} {tl th:TO} {pos p2:Pos}
def Hl (K:ð):R2:=fun x y H Q=>∃a b Y Z,x=.ref a/\y=.ref b/\bg K H a Y/\bg K H b Z/\Y≠[]/\Y.length+Z.length<=Ï /\
 (Z=[]->Q (.ref a) H)/\(Z≠[]->∀p,H p=none->Q (.ref p) (upd H p (.tup (Y++Z))))
def Vals.rW (r:Vals xs us):us=[]↔xs=[]:=by
 cases r with
 |nil=>simp
 |cons _ _=>simp
def Eo:bp X (č .Add) (Hl X.K):=by
 intro J s σ H x y v u Q I V U h;obtain ⟨a,b,T,S,rfl,rfl,R,P,O,W,N,M⟩:=h;cases V;cases U;obtain ⟨ah,Y,L,_⟩:=I.tuple R;obtain ⟨G,Z,p2,_⟩:=I.tuple P;refine HT.En L p2 (fun z=>O (Y.rW.mp z)) (fun z=>⟨.ref a,H,I,rfl,N (Z.rW.mp z)⟩) (fun z=>?_) (by rw [<- Y.length,<- Z.length];exact W);refine ⟨.ref s.heap.objs.size,_,I.laid (t':=s.toks) (o:=.tup (T++S)) (fun b F q=>Â _ q) (MK _) ?_,rfl,M (fun w=>z (Z.rW.mpr w)) _ (I.au.fresh (MK _))⟩;exact ⟨by rw [ć];exact W,_,Y.append Z,IsTup.new _ _⟩
end
noncomputable def eD (n:Nat) (i:Int):Option Nat:=if 0<=i then (if i<n then some i.toNat else none) else if -(n:Int)<=i then some (i+n).toNat else none
def dg {α:Type} (xs:List α) (i:Int):Option α:=(eD xs.length i).bind fun j=>xs[j]?
def xg (h:eD n i=some j):seqIndex? i n=some j/\j<n/\-(n:Int)<=i/\i<n:=by
 unfold eD at h;by_cases Y:0<=i
 ·rw [ë Y] at h
  by_cases Z:i<n
  ·rw [ë Z] at h
   have e:i.toNat=j:=MN h;exact ⟨by rw [seqIndex_of Y Z,e],by omega,by omega,Z⟩
  ·rw [î Z] at h;cases h
 ·rw [î Y] at h
  by_cases Z:-(n:Int)<=i
  ·rw [ë Z] at h
   have e:(i+n).toNat=j:=MN h;exact ⟨by rw [seqIndex_neg (by omega) Z,e],by omega,Z,by omega⟩
  ·rw [î Z] at h;cases h
def rX {α:Type} {xs:List α} {i:Int} {v:α} (h:dg xs i=some v):∃j,seqIndex? i xs.length=some j/\xs[j]?=some v/\j<xs.length/\-(xs.length:Int)<=i/\i<xs.length:=by
 unfold dg at h
 cases e:eD xs.length i with
 |none=>rw [e] at h;cases h
 |some j =>
  rw [e] at h;obtain ⟨Z,Y,X,W⟩:=xg e;exact ⟨j,Z,h,Y,X,W⟩
def xh (b:ÿ):Prop:=∀o i,subscripted b false o i=operate [o,i] (getItem o i)
def nY (X:Cx) (r:R2):Prop :=
 ∀(value slice:ÿ) (Z:List (Í×Obj)) (s:Á) (σ:St) (H:Hp) (x y:V) (v u:Ã) (Q:VK),Inv X Z σ H s->RelV x v->RelV y u->r x y H Q ->
  subscripted slice false v u=operate [v,u] (getItem v u)->Ó (Ø X.prog X.w) X.A (subscriptTail value slice v u) (EP X Z σ Q) X.xe s
def uQ (X:Cx) (id:String) (r:V->List V->Hp->VK->Prop):Prop :=
 ∀(Z:List (Í×Obj)) (s:Á) (σ:St) (H:Hp) (x:V) (Y:List V) (v:Ã) (W:List Ã) (Q:VK),Inv X Z σ H s->RelV x v->Vals Y W->r x Y H Q ->
  Ó (Ø X.prog X.w) X.A (call (.builtin id) (v::W)) (EP X Z σ Q) X.xe s
section
variable {X:Cx} {a b:ÿ} {ta tb:TE} {pos:Pos}
def Hm (hr:nY X r) (ha:PE X a ta) (hb:PE X b tb) (hs:xh b):PE X (.Subscript a b pos) (nX r ta tb):=by
 intro Z s σ H Q I h;exact Subscript_ (t5 ha hb I h fun v u Y x y W V U T q=>hr a b Z Y σ W x y v u Q V U T q (hs _ _))
def IS (K:ð):R2:=fun x y H Q=>∃p Z i v,x=.ref p/\y=.int i/\bo K H p Z/\dg Z i=some v/\Q v H
def IT (K:ð):R2:=fun x y H Q=>∃p Z i v,x=.ref p/\y=.int i/\bg K H p Z/\dg Z i=some v/\Q v H
def IU:R2:=fun x y H Q=>∃z i c,x=.str z/\y=.int i/\z.length<=Ï/\dg z.cps.toList i=some c/\Q (.str ⟨#[c]⟩) H
def xi:nY X (IS X.K):=by
 intro value slice V s σ H x y v u Q I S R h hs;obtain ⟨p,E,i,z,rfl,rfl,P,O,q⟩:=h;cases S;obtain ⟨t,rfl⟩:=R;obtain ⟨ah,r,Y,D⟩:=I.list P;obtain ⟨j,Z,N,C,M,L⟩:=rX O;obtain ⟨w,U,J⟩:=r.get N;have G:=r.length;have B:=jX;have fin:EP X V σ Q w s:=⟨z,H,I,J,q⟩;by_cases T:0<=i
 ·have W:i.toNat=j:=by
   rw [seqIndex_of T L] at Z;exact MN Z
  exact item_listR Y.isList T (by omega) (by rw [W];simpa using U) fin hs
 ·have W:(i+(ah.toArray.size:Int)).toNat=j:=by
   rw [seqIndex_neg (by omega) M] at Z;rw [Ù,<- G];exact MN Z
  exact subscriptTail_builtinR (x:=w) Y.isList.typeIs slot_list_getitem.lookup
   (wpAny_getItem_list_neg (Q:=fun r F=>r=w/\EP X V σ Q r F) Y.isList (by omega) (by rw [Ù]<;>omega) (by omega) (by rw [W];simpa using U) ⟨rfl,fin⟩) hs
def FL:nY X (IT X.K):=by
 intro value slice Z s σ H x y v u Q I W V h hs;obtain ⟨p,L,i,z,rfl,rfl,U,T,q⟩:=h;cases W;obtain ⟨t,rfl⟩:=V;obtain ⟨ah,r,Y,J⟩:=I.tuple U;obtain ⟨j,S,R,G,F,E⟩:=rX T;obtain ⟨w,P,O⟩:=r.get R;have N:=r.length;have D:=jX;have fin:EP X Z σ Q w s:=⟨z,H,I,O,q⟩;exact subscriptTail_builtinR (x:=w) Y.typeIs slot_tuple_getitem.lookup
  (getItem_tuple (j:=j) (Q:=fun r M=>r=w/\EP X Z σ Q r M) Y (by omega) (by omega) (by rw [Ù,<- N];exact S) (by simpa using P) ⟨rfl,fin⟩) hs
def FN:nY X IU:=by
 intro value slice P s σ H x y v u Q I Y W h hs;obtain ⟨z,i,c,rfl,rfl,O,V,q⟩:=h;obtain ⟨t,rfl⟩:=Y;obtain ⟨N,rfl⟩:=W;obtain ⟨j,Z,U,M,T,S⟩:=rX V;have R:z.cps.toList.length=z.length:=by simp [Str.length]
 rw [R] at Z T S;have L:=jX;exact tail_any (typeIs_str s z t) slot_str_getitem.lookup (getItem_str (c:=c) (by
  have e1:decide (i < -(2 ^ 63:Int))=false:=í (by omega);have e2:decide (i ≥ 2 ^ 63)=false:=í (by omega);rw [e1,e2,Bool.or_false]) (by rw [Z];simpa using U) ⟨.str ⟨#[c]⟩,H,I.tok _,⟨_,rfl⟩,q⟩) hs
def B0 (ah:List Ã) (n j:Nat) (u:Ã):Obj.mapSeq (·.setIfInBounds j u) { cls:=.type "list",data:=.seq ah.toArray n }={ cls:=.type "list",data:=.seq (ah.set j u).toArray n }:=by
 simp [Obj.mapSeq]
theorem Inv.lst {π:List (Í×Obj)} {σ:St} {H:Hp} {s:Á} {p:Í} {xs:List V} (I:Inv X π σ H s) (h:H p=some (.lst xs)) :
  ∃(ah:List Ã) (n:Nat),Vals xs ah/\s.heap.get? p=some { cls:=.type "list",data:=.seq ah.toArray n }/\xs.length<=Ï:=by
 obtain ⟨z,ah,n,r,e⟩:=I.au p _ h;exact ⟨ah,n,r,e,z⟩
def Inv.FO {π:List (Í×Obj)} {σ:St} {H:Hp} {s:Á} {p:Í} {xs ys:List V} {ah ix:List Ã} {n n':Nat} {f:Obj->Obj} (I:Inv X π σ H s) (h:H p=some (.lst xs))
  (ho:s.heap.get? p=some { cls:=.type "list",data:=.seq ah.toArray n }) (hf:f { cls:=.type "list",data:=.seq ah.toArray n }={ cls:=.type "list",data:=.seq ix.toArray n' }) (r:Vals ys ix) (hz:ys.length<=Ï) (t:Nat) :
  Inv X π σ (upd H p (.lst ys)) { s with heap:=s.heap.update p f,toks:=t }:=by
 have e:(s.heap.update p f).get? p=some { cls:=.type "list",data:=.seq ix.toArray n' }:=by
  rw [Ŭ f ho (by rw [hf]<;>rfl),hf]
 refine I.write (x:=p) (e:=p) (by rw [h];trivial) (.inl rfl) (fun b u Z q=>(Heap.get?_update_other _ _ (χ Z)).trans q) ⟨_,e⟩ ?_;exact ⟨hz,ix,n',r,e⟩
def Hn:V->V->V->Hp->(Hp->Prop)->Prop:=fun o i v H Q=>∃p Z k j,o=.ref p/\i=.int k/\H p=some (.lst Z)/\eD Z.length k=some j/\Q (upd H p (.lst (Z.set j v)))
def set_list:zI X Hn:=by
 intro N s σ H o i v E D u Q I M L K h;obtain ⟨p,J,k,j,rfl,rfl,T,G,q⟩:=h;cases M;obtain ⟨t,rfl⟩:=L;obtain ⟨ah,n,r,Y,F⟩:=I.lst T;obtain ⟨Z,C,S,R⟩:=xg G;have V:=r.length;have B:=jX
 have P:Inv X N σ (upd H p (.lst (J.set j v))) { s with heap:=s.heap.update p (Obj.mapSeq (·.setIfInBounds j u)) } :=
  I.FO T Y (B0 ah n j u) (r.set K j) (by rw [ú];exact F) s.toks
 by_cases O:0<=k
 ·have U:k.toNat=j:=by
   rw [seqIndex_of O R] at Z;exact MN Z
  exact PySem.W.ki_setAt Y O (by omega) (by rw [Ù,<- V];exact R) (by rw [U];exact ⟨_,P,q⟩)
 ·have U:(k+(ah.toArray.size:Int)).toNat=j:=by
   rw [seqIndex_neg (by omega) S] at Z;rw [Ù,<- V];exact MN Z
  exact PySem.W.ki_setBack Y (by omega) (by rw [Ù,<- V];exact S) (by omega) (by rw [U];exact ⟨_,P,q⟩)
def qT:cC X (.builtin "len") (fun xs H Q=>∃p ys,xs=[.ref p]/\(bo X.K H p ys\/bg X.K H p ys)/\Q (.int ys.length) H):=by
 intro T s σ H xs S Q I r h;obtain ⟨p,ys,rfl,hq,q⟩:=h;obtain ⟨u,rfl,V⟩:=vals1 r;cases V;have R:=jX
 rcases hq with hq|hq
 ·obtain ⟨ah,Y,W,U⟩:=I.list hq
  have Z:=Y.length
  exact Calls.call_len_list W.isList (by simp only [Ù]<;>omega) ⟨.int ys.length,H,I.tok _,⟨s.toks+1,by rw [Ù,Z]⟩,q⟩
 ·obtain ⟨ah,Y,W,U⟩:=I.tuple hq
  have Z:=Y.length
  exact len_tuple W (by simp only [Ù]<;>omega) ⟨.int ys.length,H,I.tok _,⟨s.toks+1,by rw [Ù,Z]⟩,q⟩
def By:cC X (.builtin "len") (fun xs H Q=>∃z,xs=[.str z]/\z.length<=Ï/\Q (.int z.length) H):=by
 intro Z s σ H xs Y Q I r h;obtain ⟨z,rfl,W,q⟩:=h;obtain ⟨u,rfl,t,rfl⟩:=vals1 r;have V:=jX;exact len_str (by omega) ⟨.int z.length,H,I.tok _,⟨_,rfl⟩,q⟩
def AD (K:ð) (T:String) (x:V) (H:Hp):Prop:=match x with
 | .str _=>T="str"
 | .int _=>T="int"
 | .ref p=>(T="list"/\∃Y,bo K H p Y)\/(T="tuple"/\∃o,K.lookup p=some o/\o.cls=.type "tuple"/\o.dict=none) \/
   (T="dict"/\((∃Z,H p=some (.dK Z))\/∃Z,H p=some (.dT Z)))\/(T="set"/\∃S n,H p=some (.set S n))
 |_=>False
def FP {π:List (Í×Obj)} {σ:St} {H:Hp} {s:Á} {T:String} {x:V} {v:Ã} (I:Inv X π σ H s) (r:RelV x v) (ty:AD X.K T x H) :
  s.TypeIs v T/\∀a,v=.ref a->∃ob,s.heap.get? a=some ob/\ob.dict=none:=by
 cases x with
 |str z =>
  obtain ⟨t,rfl⟩:=r;cases (show T="str" from ty)
  exact ⟨typeIs_str s z t,fun _ e=>nomatch e⟩
 |int i =>
  obtain ⟨t,rfl⟩:=r;cases (show T="int" from ty)
  exact ⟨typeIs_int s i t,fun _ e=>nomatch e⟩
 |ref p =>
  cases r
  rcases ty with ⟨rfl,P,U⟩ | ⟨rfl,o,Z,R,Y⟩ | ⟨rfl,Z⟩ | ⟨rfl,S,n,Z⟩
  ·obtain ⟨ah,_,W,_⟩:=I.list U
   refine ⟨W.isList.typeIs,fun a e=>?_⟩;cases e;obtain ⟨o,n,e,c,Y,_⟩:=W;exact ⟨o,e,Y⟩
  ·refine ⟨⟨o,I.dR p o Z,R⟩,fun a e=>?_⟩
   cases e;exact ⟨o,I.dR _ o Z,Y⟩
  ·have z:∃o,s.heap.get? p=some o/\o.ExactDict:=by
    rcases Z with ⟨Q,Z⟩ | ⟨Q,Z⟩
    ·obtain ⟨_,_,_,_,o,_,_,e,ex,_⟩:=I.au p _ Z
     exact ⟨o,e,ex⟩
    ·obtain ⟨_,_,_,_,o,_,_,e,ex,_⟩:=I.au p _ Z
     exact ⟨o,e,ex⟩
   obtain ⟨o,e,ex⟩:=z;refine ⟨⟨o,e,ex.1⟩,fun a e2=>?_⟩;cases e2;exact ⟨o,e,ex.2.1⟩
  ·obtain ⟨o,_,_,_,e,ex,_⟩:=I.au p _ Z
   refine ⟨⟨o,e,ex.1⟩,fun a e2=>?_⟩;cases e2;exact ⟨o,e,ex.2.1⟩
 |_=>exact ï ty
def JT (K:ð) (T:String) (r:V->List V->Hp->VK->Prop) (to:TE) (t:TA):TE:=fun σ H Q=>to σ H fun x Z=>AD K T x Z/\t σ Z fun Y X=>r x Y X Q
variable {o e:ÿ} {es:List ÿ} {to:TE} {t:TA} {name:Str} {apos aO:Pos} {T id:String} {r:V->List V->Hp->VK->Prop}
def yV (pa:PlainAttrs T) (slot:Slot T name id) (JU:typeOf (.builtin id)=pure (.type "method_descriptor")) (hm:uQ X id r) (ho:PE X o to) (ha:PA X (e::es) t)
  (j4:Ļ o name X.env (Ĝ o X.env)=Ĝ o X.env:=by rfl)
  (nC:((ď aO (Æ (e::es) X.env)).all (fun x=>!x.1)&&(backToKw aO (keywordEach [] X.env)).all (fun x=>x.1.isSome)
   && decide ((e::es).length+([]:List ξ).length+(if ([]:List ξ).isEmpty then 0 else 1)<30))=true:=by rfl)
  (mV:(apos.endLine==aO.line)=true:=by rfl) (hs:Æ (e::es) X.env=(false,Ĝ e X.env)::Æ es X.env:=by rfl) (dZ:(ď aO (Æ es X.env)).any (·.1)=false:=by rfl) :
  PE X (.Call (.Attribute o name apos) (e::es) [] aO) (JT X.K T r to t):=by
 intro Z s σ H Q I h;refine wpAny_Call_method_late j4 nC mV rfl (aL (ho Z s σ H _ I h) fun v U ⟨x,S,Y,W,ty,R⟩=>?_);obtain ⟨P,O⟩:=FP Y W ty;refine ⟨T,id,pa,slot,JU,P,O,?_⟩;have V:=ha aO Z U σ S _ Y R;rw [hs] at V |-
 refine Calls.callWith_builtin (by show (false||(ď aO (Æ es X.env)).any (·.1))=false;rw [dZ]<;>rfl) (ű ?_)
 exact aL V fun N M ⟨L,J,G,F,E⟩=>hm Z M σ J x L v N Q G W F E
end
theorem Vals.rep (h:Vals xs us):∀k:Nat,Vals (Ê k xs).flatten (Ê k us).flatten
 |0=>.nil
 |k+1=>by
  rw [ċ,ċ,Ħ,Ħ];exact Vals.append h (Vals.rep h k)
theorem foldl_rep (ah:List Ã):∀(k:Nat) (acc:List Ã),
  List.foldl (fun x1 x2=>x1++x2) acc.toArray (Ê k ah.toArray)=(acc++(Ê k ah).flatten).toArray
 |0,acc=>by simp
 |k+1,acc=>by
  have e:acc.toArray++ah.toArray=(acc++ah).toArray:=by simp
  have e2:(acc++ah)++(Ê k ah).flatten=acc++(Ê (k+1) ah).flatten:=by
   rw [ċ,Ħ,Ţ]
  rw [<- e2,<- foldl_rep ah k (acc++ah),<- e,ċ,List.foldl_cons]
section
variable {X:Cx} {π:List (Í×Obj)} {σ:St} {H:Hp} {s:Á} {l b:Í} {xs ys zs:List V}
def Inv.zN (I:Inv X π σ H s) (hv:Vals ys ah) (hz:ys.length<=Ï) :
  Inv X π σ (upd H s.heap.objs.size (.lst ys)) { s with heap:=s.heap.push { cls:=.type "list",data:=.seq ah.toArray },toks:=t' } :=
 I.laid (fun _ _ q=>Â _ q) (MK _) ⟨hz,ah,0,hv,Ñ _ rfl⟩
theorem Inv.fresh (I:Inv X π σ H s):H s.heap.objs.size=none:=I.au.fresh (MK _)
def Inv.ua (I:Inv X π σ H s) (hH:H l=some (.lst xs)):xs.length<=Ï/\∃(ah:List Ã) (n:Nat),Vals xs ah/\xs.length=ah.length/\s.heap.get? l=some { cls:=.type "list",data:=.seq ah.toArray n }:=by
 obtain ⟨z,ah,n,r,e⟩:=I.au l _ hH;exact ⟨z,ah,n,r,r.length,e⟩
def Di (h:n<=Ï):œ n=false:=by
 unfold œ;exact í (by omega)
end
section
variable {X:Cx}
def IV:R2:=fun x y H Q=>∃l b Z zs,x=.ref l/\y=.ref b/\H l=some (.lst Z)/\H b=some (.lst zs)/\Z.length+zs.length<=Ï/\∀p,H p=none->Q (.ref p) (upd H p (.lst (Z++zs)))
def FQ:bp X (č .Add) IV:=by
 intro R s σ H x y v u Q I Y W h;obtain ⟨l,b,O,zs,rfl,rfl,V,U,N,q⟩:=h;cases Y;cases W;obtain ⟨z,ah,n,r,M,e⟩:=I.ua V;obtain ⟨L,Z,K,T,J,e2⟩:=I.ua U;refine PySem.P.add_list e e2 ?_ (by rw [Ù,Ù];omega);have S:ah.toArray++Z.toArray=(ah++Z).toArray:=by simp
 rw [S];exact ⟨.ref _,_,I.zN (t':=s.toks) (r.append T) (by rw [ć];omega),rfl,q _ I.fresh⟩
def IW:R2:=fun x y H Q=>∃l k Z,x=.ref l/\y=.int k/\H l=some (.lst Z)/\-(2 ^ 63)<=k/\k<2 ^ 63/\Z.length*k.toNat<=Ï /\
 ∀p,H p=none->Q (.ref p) (upd H p (.lst (Ê k.toNat Z).flatten))
def len_rep {α:Type} (xs:List α) (k:Nat):(Ê k xs).flatten.length=k*xs.length:=by
 induction k with
 |zero=>simp
 |succ k ih=>rw [ċ,Ħ,ć,ih,Nat.succ_mul,Nat.add_comm]
def FR:bp X (č .Mult) IW:=by
 intro D s σ H x y v u Q I S R h;obtain ⟨l,k,C,rfl,rfl,P,O,N,V,q⟩:=h;cases S;obtain ⟨t,rfl⟩:=R;obtain ⟨z,ah,n,r,M,e⟩:=I.ua P;have Z:ah.toArray.size*k.toNat<=Ï:=by rw [Ù,<- M];exact V
 have L:¬ ah.toArray.size*k.toNat > (2 ^ 63-1) / 8:=by
  have:(Ï:Nat)<=(2 ^ 63-1) / 8:=by decide
  omega
 have K:¬ (!Builtin.List.listFitsIndex k)=true:=by
  rw [fitsIndex_both O N];exact Î
 have J:¬ œ (ah.toArray.size*k.toNat)=true:=by
  rw [Di Z];exact Î
 have G:List.foldl (fun Y W=>Y++W) #[] (Ê (if ah.toArray.isEmpty=true then 0 else k.toNat) ah.toArray)=(Ê k.toNat ah).flatten.toArray:=by
  have f0:∀m:Nat,List.foldl (fun Y W=>Y++W) #[] (Ê m ah.toArray)=(Ê m ah).flatten.toArray:=fun m=>by
   have:=foldl_rep ah m [];rw [Ę] at this;exact this
  rw [f0]
  cases ah with
  |nil=>simp
  |cons a B=>rw [î (by simp)]
 refine wpAny_binaryOp_repeat_ref (T:="list") (U:="int") (by decide) ⟨_,e,rfl⟩ (fun E=>typeIs_int E k t) noFill_list_mul F.fills_int_mul ž repeat_list F.slot_int_index.lookup
  (call_meets ž (typeIs_int s k t) F.entry_int_rmul (F.args_int_rmul_2 _ _) (int___rmul___int_list k t l ah.toArray n)
   ⟨e,rfl,⟨_,e,rfl⟩,call_meets F.slot_list_mul ⟨_,e,rfl⟩ F.entry_list_mul (F.args_list_mul_2 _ _) (AutoListH.list___mul___list_int_3 l ah.toArray n k t K L J) ⟨e,?_⟩⟩)
 rw [G];exact ⟨.ref _,_,I.zN (t':=s.toks) (r.rep k.toNat) (by rw [len_rep,Nat.mul_comm];exact V),rfl,q _ I.fresh⟩
end
section
variable {prog:Ò} {w:é} {A:Ö} {E:Ã->Á->Prop} {s:Á}
set_option maxRecDepth 100000 in
end
section
variable {X:Cx}
end
end L2
namespace AE
open PySem PySem.W PySem.Calls PyProof.Rows
def Bn:∀(ns:List Int) (vs:List Ã),WellAll P h vs (ns.map WData.int)->IntsAre vs ns:=by
 intro ns
 induction ns with
 |nil =>
  intro vs w;rw [ŭ] at w;cases w;exact .nil
 |cons n ns ih =>
  intro vs w;rw [ñ] at w
  cases w with
  |cons a b =>
   cases a;exact .cons _ _ (ih _ b)
def Cy {l:OpenLaw} {n:Nat} (hn:l.most=some n) {P:Params} {h:ā} {args:List WData} {vals:List Ã}
  (qb:l.row.toRowW.claim.pre args=true) (uR:WellAll P h vals args) :
  ∃a vs ns,vals=[Ė a]/\args=[WData.list (ns.map WData.int)]/\h.get? a=some { cls:=.type "list",data:=.seq vs.toArray }/\IntsAre vs ns/\ns.length<=n:=by
 have V:WShape.hasAll [] args [.list .int]=true:=(pre_splitW qb).1;have W:l.pre.holds [] { args:=args }=true:=(pre_splitW qb).2;obtain ⟨d,r,rfl,U,T⟩:=hasAllW_cons V;obtain rfl:=hasAllW_nil T;obtain ⟨L,rfl,S⟩:=hasW_list U;obtain ⟨ns,rfl⟩:=items_int S;have Z:ns.length<=n:=by
  unfold OpenLaw.pre at W;have Y:(WTm.not (.lt (.lit (.int (n:Int))) (.len (.arg 0)))).holds [] { args:=[.list (ns.map .int)] }=true:=by
   have Y:=(holds_andW W).1;rw [hn] at Y;exact Y
  have X:=condW_of Y (w_not (w_lt w_lit (w_len_list (w_arg rfl))));rw [å] at X;refine Ű fun q=>?_;have R:(n:Int)<((ns.length:Nat):Int):=by omega
  first
   |(rw [Ú R] at X;exact absurd X (by decide))
   |(simp at X;omega)
 cases uR with
 |cons Q O =>
  cases O
  cases Q with
  |list N M=>exact ⟨_,_,ns,rfl,rfl,N,Bn ns _ M,Z⟩
def Cz (l:OpenLaw) (args:List WData):l.row.toRowW.claim.post args (.bool true) args=true :=
 postW_of (r:=l.row.toRowW) (X:=(true==true))
  (show WShape.has [] (.bool true) .bool=true by first|rfl|decide|simp [WShape.has,WShape.arms,WShape.armsAll])
  (show (WTm.eq .res (.lit (.bool true))).value [] { args:=args,res:=some (.bool true),after:=args }=some (.bool (true==true)) from w_eq_bool (w_res rfl) w_lit) rfl
def BL {l:OpenLaw} {n:Nat} {q:Ò} {loose:List Str} {XP:(Str->Option Ã)->ā->Prop} {YP:é->ā->Prop} {d:DefRec}
  (hn:l.most=some n) (nZ:d.params.defaults=[])
  (call:∀(w:é) (bM aU:Á) (mg mb:Str->Option Ã) (fa:Í) (o:Obj) (pm cd doc:Ã) (a:Í) (vs:List Ã) (ns:List Int),
   Ground q loose [] XP w bM mg mb aU.heap->YP w aU.heap ->
   aU.heap.get? fa=some o->o.data=.func (docDef d.name d.params d.body d.scope pm cd doc)->aU.heap.CodeRec cd d.name->mg d.name=some (.ref fa) ->
   aU.heap.get? a=some { cls:=.type "list",data:=.seq vs.toArray }->IntsAre vs ns->ns.length<=n->aU.gens=#[] ->
   ż (Ø l.prog w) callerA (.call (.ref fa) ⟨[.ref a],[]⟩) (fun r s'=>r=.ok (.ret (.bool true))/\OldK aU.heap s'.heap/\s'.os=aU.os/\υ s'.gens) aU) :
  WalkO q loose XP YP l.row.toRowW d [] (fun f vs=>PySem.call f vs):=by
 intro w bM aU mg mb G Y fa o pm cd doc W kV V U T X S R args vals as Q I H P F;obtain rfl:W=.none:=Dflts.none X nZ;obtain rfl:kV=.none:=Dflts.noKw X;obtain ⟨a,vs,ns,rfl,rfl,O,hints,Z⟩:=Cy hn Q P;refine enter_call (ũ (call w bM aU mg mb fa o pm cd doc a vs ns G Y V (fd_plain U) T S O hints Z R) fun r s' N=>?_);obtain ⟨rfl,M,L,K⟩:=N
 exact ⟨.inl ⟨.bool true,.bool true,[],rfl,fun _=>rfl,.bool true,Cz l _,fun _=>⟨List.Pairwise.nil,fun _ J=>(nomatch J)⟩⟩,M,L,K⟩
section
variable {prog:Ò} {w:é} {A:Ö} {E:Ã->Á->Prop} {s:Á} {K:ð}
noncomputable def ledger (h:ā) (L d:Í):List (Í×Obj):=(ĸ h.objs.size).filterMap fun a=>if a=L\/a=d then none else (h.get? a).map fun o=>(a,o)
end
end AE
namespace L2
open PySem PySem.Spec PyProof.Rows
theorem wo:∀{vs:List Ã} {ns:List Int},IntsAre vs ns->Vals (ns.map V.int) vs
 |_,_,.nil=>.nil
 |_,_,.cons n t h=>.cons ⟨t,rfl⟩ (wo h)
noncomputable abbrev Ml {K:ð} {h:ā} (_:K.In h):ð:=K
noncomputable def jV (s:μ):ś:=match s with
 | .FunctionDef _ a _ _ _ _ _ _ _ _=>a
 |_=>{ posonlyargs:=[],args:=[],vararg:=none,kwonlyargs:=[],kw_defaults:=[],kwarg:=none,defaults:=[] }
noncomputable def eR (s:μ):List μ:=match s with
 | .FunctionDef _ _ b _ _ _ _ _ _ _=>b
 |_=>[]
noncomputable def bI (s:μ):Ł:=match s with
 | .FunctionDef _ _ _ _ _ _ sc _ _ _=>sc
 |_=>{ kind:=.function,names:=[],isGenerator:=false,isCoroutine:=false }
abbrev bV:fE:=fun _ _ _ _ _ _=>False
abbrev E0:XK:=fun _ _ _=>False
def Hq:Passes bV X E0:=fun _ _ _ _ _ _ _ h=>h.elim
structure kB (K:ð) (x qual:Str) (st:μ) (f:Í) (fd:ô):Prop where
 ex:∃(oc:Ã) (od:Option Í) (kV doc pm:Ã) (an:Option Í) (aB ct:Ã) (cK:Array (Option Ã)),
  fd=Ĕ x qual (jV st) (eR st) (bI st) .none kV doc pm an aB ct/\K.lookup f=some ⟨oc,od,.func fd,cK⟩/\Ņ K aB qual=true
 kp:Ą K (.ref f)=true
section
variable {P:Ò} {w:é} {K:ð} {mg:Str->Option Ã} {base:ā}
def kB.ok {x qual:Str} {st:μ} {f:Í} {fd:ô} {N ps:List Str} {k:Nat} {sp:Sp} (F:kB K x qual st f fd) (S:iQ N ps (bI st)) (len:∀vs H Q E,sp vs H Q E->vs.length=ps.length)
  (gG:∀(aB:Ã) (A:Ö) (outer:List Env) (s:Á) (H:Hp) (vs:List V) (Q:VK) (E:XK),bc k (A.deeper (MF qual (bI st) s.heap.objs.size f aB))->sp vs H Q E ->
   ∃t,bQ (er bV P w K mg base N qual (bI st) f aB A outer s H E).i9 (eR st) t/\t { nx:=fun _ H'=>Q .aq H',rt:=Q } (start N vs) H):bP P w K mg base bV (k+1) f fd ps sp:=by
 obtain ⟨W,U,kV,doc,pm,an,aB,T,R,rfl,lk,Z⟩:=F.ex;refine sZ lk Z S len fun A outer s H vs Q E Y X=>?_;obtain ⟨t,h,q⟩:=gG aB A outer s H vs Q E Y X;exact ⟨t,h.i9,q⟩
def kB.binds {x qual:Str} {st:μ} {f:Í} {fd:ô} {ps:List Str} (F:kB K x qual st f fd)
  (h:∀(kV doc pm:Ã) (an:Option Í) (aB ct:Ã) (us:List Ã),us.length=ps.length->bindArgs (Ĕ x qual (jV st) (eR st) (bI st) .none kV doc pm an aB ct) ⟨us,[]⟩=pure (ps.zip us)):Binds K fd ps []:=by
 obtain ⟨Z,Y,kV,doc,pm,an,aB,ct,X,rfl,lk,W⟩:=F.ex;exact .all (h kV doc pm an aB ct)
def xY {x qual:Str} {st:μ} {f:Í} {oc:Ã} {od an:Option Í} {cK:Array (Option Ã)} {kV doc pm aB ct:Ã} (l:K.lookup f=some ⟨oc,od,.func (Ĕ x qual (jV st) (eR st) (bI st) .none kV doc pm an aB ct),cK⟩)
  (c:Ņ K aB qual=true) (k:Ą K (.ref f)=true):kB K x qual st f (Ĕ x qual (jV st) (eR st) (bI st) .none kV doc pm an aB ct):=⟨⟨oc,od,kV,doc,pm,an,aB,ct,cK,rfl,l,c⟩,k⟩
end
section
variable {X:Cx}
end
def gK (H H':Hp):Prop:=∀b o,H b=some o->H' b=some o
def gK.refl (H:Hp):gK H H:=fun _ _ h=>h
def B1 (J:Nat->Á->Prop)
 (turn:∀n s,J n s->Ó (Ø P w) A (pyNext gU) (fun r s1=>match r with
   |none=>R (.ok .next) s1
   |some v=>Ó (Ø P w) A (ŕ tg gU v) (fun _ s2=>Ó (Ø P w) A (assign tg ce v) (fun _ s3 =>
     Ó (Ø P w) A (forIn tests true fun c r=>if r=true then do let ok <- isTrue c ce (Ĝ c ce);pure (Ĉ ok) else pure (Ĉ r)) (fun ok s4 =>
      if ok=true then Ó (Ø P w) A (Ĝ el ce) (fun y s5=>Ó (Ø P w) A (call (.builtin "list.append") [av,y]) (fun _ s6=>∃m,m<n/\J m s6) (fun _ _=>False) s5) (fun _ _=>False) s4
      else ∃m,m<n/\J m s4) (fun _ _=>False) s3) (fun _ _=>False) s2) (fun _ _=>False) s1) (fun _ _=>False) s)
 (n:Nat) (h:J n s):ż (Ø P w) A (.compLoop (.ListComp el [⟨tg,src,tests,0⟩] sc ps) 0 gU av ce) R s:=by
 refine codeAny_loop rfl J (fun n s X=>?_) n h
 show Ó _ A ((compTurn (.ListComp el [⟨tg,src,tests,0⟩] sc ps) 0 gU av ce).onRaise (fun x=>do noteFrame x ce;theTreesLotGoes x)) _ _ s
 refine wpAny_noted ?_;rw [compTurn_list];refine À (Ŕ (À (ù (turn n s X) (fun r s1 Z=>?_) fun _ _ z=>z.elim)))
 cases r with
 |none=>exact Ì Z
 |some v =>
  refine À (ù Z (fun _ s2 W=>?_) fun _ _ z=>z.elim);refine À (ù W (fun _ s3 V=>À (ù V (fun ok s4 Y=>?_) fun _ _ z=>z.elim)) fun _ _ z=>z.elim)
  cases ok with
  |false=>exact Ì ⟨rfl,Y⟩
  |true =>
   exact À (À (ù Y (fun y s5 U=>À (ù U (fun _ s6 T=>Ì (Ì ⟨rfl,T⟩)) fun _ _ z=>z.elim)) fun _ _ z=>z.elim))
theorem rD (env:Env):∀(l:List (Str×Ĩ)) (acc:List (Str×Í)),(∀n,(n,Û)∈l->∃c,env.cells.lookup n=some c) ->
  ∃cl,(forIn l acc (fun (p:Str×Ĩ) (cs:List (Str×Í))=>(do
   if (p.2==Û)=true then do let c <- cellOf env p.1;pure (Ĉ ((p.1,c)::cs)) else pure (Ĉ cs):Sem (ForInStep (List (Str×Í))))))=pure cl /\
   ∀n c,cl.lookup n=some c↔(((n,Û)∈l/\env.cells.lookup n=some c)\/((n,Û)∉l/\acc.lookup n=some c))
 | [],acc,_=>⟨acc,rfl,fun n c=>by simp⟩
 |(x,k)::r,acc,h=>by
  rw [ŝ]
  cases Y:(k==Û) with
  |false =>
   have U:k≠.free:=by intro e;rw [e] at Y;cases Y
   obtain ⟨cl,e,q⟩:=rD env r acc fun n X=>h n (Ð _ X);refine ⟨cl,?_,fun n c=>?_⟩
   ·simp only [Ë,ü]
    exact e
   ·rw [q n c]
    have:(n,Û)∈(x,k)::r↔(n,Û)∈r:=by
     constructor
     ·intro Z
      rcases ã.mp Z with z|z
      ·injection z with _ T
       exact absurd T.symm U
      ·exact z
     ·exact Ð _
    rw [this]
  |true =>
   have S:k=.free:=by cases k<;>first|rfl|cases Y
   subst S;obtain ⟨R,W⟩:=h x Ý;obtain ⟨cl,e,q⟩:=rD env r ((x,R)::acc) fun n X=>h n (Ð _ X);refine ⟨cl,?_,fun n c=>?_⟩
   ·simp only [ĭ,cellOf,W]
    exact e
   ·rw [q n c]
    by_cases V:n=x
    ·subst V
     constructor
     ·rintro (⟨_,z⟩ | ⟨_,z⟩)
      ·exact .inl ⟨Ý,z⟩
      ·rw [û,ğ] at z
       exact .inl ⟨Ý,W.trans z⟩
     ·rintro (⟨_,z⟩ | ⟨z,_⟩)
      ·by_cases Z:(n,Û)∈r
       ·exact .inl ⟨Z,z⟩
       ·refine .inr ⟨Z,?_⟩
        rw [û,ğ];exact W.symm.trans z
      ·exact absurd Ý z
    ·have:(n,Û)∈(x,Û)::r↔(n,Û)∈r:=by
      constructor
      ·intro Z
       rcases ã.mp Z with z|z
       ·injection z with Q _
        exact absurd Q V
       ·exact z
      ·exact Ð _
     rw [this,û,beq_false_of_ne V]
def FT (h:∀n,(n,Û)∈sc.names->∃c,env.cells.lookup n=some c) :
  ∃cl,closureFor sc env=pure cl/\∀n c,cl.lookup n=some c↔((n,Û)∈sc.names/\env.cells.lookup n=some c):=by
 obtain ⟨cl,e,q⟩:=rD env sc.names [] h;refine ⟨cl,?_,fun n c=>?_⟩
 ·unfold closureFor
  exact (ě (fun z:Sem (List (Str×Í))=>z >>= fun r=>pure r) e)
 ·rw [q n c]
  simp
theorem wF (f:Str->Ĩ->Ĩ) (x:Str):∀l:List (Str×Ĩ),(l.map fun p=>(p.1,f p.1 p.2)).lookup x=(l.lookup x).map (f x)
 | []=>rfl
 |(n,k)::r=>by
  rw [ñ,û,û]
  cases h:x==n with
  |true =>
   have e:x=n:=by simpa using h
   subst e;rfl
  |false=>exact wF f x r
def vO (sc:Ł) (env:Env) (x:Str):(relabel sc env).names.lookup x=(sc.names.lookup x).map fun k=>if (k==Û&&env.scope.kind==.function&&env.kindOf x==some .cell)=true then NameKind.cell else k:=by
 rw [<- wF (fun x k=>if (k==Û&&env.scope.kind==.function&&env.kindOf x==some .cell)=true then NameKind.cell else k)]
 show List.lookup x (sc.names.map _)=_;congr 1;apply List.map_congr_left;rintro ⟨n,k⟩ _;dsimp only
 split<;>rfl
abbrev JW (X:Cx) (N:List Str) (sc:Ł) (cl:List (Str×Í)) (C:Í) (s:Á) (H:Hp) (ex:List Í) (pn:List (Í×Obj)):Cx where
 prog:=X.prog
 w:=X.w
 K:=X.K
 mg:=X.mg
 base:=X.base
 A:=X.A
 N:=N
 bM:=s
 iw:=H
 env:=compEnvC sc cl C X.env
 outer:=X.stack
 stack:=X.stack
 ex:=ex
 fn:=fun _=>false
 calm:=X.calm
 pn:=pn
 xe:=fun _ _=>False
structure L4 (X:Cx) (sc:Ł) (N:List Str) (nt:Nat) (cap:List Nat):Prop where
 kind:sc.kind=.function
 so:∀x∈sc.names,x.2≠.cell
 names:∀x∈sc.names,x.2=.local->sc.names.lookup x.1=some .local
 frees:∀x∈sc.names,x.2=.free->sc.names.lookup x.1=some .free/\(X.env.scope.names.lookup x.1=some .cell\/X.env.scope.names.lookup x.1=some .free)
 len:N.length=nt+cap.length
 zO:∀(k:Nat) j,cap[k]?=some j->∃x,X.N[j]?=some x/\N[nt+k]?=some x/\(x,Û)∈sc.names
def mI (nt:Nat) (cap:List Nat) (σ:St):St:=Ê nt none++cap.map fun j=>(σ[j]?).getD none
def PF (X:Cx) (tests:List ÿ) (t:TT):Prop :=
 ∀(Z:List (Í×Obj)) (s:Á) (σ:St) (H:Hp) (Q:Bool->Hp->Prop),Inv X Z σ H s->t σ H Q ->
  Ó (Ø X.prog X.w) X.A (forIn tests true fun c r=>if r=true then do let ok <- isTrue c X.env (Ĝ c X.env);pure (Ĉ ok) else pure (Ĉ r)) (TP X Z σ Q) X.xe s
def Ja:TT:=fun _ H Q=>Q true H
def FU:PF X [] Ja:=fun _ _ _ H _ I h=>wpAny_tests_nil ⟨H,I,h⟩
def n5 (g:TG) (nt:Nat):Prop:=∀(x:V) (o Z:St) (H:Hp) (R:St->Hp->Prop),o.length=nt->g x (o++Z) H R->g x (o++Z) H fun Y W=>(∃X:St,X.length=nt/\Y=X++Z)/\R Y W
def j5 (cap:List Nat) (σ:St):St:=cap.map fun j=>(σ[j]?).getD none
def AG (mk:Í->List V->HO) (gY:List V->Prop) (J:It) (nt:Nat) (aE:St) (g:TG) (tf:TT) (te:TE) (H:Hp) (Q:VK):Prop:=∃W:Nat->Nat->List V->Hp->Prop,(∃m,W 0 m [] H) /\
 ∀i m Z Y,W i m Z Y->(J.stop i Y/\gY Z/\∀D,Y D=none->Q (.ref D) (upd Y D (mk D Z))) \/
  (J.go i Y/\gY Z/\∃N:List V->Hp->Prop,(∀X U,N X U->∃T,T < m/\W (i+1) T X U) /\
   ∀o x S,o.length=nt->J.nU i Y x S->g x (o++aE) S fun R O=>tf R O fun b P=>if b=true then te R P fun v M=>N (Z++[v]) M else N Z P)
def CW (J:It) (nt:Nat) (aE:St) (g:TG) (tf:TT) (te:TE) (H:Hp) (Q:VK):Prop:=AG (fun _ Z=>.lst Z) (fun Z=>Z.length<=Ï) J nt aE g tf te H Q
def kX (wi:TI) (nt:Nat) (cap:List Nat) (g:TG) (tf:TT) (te:TE):TE:=fun σ H Q=>wi σ H fun J Z=>CW J nt (j5 cap σ) g tf te Z Q
section
variable {fs ex:List Í} {H H':Hp} {h h1 h2:ā} {P:Ò} {w:é}
def Un.adopt {D:Í} {o:HO} (u:Un fs ex H H' h h1) (hp:h.objs.size<=D) (hn:H' D=none):Un fs ex H (upd H' D o) h h1 where
 keep:=u.keep
 slot:=u.slot
 free:=fun b Y q n X=>by rw [aF (à (Å (Ç q) hp))];exact u.free b Y q n X
 there:=u.there
 cN:=fun b Z q=>by rw [aF (bA (u.cN b Z q) hn)];exact u.cN b Z q
 cE:=fun b Y Z q=>by rw [aF (bA (u.cE b Y Z q) hn)];exact u.cE b Y Z q
 cO:=fun b W q=>by
  obtain ⟨more,e⟩:=u.cO b W q;exact ⟨more,by rw [aF (bA e hn)];exact e⟩
def Un.but {C:Í} (u:Un fs ex H H' h h1) (hp:h.objs.size<=C) (sb:Ĳ C h1 h2):Un fs ex H H' h h2:=by
 have ne:∀b Z,h.get? b=some Z->b≠C:=fun b Z q=>à (Å (Ç q) hp);refine ⟨fun b Z q n X Y=>(sb.2 b (ne b Z q)).trans (u.keep b Z q n X Y),fun b Z q n X Y=>?_,u.free,fun b Z q Y=>?_,u.cN,u.cE,u.cO⟩
 ·obtain ⟨W,e⟩:=u.slot b Z q n X Y
  exact ⟨W,(sb.2 b (ne b Z q)).trans e⟩
 ·obtain ⟨V,e⟩:=u.there b Z q Y
  exact ⟨V,(sb.2 b (ne b Z q)).trans e⟩
def bE.but (x:bE P w H h1) (hn:H C=none) (sb:Ĳ C h1 h2):bE P w H h2:=fun a o e =>
 (x a o e).cu (fun b u Z q=>(sb.2 b (by
  rintro rfl
  rcases Z with z|z
  ·subst z;rw [hn] at e;cases e
  ·rw [hn] at z;cases z)).trans q) (fun _ q=>q) fun _ _ q=>q
def bE.adopt (x:bE P w H h) (hn:H D=none) (new:cB P w (upd H D o) h D o):bE P w (upd H D o) h:=fun b u e=>by
 by_cases Z:b=D
 ·subst Z;rw [b9] at e;cases e;exact new
 ·rw [aF Z] at e
  exact (x b u e).cu (fun c v _ q=>q) (fun c q=>by rw [aF (bA q hn)];exact q) fun c Y q=>by rw [aF (bA q hn)];exact q
end
section
variable {X:Cx} {sc:Ł} {N:List Str} {nt:Nat} {cap:List Nat} {cl:List (Str×Í)} {s:Á} {h1:ā} {H:Hp} {σ:St} {π:List (Í×Obj)} {fp:List Í} {C:Í} {t':Nat}
end
section
variable {X:Cx}
end
inductive Kn where
 |aq|bl|int|str|tup|lst|aW
 deriving DecidableEq
def jF (K:ð) (H:Hp):V->Kn->Prop
 | .aq,.aq=>True
 | .bl _,.bl=>True
 | .int _,.int=>True
 | .str _,.str=>True
 | .ref a,.tup=>∃Z,bg K H a Z
 | .ref a,.lst=>∃Z,bo K H a Z
 | .ref a,.aW=>∃Y,H a=some (.dK Y)
 |_,_=>False
noncomputable def lu:Kn->String->Bool
 | .int,"int"=>true
 | .bl,"int"=>true
 | .bl,"bool"=>true
 | .str,"str"=>true
 | .tup,"tuple"=>true
 | .lst,"list"=>true
 |_,_=>false
section
variable {X:Cx}
def Inv.kN {π:List (Í×Obj)} {σ:St} {H:Hp} {s:Á} {a:Í} {xs:List V} (I:Inv X π σ H s) (h:bg X.K H a xs):∃o,s.heap.get? a=some o/\o.cls=.type "tuple":=by
 obtain ⟨ah,r,⟨o,e,c,_⟩,_⟩:=I.tuple h;exact ⟨o,e,c⟩
def Inv.kO {π:List (Í×Obj)} {σ:St} {H:Hp} {s:Á} {a:Í} {xs:List V} (I:Inv X π σ H s) (h:bo X.K H a xs):∃o,s.heap.get? a=some o/\o.cls=.type "list":=by
 obtain ⟨ah,r,⟨o,n,e,c,_⟩,_⟩:=I.list h;exact ⟨o,e,c⟩
def Inv.kP {π:List (Í×Obj)} {σ:St} {H:Hp} {s:Á} {a:Í} {az:List (Key×V)} (I:Inv X π σ H s) (h:H a=some (.dK az)):∃o,s.heap.get? a=some o/\o.cls=.type "dict":=by
 obtain ⟨_,_,W,_,p⟩:=(show cB X.prog X.w H s.heap a (.dK az) from I.au a _ h);obtain ⟨o,U,T,Z,Y,_⟩:=p;exact ⟨o,Z,Y.1⟩
def Bz:cC X (.builtin "isinstance") (fun xs H Q=>∃x k,xs=[x,.ty "int"]/\jF X.K H x k/\Q (.bl (lu k "int")) H):=by
 intro T s σ H xs S Q I r h;obtain ⟨x,k,rfl,Z,q⟩:=h;obtain ⟨u,c,rfl,Y,rc⟩:=vals2 r;cases rc
 cases k with
 |aq =>
  cases x with
  |aq =>
   cases Y;exact IsiPair.NoneType_int ⟨.bl false,H,I.tok _,rfl,q⟩
  |_=>exact Z.elim
 |bl =>
  cases x with
  |bl b =>
   cases Y;exact IsiPair.bool_int ⟨.bl true,H,I,rfl,q⟩
  |_=>exact Z.elim
 |int =>
  cases x with
  |int i =>
   obtain ⟨t,rfl⟩:=Y;exact IsiPair.int_int ⟨.bl true,H,I,rfl,q⟩
  |_=>exact Z.elim
 |str =>
  cases x with
  |str y =>
   obtain ⟨t,rfl⟩:=Y;exact IsiPair.str_int ⟨.bl false,H,I.tok _,rfl,q⟩
  |_=>exact Z.elim
 |tup =>
  cases x with
  |ref a =>
   cases Y;obtain ⟨z,W⟩:=Z;obtain ⟨o,V,U⟩:=I.kN W;exact IsiPair.tuple_int V U ⟨.bl false,H,I.tok _,rfl,q⟩
  |_=>exact Z.elim
 |lst =>
  cases x with
  |ref a =>
   cases Y;obtain ⟨z,W⟩:=Z;obtain ⟨o,V,U⟩:=I.kO W;exact IsiPair.list_int V U ⟨.bl false,H,I.tok _,rfl,q⟩
  |_=>exact Z.elim
 |aW =>
  cases x with
  |ref a =>
   cases Y;obtain ⟨z,W⟩:=Z;obtain ⟨o,V,U⟩:=I.kP W;exact IsiPair.dict_int V U ⟨.bl false,H,I.tok _,rfl,q⟩
  |_=>exact Z.elim
def Bq:cC X (.builtin "isinstance") (fun xs H Q=>∃x k,xs=[x,.ty "bool"]/\jF X.K H x k/\Q (.bl (lu k "bool")) H):=by
 intro T s σ H xs S Q I r h;obtain ⟨x,k,rfl,Z,q⟩:=h;obtain ⟨u,c,rfl,Y,rc⟩:=vals2 r;cases rc
 cases k with
 |aq =>
  cases x with
  |aq =>
   cases Y;exact IsiPair.NoneType_bool ⟨.bl false,H,I.tok _,rfl,q⟩
  |_=>exact Z.elim
 |bl =>
  cases x with
  |bl b =>
   cases Y;exact IsiPair.bool_bool ⟨.bl true,H,I,rfl,q⟩
  |_=>exact Z.elim
 |int =>
  cases x with
  |int i =>
   obtain ⟨t,rfl⟩:=Y;exact IsiPair.int_bool ⟨.bl false,H,I.tok _,rfl,q⟩
  |_=>exact Z.elim
 |str =>
  cases x with
  |str y =>
   obtain ⟨t,rfl⟩:=Y;exact IsiPair.str_bool ⟨.bl false,H,I.tok _,rfl,q⟩
  |_=>exact Z.elim
 |tup =>
  cases x with
  |ref a =>
   cases Y;obtain ⟨z,W⟩:=Z;obtain ⟨o,V,U⟩:=I.kN W;exact IsiPair.tuple_bool V U ⟨.bl false,H,I.tok _,rfl,q⟩
  |_=>exact Z.elim
 |lst =>
  cases x with
  |ref a =>
   cases Y;obtain ⟨z,W⟩:=Z;obtain ⟨o,V,U⟩:=I.kO W;exact IsiPair.list_bool V U ⟨.bl false,H,I.tok _,rfl,q⟩
  |_=>exact Z.elim
 |aW =>
  cases x with
  |ref a =>
   cases Y;obtain ⟨z,W⟩:=Z;obtain ⟨o,V,U⟩:=I.kP W;exact IsiPair.dict_bool V U ⟨.bl false,H,I.tok _,rfl,q⟩
  |_=>exact Z.elim
def BA:cC X (.builtin "isinstance") (fun xs H Q=>∃x k,xs=[x,.ty "str"]/\jF X.K H x k/\Q (.bl (lu k "str")) H):=by
 intro T s σ H xs S Q I r h;obtain ⟨x,k,rfl,Z,q⟩:=h;obtain ⟨u,c,rfl,Y,rc⟩:=vals2 r;cases rc
 cases k with
 |aq =>
  cases x with
  |aq =>
   cases Y;exact IsiPair.NoneType_str ⟨.bl false,H,I.tok _,rfl,q⟩
  |_=>exact Z.elim
 |bl =>
  cases x with
  |bl b =>
   cases Y;exact IsiPair.bool_str ⟨.bl false,H,I.tok _,rfl,q⟩
  |_=>exact Z.elim
 |int =>
  cases x with
  |int i =>
   obtain ⟨t,rfl⟩:=Y;exact IsiPair.int_str ⟨.bl false,H,I.tok _,rfl,q⟩
  |_=>exact Z.elim
 |str =>
  cases x with
  |str y =>
   obtain ⟨t,rfl⟩:=Y;exact IsiPair.str_str ⟨.bl true,H,I,rfl,q⟩
  |_=>exact Z.elim
 |tup =>
  cases x with
  |ref a =>
   cases Y;obtain ⟨z,W⟩:=Z;obtain ⟨o,V,U⟩:=I.kN W;exact IsiPair.tuple_str V U ⟨.bl false,H,I.tok _,rfl,q⟩
  |_=>exact Z.elim
 |lst =>
  cases x with
  |ref a =>
   cases Y;obtain ⟨z,W⟩:=Z;obtain ⟨o,V,U⟩:=I.kO W;exact IsiPair.list_str V U ⟨.bl false,H,I.tok _,rfl,q⟩
  |_=>exact Z.elim
 |aW =>
  cases x with
  |ref a =>
   cases Y;obtain ⟨z,W⟩:=Z;obtain ⟨o,V,U⟩:=I.kP W;exact IsiPair.dict_str V U ⟨.bl false,H,I.tok _,rfl,q⟩
  |_=>exact Z.elim
def Bo:cC X (.builtin "isinstance") (fun xs H Q=>∃x k,xs=[x,.ty "tuple"]/\jF X.K H x k/\Q (.bl (lu k "tuple")) H):=by
 intro T s σ H xs S Q I r h;obtain ⟨x,k,rfl,Z,q⟩:=h;obtain ⟨u,c,rfl,Y,rc⟩:=vals2 r;cases rc
 cases k with
 |aq =>
  cases x with
  |aq =>
   cases Y;exact IsiPair.NoneType_tuple ⟨.bl false,H,I.tok _,rfl,q⟩
  |_=>exact Z.elim
 |bl =>
  cases x with
  |bl b =>
   cases Y;exact IsiPair.bool_tuple ⟨.bl false,H,I.tok _,rfl,q⟩
  |_=>exact Z.elim
 |int =>
  cases x with
  |int i =>
   obtain ⟨t,rfl⟩:=Y;exact IsiPair.int_tuple ⟨.bl false,H,I.tok _,rfl,q⟩
  |_=>exact Z.elim
 |str =>
  cases x with
  |str y =>
   obtain ⟨t,rfl⟩:=Y;exact IsiPair.str_tuple ⟨.bl false,H,I.tok _,rfl,q⟩
  |_=>exact Z.elim
 |tup =>
  cases x with
  |ref a =>
   cases Y;obtain ⟨z,W⟩:=Z;obtain ⟨o,V,U⟩:=I.kN W;exact IsiPair.tuple_tuple V U ⟨.bl true,H,I,rfl,q⟩
  |_=>exact Z.elim
 |lst =>
  cases x with
  |ref a =>
   cases Y;obtain ⟨z,W⟩:=Z;obtain ⟨o,V,U⟩:=I.kO W;exact IsiPair.list_tuple V U ⟨.bl false,H,I.tok _,rfl,q⟩
  |_=>exact Z.elim
 |aW =>
  cases x with
  |ref a =>
   cases Y;obtain ⟨z,W⟩:=Z;obtain ⟨o,V,U⟩:=I.kP W;exact IsiPair.dict_tuple V U ⟨.bl false,H,I.tok _,rfl,q⟩
  |_=>exact Z.elim
def Br:cC X (.builtin "isinstance") (fun xs H Q=>∃x k,xs=[x,.ty "list"]/\jF X.K H x k/\Q (.bl (lu k "list")) H):=by
 intro T s σ H xs S Q I r h;obtain ⟨x,k,rfl,Z,q⟩:=h;obtain ⟨u,c,rfl,Y,rc⟩:=vals2 r;cases rc
 cases k with
 |aq =>
  cases x with
  |aq =>
   cases Y;exact IsiPair.NoneType_list ⟨.bl false,H,I.tok _,rfl,q⟩
  |_=>exact Z.elim
 |bl =>
  cases x with
  |bl b =>
   cases Y;exact IsiPair.bool_list ⟨.bl false,H,I.tok _,rfl,q⟩
  |_=>exact Z.elim
 |int =>
  cases x with
  |int i =>
   obtain ⟨t,rfl⟩:=Y;exact IsiPair.int_list ⟨.bl false,H,I.tok _,rfl,q⟩
  |_=>exact Z.elim
 |str =>
  cases x with
  |str y =>
   obtain ⟨t,rfl⟩:=Y;exact IsiPair.str_list ⟨.bl false,H,I.tok _,rfl,q⟩
  |_=>exact Z.elim
 |tup =>
  cases x with
  |ref a =>
   cases Y;obtain ⟨z,W⟩:=Z;obtain ⟨o,V,U⟩:=I.kN W;exact IsiPair.tuple_list V U ⟨.bl false,H,I.tok _,rfl,q⟩
  |_=>exact Z.elim
 |lst =>
  cases x with
  |ref a =>
   cases Y;obtain ⟨z,W⟩:=Z;obtain ⟨o,V,U⟩:=I.kO W;exact IsiPair.list_list V U ⟨.bl true,H,I,rfl,q⟩
  |_=>exact Z.elim
 |aW =>
  cases x with
  |ref a =>
   cases Y;obtain ⟨z,W⟩:=Z;obtain ⟨o,V,U⟩:=I.kP W;exact IsiPair.dict_list V U ⟨.bl false,H,I.tok _,rfl,q⟩
  |_=>exact Z.elim
end
def kY (p:Í) (Ts:List String):ā->Prop:=fun h=>h.get? p=some { cls:=.type "tuple",data:=.seq (Ts.map Value.type).toArray }
theorem xj:∀{Ts:List String} {us:List Ã},Vals (Ts.map V.ty) us->us=Ts.map Value.type
 | [],_,.nil=>rfl
 |_::r,_,.cons h t=>by
  cases h;rw [xj t];rfl
def FV (t:TA):TE:=fun σ H Q=>t σ H fun Z Y=>∃X:List String,Z=X.map V.ty/\Z.length<=Ï/\∀p,Y p=none->Q (.ref p) (upd Y p (.ext (kY p X)))
section
variable {X:Cx} {es:List ÿ} {t:TA} {pos:Pos}
def Dj {x1} (h:PA X es t):PE X (.Tuple es x1 pos) (FV t):=by
 intro V s σ H Q I U;refine wpAny_Tuple_spliced (aL (h pos V s σ H _ I U) fun P Z ⟨O,Y,W,r,T,e,z,q⟩=>⟨by rw [<- r.length];exact z,?_⟩);subst e;have S:=xj r;subst S;have R:Y Z.heap.objs.size=none:=W.au.fresh (MK _);refine ⟨.ref Z.heap.objs.size,upd Y Z.heap.objs.size (.ext (kY Z.heap.objs.size T)),W.laid (t':=Z.toks) (fun b u e=>Â _ e) (MK _) ?_,rfl,q _ R⟩;refine ⟨Ñ _ rfl,⟨_,Ñ _ rfl⟩,fun N M e k=>k _ e⟩
def FW {K:ð} {π:List (Í×Obj)} {σ:St} {H:Hp} {s:Á} {x:V} {u:Ã} {k:Kn} (I:Inv X π σ H s) (hk:jF X.K H x k) (r:RelV x u) :
  ∃Tx vs,AnswersAll (fun s=>s.TypeIs u Tx) u [.type "tuple",.type "list"] vs/\s.TypeIs u Tx/\vs.any id=(decide (k=.tup)||decide (k=.lst)):=by
 cases k with
 |aq =>
  cases x with
  |aq=>cases r;exact ⟨"NoneType",[false,false],.cons (.of_false_none (by decide +kernel) Ġ F.sub_NoneType_tuple) (.cons (.of_false_none (by decide +kernel) ħ F.sub_NoneType_list) .nil),rfl,rfl⟩
  |_=>exact hk.elim
 |bl =>
  cases x with
  |bl b=>cases r;exact ⟨"bool",[false,false],.cons (.of_false_bool (by decide +kernel) Ġ F.sub_bool_tuple) (.cons (.of_false_bool (by decide +kernel) ħ F.sub_bool_list) .nil),rfl,rfl⟩
  |_=>exact hk.elim
 |int =>
  cases x with
  |int b=>obtain ⟨t,rfl⟩:=r;exact ⟨"int",[false,false],.cons (.of_false_int (by decide +kernel) Ġ F.sub_int_tuple) (.cons (.of_false_int (by decide +kernel) ħ F.sub_int_list) .nil),rfl,rfl⟩
  |_=>exact hk.elim
 |str =>
  cases x with
  |str b=>obtain ⟨t,rfl⟩:=r;exact ⟨"str",[false,false],.cons (.of_false_str (by decide +kernel) Ġ F.sub_str_tuple) (.cons (.of_false_str (by decide +kernel) ħ F.sub_str_list) .nil),rfl,rfl⟩
  |_=>exact hk.elim
 |tup =>
  cases x with
  |ref a =>
   cases r;obtain ⟨z,Z⟩:=hk;exact ⟨"tuple",[true,false],.cons (.of_true Ġ F.sub_tuple_tuple) (.cons (.of_false_tuple (by decide +kernel) ħ F.sub_tuple_list) .nil),I.kN Z,rfl⟩
  |_=>exact hk.elim
 |lst =>
  cases x with
  |ref a =>
   cases r;obtain ⟨z,Z⟩:=hk;exact ⟨"list",[false,true],.cons (.of_false_list (by decide +kernel) Ġ F.sub_list_tuple) (.cons (.of_true ħ F.sub_list_list) .nil),I.kO Z,rfl⟩
  |_=>exact hk.elim
 |aW =>
  cases x with
  |ref a =>
   cases r;obtain ⟨z,Z⟩:=hk;exact ⟨"dict",[false,false],.cons (.of_false_dict (by decide +kernel) Ġ F.sub_dict_tuple) (.cons (.of_false_dict (by decide +kernel) ħ F.sub_dict_list) .nil),I.kP Z,rfl⟩
  |_=>exact hk.elim
def Dl {bs:List Bool} (r:Vals (bs.map V.bl) ah):TruthOf X.prog X.w A (fun i v=>ah.toArray[i]?=some v) (fun i=>bs.getD i false):=by
 intro i v s Q E T S;have Z:ah[i]?=some v:=by simpa using T
 have hi:i<ah.length:=(É.mp Z).1;have Y:i<bs.length:=by
  have e:=r.length;rw [å] at e;omega
 have R:(bs.map V.bl)[i]?=some (.bl (bs[i])):=by rw [ò,æ Y];rfl
 obtain ⟨u,W,P⟩:=Vals.get r R;rw [Z] at W;cases W;cases P;have e:bs.getD i false=bs[i]:=by simp [List.getD,æ Y]
 have U:Q (bs.getD i false) s:=S;rw [e] at U;exact Ĺ U
def range_all (bs:List Bool):(ĸ bs.length).all (fun i=>bs.getD i false)=bs.all id:=by
 rw [Ĵ,Đ,Đ];constructor
 ·intro h b Z
  obtain ⟨i,hi,e⟩:=List.getElem_of_mem Z;have:=h i (Ń.mpr hi);simpa [List.getD,æ hi,e] using this
 ·intro h i hi
  have hi:=Ń.mp hi;have:=h _ (List.getElem_mem hi);simpa [List.getD,æ hi] using this
def Dp (hc:X.calm=true):cC X (.builtin "all") (fun xs H Q=>∃(p:Í) (bs:List Bool),xs=[.ref p]/\bo X.K H p (bs.map V.bl)/\Q (.bl (bs.all id)) H):=by
 intro O s σ H xs N Q I r h;obtain ⟨p,bs,rfl,W,q⟩:=h;obtain ⟨u,rfl,U⟩:=vals1 r;cases U;obtain ⟨ah,Y,Z,M⟩:=I.list W;have T:ah.toArray.size=bs.length:=by
  have e:=Y.length;rw [å] at e;simpa using e.symm
 have S:X.A.in1.handled=none:=I.ok.hd hc;refine call_all_walk (wpAny_pyIter_list Z.isList ?_);have old:p≠s.heap.objs.size:=à (by obtain ⟨o,n,e,_⟩:=Z;exact Ç e);refine ⟨s.heap.objs.size,[s.heap.objs.size,p],[s.heap.objs.size],ah.toArray.size,_,_,fun i=>bs.getD i false,rfl,Walks.list S s.heap.objs.size p old ah.toArray,⟨⟨_,Ñ _ rfl,rfl,rfl⟩,Z.isList.at fun o e=>Â _ e⟩,Dl Y,fun L R P=>?_⟩;rw [T,range_all];exact ⟨.bl _,H,I.kept (t':=R) fun b o e=>P b o (by simpa using à (Ç e)) (Â _ e),rfl,q⟩
end
def lA:Key->ņ
 | .inl i=>.int i
 | .inr x=>.str x
mutual
def DV (K:ð) (Z:Í->Prop) (H:Hp):ņ->V->Prop
 | .none,v=>v=.aq
 | .bool b,v=>v=.bl b
 | .int i,v=>v=.int i
 | .str x,v=>v=.str x
 | .tuple X,v=>∃a Y,v=.ref a/\bg K H a Y/\aj K Z H X Y
 | .list X,v=>∃a Y,v=.ref a/\¬ Z a/\H a=some (.lst Y)/\aj K Z H X Y
 | .dict U,v=>∃a W,v=.ref a/\¬ Z a/\H a=some (.dK W)/\∃l:List (Key×Int),W=l.map (fun p=>(p.1,V.int p.2))/\U=l.map fun p=>(lA p.1,PyData.int p.2)
def aj (K:ð) (Z:Í->Prop) (H:Hp):List ņ->List V->Prop
 | [],Y=>Y=[]
 |d::X,Y=>∃v r,Y=v::r/\DV K Z H d v/\aj K Z H X r
end
structure zQ (K:ð) (Z:Í->Prop) (H H':Hp):Prop where
 tup:∀b xs,bg K H b xs->bg K H' b xs
 lst:∀b xs,¬ Z b->H b=some (.lst xs)->H' b=some (.lst xs)
 aW:∀b es,¬ Z b->H b=some (.dK es)->H' b=some (.dK es)
mutual
theorem DV.cu {K:ð} {Z:Í->Prop} {H H':Hp} (S:zQ K Z H H'):∀{d:ņ} {v:V},DV K Z H d v->DV K Z H' d v
 | .none,_,h=>h
 | .bool _,_,h=>h
 | .int _,_,h=>h
 | .str _,_,h=>h
 | .tuple T,v,h=>by
  simp only [DV] at h |-;obtain ⟨a,Y,e,X,r⟩:=h;exact ⟨a,Y,e,S.tup a Y X,aj.cu S r⟩
 | .list T,v,h=>by
  simp only [DV] at h |-;obtain ⟨a,Y,e,W,X,r⟩:=h;exact ⟨a,Y,e,W,S.lst a Y W X,aj.cu S r⟩
 | .dict R,v,h=>by
  simp only [DV] at h |-;obtain ⟨a,U,e,W,X,r⟩:=h;exact ⟨a,U,e,W,S.aW a U W X,r⟩
theorem aj.cu {K:ð} {Z:Í->Prop} {H H':Hp} (S:zQ K Z H H'):∀{ds:List ņ} {vs:List V},aj K Z H ds vs->aj K Z H' ds vs
 | [],_,h=>h
 |d::ds,vs,h=>by
  simp only [aj] at h |-;obtain ⟨v,r,e,Y,X⟩:=h;exact ⟨v,r,e,DV.cu S Y,aj.cu S X⟩
end
mutual
theorem DV.more {K:ð} {Z:Í->Prop} {H:Hp} {p:Í} (hp:H p=none):∀{d:ņ} {v:V},DV K Z H d v->DV K (fun a=>Z a\/a=p) H d v
 | .none,_,h=>h
 | .bool _,_,h=>h
 | .int _,_,h=>h
 | .str _,_,h=>h
 | .tuple U,v,h=>by
  simp only [DV] at h |-;obtain ⟨a,X,e,Y,r⟩:=h;exact ⟨a,X,e,Y,aj.more hp r⟩
 | .list U,v,h=>by
  simp only [DV] at h |-;obtain ⟨a,X,e,W,Y,r⟩:=h;exact ⟨a,X,e,(fun z=>z.elim W fun e=>by subst e;rw [hp] at Y;cases Y),Y,aj.more hp r⟩
 | .dict S,v,h=>by
  simp only [DV] at h |-;obtain ⟨a,T,e,W,Y,r⟩:=h;exact ⟨a,T,e,(fun z=>z.elim W fun e=>by subst e;rw [hp] at Y;cases Y),Y,r⟩
theorem aj.more {K:ð} {Z:Í->Prop} {H:Hp} {p:Í} (hp:H p=none):∀{ds:List ņ} {vs:List V},aj K Z H ds vs->aj K (fun a=>Z a\/a=p) H ds vs
 | [],_,h=>h
 |d::ds,vs,h=>by
  simp only [aj] at h |-;obtain ⟨v,r,e,Y,X⟩:=h;exact ⟨v,r,e,DV.more hp Y,aj.more hp X⟩
end
mutual
theorem DV.less {K:ð} {Z Z':Í->Prop} {H:Hp} (gp:∀a,Z' a->Z a):∀{d:ņ} {v:V},DV K Z H d v->DV K Z' H d v
 | .none,_,h=>h
 | .bool _,_,h=>h
 | .int _,_,h=>h
 | .str _,_,h=>h
 | .tuple U,v,h=>by
  simp only [DV] at h |-;obtain ⟨a,X,e,Y,r⟩:=h;exact ⟨a,X,e,Y,aj.less gp r⟩
 | .list U,v,h=>by
  simp only [DV] at h |-;obtain ⟨a,X,e,W,Y,r⟩:=h;exact ⟨a,X,e,fun z=>W (gp _ z),Y,aj.less gp r⟩
 | .dict S,v,h=>by
  simp only [DV] at h |-;obtain ⟨a,T,e,W,Y,r⟩:=h;exact ⟨a,T,e,fun z=>W (gp _ z),Y,r⟩
theorem aj.less {K:ð} {Z Z':Í->Prop} {H:Hp} (gp:∀a,Z' a->Z a):∀{ds:List ņ} {vs:List V},aj K Z H ds vs->aj K Z' H ds vs
 | [],_,h=>h
 |d::ds,vs,h=>by
  simp only [aj] at h |-;obtain ⟨v,r,e,Y,X⟩:=h;exact ⟨v,r,e,DV.less gp Y,aj.less gp X⟩
end
noncomputable def JX:ņ->Kn
 | .none=>.aq
 | .bool _=>.bl
 | .int _=>.int
 | .str _=>.str
 | .tuple _=>.tup
 | .list _=>.lst
 | .dict _=>.aW
section
variable {X:Cx} {π:List (Í×Obj)} {σ:St} {H:Hp} {s:Á} {Z:Í->Prop}
theorem oF:∀{l:List (Key×Int)} {vs:List (Key×Ã)} {es:List DictEntry},KV (l.map fun p=>(p.1,V.int p.2)) vs->Pairs (o7 P w) es vs ->
  ReadsAll h (es.map (·.key)) ((l.map fun p=>(lA p.1,PyData.int p.2)).map (·.1)) []/\ReadsAll h (es.map (·.val)) ((l.map fun p=>(lA p.1,PyData.int p.2)).map (·.2)) []
 | [],_,_,.nil,.nil=>⟨.nil,.nil⟩
 |(k,i)::l,_,_,.cons (b:=q) r t,.cons (e:=e) U T S=>by
  obtain ⟨a1,a2⟩:=oF (h:=h) t S;obtain ⟨Z,X,Y⟩:=r;have Z:k=q.1:=Z;have Y:q.2=Value.int i X:=Y;refine ⟨?_,?_⟩
  ·have W:sU q.1 e.key=true:=U
   rw [<- Z] at W;have:Reads h e.key (lA k) []:=by
    rcases ie W with ⟨j,u,e1,e2⟩ | ⟨x,u,e1,e2⟩
    ·rw [e1,e2];exact .int j u
    ·rw [e1,e2];exact .str x u
   exact ReadsAll.cons (as:=[]) (bs:=[]) this a1
  ·have:Reads h e.val (.int i) []:=by rw [T,Y];exact .int i X
   exact ReadsAll.cons (as:=[]) (bs:=[]) this a2
mutual
theorem DV.reads (I:Inv X π σ H s):∀{d:ņ} {v:V} {u:Ã},DV X.K Z H d v->RelV v u->∃as,Reads s.heap u d as
 | .none,v,u,h,r=>by
  have e:v=.aq:=h;subst e;cases r;exact ⟨[],.none⟩
 | .bool b,v,u,h,r=>by
  have e:v=.bl b:=h;subst e;cases r;exact ⟨[],.bool b⟩
 | .int i,v,u,h,r=>by
  have e:v=.int i:=h;subst e;obtain ⟨t,rfl⟩:=r;exact ⟨[],.int i t⟩
 | .str x,v,u,h,r=>by
  have e:v=.str x:=h;subst e;obtain ⟨t,rfl⟩:=r;exact ⟨[],.str x t⟩
 | .tuple R,v,u,h,r=>by
  simp only [DV] at h;obtain ⟨a,Q,e,Y,W⟩:=h;subst e;cases r;obtain ⟨ah,U,⟨o,e,c,n,T⟩,_⟩:=I.tuple Y;obtain ⟨as,S⟩:=aj.reads I W U;exact ⟨as,.tuple e c T (by simpa using S)⟩
 | .list R,v,u,h,r=>by
  simp only [DV] at h;obtain ⟨a,Q,e,_,Y,W⟩:=h;subst e;cases r;obtain ⟨ah,U,⟨o,n,e,c,_,T⟩,_⟩:=I.list (bo.of Y);obtain ⟨as,S⟩:=aj.reads I W U;exact ⟨a::as,.list e c T (by simpa using S)⟩
 | .dict L,v,u,h,r=>by
  simp only [DV] at h;obtain ⟨a,J,e,_,Y,l,e1,e2⟩:=h;subst e e1 e2;cases r;obtain ⟨_,_,G,P,o,F,E,g1,g2,g3,_,O,_⟩:=(show cB X.prog X.w H s.heap a (.dK _) from I.au a _ Y);obtain ⟨N,M⟩:=oF (h:=s.heap) P O;exact ⟨a::[]++[],.dict g1 g2.1 g3 N M⟩
theorem aj.reads (I:Inv X π σ H s):∀{ds:List ņ} {vs:List V} {us:List Ã},aj X.K Z H ds vs->Vals vs us->∃as,ReadsAll s.heap us ds as
 | [],vs,us,h,r=>by
  have e:vs=[]:=h;subst e;cases r;exact ⟨[],.nil⟩
 |d::ds,vs,us,h,r=>by
  obtain ⟨v,S,e,Y,W⟩:=h;subst e
  cases r with
  |cons U T =>
   obtain ⟨as,a1⟩:=DV.reads I Y U;obtain ⟨bs,a2⟩:=aj.reads I W T;exact ⟨as++bs,.cons a1 a2⟩
end
def wq (hr:bc k X.A):cC X (.builtin "repr") (fun xs H Q=>∃(x:V) (d:ņ) (Z:Í->Prop),xs=[x]/\DV X.K Z H d x/\d.showable=true/\(d.hasDict=false\/JX d=.aW)/\d.depth<=100/\d.shown.length<=Ï/\Q (.str d.shown) H):=by
 intro M s σ H xs us Q I r h;obtain ⟨x,d,Z,rfl,W,hs,R,uT,U,q⟩:=h;obtain ⟨u,rfl,O⟩:=vals1 r;have N:X.A.units+(d.depth+1)<cLine:=by have:=hr.un;omega
 obtain ⟨as,Y⟩:=W.reads I O;have go:∀a,u=.ref a->(d.hasDict=true->Ĥ∉as)->Ó (Ø X.prog X.w) X.A (call (.builtin "repr") [u]) (EP X M σ Q) X.xe s:=fun a e L=>by
  subst e;exact repr_of_reads' Y hs L hr.gd N (fun _ _ e=>e) (fun J t T S=>⟨.str d.shown,H,I.kept (t':=T) S,⟨t,rfl⟩,q⟩) U
 cases d with
 |none =>
  cases Y;exact P.repr_of_none ⟨.str _,H,I.tok _,⟨_,rfl⟩,q⟩
 |bool b =>
  cases Y;exact P.repr_of_bool ⟨.str _,H,I.tok _,⟨_,rfl⟩,q⟩
 |int i =>
  cases Y;exact P.repr_of_int (by simpa [PyData.showable] using hs) ⟨.str _,H,I.tok _,⟨_,rfl⟩,q⟩
 |str y =>
  cases Y;exact P.repr_of_str ⟨.str _,H,I.tok _,⟨_,rfl⟩,q⟩ U
 |list G =>
  cases Y with
  |list F E D C =>
   refine go _ rfl fun z=>?_
   rcases R with e|e
   ·rw [e] at z;cases z
   ·cases e
 |tuple G =>
  cases Y with
  |tuple F E D C =>
   refine go _ rfl fun z=>?_
   rcases R with e|e
   ·rw [e] at z;cases z
   ·cases e
 |dict az =>
  simp only [DV] at W;obtain ⟨a,es,e,_,B,l,e1,e2⟩:=W;subst e e1 e2;cases O;obtain ⟨_,v,vs,n,o,lS,ep,g1,g2,g3,_,m,_⟩:=(show cB X.prog X.w H s.heap a (.dK _) from I.au a _ B);obtain ⟨j,g⟩:=oF (h:=s.heap) n m;have f:Reads s.heap (.ref a) (.dict (l.map fun p=>(lA p.1,PyData.int p.2))) (a::[]++[]):=.dict g1 g2.1 g3 j g;refine repr_of_reads' f hs (fun _ c=>?_) hr.gd N (fun _ _ e=>e) (fun J t T S=>⟨.str _,H,I.kept (t':=T) S,⟨t,rfl⟩,q⟩) U;have e:Ĥ=a:=by simpa using c
  subst e;simp at v
def zR (K:ð) (neg:Bool):R2:=fun x y H Q=>∃(d e:ņ) (Z:Í->Prop),DV K Z H d x/\DV K Z H e y/\d.canLay0=true/\e.canLay0=true/\min d.depth e.depth<=100/\Q (.bl (if neg then !PyData.eqv d e else ý d e)) H
def FX (hr:bc k X.A):bp X (Ā .Eq) (zR X.K false):=by
 intro O s σ H x y v u Q I Y W h;obtain ⟨d,e,Z,V,U,T,S,N,q⟩:=h;obtain ⟨as,R⟩:=V.reads I Y;obtain ⟨bs,P⟩:=U.reads I W;exact SeqAt.eqOverData _ _ _ _ _ _ _ _ _ _ _ _ R P T S (by have:=hr.un;omega) ⟨.bl _,H,I,rfl,q⟩
def FY (hr:bc k X.A):bp X (Ā .NotEq) (zR X.K true):=by
 intro O s σ H x y v u Q I Y W h;obtain ⟨d,e,Z,V,U,T,S,N,q⟩:=h;obtain ⟨as,R⟩:=V.reads I Y;obtain ⟨bs,P⟩:=U.reads I W;exact SeqAt.neOverData _ _ _ _ _ _ _ _ _ _ _ _ R P T S (by have:=hr.un;omega) ⟨.bl _,H,I,rfl,q⟩
end
end L2
namespace HT
open PySem PySem.Spec PyProof.Rows
section
variable {prog:Ò} {w:é} {A:Ö} {E:Ã->Á->Prop} {s:Á}
end
end HT
namespace L2
open PySem PySem.Spec PyProof.Rows
def gK.JZ {K:ð} {H H':Hp} {a:Í} {xs:List V} (e:gK H H') (h:bg K H a xs):bg K H' a xs:=by
 rcases h with (h | ⟨o,h⟩)|h
 ·exact .inl (.inl (e _ _ h))
 ·exact .inl (.inr ⟨o,e _ _ h⟩)
 ·exact .inr h
theorem gK.upd (hn:H p=none):gK H (upd H p o):=fun b u e=>by rw [aF (bA e hn)];exact e
def kh (K:ð) (H:Hp) (ys:List V) (Q:VK):Prop:=∀a Z,gK H Z->bg K Z a ys->Q (.ref a) Z
def kh.here {K:ð} {H:Hp} {ys:List V} {Q:VK} {a:Í} (h:kh K H ys Q) (hs:bg K H a ys):Q (.ref a) H:=h a H (gK.refl H) hs
def kh.new {K:ð} {H:Hp} {ys:List V} {Q:VK} {p:Í} (h:kh K H ys Q) (hn:H p=none):Q (.ref p) (L2.upd H p (.tup ys)):=h p _ (gK.upd hn) (bg.of b9)
section
variable {X:Cx} {e:ÿ} {te:TE} {pos p2 p3 p4:Pos}
def Hr (K:ð):R2:=fun x y H Q=>∃a b Z Y,x=.ref a/\y=.ref b/\bg K H a Z/\bg K H b Y/\Z.length+Y.length<=Ï/\kh K H (Z++Y) Q
def Ep:bp X (č .Add) (Hr X.K):=by
 intro M s σ H x y v u Q I W V h;obtain ⟨a,b,U,L,rfl,rfl,Z,Y,J,q⟩:=h;by_cases T:U=[]
 ·subst T
  cases W;cases V;obtain ⟨ah,G,F,_⟩:=I.tuple Z;obtain ⟨E,t,p2,_⟩:=I.tuple Y;cases G;obtain ⟨⟨cls,D,data,C⟩,S,R,n,P⟩:=id F;obtain ⟨⟨r,B,data2,A⟩,O,N,z,hd2⟩:=id p2;simp only at R P N hd2;subst R P N hd2;exact concat_meets ⟨_,S,rfl⟩ ⟨_,O,rfl⟩ noFill_tuple_add seq_tuple_add Š Ŝ (Œ _ _)
   (tuple_addW0 a b _ E.toArray n z D B C A (by simp)) ⟨S,O,⟨.ref b,H,I,rfl,q.here Y⟩⟩
 ·refine Eo M s σ H _ _ v u Q I W V ⟨a,b,U,L,rfl,rfl,Z,Y,T,J,fun e=>?_,fun _ p w=>q.new w⟩
  subst e;rw [Ć] at q;exact q.here Z
end
end L2
namespace HZ
open PySem PySem.Spec PyProof.Rows
structure gZ (P:Ò) (w:é) (A:Ö) (i l:Í) (tn:Nat->ā->Prop) (val:Nat->Option Ã):Prop where
 keep:∀k h h',tn k h->(∀o,h.get? i=some o->h'.get? i=some o)->(∀o,h.get? l=some o->h'.get? l=some o)->tn k h'
 item:∀k (s:Á) (Q:Ã->Á->Prop) (E:Ã->Á->Prop) x,tn k s.heap->val k=some x->(∀h',tn (k+1) h'->Ĳ i s.heap h'->Q x { s with heap:=h' })->Ó (Ø P w) A (ä (.ref i)) Q E s
 stop:∀k (s:Á) (Q:Ã->Á->Prop) (E:Ã->Á->Prop),tn k s.heap->val k=none->(∀h' e,Heap.ExtBut i s.heap h'->(∃o,h'.get? e=some o/\o.cls=.type "StopIteration")->E (.ref e) { s with heap:=h' })->Ó (Ø P w) A (ä (.ref i)) Q E s
 obj:∀k h,tn k h->∃o,h.get? i=some o/\∀v,o.data≠.cell v
section
variable {P:Ò} {w:é} {A:Ö} {E:Ã->Á->Prop} {s:Á}
def B2 (g:s.heap.IsTupleIter it t k) (gt:s.heap.IsTuple t ah) (gx:ah[k]?=some x)
 (q:∀h',h'.IsTupleIter it t (k+1)->Ĳ it s.heap h'->Q x { s with heap:=h' }):Ó (Ø P w) A (ä (.ref it)) Q E s:=by
 obtain ⟨o,go,Y,Z⟩:=id g;obtain ⟨ol,X,_,nl,W⟩:=gt;unfold ä;refine À (ĩ (name:=Str.ofString "__next__") g.typeIs ĝ
  (Ī ĝ g.typeIs F.entry_tuple_iterator_next ?_ (F.args_tuple_iterator_next_1 _)))
 show Ó _ _ (field (.ref it) 0 >>= _) _ _ _;refine À (ę go Z (x:=.ref t) rfl ?_)
 show Ó _ _ (if (Ė t==Value.none)=true then _ else _) _ _ _
 rw [î (fun z:(Ė t==Value.none)=true=>Î z)];show Ó _ _ (field (.ref it) 1 >>= _) _ _ _;refine À (ę go Z (x:=.int k 0) rfl ?_);show Ó _ _ (seqItems? (.ref t) >>= _) _ _ _;refine À (Ď X W ?_);simp only [Int.toNat_natCast,gx];refine À (wpAny_setField go Z (by simp) (Ì ⟨x,rfl,Ì (q _ ?_ (Heap.SameBut.update ..))⟩));exact ⟨_,Ŭ _ go (Obj.isFreed_of_fields (Obj.data_mapFields Z _)),(Obj.cls_mapFields ..).trans Y,by rw [Obj.data_mapFields Z];simp [Ũ]⟩
def Bp (gh:A.handled=none) (g:s.heap.IsTupleIter it t k) (gt:s.heap.IsTuple t ah) (gx:ah[k]?=none)
 (q:∀h' e,Heap.ExtBut it s.heap h'->(∃o,h'.get? e=some o/\o.cls=.type "StopIteration")->E (.ref e) { s with heap:=h' }):Ó (Ø P w) A (ä (.ref it)) Q E s:=by
 obtain ⟨o,go,W,Z⟩:=id g;obtain ⟨ol,Y,_,nl,X⟩:=gt;unfold ä;refine À (ĩ (name:=Str.ofString "__next__") g.typeIs ĝ
  (Ī ĝ g.typeIs F.entry_tuple_iterator_next ?_ (F.args_tuple_iterator_next_1 _)))
 show Ó _ _ (field (.ref it) 0 >>= _) _ _ _;refine À (ę go Z (x:=.ref t) rfl ?_)
 show Ó _ _ (if (Ė t==Value.none)=true then _ else _) _ _ _
 rw [î (fun z:(Ė t==Value.none)=true=>Î z)];show Ó _ _ (field (.ref it) 1 >>= _) _ _ _;refine À (ę go Z (x:=.int k 0) rfl ?_);show Ó _ _ (seqItems? (.ref t) >>= _) _ _ _;refine À (Ď Y X ?_);simp only [Int.toNat_natCast,gx];refine À (wpAny_rule (À (wpAny_setField go Z (by simp) ?_)));show Ó _ _ (newExc (.type "StopIteration") [] >>= _) _ _ (_:Á);refine À ?_;simp only [newExc,newTuple];refine À (ĺ ?_ (by size_fits))
 refine À (m:=firstArgMember _ _) (wpAny_of_eq (a:=Value.none) (by first|rfl | (unfold firstArgMember;rfl)) ?_)
 refine ĺ ?_ (by size_fits);simp only [raiseNew];refine À (wpAny_handled ?_)
 first|rw [gh]|rw [show A.in1.handled=none from gh]
 refine À (Ì (wpAny_throw ?_));exact q _ _ (((Heap.SameBut.update ..).extBut.push _).push _) ⟨_,Ñ _ rfl,rfl⟩
def Er (gh:A.handled=none) (i l:Í) (ah:Array Ã):gZ P w A i l (fun k h=>h.IsTupleIter i l k/\h.IsTuple l ah) (fun k=>ah[k]?) where
 keep:=fun k h Y Z U T=>⟨Z.1.at U,by obtain ⟨o,e,r⟩:=Z.2;exact ⟨o,T o e,r⟩⟩
 item:=fun k s Q E x Z e q=>B2 Z.1 Z.2 e fun Y g X=>by
  by_cases W:l=i
  ·exfalso
   subst W;obtain ⟨o,e1,S,_⟩:=Z.1;obtain ⟨R,e2,V,_⟩:=Z.2;rw [e1] at e2;cases e2;rw [S] at V;simp at V
  ·obtain ⟨o,e2,r⟩:=Z.2
   exact q Y ⟨g,o,(X.2 l W).trans e2,r⟩ X
 stop:=fun k s Q E Z e q=>Bp gh Z.1 Z.2 e q
 obj:=fun k h Z=>by
  obtain ⟨o,e,_,d⟩:=Z.1;exact ⟨o,e,fun v z=>by rw [d] at z;cases z⟩
def Es (gh:A.handled=none) (i l:Í) (ah:Array Ã):gZ P w A i l (fun k h=>h.IsListIter i l k/\h.IsList l ah) (fun k=>ah[k]?) where
 keep:=fun k h Y Z U T=>⟨Z.1.at U,Z.2.at T⟩
 item:=fun k s Q E x Z e q=>wpAny_nextOf_list_item Z.1 Z.2 e fun Y g X=>by
  by_cases W:l=i
  ·exfalso
   subst W;obtain ⟨o,e1,S,_⟩:=Z.1;obtain ⟨R,e2,V,_⟩:=Z.2;rw [e1] at e2;cases e2;rw [S] at V;simp at V
  ·exact q Y ⟨g,Z.2.at fun o e2=>(X.2 l W).trans e2⟩ X
 stop:=fun k s Q E Z e q=>wpAny_nextOf_list_end gh Z.1 Z.2 e q
 obj:=fun k h Z=>by
  obtain ⟨o,e,_,d⟩:=Z.1;exact ⟨o,e,fun v z=>by rw [d] at z;cases z⟩
structure Apart (z ti to j1 j2 m1 m2:Í):Prop where
 a1:ti≠z
 a2:to≠z
 a3:j1≠z
 a4:j2≠z
 a5:ti≠to
 a6:ti≠j1
 a7:ti≠j2
 a8:to≠j1
 a9:to≠j2
 b0:j1≠j2
 b1:m1≠z
 b2:m1≠to
 b3:m1≠j1
 b4:m1≠j2
 b5:m2≠z
 b6:m2≠to
 b7:m2≠j1
 b8:m2≠j2
def Dq {t1 t2:Nat->ā->Prop} {v1 v2:Nat->Option Ã} {k:Nat} {Q:Ã->Á->Prop} (D:Apart z ti to j1 j2 m1 m2) (S1:gZ P w A j1 m1 t1 v1) (S2:gZ P w A j2 m2 t2 v2)
 (gz:IsZip s.heap z ti to .none) (gi:Ň s.heap ti (.ref j1) (.ref j2)) (go:Ň s.heap to a b) (h1:t1 k s.heap) (h2:t2 k s.heap) (hx:v1 k=some x) (hy:v2 k=some y)
 (q:∀h',IsZip h' z ti to (Ũ s.heap.objs.size)->Ň h' to x y->t1 (k+1) h'->t2 (k+1) h'->Ň h' s.heap.objs.size x y->h'.objs.size=s.heap.objs.size+1 ->
 (∀c o,c≠z->c≠to->c≠j1->c≠j2->s.heap.get? c=some o->h'.get? c=some o)->Q (.ref s.heap.objs.size) { s with heap:=h' }) :
  Ó (Ø P w) A (ο.«zip.__next__» ⟨[.ref z],[]⟩) (fun fin s'=>∃v,fin=.done (.ret v)/\Q v s') E s:=by
 show Ó _ _ (field (.ref z) 2 >>= _) _ _ (_:Á);refine À (ę gz rfl (x:=.bool false) rfl ?_);show Ó _ _ (field (.ref z) 3 >>= _) _ _ (_:Á);refine À (ę gz rfl (x:=.ref ti) rfl ?_);refine À (Ď gi rfl ?_);show Ó _ _ (ă (.ref z) >>= _) _ _ (_:Á);refine À ?_;unfold ă;refine À (ę gz rfl (x:=.none) rfl (Ì ?_));simp only [ĭ];refine À (wpAny_rule ?_);refine À (ę gz rfl (x:=.ref to) rfl ?_);refine À (ġ gz (by simp) fun p N Y=>?_)
 replace N:IsZip p z ti to .ellipsis:=N
 refine À ?_;simp only [List.zipIdx_cons,List.zipIdx_nil,ŝ,List.forIn_nil];refine À (À (wpAny_onRaise ?_));show Ó _ _ (ä (.ref j1) >>= _) _ _ (_:Á);refine À (S1.item k _ _ _ x (S1.keep k _ _ h1 (fun o e=>Y.extBut _ _ D.a3 e) (fun o e=>Y.extBut _ _ D.b1 e)) hx fun n m V=>Ì ?_);have G:Ň n to a b:=V.extBut _ _ D.a8 (Y.extBut _ _ D.a2 go);refine À (Ď G rfl ?_);refine À (wpAny_updateSeq_pair G fun l M X=>?_)
 replace M:Ň l to x b:=M
 refine À (wpAny_letGo (Ì ?_));refine À (À (wpAny_onRaise ?_));show Ó _ _ (ä (.ref j2) >>= _) _ _ (_:Á);refine À (S2.item k _ _ _ y (S2.keep k _ _ h2 (fun o e=>X.extBut _ _ D.a9.symm (V.extBut _ _ D.b0.symm (Y.extBut _ _ D.a4 e))) (fun o e=>X.extBut _ _ D.b6 (V.extBut _ _ D.b7 (Y.extBut _ _ D.b5 e)))) hy fun j i U=>Ì ?_);have F:Ň j to x b:=U.extBut _ _ D.a9 M;refine À (Ď F rfl ?_);refine À (wpAny_updateSeq_pair F fun Z S s5=>?_)
 replace S:Ň Z to x y:=S
 refine À (wpAny_letGo (Ì (Ì ?_)));refine À (Ď S rfl ?_);refine À (wpAny_newTuple ?_);have C:Z.objs.size=s.heap.objs.size:=by rw [s5.1,U.1,X.1,V.1,Y.1]
 have B:IsZip Z z ti to .ellipsis:=s5.extBut _ _ D.a2.symm (U.extBut _ _ D.a4.symm (X.extBut _ _ D.a2.symm (V.extBut _ _ D.a3.symm N)));have h:∀c o,c≠z->c≠to->c≠j1->c≠j2->s.heap.get? c=some o->Z.get? c=some o:=fun c o W R L K e=>s5.extBut _ _ R (U.extBut _ _ K (X.extBut _ _ R (V.extBut _ _ L (Y.extBut _ _ W e))));have g:t1 (k+1) Z:=S1.keep _ _ _ m (fun o e=>s5.extBut _ _ D.a8.symm (U.extBut _ _ D.b0 (X.extBut _ _ D.a8.symm e))) (fun o e=>s5.extBut _ _ D.b2 (U.extBut _ _ D.b4 (X.extBut _ _ D.b2 e)));have f:t2 (k+1) Z:=S2.keep _ _ _ i (fun o e=>s5.extBut _ _ D.a9.symm e) (fun o e=>s5.extBut _ _ D.b6 e);have u:z<Z.objs.size:=Ç B;show Ó _ _ (ň (.ref z) (.ref Z.objs.size) >>= _) _ _ (_:Á);refine À ?_;unfold ň;have d:IsZip (Z.push { cls:=.type "tuple",data:=.seq #[x,y] }) z ti to .ellipsis:=Â _ B;refine À (ġ d (by simp) fun p7 J I=>?_)
 replace J:IsZip p7 z ti to (Ũ Z.objs.size):=J
 refine ġ J (by simp) fun T O H=>?_
 replace O:IsZip T z ti to (Ũ Z.objs.size):=O
 have up:∀c o,c≠z->Z.get? c=some o->T.get? c=some o:=fun c o W e=>H.extBut _ _ W (I.extBut _ _ W (Â _ e));have t:Ň T Z.objs.size x y:=H.extBut _ _ (ĳ u) (I.extBut _ _ (ĳ u) (Ñ _ rfl));have r:T.objs.size=Z.objs.size+1:=by rw [H.1,I.1,õ]
 rw [C] at O t r;refine Ì ⟨_,rfl,?_⟩;show Q (.ref Z.objs.size) _;rw [C];exact q T O (up _ _ D.a2 S) (S1.keep _ _ _ g (fun o e=>up _ o D.a3 e) (fun o e=>up _ o D.b1 e)) (S2.keep _ _ _ f (fun o e=>up _ o D.a4 e) (fun o e=>up _ o D.b5 e)) t r fun c o W R L K e=>up c o W (h c o W R L K e)
def Et (D:Apart z ti to j1 j2 m1 m2) (S1:gZ P w A j1 m1 t1 v1) (S2:gZ P w A j2 m2 t2 v2)
 (gz:IsZip s.heap z ti to .none) (gi:Ň s.heap ti (.ref j1) (.ref j2)) (go:Ň s.heap to a b) (h1:t1 k s.heap) (h2:t2 k s.heap) (ud:v1 k=none\/v2 k=none)
 (q:∀h' e,(∀c o,c≠z->c≠to->c≠j1->c≠j2->s.heap.get? c=some o->h'.get? c=some o)->(∃o,h'.get? e=some o/\o.cls=.type "StopIteration")->E (.ref e) { s with heap:=h' }) :
  Ó (Ø P w) A (ο.«zip.__next__» ⟨[.ref z],[]⟩) Q E s:=by
 show Ó _ _ (field (.ref z) 2 >>= _) _ _ (_:Á);refine À (ę gz rfl (x:=.bool false) rfl ?_);show Ó _ _ (field (.ref z) 3 >>= _) _ _ (_:Á);refine À (ę gz rfl (x:=.ref ti) rfl ?_);refine À (Ď gi rfl ?_);show Ó _ _ (ă (.ref z) >>= _) _ _ (_:Á);refine À ?_;unfold ă;refine À (ę gz rfl (x:=.none) rfl (Ì ?_));simp only [ĭ];refine À (wpAny_rule ?_);refine À (ę gz rfl (x:=.ref to) rfl ?_);refine À (ġ gz (by simp) fun N V Y=>?_)
 replace V:IsZip N z ti to .ellipsis:=V
 refine À ?_;simp only [List.zipIdx_cons,List.zipIdx_nil,ŝ,List.forIn_nil];refine À (À (wpAny_onRaise ?_));show Ó _ _ (ä (.ref j1) >>= _) _ _ (_:Á);have M:t1 k N:=S1.keep k _ _ h1 (fun o e=>Y.extBut _ _ D.a3 e) (fun o e=>Y.extBut _ _ D.b1 e)
 cases U:v1 k with
 |none =>
  refine À (S1.stop k _ _ _ M U fun T e Z S=>?_);obtain ⟨R,g1,g2⟩:=S;have L:IsZip T z ti to .ellipsis:=Z _ _ D.a3.symm V;have ne:e≠z:=fun u=>by subst u;rw [L] at g1;cases g1;simp at g2
  refine ġ L (by simp) fun K _ X=>q K e (fun c o W _ O _ u=>X.extBut _ _ W (Z _ _ O (Y.extBut _ _ W u))) ⟨R,X.extBut _ _ ne g1,g2⟩
 |some x =>
  have G:v2 k=none:=by
   rcases ud with h|h
   ·rw [U] at h;cases h
   ·exact h
  refine À (S1.item k _ _ _ x M U fun T v Z=>Ì ?_);have J:Ň T to a b:=Z.extBut _ _ D.a8 (Y.extBut _ _ D.a2 go);refine À (Ď J rfl ?_);refine À (wpAny_updateSeq_pair J fun K t X=>?_);refine À (wpAny_letGo (Ì ?_));refine À (À (wpAny_onRaise ?_));show Ó _ _ (ä (.ref j2) >>= _) _ _ (_:Á);refine À (S2.stop k _ _ _ (S2.keep k _ _ h2 (fun o e=>X.extBut _ _ D.a9.symm (Z.extBut _ _ D.b0.symm (Y.extBut _ _ D.a4 e))) (fun o e=>X.extBut _ _ D.b6 (Z.extBut _ _ D.b7 (Y.extBut _ _ D.b5 e)))) G fun F e I S=>?_);obtain ⟨R,g1,g2⟩:=S;have H:IsZip F z ti to .ellipsis:=I _ _ D.a4.symm (X.extBut _ _ D.a2.symm (Z.extBut _ _ D.a3.symm V));have ne:e≠z:=fun u=>by subst u;rw [H] at g1;cases g1;simp at g2
  refine ġ H (by simp) fun C _ s5=>q C e (fun c o W B O y u=>s5.extBut _ _ W (I _ _ y (X.extBut _ _ B (Z.extBut _ _ O (Y.extBut _ _ W u))))) ⟨R,s5.extBut _ _ ne g1,g2⟩
def next_item (D:Apart z ti to j1 j2 m1 m2) (S1:gZ P w A.in1 j1 m1 t1 v1) (S2:gZ P w A.in1 j2 m2 t2 v2)
 (gz:IsZip s.heap z ti to .none) (gi:Ň s.heap ti (.ref j1) (.ref j2)) (go:Ň s.heap to a b) (h1:t1 k s.heap) (h2:t2 k s.heap) (hx:v1 k=some x) (hy:v2 k=some y)
 (q:∀h',IsZip h' z ti to (Ũ s.heap.objs.size)->Ň h' to x y->t1 (k+1) h'->t2 (k+1) h'->Ň h' s.heap.objs.size x y->h'.objs.size=s.heap.objs.size+1 ->
 (∀c o,c≠z->c≠to->c≠j1->c≠j2->s.heap.get? c=some o->h'.get? c=some o)->Q (some (.ref s.heap.objs.size)) { s with heap:=h' }):Ó (Ø P w) A (pyNext (.ref z)) Q E s:=by
 have Z:s.TypeIs (.ref z) "zip":=⟨_,gz,rfl⟩;unfold pyNext;exact À (ŵ (ĩ (name:=Str.ofString "__next__") Z ſ
  (Ī ſ Z F.entry_zip_next (Dq D S1 S2 gz gi go h1 h2 hx hy fun h' a1 a2 Y X W V U=>Ì (q h' a1 a2 Y X W V U)) (F.args_zip_next_1 _))))
def next_end (D:Apart z ti to j1 j2 m1 m2) (S1:gZ P w A.in1 j1 m1 t1 v1) (S2:gZ P w A.in1 j2 m2 t2 v2)
 (gz:IsZip s.heap z ti to .none) (gi:Ň s.heap ti (.ref j1) (.ref j2)) (go:Ň s.heap to a b) (h1:t1 k s.heap) (h2:t2 k s.heap) (ud:v1 k=none\/v2 k=none)
 (q:∀h',(∀c o,c≠z->c≠to->c≠j1->c≠j2->s.heap.get? c=some o->h'.get? c=some o)->Q none { s with heap:=h' }):Ó (Ø P w) A (pyNext (.ref z)) Q E s:=by
 have Z:s.TypeIs (.ref z) "zip":=⟨_,gz,rfl⟩;unfold pyNext;refine À (ŵ (ĩ (name:=Str.ofString "__next__") Z ſ
  (Ī ſ Z F.entry_zip_next (Et D S1 S2 gz gi go h1 h2 ud fun h' e Y X=>?_) (F.args_zip_next_1 _))))
 obtain ⟨o,W,V⟩:=X;exact À (wpAny_isInstance (T:="StopIteration") (b:=true) ⟨o,W,V⟩ isSubtype_stop (Ì (q _ Y)))
end
end HZ
namespace L2
open PySem PySem.Spec PyProof.Rows
def FZ {X:Cx} {π:List (Í×Obj)} {σ:St} {H:Hp} {s:Á} {a b:Í} {xs:List V} (I:Inv X π σ H s) (h:bg X.K H a xs) (f:fe X π H b):a≠b:=by
 rintro rfl;obtain ⟨f0,_,_,Y,_⟩:=f
 rcases h with (h | ⟨o,h⟩) | ⟨o,ah,n,W,_⟩
 ·rw [f0] at h;cases h
 ·rw [f0] at h;cases h
 ·have Z:=I.mod.gg a o W
  rcases Y with z|z
  ·exact I.ok.ke a o Z z
  ·exact absurd (Å (Ç Z) (ß I.ok.gk z)) (ê _)
def F0 {X:Cx} {π:List (Í×Obj)} {σ:St} {H:Hp} {s:Á} {a b:Í} {xs:List V} (I:Inv X π σ H s) (h:bo X.K H a xs) (f:fe X π H b):a≠b:=by
 rintro rfl;obtain ⟨f0,_,_,Y,_⟩:=f
 rcases h with (h | ⟨o,h⟩) | ⟨o,ah,n,W,_⟩
 ·rw [f0] at h;cases h
 ·rw [f0] at h;cases h
 ·have Z:=I.mod.gg a o W
  rcases Y with z|z
  ·exact I.ok.ke a o Z z
  ·exact absurd (Å (Ç Z) (ß I.ok.gk z)) (ê _)
def Inv.wu {X:Cx} {π:List (Í×Obj)} {σ:St} {H:Hp} {s:Á} {h':ā} {t':Nat} {ch:List Í} (I:Inv X π σ H s) (k:∀b o,b∉ch->s.heap.get? b=some o->h'.get? b=some o) (hf:∀b∈ch,fe X π H b) :
  Inv X π σ H { s with heap:=h',toks:=t' }:=by
 have Y:∀b u,H b=some u->b∉ch:=fun b u e z=>by rw [(hf b z).1] at e;cases e
 refine I.step (g':=s.gens) (d':=s.drawn) (ch:=ch) (fun b W=>?_) (fun b o _ _ Z e _=>k b o Z e) (fun b o _ _ Z e _=>⟨o.slots,k b o Z e⟩) (fun _ _ _ _ n=>n) (fun b o Z e=>⟨o,k b o Z e⟩) (fun _ _ e=>e) (fun _ _ _ e=>e)
  (fun b P e=>⟨#[],by rw [e];simp⟩) (fun m V=>?_) (fun b u e=>?_) I.bare
 ·obtain ⟨_,f1,_,U,f4,T⟩:=hf b W
  exact ⟨U,f1,f4,T⟩
 ·obtain ⟨o,S,R,Q,r⟩:=V
  exact ⟨o,S,R,k _ o (fun z=>(hf _ z).2.1 rfl) Q,r⟩
 ·refine (I.au b u e).cu (fun c v Z q=>k c v ?_ q) (fun _ q=>q) fun _ _ q=>q
  rcases Z with z|z
  ·rw [z];exact Y b u e
  ·exact Y c _ z
def Inv.CA {X:Cx} {π:List (Í×Obj)} {σ:St} {H:Hp} {s:Á} {h':ā} {t':Nat} {ch:List Í} {p:Í} {u:HO} (I:Inv X π σ H s) (k:∀b o,b∉ch->s.heap.get? b=some o->h'.get? b=some o) (hf:∀b∈ch,fe X π H b)
  (hp:s.heap.objs.size<=p) (new:cB X.prog X.w (upd H p u) h' p u):Inv X π σ (upd H p u) { s with heap:=h',toks:=t' }:=by
 have Y:H p=none:=I.au.fresh hp;have au:bE X.prog X.w (upd H p u) h':=(I.wu (t':=t') k hf).au.adopt Y new;refine I.step (g':=s.gens) (d':=s.drawn) (ch:=ch) (fun b W=>?_) (fun b o _ _ Z e _=>k b o Z e) (fun b o _ _ Z e _=>⟨o.slots,k b o Z e⟩) (fun b o _ e n=>?_) (fun b o Z e=>⟨o,k b o Z e⟩) (fun c P e=>by rw [aF (bA e Y)];exact e) (fun c o v e=>by rw [aF (bA e Y)];exact e)
  (fun c O e=>⟨#[],by rw [aF (bA e Y),e];simp⟩) (fun m V=>?_) au I.bare
 ·obtain ⟨_,f1,_,U,f4,T⟩:=hf b W
  exact ⟨U,f1,f4,T⟩
 ·rw [aF (à (Å (Ç e) hp))]
  exact n
 ·obtain ⟨o,S,R,Q,r⟩:=V
  exact ⟨o,S,R,k _ o (fun z=>(hf _ z).2.1 rfl) Q,r⟩
@[reducible] def fG:Bool->ð->Hp->Í->List V->Prop
 |true=>bg
 |false=>bo
@[reducible] def hV:Bool->ā->Í->Array Ã->Prop
 |true=>Heap.IsTuple
 |false=>Heap.IsList
@[reducible] def jb:Bool->ā->Í->Í->Nat->Prop
 |true=>Heap.IsTupleIter
 |false=>Heap.IsListIter
def Inv.lB {X:Cx} {π:List (Í×Obj)} {σ:St} {H:Hp} {s:Á} {a:Í} {xs:List V} (I:Inv X π σ H s):∀{k},fG k X.K H a xs->∃ah,Vals xs ah/\hV k s.heap a ah.toArray
 |true,h=>by obtain ⟨i,r,p,_⟩:=I.tuple h;exact ⟨i,r,p⟩
 |false,h=>by obtain ⟨i,r,p,_⟩:=I.list h;exact ⟨i,r,p.isList⟩
def Inv.wG {X:Cx} {π:List (Í×Obj)} {σ:St} {H:Hp} {s:Á} {a:Í} {xs ys:List V} (I:Inv X π σ H s):∀{k},fG k X.K H a xs->fG k X.K H a ys->xs=ys
 |true,h,g=>I.wd h g
 |false,h,g=>I.wB h g
def pB {X:Cx} {π:List (Í×Obj)} {σ:St} {H:Hp} {s:Á} {a b:Í} {xs:List V} (I:Inv X π σ H s):∀{k},fG k X.K H a xs->fe X π H b->a≠b
 |true,h,f=>FZ I h f
 |false,h,f=>F0 I h f
def qc (gh:A.handled=none) (i l:Í) (ah:Array Ã):∀k,HZ.gZ P w A i l (fun n h=>jb k h i l n/\hV k h l ah) (fun n=>ah[n]?)
 |true=>HZ.Er gh i l ah
 |false=>HZ.Es gh i l ah
def pC (k:∀o,h.get? i=some o->h'.get? i=some o):∀{b},jb b h i l n->jb b h' i l n
 |true,x=>x.at k
 |false,x=>x.at k
def pb:∀{b},jb b h i l n->∃o,h.get? i=some o/\∀v,o.data≠.cell v
 |true,x=>by obtain ⟨o,e,_,d⟩:=x;exact ⟨o,e,fun v q=>by rw [d] at q;cases q⟩
 |false,x=>by obtain ⟨o,e,_,d⟩:=x;exact ⟨o,e,fun v q=>by rw [d] at q;cases q⟩
def nD (k l:Bool) (K:ð) (a b:Í):It :=
 ⟨fun i H=>∃Z Y x y,fG k K H a Z/\fG l K H b Y/\Z[i]?=some x/\Y[i]?=some y,fun i H v X=>∃p x y,H p=none/\v=.ref p/\X=upd H p (.tup [x,y])/\∀Z Y,fG k K H a Z->fG l K H b Y->Z[i]?=some x/\Y[i]?=some y,
  fun i H=>∃Z Y,fG k K H a Z/\fG l K H b Y/\(Z.length<=i\/Y.length<=i)⟩
abbrev Jb:=nD true true
abbrev Jc:=nD false false
structure Hs (it:Nat->ā->Prop) (uX:Nat->ā->Prop) (z ti to j1 j2:Í) (i:Nat) (h:ā):Prop where
 z:IsZip h z ti to .none
 ti:Ň h ti (.ref j1) (.ref j2)
 to:∃u v,Ň h to u v
 h1:it i h
 h2:uX i h
structure zS (z ti to j1 j2:Í):Prop where
 a1:ti≠z
 a2:to≠z
 a3:j1≠z
 a4:j2≠z
 a5:ti≠to
 a6:ti≠j1
 a7:ti≠j2
 a8:to≠j1
 a9:to≠j2
 b0:j1≠j2
def CB {k1 k2:Bool} {P:Ò} {w:é} {K:ð} {elts:List ÿ} {kk:Nat} {pos:Pos} (a b z ti to j1 j2:Í) (F:zS z ti to j1 j2) :
  Turn P w K (.Tuple elts kk pos) (nD k1 k2 K a b) [z,ti,to,j1,j2] z (Hs (fun i h=>jb k1 h j1 a i) (fun i h=>jb k2 h j2 b i) z ti to j1 j2) where
 mem:=by simp
 obj:=fun i h Z c S=>by
  have M:c=z\/c=ti\/c=to\/c=j1\/c=j2:=by simpa using S
  rcases M with rfl|rfl|rfl|rfl|rfl
  ·exact ⟨_,Z.z,fun v q=>nomatch q⟩
  ·exact ⟨_,Z.ti,fun v q=>nomatch q⟩
  ·obtain ⟨u,v,q⟩:=Z.to;exact ⟨_,q,fun v q=>nomatch q⟩
  ·exact pb Z.h1
  ·exact pb Z.h2
 keep:=fun i h l Z k=>⟨k z (by simp) _ Z.z,k ti (by simp) _ Z.ti,by obtain ⟨u,v,q⟩:=Z.to;exact ⟨u,v,k to (by simp) _ q⟩,pC (fun o e=>k j1 (by simp) o e) Z.h1,pC (fun o e=>k j2 (by simp) o e) Z.h2⟩
 item:=by
  intro X L hw J S i j s σ H E I Y Z G;subst L hw J;obtain ⟨f,d,x,y,V,U,ex,g⟩:=G;obtain ⟨C,B,t⟩:=I.lB V;obtain ⟨r,p,n⟩:=I.lB U;obtain ⟨u,eu,ru⟩:=B.get ex;obtain ⟨v,ev,rv⟩:=p.get g;have ne:∀c∈[z,ti,to,j1,j2],a≠c/\b≠c:=fun c W=>⟨pB I V (Y c W),pB I U (Y c W)⟩;have D:HZ.Apart z ti to j1 j2 a b:=⟨F.a1,F.a2,F.a3,F.a4,F.a5,F.a6,F.a7,F.a8,F.a9,F.b0,(ne z (by simp)).1,(ne to (by simp)).1,(ne j1 (by simp)).1,(ne j2 (by simp)).1,(ne z (by simp)).2,(ne to (by simp)).2,(ne j1 (by simp)).2,(ne j2 (by simp)).2⟩;obtain ⟨w1,w2,O⟩:=Z.to;have R:X.A.in1.handled=none:=I.ok.hd S;refine HZ.next_item D (qc R j1 a C.toArray k1) (qc R j2 b r.toArray k2) Z.z Z.ti O ⟨Z.h1,t⟩ ⟨Z.h2,n⟩ (by simpa using eu) (by simpa using ev) fun l c1 c2 c3 c4 c5 c6 N=>⟨_,rfl,?_⟩;refine wpAny_letOwnedTupleGo_zip c1 fun h2 d1 T=>?_;have hn:H s.heap.objs.size=none:=I.au.fresh (MK _);have J3:z<s.heap.objs.size:=Ç Z.z;have qd:IsTup h2 s.heap.objs.size #[u,v]:=⟨_,T.extBut _ _ (ĳ J3) c5,rfl,_,rfl⟩
  have I2:Inv X j σ (upd H s.heap.objs.size (.tup [x,y])) { s with heap:=h2,toks:=s.toks }:=I.CA (ch:=[z,ti,to,j1,j2]) (fun c o m e=>by
   have q:c≠z/\c≠ti/\c≠to/\c≠j1/\c≠j2:=by simpa using m
   exact T.extBut c o q.1 (N c o q.1 q.2.2.1 q.2.2.2.1 q.2.2.2.2 e)) Y (MK _) ⟨by show 2<=Ï;decide,[u,v],.cons ru (.cons rv .nil),qd⟩
  refine ⟨.ref s.heap.objs.size,_,I2,rfl,⟨_,x,y,hn,rfl,rfl,fun qB qD q1 q2=>?_⟩,?_,fun c W=>?_⟩
  ·rw [I.wG q1 V,I.wG q2 U];exact ⟨ex,g⟩
  ·refine ⟨d1,T.extBut _ _ F.a1 (N _ _ F.a1 F.a5 F.a6 F.a7 Z.ti),⟨_,_,T.extBut _ _ F.a2 c2⟩,pC (fun o e=>T.extBut _ _ F.a3 e) c3.1,pC (fun o e=>T.extBut _ _ F.a4 e) c4.1⟩
  ·rw [aF]
   ·exact (Y c W).1
   ·intro e
    obtain ⟨o,eo⟩:∃o,s.heap.get? c=some o:=by
     have M:c=z\/c=ti\/c=to\/c=j1\/c=j2:=by simpa using W
     rcases M with q|q|q|q|q
     ·rw [q];exact ⟨_,Z.z⟩
     ·rw [q];exact ⟨_,Z.ti⟩
     ·rw [q];exact ⟨_,O⟩
     ·rw [q];obtain ⟨o,e,_⟩:=pb Z.h1;exact ⟨o,e⟩
     ·rw [q];obtain ⟨o,e,_⟩:=pb Z.h2;exact ⟨o,e⟩
    exact absurd (Ç eo) (by rw [e];exact ê _)
 done:=by
  intro X L hw J S i j s σ H E I Y Z G;subst L hw J;obtain ⟨f,d,V,U,hle⟩:=G;obtain ⟨C,B,t⟩:=I.lB V;obtain ⟨r,p,n⟩:=I.lB U;have ne:∀c∈[z,ti,to,j1,j2],a≠c/\b≠c:=fun c W=>⟨pB I V (Y c W),pB I U (Y c W)⟩;have D:HZ.Apart z ti to j1 j2 a b:=⟨F.a1,F.a2,F.a3,F.a4,F.a5,F.a6,F.a7,F.a8,F.a9,F.b0,(ne z (by simp)).1,(ne to (by simp)).1,(ne j1 (by simp)).1,(ne j2 (by simp)).1,(ne z (by simp)).2,(ne to (by simp)).2,(ne j1 (by simp)).2,(ne j2 (by simp)).2⟩;obtain ⟨w1,w2,O⟩:=Z.to;have R:X.A.in1.handled=none:=I.ok.hd S;have l1:=B.length;have l2:=p.length;refine HZ.next_end D (qc R j1 a C.toArray k1) (qc R j2 b r.toArray k2) Z.z Z.ti O ⟨Z.h1,t⟩ ⟨Z.h2,n⟩ ?_ fun l N=>⟨rfl,I.wu (t':=s.toks) (ch:=[z,ti,to,j1,j2]) (fun c o m e=>by
   have q:c≠z/\c≠ti/\c≠to/\c≠j1/\c≠j2:=by simpa using m
   exact N c o q.1 q.2.2.1 q.2.2.2.1 q.2.2.2.2 e) Y⟩
  rcases hle with q|q
  ·left;simp;omega
  ·right;simp;omega
 self:=fun A i s Q E Z h=>wpAny_pyIter_zip Z.z h
end L2
namespace HZ
open PySem PySem.Spec PyProof.Rows L2
@[reducible] noncomputable def n6:Bool->String
 |true=>"tuple_iterator"
 |false=>"list_iterator"
abbrev y1 (k:Bool) (h:ā) (m1:Í):ā:=h.push { cls:=.type (n6 k),data:=.fields #[.ref m1,.int 0 0] }
abbrev y2 (k l:Bool) (h:ā) (m1 m2:Í):ā:=(y1 k h m1).push { cls:=.type (n6 l),data:=.fields #[.ref m2,.int 0 0] }
abbrev y3 (k l:Bool) (h:ā) (m1 m2:Í):ā:=(y2 k l h m1 m2).push { cls:=.type "tuple",data:=.seq #[.ref h.objs.size,.ref (y1 k h m1).objs.size] }
abbrev y4 (k l:Bool) (h:ā) (m1 m2:Í):ā:=(y3 k l h m1 m2).push { cls:=.type "tuple",data:=.seq #[.none,.none] }
abbrev y5 (k l:Bool) (h:ā) (m1 m2:Í):ā:=(y4 k l h m1 m2).push { cls:=.type "zip",data:=.fields #[.none,.bool false,.bool false,.ref (y2 k l h m1 m2).objs.size,.ref (y3 k l h m1 m2).objs.size] }
def yW:∀{k},hV k s.heap m xs->Q (.ref s.heap.objs.size) { s with heap:=s.heap.push { cls:=.type (n6 k),data:=.fields #[.ref m,.int 0 0] } }->Ó (Ø P w) A (pyIter (.ref m)) Q E s
 |true,h,q=>wpAny_pyIter_tuple h q
 |false,h,q=>wpAny_pyIter_list h q
def Dr (o:Obj):∀{k},hV k h m xs->hV k (h.push o) m xs
 |true,x=>Heap.IsTuple.push x o
 |false,x=>Heap.IsList.push x o
def Eu (k l:Bool) (m1 m2:Í) (xs ys:Array Ã) :
  Meets (ο.«zip.__new__» ⟨[.type "zip",.ref m1,.ref m2],[]⟩) (fun _ R s=>hV k s.heap m1 xs/\hV l s.heap m2 ys/\R (.ok (.ret (.ref (y4 k l s.heap m1 m2).objs.size))) { s with heap:=y5 k l s.heap m1 m2 }) :=
 .of_wp fun prog w A R s h=>by
  obtain ⟨Z,g,d,Y,os⟩:=s;obtain ⟨X,W,h⟩:=h;have U:=sub_zip;have V:hV k (Shared.heap ⟨Z,g,d,Y,os⟩) m1 xs:=X;have L2:hV l (Shared.heap ⟨Z.push { cls:=.type (n6 k),data:=.fields #[.ref m1,.int 0 0] },g,d,Y,os⟩) m2 ys:=Dr _ W
  wp_walk using yW V,yW L2
  exact ⟨_,rfl,h⟩
section
variable {P:Ò} {w:é} {A:Ö} {E:Ã->Á->Prop} {s:Á}
def xk:∀{k},h.get? i=some { cls:=.type (n6 k),data:=.fields #[.ref m,.int 0 0] }->jb k h i m 0
 |true,e=>⟨_,e,rfl,rfl⟩
 |false,e=>⟨_,e,rfl,rfl⟩
def CC (h1:hV k s.heap m1 xs) (h2:hV l s.heap m2 ys)
 (h:∀h',IsZip h' (s.heap.objs.size+4) (s.heap.objs.size+2) (s.heap.objs.size+3) .none->Ň h' (s.heap.objs.size+2) (.ref s.heap.objs.size) (.ref (s.heap.objs.size+1)) ->
   Ň h' (s.heap.objs.size+3) .none .none->jb k h' s.heap.objs.size m1 0->jb l h' (s.heap.objs.size+1) m2 0->h'.objs.size=s.heap.objs.size+5 ->
 (∀c o,s.heap.get? c=some o->h'.get? c=some o)->Q (.ref (s.heap.objs.size+4)) { s with heap:=h' }):Ó (Ø P w) A (call (.type "zip") [.ref m1,.ref m2]) Q E s:=by
 refine callType_new F.called_zip (by decide) (F.typeCall_zip_2 _ _) (F.newCall_zip_2 _ _) (fun obj=>F.args_object_init_3 obj _ _) F.entry_zip_new (Eu k l m1 m2 xs ys) ⟨h1,h2,?_⟩;have e1:(y1 k s.heap m1).objs.size=s.heap.objs.size+1:=õ ..;have e2:(y2 k l s.heap m1 m2).objs.size=s.heap.objs.size+2:=by rw [õ,e1]
 have Z:(y3 k l s.heap m1 m2).objs.size=s.heap.objs.size+3:=by rw [õ,e2]
 have Y:(y4 k l s.heap m1 m2).objs.size=s.heap.objs.size+4:=by rw [õ,Z]
 have V:(y5 k l s.heap m1 m2).objs.size=s.heap.objs.size+5:=by rw [õ,Y]
 have X:(y5 k l s.heap m1 m2).get? (y4 k l s.heap m1 m2).objs.size=some _:=Ñ _ rfl;have W:(y5 k l s.heap m1 m2).get? (y3 k l s.heap m1 m2).objs.size=some _:=Â _ (Ñ _ rfl);have g3:(y5 k l s.heap m1 m2).get? (y2 k l s.heap m1 m2).objs.size=some _:=Â _ (Â _ (Ñ _ rfl));have g2:(y5 k l s.heap m1 m2).get? (y1 k s.heap m1).objs.size=some _:=Â _ (Â _ (Â _ (Ñ _ rfl)));have g1:(y5 k l s.heap m1 m2).get? s.heap.objs.size=some _:=Â _ (Â _ (Â _ (Â _ (Ñ _ rfl))));show _/\_;rw [e2,Z,Y] at X;rw [e1,e2] at g3;rw [Z] at W;rw [e1] at g2;rw [Y];exact ⟨⟨_,X,rfl⟩,h _ X g3 W (xk g1) (xk g2) V fun c o q=>Â _ (Â _ (Â _ (Â _ (Â _ q))))⟩
end
end HZ
namespace L2
open PySem PySem.Spec PyProof.Rows
def Ds (n:Nat):zS (n+4) (n+2) (n+3) n (n+1):=by constructor<;>(show (_:Nat)≠_)<;>omega
section
variable {X:Cx} {elts:List ÿ} {kk:Nat} {tp:Pos}
def tj (k l:Bool) (K:ð) (ta:TA):TI:=fun σ H R=>ta σ H fun Y Z=>∃a b X W,Y=[.ref a,.ref b]/\fG k K Z a X/\fG l K Z b W/\R (nD k l K a b) Z
noncomputable abbrev Ht:=tj true true
noncomputable abbrev Hu:=tj false false
def CD:ì "zip"=some (.type "zip"):=by decide +kernel
def F1 {π:List (Í×Obj)} {σ:St} {H:Hp} {s:Á} (I:Inv X π σ H s):∀b∈[s.heap.objs.size+4,s.heap.objs.size+2,s.heap.objs.size+3,s.heap.objs.size,s.heap.objs.size+1],fe X π H b:=fun b Y=>by
 have Z:s.heap.objs.size<=b:=by
  have q:b=s.heap.objs.size+4\/b=s.heap.objs.size+2\/b=s.heap.objs.size+3\/b=s.heap.objs.size\/b=s.heap.objs.size+1:=by simpa using Y
  omega
 exact I.p9 Z (I.au.fresh Z)
def xl {k l:Bool} {a b:ÿ} {ta:TA} {p pos:Pos} (hg:Gl X "zip") (hm:X.mg "zip"=none) (ha:PA X [a,b] ta) (hs:Æ [a,b] X.env=[(false,Ĝ a X.env),(false,Ĝ b X.env)]:=by rfl) (fH:Æ [b] X.env=[(false,Ĝ b X.env)]:=by rfl) :
  PI X (.Tuple elts kk tp) (.Call (.Name "zip" p) [a,b] [] pos) (tj k l X.K ta):=by
 intro V s σ H R I h;refine Call_ (pA I hg hm CD (Ż (aL (ha pos V s σ H _ I h) fun z Z ⟨y,U,Y,T,S⟩=>?_) (by rw [hs,fH]) (by rw [fH];rfl)));obtain ⟨a,b,xs,ys,e,Q,P,q⟩:=S;subst e;obtain ⟨u,v,rfl,O,N⟩:=vals2 T;cases O;cases N;obtain ⟨M,_,L⟩:=Y.lB Q;obtain ⟨J,_,G⟩:=Y.lB P;refine HZ.CC (xs:=M.toArray) (ys:=J.toArray) L G fun F W E D C B x A=>?_
 refine wpAny_pyIter_zip (s:={ Z with heap:=F }) W ?_
 exact ⟨_,[Z.heap.objs.size+4,Z.heap.objs.size+2,Z.heap.objs.size+3,Z.heap.objs.size,Z.heap.objs.size+1],_,_,U,rfl,Y.kept (t':=Z.toks) A,CB a b _ _ _ _ _ (Ds _),⟨W,E,⟨_,_,D⟩,C,B⟩,F1 Y,q⟩
def xm {a b:ÿ} {ta:TA} {p pos:Pos} (hg:Gl X "zip") (hm:X.mg "zip"=none) (ha:PA X [a,b] ta) (hs:Æ [a,b] X.env=[(false,Ĝ a X.env),(false,Ĝ b X.env)]:=by rfl) (fH:Æ [b] X.env=[(false,Ĝ b X.env)]:=by rfl) :
  PI X (.Tuple elts kk tp) (.Call (.Name "zip" p) [a,b] [] pos) (Ht X.K ta):=xl hg hm ha hs fH
def Ew {a b:ÿ} {ta:TA} {p pos:Pos} (hg:Gl X "zip") (hm:X.mg "zip"=none) (ha:PA X [a,b] ta) (hs:Æ [a,b] X.env=[(false,Ĝ a X.env),(false,Ĝ b X.env)]:=by rfl) (fH:Æ [b] X.env=[(false,Ĝ b X.env)]:=by rfl) :
  PI X (.Tuple elts kk tp) (.Call (.Name "zip" p) [a,b] [] pos) (Hu X.K ta):=xl hg hm ha hs fH
end
end L2
namespace PySem
section
variable {P:Ò} {w:é} {A:Ö} {E:Ã->Á->Prop} {s:Á}
end
end PySem
namespace L2
open PySem PySem.Spec PyProof.Rows
section
variable {X:Cx}
end
section
variable {κ:Type} [DecidableEq κ]
end
section
variable {P:Ò} {w:é} {H:Hp} {h:ā} {a:Í}
end
section
variable {X:Cx} {π:List (Í×Obj)} {σ:St} {H:Hp} {s:Á} {a:Í} {y v:V} {u r:Ã} {o:Option V} {A:Ö} {E:Ã->Á->Prop}
def Inv.big (I:Inv X π σ H s):Ĥ<s.heap.objs.size:=by
 have h:È<s.heap.objs.size:=(I.mod.glob.keeps I.bk).lt;exact Nat.lt_trans (by decide) h
end
section
variable {X:Cx} {π:List (Í×Obj)} {σ:St} {H:Hp} {s:Á} {a:Í} {az:List (Key×V)} {k:Key} {u:Ã} {A:Ö} {E:Ã->Á->Prop}
end
section
variable {X:Cx} {o i e value:ÿ} {pos pos' nB:Pos} {td ty tv:TE}
end
def Dt (h:ā) (hb:Ĥ<h.objs.size):cB P w H (h.push { cls:=.type "dict",data:=.dict #[] }) h.objs.size (.dK []) :=
 ⟨ĵ _,beq_eq_false_iff_ne.mpr (χ (à hb)),[],.nil,Heap.DictOf.new h⟩
def F2:TE:=fun _ H Q=>∀p,H p=none->Q (.ref p) (upd H p (.dK []))
section
variable {X:Cx} {pos:Pos}
def Du:PE X (.Dict [] [] pos) F2:=fun Z s σ H Q I h =>
 wpAny_Dict_empty ⟨.ref s.heap.objs.size,_,I.laid (a:=s.heap.objs.size) (o:=.dK []) (t':=s.toks) (fun _ _ q=>Â _ q) (MK _) (Dt s.heap I.big),rfl,h _ (I.au.fresh (MK _))⟩
end
structure M1 (X:Cx) (o:ÿ) (m:Str) (apos:Pos) (e:ÿ) (aO:Pos):Prop where
 base:Ļ o m X.env (Ĝ o X.env)=Ĝ o X.env
 uY:((ď aO (Æ [e] X.env)).all (fun x=>!x.1)&&(backToKw aO (keywordEach [] X.env)).all (fun x=>x.1.isSome)
  && decide (([e]:List ÿ).length+([]:List ξ).length+(if ([]:List ξ).isEmpty then 0 else 1)<30))=true
 line:(apos.endLine==aO.line)=true
 trees:ď aO (Æ [e] X.env)=[(false,Ĝ e X.env)]
structure M2 (X:Cx) (o:ÿ) (m:Str) (apos:Pos) (e f:ÿ) (aO:Pos):Prop where
 base:Ļ o m X.env (Ĝ o X.env)=Ĝ o X.env
 uY:((ď aO (Æ [e,f] X.env)).all (fun x=>!x.1)&&(backToKw aO (keywordEach [] X.env)).all (fun x=>x.1.isSome)
  && decide (([e,f]:List ÿ).length+([]:List ξ).length+(if ([]:List ξ).isEmpty then 0 else 1)<30))=true
 line:(apos.endLine==aO.line)=true
 trees:ď aO (Æ [e,f] X.env)=[(false,Ĝ e X.env),(false,Ĝ f X.env)]
section
variable {X:Cx} {π:List (Í×Obj)} {σ:St} {H:Hp} {s:Á} {a:Í} {y d:V} {u r:Ã} {o:Option V} {A:Ö} {E:Ã->Á->Prop}
end
section
variable {X:Cx} {o e f:ÿ} {apos aO:Pos} {td ty tx:TE}
end
section
variable {X:Cx} {π:List (Í×Obj)} {σ:St} {H:Hp} {s:Á} {a:Í} {az:List (Key×V)} {A:Ö} {E:Ã->Á->Prop}
end
section
variable {X:Cx} {π:List (Í×Obj)} {σ:St} {H:Hp} {s:Á} {a:Í} {y:V} {u:Ã} {A:Ö} {E:Ã->Á->Prop}
end
section
variable {K:ð} {aE:St} {H:Hp} {tf:TT} {te:TE} {Q:VK}
end
end L2
namespace TS
open PySem
abbrev Jd (l:List Nat):Prop:=l.Pairwise (· < ·)
structure L6 (led:Bool) (t:SetTable):Prop where
 led:t.led=led
 rise:t.plain=true->Jd t.place.toList
open PySem.Spec PyProof.Rows
section
variable {P:Ò} {w:é} {A:Ö} {E:Ã->Á->Prop} {s:Á} {led:Bool}
end
section
variable {P:Ò} {w:é} {A:Ö} {E:Ã->Á->Prop} {s:Á}
end
section
variable {P:Ò} {w:é} {A:Ö} {E:Ã->Á->Prop} {s:Á}
end
section
variable {P:Ò} {w:é} {A:Ö} {E:Ã->Á->Prop} {s:Á}
end
section
variable {P:Ò} {w:é} {A:Ö} {R:Result->Á->Prop} {I:Í} {fp wr:List Í} {G:Array GenState->Array GenState->Prop} {n:Nat} {Pv:Nat->Ã->Prop} {St:Nat->Á->Prop} {led:Bool}
end
section
variable {P:Ò} {w:é} {A:Ö} {E:Ã->Á->Prop} {s:Á}
end
section
variable {P:Ò} {w:é} {A:Ö} {E:Ã->Á->Prop}
end
section
variable {P:Ò} {w:é} {A:Ö} {E:Ã->Á->Prop} {s:Á}
end
section
variable {P:Ò} {w:é} {A:Ö} {E:Ã->Á->Prop} {s:Á}
end
end TS
namespace L2
open PySem PySem.Spec PyProof.Rows
section
variable {X:Cx}
end
section
variable {X:Cx}
end
mutual
noncomputable def n9:ņ->Bool
 | .tuple Z=>lC Z
 | .list _=>false
 |_=>true
noncomputable def lC:List ņ->Bool
 | []=>true
 |d::Z=>n9 d&&lC Z
end
section
variable {X:Cx} {π:List (Í×Obj)} {σ:St} {H:Hp} {s:Á} {Z:Í->Prop}
mutual
theorem DV.mJ (I:Inv X π σ H s):∀{d:ņ} {v:V} {u:Ã},DV X.K Z H d v->RelV v u->n9 d=true->∃as,Reads s.heap u d as/\Ĥ∉as
 | .none,v,u,h,r,_=>by
  have e:v=.aq:=h;subst e;cases r;exact ⟨[],.none,by simp⟩
 | .bool b,v,u,h,r,_=>by
  have e:v=.bl b:=h;subst e;cases r;exact ⟨[],.bool b,by simp⟩
 | .int i,v,u,h,r,_=>by
  have e:v=.int i:=h;subst e;obtain ⟨t,rfl⟩:=r;exact ⟨[],.int i t,by simp⟩
 | .str x,v,u,h,r,_=>by
  have e:v=.str x:=h;subst e;obtain ⟨t,rfl⟩:=r;exact ⟨[],.str x t,by simp⟩
 | .tuple U,v,u,h,r,Y=>by
  simp only [DV] at h;obtain ⟨a,G,e,W,T⟩:=h;subst e;cases r;obtain ⟨ah,S,⟨o,e,c,n,R⟩,_⟩:=I.tuple W;obtain ⟨as,Q,hs⟩:=aj.mJ I T S (by simpa only [n9] using Y);exact ⟨as,.tuple e c R (by simpa using Q),hs⟩
 | .list U,v,u,h,r,Y=>by
  simp only [n9] at Y;cases Y
 | .dict F,v,u,h,r,_=>by
  simp only [DV] at h;obtain ⟨a,E,e,_,W,l,e1,e2⟩:=h;subst e e1 e2;cases r;obtain ⟨_,P,D,O,o,C,B,g1,g2,g3,_,N,_⟩:=(show cB X.prog X.w H s.heap a (.dK _) from I.au a _ W);obtain ⟨M,L⟩:=oF (h:=s.heap) O N;refine ⟨a::[]++[],.dict g1 g2.1 g3 M L,fun J=>?_⟩;have e:Ĥ=a:=by simpa using J
  subst e;simp at P
theorem aj.mJ (I:Inv X π σ H s):∀{ds:List ņ} {vs:List V} {us:List Ã},aj X.K Z H ds vs->Vals vs us->lC ds=true->∃as,ReadsAll s.heap us ds as/\Ĥ∉as
 | [],vs,us,h,r,_=>by
  have e:vs=[]:=h;subst e;cases r;exact ⟨[],.nil,by simp⟩
 |d::ds,vs,us,h,r,Y=>by
  obtain ⟨v,O,e,W,U⟩:=h;subst e;simp only [lC,Ä] at Y
  cases r with
  |cons T S =>
   obtain ⟨as,a1,R⟩:=DV.mJ I W T Y.1;obtain ⟨bs,a2,Q⟩:=aj.mJ I U S Y.2;refine ⟨as++bs,.cons a1 a2,fun P=>?_⟩
   rcases ė.mp P with z|z
   ·exact R z
   ·exact Q z
end
end
section
variable {X:Cx}
def B3 (hr:bc k X.A):cC X (.builtin "repr") (fun xs H Q=>∃(x:V) (ds:List ņ) (Z:Í->Prop),xs=[x]/\DV X.K Z H (.tuple ds) x/\(PyData.tuple ds).showable=true/\((PyData.tuple ds).hasDict=false\/lC ds=true)/\(PyData.tuple ds).depth<=100/\(PyData.tuple ds).shown.length<=Ï/\Q (.str (PyData.tuple ds).shown) H):=by
 intro T s σ H xs J Q I r h;obtain ⟨x,ds,Z,rfl,W,hs,S,G,R,q⟩:=h;obtain ⟨u,rfl,U⟩:=vals1 r;have P:X.A.units+((PyData.tuple ds).depth+1)<cLine:=by have:=hr.un;omega
 have go:∀as,Reads s.heap u (.tuple ds) as->((PyData.tuple ds).hasDict=true->Ĥ∉as)->Ó (Ø X.prog X.w) X.A (call (.builtin "repr") [u]) (EP X T σ Q) X.xe s:=fun as Y O=>by
  obtain ⟨a,e⟩:∃a,u=.ref a:=by cases Y;exact ⟨_,rfl⟩
  subst e;exact repr_of_reads' Y hs O hr.gd P (fun _ _ e=>e) (fun F t N M=>⟨.str _,H,I.kept (t':=N) M,⟨t,rfl⟩,q⟩) R
 rcases S with e|e
 ·obtain ⟨as,Y⟩:=W.reads I U
  exact go as Y fun z=>by rw [e] at z;cases z
 ·obtain ⟨as,Y,L⟩:=W.mJ I U (by simpa only [n9] using e)
  exact go as Y fun _=>L
end
end L2
namespace HZ
open PySem PySem.Spec PyProof.Rows
open AutoSeq1 (wpAny_loadPart')
section
variable {P:Ò} {w:é} {A:Ö} {E:Ã->Á->Prop} {s:Á}
end
end HZ
namespace L2
open PySem PySem.Spec PyProof.Rows
section
variable {X:Cx} {elts:List ÿ} {kk:Nat} {tp:Pos}
end
section
variable {K:ð} {aE:St} {H:Hp} {tf:TT} {te:TE} {Q:VK}
end
end L2
namespace HZ
open PySem PySem.Spec PyProof.Rows
def Bm:fillsNumberSlot (.type "tuple") "mul"=pure false:=by
 first|rfl | (unfold fillsNumberSlot;kernel_rfl)|kernel_rfl
def BB:seqRepeat? (.type "tuple")=pure (some (.builtin "tuple.__mul__")):=by
 first|rfl|kernel_rfl
def B4 (a:Int) (t:Tok) (l:Í) (items:Array Ã) (n:Nat) (d:Option Í) (sl:Array (Option Ã)) :
  Meets (ο.«int.__rmul__» ⟨[.int a t,.ref l],[]⟩) (fun _ R s=>s.heap.get? l=some { cls:=.type "tuple",dict:=d,data:=.seq items n,slots:=sl }/\R (.ok (.ret Value.notImplemented)) s) :=
 .of_wp fun prog w A R s h=>by
  obtain ⟨Z,Y,X,W,V⟩:=s;obtain ⟨U,h⟩:=h;wp_walk;exact ⟨_,rfl,h⟩
section
variable {P:Ò} {w:é} {A:Ö} {E:Ã->Á->Prop} {s:Á}
def Ey (ht:IsTup s.heap t vs.toArray) (hv:vs≠[]) (hk:1<=k) (hz:vs.length*k.toNat<=Ï)
 (h1:k=1->Q (.ref t) s) (h2:k≠1->Q (.ref s.heap.objs.size) { s with heap:=s.heap.push { cls:=.type "tuple",data:=.seq (Ê k.toNat vs).flatten.toArray } }) :
  Ó (Ø P w) A (č .Mult (.ref t) (.int k tk)) Q E s:=by
 obtain ⟨⟨cls,V,data,S⟩,Z,Y,n,X⟩:=id ht;simp only at Y X;subst Y X;have K:k<=16777216:=by
  have R:1<=vs.length:=by
   cases vs with
   |nil=>exact absurd rfl hv
   |cons a r=>simp
  have J:vs.length*k.toNat<=16777216:=by rw [<- š];exact hz
  have:1*k.toNat<=vs.length*k.toNat:=Ų _ R;omega
 refine wpAny_binaryOp_repeat_ref (T:="tuple") (U:="int") (by decide) ⟨_,Z,rfl⟩ (fun O=>typeIs_int O k tk) Bm F.fills_int_mul ž BB F.slot_int_index.lookup
  (call_meets ž (typeIs_int s k tk) F.entry_int_rmul (F.args_int_rmul_2 _ _) (B4 k tk t vs.toArray n V S) ⟨Z,rfl,⟨_,Z,rfl⟩,?_⟩)
 refine Ī F.slot_tuple_mul ⟨_,Z,rfl⟩ F.entry_tuple_mul ?_ (F.args_tuple_mul_2 _ _);show Ó _ _ (asIndex (.int k tk) >>= _) _ _ _;refine À ?_
 refine wpAny_of_eq (a:=k) (by first|rfl | (unfold asIndex;rfl)) ?_
 dsimp only;rw [î (by simp;omega)];unfold θ;refine À (À (Ď Z rfl ?_));refine Ì ?_;have ne:vs.toArray.isEmpty=false:=by
  cases vs with
  |nil=>exact absurd rfl hv
  |cons a r=>simp
 by_cases h:k=1
 ·rw [ë (by rw [h];simp)]
  unfold Builtin.Tuple.tupleIsExact;refine À (À (wpAny_typeOf (T:="tuple") ⟨_,Z,rfl⟩ (Ì ?_)));rw [ë (by decide)];exact À (wpAny_rule (Ì ⟨_,rfl,h1 h⟩))
 ·rw [î (by rw [ne];simp [h])]
  rw [î (by rw [ne];simp;omega)];have W:(vs.toArray.size:Int)*k=((vs.length*k.toNat:Nat):Int):=by
   rw [Ù,Int.natCast_mul];congr 1;omega
  have N:vs.length*k.toNat<=16777216:=by rw [<- š];exact hz
  rw [î (by rw [W];omega)];rw [î (by
   unfold Builtin.Tuple.tupleTooMany;rw [W,š,Ô];generalize vs.length*k.toNat=q at N;omega)]
  unfold Builtin.Tuple.tupleExact;have e:List.foldl (fun M L=>M++L) #[] (Ê k.toNat vs.toArray)=(Ê k.toNat vs).flatten.toArray:=by
   have:=L2.foldl_rep vs k.toNat [];rw [Ę] at this;exact this
  rw [e];refine À (ĺ ?_ (by
   show (List.toArray _).size<=Ï;rw [Ù,L2.len_rep,Nat.mul_comm];exact hz))
  exact Ì ⟨_,rfl,h2 h⟩
end
end HZ
namespace L2
open PySem PySem.Spec PyProof.Rows
section
variable {X:Cx}
def Hv (K:ð):R2:=fun x y H Q=>∃a Z k,x=.ref a/\y=.int k/\bg K H a Z/\Z≠[]/\1<=k/\Z.length*k.toNat<=Ï/\kh K H (Ê k.toNat Z).flatten Q
def Ez:bp X (č .Mult) (Hv X.K):=by
 intro P s σ H x y v u Q I V U h;obtain ⟨a,Z,k,rfl,rfl,hs,T,S,W,q⟩:=h;cases V;obtain ⟨t,rfl⟩:=U;obtain ⟨ah,r,p,z⟩:=I.tuple hs;have Y:=r.length;refine HZ.Ey p (fun e=>T (by rw [e] at Y;exact List.length_eq_zero_iff.mp Y)) S (by rw [<- Y];exact W) (fun e=>?_) (fun _=>?_)
 ·have e1:(Ê k.toNat Z).flatten=Z:=by rw [e];simp
  rw [e1] at q;exact ⟨.ref a,H,I,rfl,q.here hs⟩
 ·have R:(Ê k.toNat Z).flatten.length<=Ï:=by rw [len_rep,Nat.mul_comm];exact W
  exact ⟨.ref _,_,I.laid (t':=s.toks) (o:=.tup (Ê k.toNat Z).flatten) (fun b o e=>Â _ e) (MK _) ⟨R,_,r.rep k.toNat,⟨_,Ñ _ rfl,rfl,_,rfl⟩⟩,rfl,q.new (I.au.fresh (MK _))⟩
end
end L2
namespace HZ
open PySem PySem.Spec PyProof.Rows
section
variable {P:Ò} {w:é} {A:Ö} {E:Ã->Á->Prop} {s:Á}
end
end HZ
namespace L2
open PySem PySem.Spec PyProof.Rows
section
variable {X:Cx} {tg:ÿ}
end
end L2
namespace HZ
open PySem PySem.Spec PyProof.Rows
section
variable {P:Ò} {w:é} {A:Ö} {R:Result->Á->Prop} {I:Í} {fp wr:List Í} {n:Nat} {Pv:Nat->Ã->Prop} {St:Nat->ā->Prop} {kw:List (Str×Ã)}
end
section
variable {P:Ò} {w:é} {A:Ö} {E:Ã->Á->Prop} {s:Á}
end
end HZ
namespace L2
open PySem PySem.Spec PyProof.Rows
section
variable {X:Cx} {p pos kp:Pos} {e d:ÿ} {ta tk:TA}
end
end L2
namespace DI
open PySem L2
set_option genInjectivity true in
inductive D where
 |aq|bl (b:Bool)|int (i:Int)|str (x:Str)|tup (ds:List D)|lst (ds:List D)|aW (az:List (Key×Int))|aN (k:Nat)|ty (n:String)|bb (ns:List Int)|exc (c:Str) (m:Option Int)|bG (a:Í) (vs:List V) (ds:List D)
set_option genInjectivity true in
inductive Cell where
 |dead|lst (ds:List D)|dK (az:List (Key×D))|dT (az:List (D×Int))|tb (x:Str)
noncomputable abbrev aa:=List Cell
noncomputable abbrev Env:=List (Option D)
structure aM where
 c:Str
 many:Option Int
abbrev Res (α:Type):=Option (Except aM α×aa)
abbrev MG (α:Type):=Env->aa->Res α
abbrev ok {α:Type} (a:α) (s:aa):Res α:=some (.ok a,s)
def ak {α β:Type} (r:Res α) (k:α->aa->Res β):Res β:=match r with
 |some (.ok a,s)=>k a s
 |some (.error x,s)=>some (.error x,s)
 |none=>none
@[simp] theorem iT {α β:Type} {a:α} {s:aa} {k:α->aa->Res β}:ak (some (.ok a,s)) k=k a s:=rfl
structure Wd where
 ρ:List Í
 ax:aa
 H:Hp
def Wd.Z (w:Wd) (a:Í):Prop:=∃(k:Nat) (c:Cell),w.ρ[k]?=some a/\w.ax[k]?=some c/\c≠.dead
def LstAt (w:Wd) (a:Í) (xs:List V):Prop:=¬ w.Z a/\w.H a=some (.lst xs)
def LstAt.sq (h:LstAt w a xs):bo K w.H a xs:=bo.of h.2
def mW (K:ð) (w:Wd) (a:Í) (xs:List V):Prop:=(¬ w.Z a/\Rd w.H a (.lst xs)) \/
 ∃(o:Obj) (ah:Array Ã) (n:Nat),K.lookup a=some o/\o.cls=.type "list"/\o.dict=none/\o.data=.seq ah n/\ah.size<=Ï/\Vals xs ah.toList
def mW.sq (h:mW K w a xs):bo K w.H a xs:=by
 rcases h with ⟨_,h⟩|h
 ·exact .inl h
 ·exact .inr h
mutual
def DV (K:ð) (w:Wd):D->V->Prop
 | .aq,v=>v=.aq
 | .bl b,v=>v=.bl b
 | .int i,v=>v=.int i
 | .str x,v=>v=.str x
 | .tup Y,v=>∃a X,v=.ref a/\bg K w.H a X/\aj K w Y X
 | .lst Y,v=>∃a X,v=.ref a/\LstAt w a X/\aj K w Y X
 | .aW S,v=>∃a,v=.ref a/\¬ w.Z a/\w.H a=some (.dK (S.map fun p=>(p.1,V.int p.2)))
 | .aN k,v=>∃a,w.ρ[k]?=some a/\v=.ref a
 | .ty n,v=>v=.ty n
 | .bb R,v=>∃a,v=.ref a/\mW K w a (R.map V.int)
 | .exc c m,v=>∃a o C,v=.ref a/\(¬ w.Z a/\w.H a=some (.aI o (.own a)))/\(o.cls=.ref C/\Ü K È c=some (some (.ref C)))/\∀i,m=some i->PySem.W.notCls o=true/\∃U T t,o.dict=some U/\(¬ w.Z U/\w.H U=some (.aI T (.own U)))/\ν "many" T=some (some (.int i t))
 | .bG a Q Y,v=>v=.ref a/\aj K w Y Q
def aj (K:ð) (w:Wd):List D->List V->Prop
 | [],Z=>Z=[]
 |d::Y,Z=>∃v r,Z=v::r/\DV K w d v/\aj K w Y r
end
structure Fw (K:ð) (w w':Wd):Prop where
 uZ:∀(k:Nat) a,w.ρ[k]?=some a->w'.ρ[k]?=some a
 tup:∀a xs,bg K w.H a xs->bg K w'.H a xs
 lst:∀a xs,¬ w.Z a->w.H a=some (.lst xs)->¬ w'.Z a/\w'.H a=some (.lst xs)
 aI:∀a o u,¬ w.Z a->w.H a=some (.aI o u)->¬ w'.Z a/\w'.H a=some (.aI o u)
 aW:∀a es,¬ w.Z a->w.H a=some (.dK es)->¬ w'.Z a/\w'.H a=some (.dK es)
def Fw.yX (S:Fw K w w') (h:LstAt w a xs):LstAt w' a xs:=S.lst a xs h.1 h.2
def Fw.Hw (S:Fw K w w') (h:mW K w a xs):mW K w' a xs:=by
 rcases h with ⟨Y,Z | ⟨o,Z⟩⟩|h
 ·have q:=S.lst a xs Y Z
  exact .inl ⟨q.1,.inl q.2⟩
 ·have q:=S.aI a o _ Y Z
  exact .inl ⟨q.1,.inr ⟨o,q.2⟩⟩
 ·exact .inr h
mutual
theorem DV.fw (S:Fw K w w'):∀{d:D} {v:V},DV K w d v->DV K w' d v
 | .aq,_,h=>h
 | .bl _,_,h=>h
 | .int _,_,h=>h
 | .str _,_,h=>h
 | .tup X,v,h=>by
  simp only [DV] at h |-;obtain ⟨a,Y,e,Z,r⟩:=h;exact ⟨a,Y,e,S.tup a Y Z,aj.fw S r⟩
 | .lst X,v,h=>by
  simp only [DV] at h |-;obtain ⟨a,Y,e,Z,r⟩:=h;exact ⟨a,Y,e,S.yX Z,aj.fw S r⟩
 | .aW L,v,h=>by
  simp only [DV] at h |-;obtain ⟨a,e,R,Z⟩:=h;obtain ⟨Q,P⟩:=S.aW a _ R Z;exact ⟨a,e,Q,P⟩
 | .aN k,v,h=>by
  simp only [DV] at h |-;obtain ⟨a,e,e2⟩:=h;exact ⟨a,S.uZ k a e,e2⟩
 | .ty _,_,h=>h
 | .bb J,v,h=>by
  simp only [DV] at h |-;obtain ⟨a,e,Z⟩:=h;exact ⟨a,e,S.Hw Z⟩
 | .exc c m,v,h=>by
  simp only [DV] at h |-;obtain ⟨a,o,C,e,Z,r,k⟩:=h;refine ⟨a,o,C,e,S.aI a o _ Z.1 Z.2,r,fun i hi=>?_⟩;obtain ⟨O,W,U,t,N,T,M⟩:=k i hi;exact ⟨O,W,U,t,N,S.aI W U _ T.1 T.2,M⟩
 | .bG a I X,v,h=>by
  simp only [DV] at h |-;exact ⟨h.1,aj.fw S h.2⟩
theorem aj.fw (S:Fw K w w'):∀{ds:List D} {vs:List V},aj K w ds vs->aj K w' ds vs
 | [],_,h=>h
 |d::ds,vs,h=>by
  simp only [aj] at h |-;obtain ⟨v,r,e,Z,Y⟩:=h;exact ⟨v,r,e,DV.fw S Z,aj.fw S Y⟩
end
structure Le (K:ð) (w w':Wd):Prop where
 dv:∀d v,DV K w d v->DV K w' d v
 lst:∀a xs,LstAt w a xs->LstAt w' a xs
 tup:∀a xs,bg K w.H a xs->bg K w'.H a xs
 aI:∀a o u,¬ w.Z a->w.H a=some (.aI o u)->¬ w'.Z a/\w'.H a=some (.aI o u)
noncomputable instance {K:ð} {w w':Wd}:CoeFun (Le K w w') (fun _=>∀d v,DV K w d v->DV K w' d v):=⟨Le.dv⟩
def Le.refl (w:Wd):Le K w w:=⟨fun _ _ h=>h,fun _ _ h=>h,fun _ _ h=>h,fun _ _ _ h g=>⟨h,g⟩⟩
def Le.trans (h:Le K a b) (g:Le K b c):Le K a c:=⟨fun d v x=>g.dv d v (h.dv d v x),fun p Z x=>g.lst p Z (h.lst p Z x),fun p Z x=>g.tup p Z (h.tup p Z x),fun p o u z x=>let q:=h.aI p o u z x;g.aI p o u q.1 q.2⟩
def Fw.le (S:Fw K w w'):Le K w w':=⟨fun _ _ h=>h.fw S,fun _ _ h=>S.yX h,S.tup,S.aI⟩
theorem Le.all (h:Le K w w'):∀{ds:List D} {vs:List V},aj K w ds vs->aj K w' ds vs
 | [],_,x=>x
 |d::ds,vs,x=>by
  simp only [aj] at x |-;obtain ⟨v,r,e,Z,Y⟩:=x;exact ⟨v,r,e,h d v Z,Le.all h Y⟩
theorem aj.length:∀{ds:List D} {vs:List V},aj K w ds vs->ds.length=vs.length
 | [],vs,h=>by
  have e:vs=[]:=h;subst e;rfl
 |d::ds,vs,h=>by
  obtain ⟨v,r,e,_,Z⟩:=h;subst e;simp [aj.length Z]
theorem aj.get:∀{ds:List D} {vs:List V},aj K w ds vs->∀(i:Nat) v,vs[i]?=some v->∃d,ds[i]?=some d/\DV K w d v
 | [],vs,h,i,v,e=>by
  have Z:vs=[]:=h;subst Z;simp at e
 |d::ds,vs,h,i,v,e=>by
  obtain ⟨u,r,Z,Y,X⟩:=h;subst Z
  cases i with
  |zero =>
   have:u=v:=by simpa using e
   subst this;exact ⟨d,rfl,Y⟩
  |succ i=>exact aj.get X i v (by simpa using e)
theorem aj.get':∀{ds:List D} {vs:List V},aj K w ds vs->∀(i:Nat) d,ds[i]?=some d->∃v,vs[i]?=some v/\DV K w d v
 | [],vs,h,i,d,e=>by simp at e
 |d::ds,vs,h,i,Z,e=>by
  obtain ⟨u,r,Y,X,W⟩:=h;subst Y
  cases i with
  |zero =>
   have:d=Z:=by simpa using e
   subst this;exact ⟨u,rfl,X⟩
  |succ i=>exact aj.get' W i Z (by simpa using e)
theorem aj.append:∀{ds es:List D} {vs ws:List V},aj K w ds vs->aj K w es ws->aj K w (ds++es) (vs++ws)
 | [],es,vs,ws,h,Z=>by
  have e:vs=[]:=h;subst e;exact Z
 |d::ds,es,vs,ws,h,Z=>by
  obtain ⟨v,r,e,Y,X⟩:=h;subst e;exact ⟨v,r++ws,rfl,Y,aj.append X Z⟩
theorem aj.take:∀{ds:List D} {vs:List V} (n:Nat),aj K w ds vs->aj K w (ds.take n) (vs.take n)
 | [],vs,n,h=>by
  have e:vs=[]:=h;subst e;simp [aj]
 |d::ds,vs,0,h=>by simp [aj]
 |d::ds,vs,n+1,h=>by
  obtain ⟨v,r,e,Z,Y⟩:=h;subst e;exact ⟨v,r.take n,rfl,Z,aj.take n Y⟩
theorem aj.drop:∀{ds:List D} {vs:List V} (n:Nat),aj K w ds vs->aj K w (ds.drop n) (vs.drop n)
 | [],vs,n,h=>by
  have e:vs=[]:=h;subst e;simp [aj]
 |d::ds,vs,0,h=>h
 |d::ds,vs,n+1,h=>by
  obtain ⟨v,r,e,Y,Z⟩:=h;subst e;exact aj.drop n Z
theorem aj.reverse:∀{ds:List D} {vs:List V},aj K w ds vs->aj K w ds.reverse vs.reverse
 | [],vs,h=>by
  have e:vs=[]:=h;subst e;simp [aj]
 |d::ds,vs,h=>by
  obtain ⟨v,r,e,Z,Y⟩:=h;subst e;rw [List.reverse_cons,List.reverse_cons];exact aj.append (aj.reverse Y) ⟨v,[],rfl,Z,rfl⟩
theorem aj.set (hd:DV K w d v):∀{ds:List D} {vs:List V} (i:Nat),aj K w ds vs->aj K w (ds.set i d) (vs.set i v)
 | [],vs,i,h=>by
  have e:vs=[]:=h;subst e;simp [aj]
 |d'::ds,vs,0,h=>by
  obtain ⟨u,r,e,Y,Z⟩:=h;subst e;exact ⟨v,r,rfl,hd,Z⟩
 |d'::ds,vs,i+1,h=>by
  obtain ⟨u,r,e,Y,Z⟩:=h;subst e;exact ⟨u,r.set i v,rfl,Y,aj.set hd i Z⟩
def aj.one (h:DV K w d v):aj K w [d] [v]:=⟨v,[],rfl,h,rfl⟩
def aj.two (h:DV K w d v) (h':DV K w d' v'):aj K w [d,d'] [v,v']:=⟨v,_,rfl,h,aj.one h'⟩
theorem aj.ints:∀(ns:List Int),aj K w (ns.map D.int) (ns.map V.int)
 | []=>rfl
 |n::ns=>⟨.int n,_,rfl,rfl,aj.ints ns⟩
theorem aj.pd:∀{bs:List Bool} {vs:List V},aj K w (bs.map D.bl) vs->vs=bs.map V.bl
 | [],_,h=>h
 |n::X,vs,h=>by
  obtain ⟨v,r,e,Z,Y⟩:=h;have e1:v=.bl n:=Z;rw [e,e1,aj.pd Y];rfl
def DX (a:Í) (es:List (Int×Í)) (h:ā):Prop:=(a==Ĥ)=false/\∃(o:Obj) (Z:Array DictEntry) (Y:Nat),h.get? a=some o/\o.ExactDict/\o.data=.dict Z Y/\Z.toList=es.map fun p=>(⟨p.1,.ref p.2,.bool true⟩:DictEntry)
def Hx (w:Wd) (q:Str) (cv:Ã):Prop:=∃Y X W t,cv=.ref Y/\(¬ w.Z Y/\w.H Y=some (.aI X (.own Y)))/\X.data=.fields W/\W[1]?=some (.str q t)
def Je (K:ð) (w:Wd) (a:Í) (x:Str):Prop:=∃c Z,ψ K x=some (c,a)/\w.H a=some (.cf Z)/\PySem.TriplesOk Z.toList/\∀pos Y,PySem.codeAmong pos Z.toList=some Y->Hx w (x++".<locals>."++"<lambda>") Y
def kQ (K:ð) (w:Wd) (a:Í):Cell->Prop
 | .dead=>True
 | .lst W=>∃X,w.H a=some (.lst X)/\aj K w W X
 | .dK Z=>∃Y:List (Key×V),w.H a=some (.dK Y)/\Y.map (·.1)=Z.map (·.1)/\aj K w (Z.map (·.2)) (Y.map (·.2))
 | .dT Z=>∃as:List Í,w.H a=some (.ext (DX a ((Z.map (·.2)).zip as)))/\aj K w (Z.map (·.1)) (as.map V.ref)/\(Z.map (·.1)).Nodup
 | .tb x=>Je K w a x
structure aG (K:ð) (w:Wd):Prop where
 len:w.ρ.length=w.ax.length
 nd:w.ρ.Nodup
 there:∀(k:Nat) a,w.ρ[k]?=some a->w.H a≠none
 cell:∀(k:Nat) a c,w.ρ[k]?=some a->w.ax[k]?=some c->kQ K w a c
theorem kQ.le (h:kQ K w a c) (le:Le K w w') (e:c≠.dead->w'.H a=w.H a):kQ K w' a c:=by
 cases c with
 |dead=>trivial
 |lst J =>
  obtain ⟨T,Z,Y⟩:=h;exact ⟨T,(e (by intro z;cases z)).trans Z,le.all Y⟩
 |dK S =>
  obtain ⟨R,Z,Y,X⟩:=h;exact ⟨R,(e (by intro z;cases z)).trans Z,Y,le.all X⟩
 |dT S =>
  obtain ⟨as,Z,Y,X⟩:=h;exact ⟨as,(e (by intro z;cases z)).trans Z,le.all Y,X⟩
 |tb x =>
  obtain ⟨c,Q,Z,Y,X,P⟩:=h
  exact ⟨c,Q,Z,(e (by intro z;cases z)).trans Y,X,fun pos O q=>let ⟨W,V,N,t,M,U,L⟩:=P pos O q;⟨W,V,N,t,M,le.aI W V _ U.1 U.2,L⟩⟩
section
variable {K:ð} {w:Wd}
def Wd.grow (w:Wd) (p:Í) (o:HO):Wd:={ w with H:=upd w.H p o }
def Rd.grow (hp:H p=none) (h:Rd H a u):Rd (upd H p o) a u:=by
 rcases h with h | ⟨Z,h⟩
 ·exact .inl (by rw [aF (bA h hp)];exact h)
 ·exact .inr ⟨Z,by rw [aF (bA h hp)];exact h⟩
theorem bg.grow (hp:H p=none) (h:bg K H a xs):bg K (upd H p o) a xs:=by
 rcases h with h|h
 ·exact .inl (Rd.grow hp h)
 ·exact .inr h
theorem Fw.grow (hp:w.H p=none):Fw K w (w.grow p o) where
 uZ:=fun _ _ e=>e
 tup:=fun a Y h=>bg.grow hp h
 lst:=fun a Y Z h=>⟨Z,by show upd w.H p o a=_;rw [aF (bA h hp)];exact h⟩
 aI:=fun a X Y Z h=>⟨Z,by show upd w.H p o a=_;rw [aF (bA h hp)];exact h⟩
 aW:=fun a W Z h=>⟨Z,by show upd w.H p o a=_;rw [aF (bA h hp)];exact h⟩
theorem aG.grow (S:aG K w) (hp:w.H p=none):aG K (w.grow p o) where
 len:=S.len
 nd:=S.nd
 there:=fun k a e=>by
  have h:=S.there k a e;show upd w.H p o a≠none;unfold upd;split
  ·intro z;cases z
  ·exact h
 cell:=fun k a c e1 e2=>(S.cell k a c e1 e2).le (Fw.grow hp).le fun _=>by
  have h:=S.there k a e1;show upd w.H p o a=w.H a;rw [aF];intro z;rw [z] at h;exact h hp
def Wd.cell (w:Wd) (p:Í) (o:HO) (c:Cell):Wd:=⟨w.ρ++[p],w.ax++[c],upd w.H p o⟩
def Wd.sr (S:aG K w) (h:(w.cell p o c).Z a):w.Z a\/a=p:=by
 obtain ⟨k,Y,e1,e2,V⟩:=h;have e1:(w.ρ++[p])[k]?=some a:=e1;have e2:(w.ax++[c])[k]?=some Y:=e2;by_cases X:k<w.ρ.length
 ·rw [Õ X] at e1
  rw [Õ (by rw [<- S.len];exact X)] at e2;exact .inl ⟨k,Y,e1,e2,V⟩
 ·rw [è (by omega)] at e1
  right
  cases W:k-w.ρ.length with
  |zero=>rw [W] at e1;exact (MN e1).symm
  |succ j=>rw [W] at e1;cases e1
theorem Fw.cell (S:aG K w) (hp:w.H p=none):Fw K w (w.cell p o c) where
 uZ:=fun k a e=>by
  show (w.ρ++[p])[k]?=some a;rw [Õ (É.mp e).1];exact e
 tup:=fun a Y h=>bg.grow hp h
 lst:=fun a Y Z h=>⟨fun z=>(Wd.sr S z).elim Z (fun e=>by (subst e;rw [hp] at h;cases h)),by show upd w.H p o a=_;rw [aF (bA h hp)];exact h⟩
 aI:=fun a X Y Z h=>⟨fun z=>(Wd.sr S z).elim Z (fun e=>by (subst e;rw [hp] at h;cases h)),by show upd w.H p o a=_;rw [aF (bA h hp)];exact h⟩
 aW:=fun a W Z h=>⟨fun z=>(Wd.sr S z).elim Z (fun e=>by (subst e;rw [hp] at h;cases h)),by show upd w.H p o a=_;rw [aF (bA h hp)];exact h⟩
def aG.Hy (S:aG K w) (hp:w.H p=none) (hc:kQ K (w.cell p o c) p c):aG K (w.cell p o c) where
 len:=by show (w.ρ++[p]).length=(w.ax++[c]).length;simp [S.len]
 nd:=by
  show (w.ρ++[p]).Nodup;rw [List.nodup_append];refine ⟨S.nd,by simp,fun a W b V=>?_⟩;obtain ⟨k,e⟩:=List.getElem?_of_mem W;have h:=S.there k a e;have U:b=p:=by simpa using V
  rw [U];intro z;rw [z] at h;exact h hp
 there:=fun k a e=>by
  have e:(w.ρ++[p])[k]?=some a:=e;show upd w.H p o a≠none;unfold upd;split
  ·intro z;cases z
  ·rename_i T
   by_cases Y:k<w.ρ.length
   ·rw [Õ Y] at e
    exact S.there k a e
   ·rw [è (by omega)] at e
    cases Z:k-w.ρ.length with
    |zero=>rw [Z] at e;exact absurd (MN e).symm T
    |succ j=>rw [Z] at e;cases e
 cell:=fun k a X e1 e2=>by
  have e1:(w.ρ++[p])[k]?=some a:=e1;have e2:(w.ax++[c])[k]?=some X:=e2;by_cases Y:k<w.ρ.length
  ·rw [Õ Y] at e1
   rw [Õ (by rw [<- S.len];exact Y)] at e2;refine (S.cell k a X e1 e2).le (Fw.cell S hp).le fun _=>?_;have h:=S.there k a e1;show upd w.H p o a=w.H a;rw [aF];intro z;rw [z] at h;exact h hp
  ·rw [è (by omega)] at e1
   rw [è (by rw [<- S.len];omega)] at e2;rw [<- S.len] at e2
   cases Z:k-w.ρ.length with
   |zero =>
    rw [Z] at e1 e2;have e1:p=a:=MN e1;have e2:c=X:=MN e2;subst e1 e2;exact hc
   |succ j=>rw [Z] at e1;cases e1
def Wd.same (w:Wd) (H':Hp):Wd:={ w with H:=H' }
theorem Fw.same (e:gK w.H H'):Fw K w (w.same H') :=
 ⟨fun _ _ e=>e,fun a Y h=>e.JZ h,fun a Y Z h=>⟨Z,e _ _ h⟩,fun a o Y Z h=>⟨Z,e _ _ h⟩,fun a X Z h=>⟨Z,e _ _ h⟩⟩
theorem aG.same (S:aG K w) (e:gK w.H H'):aG K (w.same H') where
 len:=S.len
 nd:=S.nd
 there:=fun k a q=>by
  have h:=S.there k a q;show H' a≠none
  cases Z:w.H a with
  |none=>exact absurd Z h
  |some o=>rw [e _ _ Z];intro z;cases z
 cell:=fun k a c e1 e2=>(S.cell k a c e1 e2).le (Fw.same e).le fun _=>by
  have h:=S.there k a e1;show H' a=w.H a
  cases Z:w.H a with
  |none=>exact absurd Z h
  |some o=>exact e _ _ Z
def Wd.put (w:Wd) (k:Nat) (a:Í) (o:HO) (c:Cell):Wd:=⟨w.ρ,w.ax.set k c,upd w.H a o⟩
def BC {α:Type} {l:List α} (nd:l.Nodup) {i j:Nat} {a:α} (h1:l[i]?=some a) (h2:l[j]?=some a):i=j:=by
 exact (List.getElem?_inj (É.mp h1).1 nd).mp (h1.trans h2.symm)
def Wd.tm (h0:w.ρ[k]?=some a) (h1:w.ax[k]?=some c0) (h2:c0≠.dead) (h:(w.put k a o c).Z b):w.Z b:=by
 obtain ⟨j,Y,e1,e2,W⟩:=h;have e1:w.ρ[j]?=some b:=e1;have e2:(w.ax.set k c)[j]?=some Y:=e2;by_cases X:k=j
 ·subst X
  exact ⟨k,c0,e1,h1,h2⟩
 ·rw [Þ X] at e2
  exact ⟨j,Y,e1,e2,W⟩
theorem Fw.put (S:aG K w) (h0:w.ρ[k]?=some a) (h1:w.ax[k]?=some c0) (h2:c0≠.dead):Fw K w (w.put k a o c):=by
 have W:w.Z a:=⟨k,c0,h0,h1,h2⟩;have T:∀X,¬ Rd w.H a (.tup X):=fun X h=>by
  have q:=S.cell k a c0 h0 h1
  cases c0 with
  |dead=>exact h2 rfl
  |lst Q=>obtain ⟨V,e,_⟩:=q;rcases h with h | ⟨_,h⟩<;>(rw [e] at h;cases h)
  |dK R=>obtain ⟨V,e,_⟩:=q;rcases h with h | ⟨_,h⟩<;>(rw [e] at h;cases h)
  |dT R=>obtain ⟨V,e,_⟩:=q;rcases h with h | ⟨_,h⟩<;>(rw [e] at h;cases h)
  |tb x=>obtain ⟨_,V,_,e,_⟩:=q;rcases h with h | ⟨_,h⟩<;>(rw [e] at h;cases h)
 refine ⟨fun _ _ e=>e,fun b X h=>?_,fun b X Y h=>⟨fun z=>Y (Wd.tm h0 h1 h2 z),?_⟩,fun b U X Y h=>⟨fun z=>Y (Wd.tm h0 h1 h2 z),?_⟩,fun b P Y h=>⟨fun z=>Y (Wd.tm h0 h1 h2 z),?_⟩⟩
 ·rcases h with h|h
  ·have ne:b≠a:=fun e=>by subst e;exact T X h
   refine .inl ?_
   rcases h with h | ⟨U,h⟩
   ·exact .inl (by show upd w.H a o b=_;rw [aF ne];exact h)
   ·exact .inr ⟨U,by show upd w.H a o b=_;rw [aF ne];exact h⟩
  ·exact .inr h
 ·have ne:b≠a:=fun e=>by subst e;exact Y W
  show upd w.H a o b=_;rw [aF ne];exact h
 ·have ne:b≠a:=fun e=>by subst e;exact Y W
  show upd w.H a o b=_;rw [aF ne];exact h
 ·have ne:b≠a:=fun e=>by subst e;exact Y W
  show upd w.H a o b=_;rw [aF ne];exact h
def aG.zT {k:Nat} {a:Í} {o:HO} {c c0:Cell} (S:aG K w) (h0:w.ρ[k]?=some a) (h1:w.ax[k]?=some c0) (h2:c0≠.dead) (hc:kQ K (w.put k a o c) a c):aG K (w.put k a o c) where
 len:=by show w.ρ.length=(w.ax.set k c).length;rw [ú];exact S.len
 nd:=S.nd
 there:=fun j b e=>by
  show upd w.H a o b≠none;unfold upd;split
  ·intro z;cases z
  ·exact S.there j b e
 cell:=fun j b Z e1 e2=>by
  have e1:w.ρ[j]?=some b:=e1;have e2:(w.ax.set k c)[j]?=some Z:=e2;by_cases Y:k=j
  ·subst Y
   rw [h0] at e1;have e1:a=b:=MN e1;rw [â (É.mp h1).1] at e2;have e2:c=Z:=MN e2;subst e1 e2;exact hc
  ·rw [Þ Y] at e2
   refine (S.cell j b Z e1 e2).le (Fw.put S h0 h1 h2).le fun _=>?_;show upd w.H a o b=w.H b;rw [aF];intro z;subst z;exact Y (BC S.nd h0 e1)
end
structure bx (K:ð) (w:Wd) (env:Env) (σ:St):Prop where
 len:env.length=σ.length
 val:∀(i:Nat) d,env[i]?=some (some d)->∃v,σ[i]?=some (some v)/\DV K w d v
theorem bx.le (h:bx K w env σ) (le:Le K w w'):bx K w' env σ :=
 ⟨h.len,fun i d e=>by obtain ⟨v,e1,e2⟩:=h.val i d e;exact ⟨v,e1,le d v e2⟩⟩
theorem bx.set (h:bx K w env σ) (hd:DV K w d v) (i:Nat):bx K w (env.set i (some d)) (σ.set i (some v)):=by
 refine ⟨by rw [ú,ú];exact h.len,fun j X e=>?_⟩;by_cases Z:i=j
 ·subst Z
  have Y:=(É.mp e).1;rw [ú] at Y;rw [â Y] at e;have e:d=X:=MN (MN e);subst e;exact ⟨v,by rw [â (by rw [<- h.len];exact Y)],hd⟩
 ·rw [Þ Z] at e
  rw [Þ Z];exact h.val j X e
def Out (K:ð) (Ξ:Wd->aM->Prop) (w:Wd) {α:Type} (r:Res α) (k:Wd->α->Prop):Prop:=match r with
 |none=>False
 |some (.ok a,s)=>∀Z,Le K w Z->aG K Z->Z.ax=s->k Z a
 |some (.error x,s)=>∀Z,Le K w Z->aG K Z->Z.ax=s->Ξ Z x
section
variable {K:ð} {Ξ:Wd->aM->Prop} {w w':Wd} {α β:Type} {r:Res α} {k k':Wd->α->Prop}
def Out.from (h:Out K Ξ w r k) (le:Le K w w'):Out K Ξ w' r k:=by
 unfold Out at h |-
 split<;>simp only at h
 ·exact fun Z Y X e2=>h Z (le.trans Y) X e2
 ·exact fun Z Y X e2=>h Z (le.trans Y) X e2
def Out.mono (h:Out K Ξ w r k) (hk:∀w2 a,Le K w w2->aG K w2->k w2 a->k' w2 a):Out K Ξ w r k':=by
 unfold Out at h |-
 split<;>simp only at h
 ·exact fun w2 Z Y e2=>hk w2 _ Z Y (h w2 Z Y e2)
 ·exact h
theorem Out.ak {q:Wd->β->Prop} (h:Out K Ξ w (DI.ak r g) q):Out K Ξ w r (fun w2 a=>Out K Ξ w2 (g a w2.ax) q):=by
 match r,h with
 |some (.ok a,s),h =>
  intro w2 Z Y e2;rw [e2];exact Out.from h Z
 |some (.error x,s),h=>exact h
def Out.done (h:Out K Ξ w (some (.ok a,w.ax)) k) (S:aG K w):k w a:=h w (Le.refl w) S rfl
end
end DI
namespace DI
open PySem L2
def tE (K:ð) (Ξ:Wd->aM->Prop) (f:MG D):TE:=fun σ H Q=>∃w env,w.H=H/\aG K w/\bx K w env σ/\Out K Ξ w (f env w.ax) fun Z d=>∀v,DV K Z d v->Q v Z.H
def tT (K:ð) (Ξ:Wd->aM->Prop) (f:MG Bool):TT:=fun σ H Q=>∃w env,w.H=H/\aG K w/\bx K w env σ/\Out K Ξ w (f env w.ax) fun Z b=>Q b Z.H
def tA (K:ð) (Ξ:Wd->aM->Prop) (f:MG (List D)):TA:=fun σ H Q=>∃w env,w.H=H/\aG K w/\bx K w env σ/\Out K Ξ w (f env w.ax) fun Z X=>∀Y,aj K Z X Y->Q Y Z.H
def rO (K:ð) (Ξ:Wd->aM->Prop) (o:D->D->aa->Res D):R2:=fun x y H Q=>∃w Z Y,w.H=H/\aG K w/\DV K w Z x/\DV K w Y y/\Out K Ξ w (o Z Y w.ax) fun X d=>∀v,DV K X d v->Q v X.H
def rU (K:ð) (Ξ:Wd->aM->Prop) (o:D->aa->Res D):V->Hp->VK->Prop:=fun x H Q=>∃w Z,w.H=H/\aG K w/\DV K w Z x/\Out K Ξ w (o Z w.ax) fun Y d=>∀v,DV K Y d v->Q v Y.H
def rC (K:ð) (Ξ:Wd->aM->Prop) (o:List D->aa->Res D):List V->Hp->VK->Prop:=fun X H Q=>∃w Z,w.H=H/\aG K w/\aj K w Z X/\Out K Ξ w (o Z w.ax) fun Y d=>∀v,DV K Y d v->Q v Y.H
def af (i:Nat):MG D:=fun env s=>match env[i]? with
 |some (some d)=>ok d s
 |_=>none
def eC (d:D):MG D:=fun _ s=>ok d s
def e1 (o:D->aa->Res D) (f:MG D):MG D:=fun env s=>ak (f env s) fun x s=>o x s
def e2 (o:D->D->aa->Res D) (f g:MG D):MG D:=fun env s=>ak (f env s) fun x s=>ak (g env s) fun y s=>o x y s
def ag:MG (List D):=fun _ s=>ok [] s
def ae (f:MG D) (g:MG (List D)):MG (List D):=fun env s=>ak (f env s) fun x s=>ak (g env s) fun Z s=>ok (x::Z) s
def eB (o:List D->aa->Res D) (f:MG (List D)):MG D:=fun env s=>ak (f env s) fun Z s=>o Z s
def fq {α:Type} (ds:List D) (r:Res α):Res α:=if ds.length<=Ï then r else none
def bB (f:MG (List D)):MG D:=fun env s=>ak (f env s) fun Z s=>fq Z (ok (.tup Z) s)
def cP (f:MG (List D)):MG D:=fun env s=>ak (f env s) fun Z s=>fq Z (ok (.lst Z) s)
def eNew (f:MG (List D)):MG D:=fun env s=>ak (f env s) fun Z s=>fq Z (ok (.aN s.length) (s++[.lst Z]))
def aI:D->aa->Res D:=fun d s=>match d with
 | .aN k=>match s[k]? with
  |some (.lst Z)=>ok (.lst Z) (s.set k .dead)
  |_=>none
 |_=>none
def zU (f:MG D):MG D:=fun env s=>ak (f env s) aI
def et (d:D) (s:aa):Res Bool:=match d with
 | .bl b=>ok b s
 |_=>none
def bJ (f:MG D):MG Bool:=fun env s=>ak (f env s) et
def truth (d:D) (s:aa):Res Bool:=match d with
 | .aq=>ok false s
 | .bl b=>ok b s
 | .int i=>ok (i != 0) s
 | .str x=>if x.length<=Ï then ok ((x.length:Int) != 0) s else none
 | .tup Z=>ok (!Z.isEmpty) s
 | .lst Z=>ok (!Z.isEmpty) s
 | .aW Y=>ok (!Y.isEmpty) s
 | .aN k=>match s[k]? with
  |some (.lst Z)=>ok (!Z.isEmpty) s
  |some (.dK Y)=>ok (!Y.isEmpty) s
  |_=>none
 | .ty _=>none
 | .bb _=>none
 | .exc _ _=>none
 | .bG _ _ _=>none
def c9 (f:MG D):MG Bool:=fun env s=>ak (f env s) truth
def tW (f g:MG Bool):MG Bool:=fun env s=>ak (f env s) fun b s=>if b=true then g env s else ok false s
def gn (f g:MG Bool):MG Bool:=fun env s=>ak (f env s) fun b s=>if b=true then ok true s else g env s
def fc (f:MG Bool):MG Bool:=fun env s=>ak (f env s) fun b s=>ok (!b) s
def fx (f g:MG D):MG D:=fun env s=>ak (f env s) fun x s=>ak (et x s) fun b s=>if b=true then g env s else ok (.bl false) s
def AN (f g:MG D):MG D:=fun env s=>ak (f env s) fun x s=>ak (et x s) fun b s=>if b=true then ok (.bl true) s else g env s
def qe (f:MG D):MG D:=fun env s=>ak (f env s) fun x s=>ak (et x s) fun b s=>ok (.bl (!b)) s
def lU (c:MG Bool) (f g:MG D):MG D:=fun env s=>ak (c env s) fun b s=>if b=true then f env s else g env s
def AO (o o':D->D->aa->Res D) (f g h:MG D):MG D:=fun env s=>ak (f env s) fun x s=>ak (g env s) fun y s=>ak (o x y s) fun z s=>ak (et z s) fun b s =>
 if b=true then ak (h env s) fun u s=>o' y u s else ok (.bl false) s
section
variable {X:Cx} {Ξ:Wd->aM->Prop} {e a b c:ÿ} {es rest:List ÿ} {pos:Pos} {f g h:MG D} {fa:MG (List D)} {ft gt:MG Bool}
def ck {t t':TE} (h:PE X e t) (i:∀ σ H Q,t' σ H Q->t σ H Q):PE X e t':=fun Z s σ H Q I Y=>h Z s σ H Q I (i σ H Q Y)
def su {t t':TT} (h:PT X e t) (i:∀ σ H Q,t' σ H Q->t σ H Q):PT X e t':=fun Z s σ H Q I Y=>h Z s σ H Q I (i σ H Q Y)
def F5 {t t':TT} (h:PW X e t) (i:∀ σ H Q,t' σ H Q->t σ H Q):PW X e t':=fun Z Y s σ H Q I W=>h Z Y s σ H Q I (i σ H Q W)
def xZ {t t':TA} (h:PA X es t) (i:∀ σ H Q,t' σ H Q->t σ H Q):PA X es t':=fun p Z s σ H Q I Y=>h p Z s σ H Q I (i σ H Q Y)
def iU (h:PS X st t) (i:∀D σ H,t' D σ H->t D σ H):PS X st t':=fun Z s σ H D I Y=>h Z s σ H D I (i D σ H Y)
def xn (h:bQ X st t) (i:∀D σ H,t' D σ H->t D σ H):bQ X st t':=fun Z s σ H D I Y=>h Z s σ H D I (i D σ H Y)
def aw {α:Type} {K:ð} {w:Wd} {a:α} {k:Wd->α->Prop} (S:aG K w) (h:Out K Ξ w (ok a w.ax) k):k w a:=h w (Le.refl w) S rfl
def ai (i:Nat) {x:Str} (hN:X.N[i]?=some x:=by rfl) (hv:lQ X.env.scope x:=by first|exact Or.inl rfl|exact Or.inr (Or.inl rfl)|exact Or.inr (Or.inr rfl)) (hd:(x==("__debug__":Str))=false:=by decide)
  (bF:(x==("__classdict__":Str))=false:=by decide):PE X (.Name x pos) (tE X.K Ξ (af i)):=ck (xT hN hv hd bF) fun σ H Q Z=>by
 obtain ⟨w,env,Y,S,W,h⟩:=Z;unfold af at h;split at h
 ·rename_i d V
  obtain ⟨v,e1,e2⟩:=W.val i d V;subst Y;exact ⟨v,e1,aw S h v e2⟩
 ·exact h.elim
def kZ {d:D} {v:V} (h:PE X e (tC v)) (hd:∀w,DV X.K w d v):PE X e (tE X.K Ξ (eC d)):=ck h fun σ H Q Z=>by
 obtain ⟨w,env,Y,S,W,h⟩:=Z;subst Y;exact aw S h v (hd w)
def ar {i j}:PE X (.Constant (.int i) j pos) (tE X.K Ξ (eC (.int i))):=kZ Fh fun _=>rfl
def dB {b j}:PE X (.Constant (.bool b) j pos) (tE X.K Ξ (eC (.bl b))):=kZ sW fun _=>rfl
def pU {j}:PE X (.Constant .none j pos) (tE X.K Ξ (eC .aq)):=kZ Fi fun _=>rfl
def dP {x j}:PE X (.Constant (.str x) j pos) (tE X.K Ξ (eC (.str x))):=kZ Fj fun _=>rfl
def pe (σ:St) (H:Hp) (Q:VK):tE K Ξ (e2 o f g) σ H Q->nX (rO K Ξ o) (tE K Ξ f) (tE K Ξ g) σ H Q:=by
 rintro ⟨w,env,rfl,S,Z,h⟩;exact ⟨w,env,rfl,S,Z,(Out.ak h).mono fun Y x X W V v1 U=>⟨Y,env,rfl,W,Z.le X,(Out.ak V).mono fun T y R P O v2 N=>⟨T,x,y,rfl,P,R _ _ U,N,O⟩⟩⟩
def aQ (ho:bp X (č op) (rO X.K Ξ o)) (ha:PE X a (tE X.K Ξ f)) (hb:PE X b (tE X.K Ξ g)):PE X (.BinOp a op b pos) (tE X.K Ξ (e2 o f g)):=ck (Hd ho ha hb) pe
def k8 (ho:bp X (Ā op) (rO X.K Ξ o)) (ha:PE X a (tE X.K Ξ f)) (hb:PE X b (tE X.K Ξ g)) (hm:ŗ op b=false):PE X (.Compare a [op] [b] pos) (tE X.K Ξ (e2 o f g)):=ck (Ek ho ha hb hm) pe
def F6 {K:ð} (σ:St) (H:Hp) (Q:Bool->Hp->Prop):tT K Ξ (bJ f) σ H Q->pT (tE K Ξ f) σ H Q:=by
 rintro ⟨w,env,rfl,S,Y,h⟩;refine ⟨w,env,rfl,S,Y,(Out.ak h).mono fun V x U X Z v1 W=>?_⟩
 cases x with
 |bl b =>
  have e:v1=.bl b:=W;exact ⟨b,e,aw X Z⟩
 |_=>exact Z.elim
def B5 (i:∀ σ H Q,t' σ H Q->t σ H Q) (σ:St) (H:Hp) (Q:Bool->Hp->Prop):pT t' σ H Q->pT t σ H Q:=fun h=>i _ _ _ h
def cZ (ho:bp X (Ā op) (rO X.K Ξ o)) (ha:PE X a (tE X.K Ξ f)) (hb:PE X b (tE X.K Ξ g)) (hm:ŗ op b=false):PT X (.Compare a [op] [b] pos) (tT X.K Ξ (bJ (e2 o f g))) :=
 su (El ho ha hb hm) fun σ H Q h=>B5 pe σ H Q (F6 σ H Q h)
def zV (ho:nW X (unaryOp op) (rU X.K Ξ o)) (ha:PE X a (tE X.K Ξ f)):PE X (.UnaryOp op a pos) (tE X.K Ξ (e1 o f)):=ck (He ho ha) fun σ H Q Z=>by
 obtain ⟨w,env,Y,S,W,h⟩:=Z;subst Y;exact ⟨w,env,rfl,S,W,(Out.ak h).mono fun V x P U T v1 R=>⟨V,x,rfl,U,R,T⟩⟩
def fV:PA X [] (tA X.K Ξ ag):=xZ jY fun σ H Q Z=>by
 obtain ⟨w,env,Y,S,W,h⟩:=Z;subst Y;exact aw S h _ rfl
def bU (ha:PE X e (tE X.K Ξ f)) (hr:PA X es (tA X.K Ξ fa)) (hs:Æ (e::es) X.env=(false,Ĝ e X.env)::Æ es X.env:=by rfl):PA X (e::es) (tA X.K Ξ (ae f fa)):=xZ (ig ha hr hs) fun σ H Q Y=>by
 obtain ⟨w,env,W,S,Z,h⟩:=Y;subst W;exact ⟨w,env,rfl,S,Z,(Out.ak h).mono fun V x U T R v1 P=>⟨V,env,rfl,T,Z.le U,(Out.ak R).mono fun I G O N M L J=>aw N M _ ⟨v1,L,rfl,O _ _ P,J⟩⟩⟩
def mr {α:Type} {K:ð} {w:Wd} {ds:List D} {r:Res α} {k:Wd->α->Prop} (h:Out K Ξ w (fq ds r) k):ds.length<=Ï/\Out K Ξ w r k:=by
 unfold fq at h;split at h
 ·exact ⟨by assumption,h⟩
 ·exact h.elim
def cm {x1} (ha:PA X es (tA X.K Ξ fa)):PE X (.Tuple es x1 pos) (tE X.K Ξ (bB fa)):=ck (FI ha) fun σ H Q V=>by
 obtain ⟨w,env,U,S,T,h⟩:=V;subst U;refine ⟨w,env,rfl,S,T,(Out.ak h).mono fun R L J P O Y W=>?_⟩;obtain ⟨N,M⟩:=mr O;refine ⟨by rw [<- W.length];exact N,fun p Z=>?_⟩;exact M (R.grow p (.tup Y)) (Fw.grow Z).le (P.grow Z) rfl (.ref p) ⟨p,Y,rfl,bg.of b9,(Fw.grow Z).le.all W⟩
def jl {K:ð} {w:Wd} {p:Í} (S:aG K w) (hp:w.H p=none):¬ w.Z p:=fun ⟨k,c,e1,_,_⟩=>S.there k p e1 hp
def eh (ha:PA X es (tA X.K Ξ fa)):PE X (.List es pos) (tE X.K Ξ (cP fa)):=ck (xX ha) fun σ H Q R=>by
 obtain ⟨w,env,P,S,O,h⟩:=R;subst P;refine ⟨w,env,rfl,S,O,(Out.ak h).mono fun W J I V N U T=>?_⟩;obtain ⟨M,L⟩:=mr N;refine ⟨by rw [<- T.length];exact M,fun p Y=>?_⟩;exact L (W.grow p (.lst U)) (Fw.grow Y).le (V.grow Y) rfl (.ref p) ⟨p,U,rfl,⟨(show ¬ W.Z p from jl V Y),b9⟩,(Fw.grow Y).le.all T⟩
def yY (ha:PA X es (tA X.K Ξ fa)):PE X (.List es pos) (tE X.K Ξ (eNew fa)):=ck (xX ha) fun σ H Q R=>by
 obtain ⟨w,env,P,S,O,h⟩:=R;subst P;refine ⟨w,env,rfl,S,O,(Out.ak h).mono fun Z V J Y N W U=>?_⟩;obtain ⟨M,L⟩:=mr N;refine ⟨by rw [<- U.length];exact M,fun p T=>?_⟩;have le:=(Fw.cell (o:=.lst W) (c:=.lst V) Y T).le;refine L (Z.cell p (.lst W) (.lst V)) le (Y.Hy T ⟨W,b9,le.all U⟩) rfl (.ref p) ⟨p,?_,rfl⟩;show (Z.ρ++[p])[Z.ax.length]?=some p;rw [<- Y.len];simp
theorem nA.of {K:ð} {w:Wd} {d:D} {v:V} {k:Wd->Bool->Prop} (S:aG K w) (hd:DV K w d v) (h:Out K Ξ w (truth d w.ax) k):∃b,nA K v w.H b/\k w b:=by
 cases d with
 |aq=>have e:v=.aq:=hd;subst e;exact ⟨_,rfl,aw S h⟩
 |bl b=>have e:v=.bl b:=hd;subst e;exact ⟨_,rfl,aw S h⟩
 |int i=>have e:v=.int i:=hd;subst e;exact ⟨_,rfl,aw S h⟩
 |str x =>
  have e:v=.str x:=hd;subst e;unfold truth at h
  split at h<;>first|contradiction|skip
  all_goals (rename_i e;cases e)
  split at h
  ·exact ⟨_,⟨by assumption,rfl⟩,aw S h⟩
  ·exact h.elim
 |tup Y =>
  simp only [DV] at hd;obtain ⟨a,Z,rfl,X,r⟩:=hd;refine ⟨_,.inr (.inl ⟨Z,X,?_⟩),aw S h⟩;have e:=r.length
  cases Y<;>cases Z<;>first|rfl|cases e
 |lst Y =>
  simp only [DV] at hd;obtain ⟨a,Z,rfl,X,r⟩:=hd;refine ⟨_,.inl ⟨Z,X.sq,?_⟩,aw S h⟩;have e:=r.length
  cases Y<;>cases Z<;>first|rfl|cases e
 |aW W =>
  simp only [DV] at hd;obtain ⟨a,rfl,_,X⟩:=hd;refine ⟨_,.inr (.inr ⟨_,X,?_⟩),aw S h⟩
  cases W<;>rfl
 |aN j =>
  simp only [DV] at hd;obtain ⟨a,e1,rfl⟩:=hd;simp only [truth] at h;split at h
  ·rename_i Y U
   obtain ⟨Z,T,R⟩:=S.cell j a _ e1 U;refine ⟨_,.inl ⟨Z,bo.of T,?_⟩,aw S h⟩;have e:=R.length
   cases Y<;>cases Z<;>first|rfl|cases e
  ·rename_i W U
   obtain ⟨es,T,R,Q⟩:=S.cell j a _ e1 U;refine ⟨_,.inr (.inr ⟨es,T,?_⟩),aw S h⟩;have e:=ě List.length R
   cases W<;>cases es<;>first|rfl|simp at e
  ·exact h.elim
 |ty n=>exact h.elim
 |bb P=>exact h.elim
 |exc o _=>exact h.elim
 |bG o _ _=>exact h.elim
def fW (ha:PE X a (tE X.K Ξ f)) (he:∀whole,isTrue a X.env whole=(do let v <- whole;standAt a.pos;holding [v] (truthy v)):=by intro _;rfl):PT X a (tT X.K Ξ (c9 f)):=su (Dh ha he) fun σ H Q Z=>by
 obtain ⟨w,env,Y,S,W,h⟩:=Z;subst Y;exact ⟨w,env,rfl,S,W,(Out.ak h).mono fun R x P V U v1 T=>nA.of V T U⟩
def jo (ha:PT X a (tT X.K Ξ ft)):PT X (.UnaryOp .Not a pos) (tT X.K Ξ (fc ft)):=su (Fn ha) fun σ H Q Z=>by
 obtain ⟨w,env,Y,S,W,h⟩:=Z;subst Y;exact ⟨w,env,rfl,S,W,(Out.ak h).mono fun T b R V U=>aw V U⟩
def k9 (ha:PT X a (tT X.K Ξ ft)):PW X (.BoolOp .Or [a] pos) (tT X.K Ξ ft):=Fm ha
def w_or (ha:PT X a (tT X.K Ξ ft)) (hb:PW X (.BoolOp .Or (b::rest) pos) (tT X.K Ξ gt)):PW X (.BoolOp .Or (a::b::rest) pos) (tT X.K Ξ (gn ft gt)):=F5 (G7 ha hb) fun σ H Q V=>by
 obtain ⟨w,env,U,S,Z,h⟩:=V;subst U;refine ⟨w,env,rfl,S,Z,(Out.ak h).mono fun T b R Y W=>?_⟩
 cases b with
 |false=>exact ⟨T,env,rfl,Y,Z.le R,W⟩
 |true=>exact aw Y W
def mY {op} (ha:PE X a (tE X.K Ξ f)):PE X (.BoolOp op [a] pos) (tE X.K Ξ f):=Fo ha
def xo {K:ð} {w:Wd} {d:D} {v:V} {k:Wd->Bool->Prop} (S:aG K w) (hd:DV K w d v) (h:Out K Ξ w (et d w.ax) k):∃b,v=.bl b/\k w b:=by
 cases d with
 |bl b=>exact ⟨b,hd,aw S h⟩
 |_=>exact h.elim
def jq (ha:PE X a (tE X.K Ξ f)) (hb:PE X (.BoolOp .And (b::rest) pos) (tE X.K Ξ g)):PE X (.BoolOp .And (a::b::rest) pos) (tE X.K Ξ (fx f g)):=ck (Fp ha hb) fun σ H Q V=>by
 obtain ⟨w,env,U,S,Y,h⟩:=V;subst U;refine ⟨w,env,rfl,S,Y,(Out.ak h).mono fun T x R Z P v1 O=>?_⟩;obtain ⟨b,e,W⟩:=xo Z O (Out.ak P);refine ⟨b,e,?_⟩
 cases b with
 |true=>exact ⟨T,env,rfl,Z,Y.le R,W⟩
 |false=>exact aw Z W _ rfl
def Hz (ha:PE X a (tE X.K Ξ f)):PE X (.UnaryOp .Not a pos) (tE X.K Ξ (qe f)):=ck (Fq ha) fun σ H Q Y=>by
 obtain ⟨w,env,W,S,V,h⟩:=Y;subst W;refine ⟨w,env,rfl,S,V,(Out.ak h).mono fun P x O Z U v1 T=>?_⟩;obtain ⟨b,e,R⟩:=xo Z T (Out.ak U);exact ⟨b,e,aw Z R _ rfl⟩
def Jf (hc:PT X c (tT X.K Ξ ft)) (ha:PE X a (tE X.K Ξ f)) (hb:PE X b (tE X.K Ξ g)):PE X (.IfExp c a b pos) (tE X.K Ξ (lU ft f g)):=ck (Dd hc ha hb) fun σ H Q T=>by
 obtain ⟨w,env,R,S,Z,h⟩:=T;subst R;refine ⟨w,env,rfl,S,Z,(Out.ak h).mono fun Y b W V U=>?_⟩
 cases b with
 |true=>exact ⟨Y,env,rfl,V,Z.le W,U⟩
 |false=>exact ⟨Y,env,rfl,V,Z.le W,U⟩
def F7 (σ:St) (H:Hp) (Q:VK):tE K Ξ (eB o fa) σ H Q->AB (rC K Ξ o) (tA K Ξ fa) σ H Q:=by
 rintro ⟨w,env,rfl,S,Z,h⟩;exact ⟨w,env,rfl,S,Z,(Out.ak h).mono fun Y X T W V R U=>⟨Y,X,rfl,W,U,V⟩⟩
def cy {x:Str} {p:Pos} {id:String} {o:List D->aa->Res D} (hc:cC X (.builtin id) (rC X.K Ξ o)) (hg:Gl X x) (hm:X.mg x=none) (hv:ì x=some (.builtin id)) (ha:PA X (e::es) (tA X.K Ξ fa)) (hn:x≠"__name__":=by decide) (cG:(x==("__debug__":Str))=false:=by decide)
  (he:Æ (e::es) X.env=(false,Ĝ e X.env)::Æ es X.env:=by rfl) (bN:(ď pos (Æ es X.env)).any (·.1)=false:=by rfl):PE X (.Call (.Name x p) (e::es) [] pos) (tE X.K Ξ (eB o fa)):=ck (rB hc hg hm hv ha hn cG he bN) F7
end
set_option genInjectivity true in
inductive Fl where
 |nx (env:Env)|rt (d:D)|bk (env:Env)|ct (env:Env)
def qf (K:ð) (D:Ends) (w:Wd):Fl->Prop
 | .nx env=>∀ σ,bx K w env σ->D.nx σ w.H
 | .rt d=>∀v,DV K w d v->D.rt v w.H
 | .bk env=>∀ σ,bx K w env σ->D.bk σ w.H
 | .ct env=>∀ σ,bx K w env σ->D.ct σ w.H
def tS (K:ð) (Ξ:Wd->aM->Prop) (f:MG Fl):TS:=fun D σ H=>∃w env,w.H=H/\aG K w/\bx K w env σ/\Out K Ξ w (f env w.ax) (qf K D)
def bC:MG Fl:=fun env s=>ok (.nx env) s
def aD (f g:MG Fl):MG Fl:=fun env s=>ak (f env s) fun fl s=>match fl with
 | .nx env=>g env s
 |fl=>ok fl s
def aR (f:MG D):MG Fl:=fun env s=>ak (f env s) fun d s=>ok (.rt d) s
def yZ (f:MG D):MG Fl:=fun env s=>ak (f env s) fun _ s=>ok (.nx env) s
def bt (c:MG Bool) (f g:MG Fl):MG Fl:=fun env s=>ak (c env s) fun b s=>if b=true then f env s else g env s
def y0:MG Fl:=fun env s=>ok (.ct env) s
def bz (f:MG D) (g:D->Env->Option Env):MG Fl:=fun env s=>ak (f env s) fun d s=>match g d env with
 |some Z=>ok (.nx Z) s
 |none=>none
def gN (i:Nat):D->Env->Option Env:=fun d env=>some (env.set i (some d))
def ff:List (D->Env->Option Env)->List D->Env->Option Env
 | [],[],env=>some env
 |g::Z,d::Y,env=>match g d env with
  |some X=>ff Z Y X
  |none=>none
 |_,_,_=>none
def gT (gs:List (D->Env->Option Env)):D->Env->Option Env:=fun d env=>match d with
 | .tup Z=>ff gs Z env
 |_=>none
def ip (g:D->Env->Option Env) (b:MG Fl):List D->MG Fl
 | [],env,s=>ok (.nx env) s
 |d::Z,env,s=>match g d env with
  |none=>none
  |some Y=>ak (b Y s) fun X s=>match X with
   | .nx e=>ip g b Z e s
   | .ct e=>ip g b Z e s
   | .bk e=>ok (.nx e) s
   | .rt d=>ok (.rt d) s
def gL (it:MG (List D)) (g:D->Env->Option Env) (b:MG Fl):MG Fl:=fun env s=>ak (it env s) fun Z s=>ip g b Z env s
def ne {α:Type} (r:Res α):Res α:=match r with
 |some (.ok a,s)=>some (.ok a,s)
 |_=>none
@[simp] theorem tu {α:Type} {a:α} {s:aa}:ne (some (.ok a,s))=some (.ok a,s):=rfl
def eV (cap:List Nat) (env:Env):Env:=cap.map fun j=>(env[j]?).getD none
def eT (nt:Nat) (aE:Env) (g:D->Env->Option Env) (t:MG Bool) (f:MG D):List D->aa->Res (List D)
 | [],s=>ok [] s
 |d::Z,s=>match g d (Ê nt none++aE) with
  |none=>none
  |some env=>ak (ne (t env s)) fun b s=>if b=true then ak (ne (f env s)) fun x s=>ak (eT nt aE g t f Z s) fun Y s=>ok (x::Y) s
   else eT nt aE g t f Z s
def dw (nt:Nat) (cap:List Nat) (it:MG (List D)) (g:D->Env->Option Env) (t:MG Bool) (f:MG D):MG D:=fun env s =>
 ak (it env s) fun Z s=>fq Z (ak (eT nt (eV cap env) g t f Z s) fun Y s=>ok (.lst Y) s)
def dU:MG Bool:=fun _ s=>ok true s
def aZ (np ns:Nat) (b:MG Fl):List D->aa->Res D:=fun Z s=>if Z.length=np then ak (b (Z.map some++Ê (ns-np) none) s) fun Y s=>match Y with
 | .rt d=>ok d s
 | .nx _=>ok .aq s
 |_=>none else none
abbrev bY:Wd->aM->Prop:=fun _ _=>False
def fI (K:ð) (f:List D->aa->Res D):Sp:=fun X H Q _=>∃w Z,w.H=H/\aG K w/\aj K w Z X/\Out K bY w (f Z w.ax) fun Y d=>∀v,DV K Y d v->Q v Y.H
section
variable {X:Cx} {Ξ:Wd->aM->Prop} {e a b c tg:ÿ} {es rest:List ÿ} {pos:Pos} {f g h:MG D} {fa:MG (List D)} {ft gt:MG Bool} {st:μ} {kC ue:List μ} {fs gs:MG Fl}
def cq:bQ X [] (tS X.K Ξ bC):=xn Eg fun D σ H Z=>by
 obtain ⟨w,env,Y,S,W,h⟩:=Z;subst Y;exact aw S h σ W
def aY (h1:PS X st (tS X.K Ξ fs)) (h2:bQ X kC (tS X.K Ξ gs)):bQ X (st::kC) (tS X.K Ξ (aD fs gs)):=xn (De h1 h2) fun D σ H W=>by
 obtain ⟨w,env,V,S,U,h⟩:=W;subst V;refine ⟨w,env,rfl,S,U,(Out.ak h).mono fun T R P Z h1=>?_⟩
 cases R with
 |nx Y=>exact fun O Q=>⟨T,Y,rfl,Z,Q,h1⟩
 |rt d=>have q:=aw Z h1;exact q
 |bk Y=>have q:=aw Z h1;exact q
 |ct Y=>have q:=aw Z h1;exact q
def aT (h1:PS X st (tS X.K Ξ fs)):bQ X [st] (tS X.K Ξ fs):=Eh h1
def br (he:PE X e (tE X.K Ξ f)):PS X (.Return (some e) pos) (tS X.K Ξ (aR f)):=iU (Fs he) fun D σ H Z=>by
 obtain ⟨w,env,Y,S,W,h⟩:=Z;subst Y;exact ⟨w,env,rfl,S,W,(Out.ak h).mono fun T d R V U=>aw V U⟩
def cw (hc:PT X c (tT X.K Ξ ft)) (ha:bQ X kC (tS X.K Ξ fs)) (hb:bQ X ue (tS X.K Ξ gs)):PS X (.If c kC ue pos) (tS X.K Ξ (bt ft fs gs)):=iU (Hb hc ha hb) fun D σ H T=>by
 obtain ⟨w,env,R,S,Z,h⟩:=T;subst R;refine ⟨w,env,rfl,S,Z,(Out.ak h).mono fun Y b W V U=>?_⟩
 cases b with
 |true=>exact ⟨Y,env,rfl,V,Z.le W,U⟩
 |false=>exact ⟨Y,env,rfl,V,Z.le W,U⟩
def gD (K:ð) (g:D->Env->Option Env):TG:=fun v σ H Q=>∃w env d Z,w.H=H/\aG K w/\bx K w env σ/\DV K w d v/\g d env=some Z/\∀ Y,bx K w Z Y->Q Y H
def oa (K:ð) (g:List D->Env->Option Env):gR:=fun W σ H Q=>∃w env Z Y,w.H=H/\aG K w/\bx K w env σ/\aj K w Z W/\g Z env=some Y/\∀ X,bx K w Y X->Q X H
def ya {t t':TG} (h:PG X e t) (i:∀v σ H Q,t' v σ H Q->t v σ H Q):PG X e t':=fun Z s σ H v u Q I r Y=>h Z s σ H v u Q I r (i v σ H Q Y)
def xp {t t':gR} (h:iE X es t) (i:∀v σ H Q,t' v σ H Q->t v σ H Q):iE X es t':=fun Z s σ H v u Q I r Y=>h Z s σ H v u Q I r (i v σ H Q Y)
def fR (i:Nat) {x:Str} (hN:X.N.Nodup) (hi:X.N[i]?=some x:=by rfl) (hx:Loc X.env.scope x:=by first|exact Or.inl rfl|exact Or.inr rfl) (hf:X.fn x=true\/X.env.scope.names.lookup x=some .local:=by first|exact .inl rfl|exact .inr rfl):PG X (.Name x pos) (gD X.K (gN i)) :=
 ya (o9 hN hi hx hf) fun v σ H Q Z=>by
  obtain ⟨w,env,d,Y,T,S,W,V,U,k⟩:=Z;have e:env.set i (some d)=Y:=MN U;subst e;exact k _ (W.set V i)
def yb:iE X [] (oa X.K (ff [])):=xp xa fun R σ H Q W=>by
 obtain ⟨w,env,Z,V,P,S,U,T,Y,k⟩:=W
 cases Z with
 |nil =>
  have e:env=V:=MN Y;subst e;exact ⟨T,k _ U⟩
 |cons d Z=>cases Y
def kL {g:D->Env->Option Env} {gl:List (D->Env->Option Env)} (h1:PG X e (gD X.K g)) (h2:iE X es (oa X.K (ff gl)))
  (hs:(ĥ (e::es) X.env).map (·.2)=assign e X.env::(ĥ es X.env).map (·.2):=by rfl):iE X (e::es) (oa X.K (ff (g::gl))):=xp (rA h1 h2 hs) fun L σ H Q T=>by
 obtain ⟨w,env,Y,R,V,S,P,O,Z,k⟩:=T
 cases Y with
 |nil=>cases Z
 |cons d Y =>
  obtain ⟨v,r,rfl,N,dr⟩:=O;simp only [ff] at Z
  cases W:g d env with
  |none=>rw [W] at Z;cases Z
  |some U =>
   rw [W] at Z;refine ⟨v,r,rfl,w,env,d,U,V,S,P,N,W,fun J M=>⟨w,U,Y,R,V,S,M,dr,Z,k⟩⟩
theorem rE:∀{gl:List (D->Env->Option Env)} {ds:List D} {env aH:Env},ff gl ds env=some aH->ds.length=gl.length
 | [],[],_,_,_=>rfl
 |g::gl,d::ds,env,aH,h=>by
  simp only [ff] at h
  cases Z:g d env with
  |none=>rw [Z] at h;cases h
  |some e1=>rw [Z] at h;simp [rE h]
 | [],_::_,_,_,h=>by cases h
 |_::_,[],_,_,h=>by cases h
def y6 {gl:List (D->Env->Option Env)} {k:Nat} (hc:X.calm=true) (h:iE X es (oa X.K (ff gl))) (hn:(ĥ es X.env).length=gl.length:=by rfl) (uK:(ĥ es X.env).findIdx? (·.1)=none:=by rfl):PG X (.Tuple es k pos) (gD X.K (gT gl)) :=
 ya (xU hc h hn uK) fun v σ H Q V=>by
  obtain ⟨w,env,d,U,T,S,R,Y,Z,k⟩:=V
  cases d with
  |tup P =>
   simp only [DV] at Y;obtain ⟨p,O,e1,N,W⟩:=Y;subst T;exact ⟨p,O,e1,N,by rw [<- W.length];exact rE Z,w,env,P,U,rfl,S,R,W,Z,k⟩
  |_=>cases Z
def xq {K:ð} {g:D->Env->Option Env} (D:Ends) (σ:St) (H:Hp):tS K Ξ (bz f g) D σ H->ny (tE K Ξ f) (gD K g) D σ H:=by
 rintro ⟨w,env,rfl,S,X,h⟩;refine ⟨w,env,rfl,S,X,(Out.ak h).mono fun V d U W Z v T=>?_⟩
 cases Y:g d env with
 |none=>rw [Y] at Z;exact Z.elim
 |some R =>
  rw [Y] at Z;exact ⟨V,env,d,R,rfl,W,X.le U,T,Y,aw W Z⟩
def y7 {g:D->Env->Option Env} (he:PE X e (tE X.K Ξ f)) (hg:PG X tg (gD X.K g)) (hs:ų [tg] e pos.line X.env=pure false:=by rfl) (hw:Ŵ [tg] e X.env=pure none:=by rfl)
  (h1:(ĥ [tg] X.env).map (·.2)=[assign tg X.env]:=by rfl):PS X (.Assign [tg] e pos) (tS X.K Ξ (bz f g)):=iU (xV he hg hs hw h1) xq
def CF {K:ð} {te:TE} {i:Nat} (D:Ends) (σ:St) (H:Hp):ny (tE K Ξ f) (gD K (gN i)) D σ H->ny (tE K Ξ f) (j3 i) D σ H:=by
 rintro ⟨w,env,rfl,S,Z,h⟩;refine ⟨w,env,rfl,S,Z,h.mono fun P d O N Y v X=>?_⟩;obtain ⟨M,W,V,U,L,J,T,R,Q,k⟩:=Y v X;have e:W.set i (some V)=U:=MN Q;subst e;exact k _ (T.set R i)
def cU (i:Nat) {x:Str} {pos':Pos} (hN:X.N.Nodup) (he:PE X e (tE X.K Ξ f)) (hi:X.N[i]?=some x:=by rfl) (hx:Loc X.env.scope x:=by first|exact Or.inl rfl|exact Or.inr rfl) (hs:swapsWith e (some (.Name x pos')) pos.line X.env=pure false:=by rfl) (hf:X.fn x=true\/X.env.scope.names.lookup x=some .local:=by first|exact .inl rfl|exact .inr rfl) :
  PS X (.Assign [.Name x pos'] e pos) (tS X.K Ξ (bz f (gN i))):=iU (Fv hN hi hx he hs hf) fun D σ H h=>CF (te:=tE X.K Ξ f) D σ H (xq D σ H h)
def lV (K:ð) (w:Wd) (J:It) (ds:List D):Prop:=∀Z,Le K w Z->aG K Z->∀i,
 (∀d,ds[i]?=some d->J.go i Z.H/\∀x X,J.nU i Z.H x X->∃Y,Y.H=X/\Le K Z Y/\aG K Y/\Y.ax=Z.ax/\DV K Y d x)/\(ds.length<=i->J.stop i Z.H)
def iG (K:ð) (Ξ:Wd->aM->Prop) (f:MG (List D)):TI:=fun σ H R=>∃w env,w.H=H/\aG K w/\bx K w env σ/\Out K Ξ w (f env w.ax) fun Z Y=>∀J,lV K Z J Y->R J Z.H
def yc {t t':TI} (h:PI X tg e t) (i:∀ σ H R,t' σ H R->t σ H R):PI X tg e t':=fun Z s σ H R I Y=>h Z s σ H R I (i σ H R Y)
def EA {K:ð} {it:MG (List D)} {g:D->Env->Option Env} (D0:Ends) (σ:St) (H:Hp):tS K Ξ (gL it g fs) D0 σ H->zK (iG K Ξ it) (gD K g) (tS K Ξ fs) D0 σ H:=by
 rintro ⟨w,env,rfl,S,B,h⟩;refine ⟨w,env,rfl,S,B,(Out.ak h).mono fun M Y p o n J A=>?_⟩;refine ⟨fun i m L z=>m=Y.length-i/\i<=Y.length/\∃X V,X.H=z/\Le K M X/\aG K X/\bx K X V L/\Out K Ξ X (ip g fs (Y.drop i) V X.ax) (qf K D0),
  ⟨Y.length,rfl,ĵ _,M,env,rfl,Le.refl _,o,B.le p,n⟩,?_⟩
 rintro i m L z ⟨rfl,hi,X,V,rfl,U,I,v,W⟩;by_cases G:i<Y.length
 ·right
  obtain ⟨l,k⟩:=(A X U I i).1 _ (æ G);rw [Ŋ G] at W;simp only [ip] at W
  cases F:g Y[i] V with
  |none=>rw [F] at W;exact W.elim
  |some u =>
   rw [F] at W;refine ⟨l,fun E T=>∃Z R,Z.H=T/\Le K M Z/\aG K Z/\bx K Z R E/\Out K Ξ Z (ip g fs (Y.drop (i+1)) R Z.ax) (qf K D0),fun E T ⟨Z,R,q⟩=>⟨Y.length-(i+1),by omega,rfl,G,Z,R,q⟩,fun x T y=>?_⟩;obtain ⟨Z,rfl,Q,t,es,j⟩:=k x T y;refine ⟨Z,V,Y[i],u,rfl,t,v.le Q,j,F,fun E f=>⟨Z,u,rfl,t,f,?_⟩⟩;rw [<- es] at W;refine (Out.ak (W.from Q)).mono fun s c r P O=>?_
   cases c with
   |nx N=>exact fun b C=>⟨s,N,rfl,U.trans (Q.trans r),P,C,O⟩
   |ct N=>exact fun b C=>⟨s,N,rfl,U.trans (Q.trans r),P,C,O⟩
   |bk N=>have q:=aw P O;exact q
   |rt d=>have q:=aw P O;exact q
 ·left
  have e:i=Y.length:=by omega
  subst e;rw [List.drop_length] at W;exact ⟨(A X U I _).2 (MK _),aw I W L v⟩
def la {iter:ÿ} {it:MG (List D)} {g:D->Env->Option Env} (hp:PassesOwn (Ø X.prog X.w) X.A X.env X.xe) (hc:X.calm=true) (hi:PI X tg iter (iG X.K Ξ it)) (hg:PG X tg (gD X.K g)) (hb:bQ X kC (tS X.K Ξ fs))
  (hs:∀x,ĕ iter X.env x=pure x:=by intro _;rfl):PS X (.For tg iter kC [] pos) (tS X.K Ξ (gL it g fs)):=iU (Fz hp hc hi hg hb hs) EA
theorem Out.ne {α:Type} {K:ð} {w:Wd} {r:Res α} {k:Wd->α->Prop} (h:Out K Ξ w (DI.ne r) k):Out K bY w r k:=by
 match r,h with
 |some (.ok a,s),h=>exact h
def bx.block {K:ð} {w:Wd} {env:Env} {σ:St} (h:bx K w env σ) (nt:Nat) (cap:List Nat) (o:St) (ho:o.length=nt):bx K w (Ê nt none++eV cap env) (o++j5 cap σ):=by
 refine ⟨by simp [eV,j5,ho],fun i d e=>?_⟩;by_cases hi:i<nt
 ·rw [Õ (by simpa using hi),Ē,ë hi] at e
  cases e
 ·rw [è (by simpa using Ű hi)] at e
  rw [è (by omega),ho];simp only [Ū] at e;unfold eV at e;unfold j5;rw [ò] at e |-
  cases Z:cap[i-nt]? with
  |none=>rw [Z] at e;cases e
  |some j =>
   rw [Z] at e;have ev:(env[j]?).getD none=some d:=MN e;have Y:env[j]?=some (some d):=by
    cases q:env[j]? with
    |none=>rw [q] at ev;cases ev
    |some z=>rw [q] at ev;exact ě some ev
   obtain ⟨v,e1,e2⟩:=h.val j d Y;exact ⟨v,by rw [δ,e1];rfl,e2⟩
def CG {K:ð} {nt:Nat} {cap:List Nat} {it:MG (List D)} {g:D->Env->Option Env} {fin:List D->aa->Res D} (σ:St) (H:Hp) (Q:VK)
  (uf:∀(w2:Wd) (xs:List D) (vs:List V),aG K w2->aj K w2 xs vs->Out K Ξ w2 (fin xs w2.ax) (fun w' d=>∀v,DV K w' d v->Q v w'.H)->∀p,w2.H p=none->Q (.ref p) (upd w2.H p (.lst vs))) :
  tE K Ξ (fun env s=>ak (it env s) fun ds s=>fq ds (ak (eT nt (eV cap env) g ft f ds s) fin)) σ H Q->kX (iG K Ξ it) nt cap (gD K g) (tT K bY ft) (tE K bY f) σ H Q:=by
 rintro ⟨w,env,rfl,S,B,h⟩;refine ⟨w,env,rfl,S,B,(Out.ak h).mono fun N ds j c M J A=>?_⟩;obtain ⟨hz,M⟩:=mr M;refine ⟨fun i m Z z=>m=ds.length-i/\i<=ds.length/\Z.length<=i/\∃w' X,w'.H=z/\Le K N w'/\aG K w'/\aj K w' X Z/\Out K Ξ w' (eT nt (eV cap env) g ft f (ds.drop i) w'.ax) fun w2 xs=>∀vs,aj K w2 (X++xs) vs->∀p,w2.H p=none->Q (.ref p) (upd w2.H p (.lst vs)),
  ⟨ds.length,rfl,ĵ _,ĵ _,N,[],rfl,Le.refl _,c,rfl,(Out.ak M).mono fun w2 xs W P a vs O p U=>?_⟩,?_⟩
 ·exact uf w2 xs vs P O a p U
 rintro i m Z z ⟨rfl,hi,ha,w',X,rfl,T,L,I,Y⟩;by_cases G:i<ds.length
 ·right
  obtain ⟨jc,hy⟩:=(A w' T L i).1 _ (æ G);rw [Ŋ G] at Y;simp only [eT] at Y
  cases F:g ds[i] (Ê nt none++eV cap env) with
  |none=>rw [F] at Y;exact Y.elim
  |some E =>
   rw [F] at Y;refine ⟨jc,by omega,fun C u=>C.length<=i+1/\∃w' X,w'.H=u/\Le K N w'/\aG K w'/\aj K w' X C/\Out K Ξ w' (eT nt (eV cap env) g ft f (ds.drop (i+1)) w'.ax) fun w2 xs=>∀vs,aj K w2 (X++xs) vs->∀p,w2.H p=none->Q (.ref p) (upd w2.H p (.lst vs)),
    fun C u ⟨u5,q⟩=>⟨ds.length-(i+1),by omega,rfl,G,u5,q⟩,fun o x H3 ho y=>?_⟩
   obtain ⟨w2,rfl,W,P,es,dv⟩:=hy x H3 y;refine ⟨w2,_,ds[i],E,rfl,P,(B.le (j.trans (T.trans W))).block nt cap o ho,dv,F,fun kq t=>?_⟩;rw [<- es] at Y;refine ⟨w2,E,rfl,P,t,(Out.ak (Y.from W)).ne.mono fun r b R n l=>?_⟩
   cases b with
   |true =>
    refine ⟨r,E,rfl,n,t.le R,(Out.ak l).ne.mono fun w4 d k S4 h4 v u7=>⟨by rw [ć];simp;omega,w4,X++[d],rfl,T.trans (W.trans (R.trans k)),S4,aj.append ((W.trans (R.trans k)).all I) (aj.one u7),(Out.ak h4).mono fun w5 xs l5 S5 h5 vs O p U=>?_⟩⟩;exact aw S5 h5 vs (by rw [Ţ] at O;exact O) p U
   |false =>
    exact ⟨by omega,r,X,rfl,T.trans (W.trans R),n,(W.trans R).all I,l⟩
 ·left
  have e:i=ds.length:=by omega
  subst e;rw [List.drop_length] at Y;refine ⟨(A w' T L _).2 (MK _),by omega,fun p U=>aw L Y Z (by rw [Ć];exact I) p U⟩
def Dv {K:ð} {nt:Nat} {cap:List Nat} {it:MG (List D)} {g:D->Env->Option Env} (σ:St) (H:Hp) (Q:VK) :
  tE K Ξ (dw nt cap it g ft f) σ H Q->kX (iG K Ξ it) nt cap (gD K g) (tT K bY ft) (tE K bY f) σ H Q :=
 CG σ H Q fun X S W V U T p Y=>T (X.grow p (.lst W)) (Fw.grow Y).le (V.grow Y) rfl (.ref p) ⟨p,W,rfl,⟨(show ¬ X.Z p from jl V Y),b9⟩,(Fw.grow Y).le.all U⟩
end
def xr {o aE:St} {v:V} {i nt:Nat} (ho:o.length=nt) (hi:i<nt):(o++aE).set i (some v)=o.set i (some v)++aE:=by
 rw [List.set_append_left _ _ (by omega)]
def CH {i nt:Nat} (hi:i<nt):n5 (j3 i) nt:=by
 intro x o Y H R Z h;exact ⟨⟨o.set i (some x),by rw [ú];exact Z,xr Z hi⟩,h⟩
def nE (g:gR) (nt:Nat):Prop:=∀(Y:List V) (o Z:St) (H:Hp) (R:St->Hp->Prop),o.length=nt->g Y (o++Z) H R->g Y (o++Z) H fun X U=>(∃W:St,W.length=nt/\X=W++Z)/\R X U
def Dw:nE tY nt:=fun Y o X H R Z h=>⟨h.1,⟨o,Z,rfl⟩,h.2⟩
def CI {i nt:Nat} {g:gR} (hi:i<nt) (hg:nE g nt):nE (sX (j3 i) g) nt:=by
 rintro X o Z H R Y ⟨v,r,e,h⟩;refine ⟨v,r,e,?_⟩;have h:g r ((o++Z).set i (some v)) H R:=h;show g r ((o++Z).set i (some v)) H _;rw [xr Y hi] at h |-;exact hg r _ Z H R (by rw [ú];exact Y) h
def Dx (hg:nE g nt):n5 (tZ K n g) nt:=by
 rintro x o Y H R X ⟨a,Z,e,W,V,h⟩;exact ⟨a,Z,e,W,V,hg Z o Y H R X h⟩
structure Tg (K:ð) (g0:TG) (g:D->Env->Option Env) (nt:Nat):Prop where
 og:n5 g0 nt
 imp:∀v σ H Q,gD K g v σ H Q->g0 v σ H Q
structure qE (K:ð) (g0:gR) (g:List (D->Env->Option Env)) (nt:Nat):Prop where
 og:nE g0 nt
 imp:∀v σ H Q,oa K (ff g) v σ H Q->g0 v σ H Q
def EB (i:Nat) (hi:i<nt:=by decide):Tg K (j3 i) (gN i) nt:=⟨CH hi,fun v σ H Q Z=>by
 obtain ⟨w,env,d,Y,U,S,X,W,V,k⟩:=Z;have e:env.set i (some d)=Y:=MN V;subst e;exact k _ (X.set W i)⟩
def EC:qE K tY [] nt:=⟨Dw,fun T σ H Q X=>by
 obtain ⟨w,env,Z,W,R,S,V,U,Y,k⟩:=X
 cases Z with
 |nil =>
  have e:env=W:=MN Y;subst e;exact ⟨U,k _ V⟩
 |cons d Z=>cases Y⟩
def wH (i:Nat) (h:qE K g0 gl nt) (hi:i<nt:=by decide):qE K (sX (j3 i) g0) (gN i::gl) nt:=⟨CI hi h.og,fun P σ H Q X=>by
 obtain ⟨w,env,Z,W,V,S,U,T,Y,k⟩:=X
 cases Z with
 |nil=>cases Y
 |cons d Z =>
  obtain ⟨v,r,rfl,R,dr⟩:=T;exact ⟨v,r,rfl,h.imp _ _ _ _ ⟨w,_,Z,W,V,S,U.set R i,dr,Y,k⟩⟩⟩
def F8 (h:qE K g0 gl nt) (hn:gl.length=n:=by rfl):Tg K (tZ K n g0) (gT gl) nt:=⟨Dx h.og,fun v σ H Q W=>by
 obtain ⟨w,env,d,V,U,S,T,Y,Z,k⟩:=W
 cases d with
 |tup R =>
  simp only [DV] at Y;obtain ⟨p,P,e1,O,X⟩:=Y;subst U;exact ⟨p,P,e1,O,by rw [<- X.length,rE Z];exact hn,h.imp _ _ _ _ ⟨w,env,R,V,rfl,S,T,X,Z,k⟩⟩
 |_=>cases Z⟩
section
variable {X:Cx} {Ξ:Wd->aM->Prop} {e a b c tg el src:ÿ} {es rest tests:List ÿ} {pos:Pos} {f g h:MG D} {fa:MG (List D)} {ft gt:MG Bool} {st:μ} {kC ue:List μ} {fs gs:MG Fl}
def F9 (h:PF X tests t) (i:∀ σ H Q,t' σ H Q->t σ H Q):PF X tests t':=fun Z s σ H Q I Y=>h Z s σ H Q I (i σ H Q Y)
def lb:PF X [] (tT K Ξ dU):=F9 FU fun σ H Q Z=>by
 obtain ⟨w,env,Y,S,W,h⟩:=Z;subst Y;exact aw S h
def v5 (i_:∀v σ H Q,g1 v σ H Q->g0 v σ H Q) (wm:∀R R':It->Hp->Prop,(∀J H',R J H'->R' J H')->wi σ H R->wi σ H R') (h:kX wi nt cap g1 tf te σ H Q):kX wi nt cap g0 tf te σ H Q:=by
 refine wm _ _ (fun J H' Y=>?_) h;obtain ⟨W,X,step⟩:=Y;refine ⟨W,X,fun i m Z V hw=>?_⟩
 rcases step i m Z V hw with q | ⟨U,T,N,S,P⟩
 ·exact .inl q
 ·exact .inr ⟨U,T,N,S,fun o x O M y=>i_ _ _ _ _ (P o x O M y)⟩
def Dy (R R':It->Hp->Prop) (i:∀J H',R J H'->R' J H') (h:iG K Ξ it σ H R):iG K Ξ it σ H R':=by
 obtain ⟨w,env,Z,S,Y,h⟩:=h;exact ⟨w,env,Z,S,Y,h.mono fun V U _ _ X J W=>i J _ (X J W)⟩
def cV (f:MG D):MG (List D):=fun env s=>ak (f env s) fun d s=>match d with
 | .lst Z=>ok Z s
 | .tup Z=>ok Z s
 |_=>none
def Dz {K:ð} {w:Wd} {a:Í} {ds:List D} (h:DV K w (.lst ds) (.ref a)):lV K w (uL K a) ds:=fun V U T i=>by
 have X:=U _ _ h;simp only [DV] at X;obtain ⟨p,Z,e,Y,W⟩:=X;cases e;refine ⟨fun d S=>?_,fun R=>⟨Z,Y.sq,by rw [<- W.length];exact R⟩⟩;obtain ⟨v,ev,Q⟩:=W.get' i d S;exact ⟨⟨Z,v,Y.sq,ev⟩,fun x P ⟨e1,e2⟩=>⟨V,e1.symm,Le.refl _,T,rfl,by
  have q:=e2 Z Y.sq;rw [ev] at q;cases q;exact Q⟩⟩
def ED {K:ð} {w:Wd} {a:Í} {ds:List D} (h:DV K w (.tup ds) (.ref a)):lV K w (uM K a) ds:=fun V U T i=>by
 have X:=U _ _ h;simp only [DV] at X;obtain ⟨p,Z,e,Y,W⟩:=X;cases e;refine ⟨fun d S=>?_,fun R=>⟨Z,Y,by rw [<- W.length];exact R⟩⟩;obtain ⟨v,ev,Q⟩:=W.get' i d S;exact ⟨⟨Z,v,Y,ev⟩,fun x P ⟨e1,e2⟩=>⟨V,e1.symm,Le.refl _,T,rfl,by
  have q:=e2 Z Y;rw [ev] at q;cases q;exact Q⟩⟩
def j6 (hl:PE X a (tE X.K Ξ f)):PI X tg a (iG X.K Ξ (cV f)):=by
 have both:PI X tg a (fun σ H R=>yS X.K (tE X.K Ξ f) σ H R\/zJ X.K (tE X.K Ξ f) σ H R):=fun N s σ H R I h=>h.elim (Ei hl N s σ H R I) (Fy hl N s σ H R I);refine yc both fun σ H R ⟨w,env,M,S,W,h⟩=>?_;subst M;simp only [cV] at h
 cases Y:f env w.ax with
 |none=>rw [Y] at h;exact h.elim
 |some r =>
  obtain ⟨r,s⟩:=r;rw [Y] at h
  cases r with
  |error x=>exact .inl ⟨w,env,rfl,S,W,by rw [Y];exact h⟩
  |ok d =>
   rw [iT] at h
   cases d with
   |lst L =>
    refine .inl ⟨w,env,rfl,S,W,?_⟩;rw [Y];intro V U T e1 v Z;have Q:=Z;simp only [DV] at Z;obtain ⟨p,P,rfl,O,J⟩:=Z;exact ⟨p,rfl,⟨P,O.sq⟩,h V U T e1 _ (Dz Q)⟩
   |tup L =>
    refine .inr ⟨w,env,rfl,S,W,?_⟩;rw [Y];intro V U T e1 v Z;have Q:=Z;simp only [DV] at Z;obtain ⟨p,P,rfl,O,J⟩:=Z;exact ⟨p,rfl,⟨P,O⟩,h V U T e1 _ (ED Q)⟩
   |_=>exact h.elim
noncomputable def dF (lo:Int) (n:Nat):List D:=(ĸ n).map fun (i:Nat)=>D.int (lo+(i:Int))
def rY:(dF lo n)[i]?=if i<n then some (.int (lo+i)) else none:=by
 unfold dF;rw [ò];by_cases h:i<n
 ·rw [List.getElem?_range h,ë h];rfl
 ·rw [List.getElem?_eq_none (by simp;omega),î h];rfl
def rZ:(dF lo n).length=n:=by simp [dF]
def EE:lV K w (qx lo n) (dF lo n):=fun X V W i=>by
 refine ⟨fun d Z=>?_,fun Y=>by rw [rZ] at Y;exact Y⟩;rw [rY] at Z;split at Z
 ·cases Z
  exact ⟨by assumption,fun x U ⟨e1,e2⟩=>⟨X,e1.symm,Le.refl _,W,rfl,e2⟩⟩
 ·cases Z
noncomputable def mZ (j:Int):Bool:=decide (-(2 ^ 62)<=j)&&decide (j<2 ^ 62)
def iH (fa:MG (List D)):MG (List D):=fun env s=>ak (fa env s) fun Z s=>match Z with
 | [.int j]=>if mZ j=true then ok (dF 0 j.toNat) s else none
 |_=>none
def pD (hg:Gl X "range") (hm:X.mg "range"=none) (ha:PA X [a] (tA X.K Ξ fa)) (hs:Æ [a] X.env=[(false,Ĝ a X.env)]:=by rfl):PI X tg (.Call (.Name "range" p) [a] [] pos) (iG X.K Ξ (iH fa)) :=
 yc (Cq hg hm ha hs) fun σ H R W=>by
  obtain ⟨w,env,V,S,U,h⟩:=W;subst V;refine ⟨w,env,rfl,S,U,(Out.ak h).mono fun O N M T Z L Q=>?_⟩;split at Z
  ·rename_i j
   split at Z
   ·rename_i Y
    simp only [mZ,Ä,Ô] at Y;obtain ⟨v,r,rfl,P,dr⟩:=Q;have e1:v=.int j:=P;have e2:r=[]:=dr;subst e1 e2;exact ⟨j,rfl,Y.1,Y.2,aw T Z _ EE⟩
   ·exact Z.elim
  ·exact Z.elim
noncomputable def fy (xs ys:List D):List D:=(xs.zip ys).map fun p=>.tup [p.1,p.2]
def wI {i:Nat} (h:(fy xs ys)[i]?=some d):∃x y,xs[i]?=some x/\ys[i]?=some y/\d=.tup [x,y]:=by
 unfold fy at h;rw [ò] at h
 cases Z:(xs.zip ys)[i]? with
 |none=>rw [Z] at h;cases h
 |some p =>
  rw [Z] at h;obtain ⟨Y,X⟩:=List.getElem?_zip_eq_some.mp Z;exact ⟨p.1,p.2,Y,X,(MN h).symm⟩
def rF:(fy xs ys).length=min xs.length ys.length:=by simp [fy]
def wx (S':aG K w') (hp:w'.H p=none) (h1:DV K w' d x) (h2:DV K w' d2 y) :
  ∃w2,w2.H=upd w'.H p (.tup [x,y])/\Le K w' w2/\aG K w2/\w2.ax=w'.ax/\DV K w2 (.tup [d,d2]) (.ref p) :=
 ⟨w'.grow p (.tup [x,y]),rfl,(Fw.grow hp).le,S'.grow hp,rfl,p,[x,y],rfl,bg.of b9,(Fw.grow hp).le.all (aj.two h1 h2)⟩
@[reducible] noncomputable def u9:Bool->List D->D
 |true=>.tup
 |false=>.lst
def y8 {K:ð} {w:Wd} {a:Í} {ds:List D}:∀{k},DV K w (u9 k ds) (.ref a)->∃xs,fG k K w.H a xs/\aj K w ds xs
 |true,h=>by
  simp only [DV] at h;obtain ⟨p,xs,e,Z,Y⟩:=h;cases e;exact ⟨xs,Z,Y⟩
 |false,h=>by
  simp only [DV] at h;obtain ⟨p,xs,e,Z,Y⟩:=h;cases e;exact ⟨xs,Z.sq,Y⟩
def DA {k l:Bool} {K:ð} {w:Wd} {a b:Í} {ds es:List D} (h:DV K w (u9 k ds) (.ref a)) (g:DV K w (u9 l es) (.ref b)):lV K w (nD k l K a b) (fy ds es):=fun F V P i=>by
 obtain ⟨Z,Y,U⟩:=y8 (V _ _ h);obtain ⟨X,W,T⟩:=y8 (V _ _ g);refine ⟨fun d O=>?_,fun N=>⟨Z,X,Y,W,?_⟩⟩
 ·obtain ⟨x,y,e1,e2,rfl⟩:=wI O
  obtain ⟨v,ev,M⟩:=U.get' i x e1;obtain ⟨u,S,L⟩:=T.get' i y e2;refine ⟨⟨Z,X,v,u,Y,W,ev,S⟩,fun z E ⟨r,C,y1,J,I,H,G⟩=>?_⟩;obtain ⟨R,Q⟩:=G Z X Y W;rw [ev] at R;rw [S] at Q;cases R;cases Q;subst I H;exact wx P J M L
 ·rw [rF] at N
  have:=U.length;have:=T.length;omega
def DB {K:ð} {w:Wd} {a b:Í} {ds es:List D} (h:DV K w (.tup ds) (.ref a)) (g:DV K w (.tup es) (.ref b)):lV K w (Jb K a b) (fy ds es):=DA (k:=true) (l:=true) h g
def Jg (fa:MG (List D)):MG (List D):=fun env s=>ak (fa env s) fun Z s=>match Z with
 | [.tup Y,.tup X]=>ok (fy Y X) s
 |_=>none
def aK (fn:List D->aa->Res D) (fa:MG (List D)):MG D:=fun env s=>ak (fa env s) fun Z s=>ne (fn Z s)
def mK {k:Nat} {fA:Í} {fd:ô} {jL:List Str} {fn:List D->aa->Res D} {x:Str} {p:Pos} (F:bP X.prog X.w X.K X.mg X.base bV k fA fd jL (fI X.K fn)) (hr:bc k X.A) (hg:Gl X x) (hm:X.mg x=some (.ref fA)) (hk:Ą X.K (.ref fA)=true) (hb:Binds X.K fd jL [])
  (ha:PA X (e::es) (tA X.K Ξ fa)) (cG:(x==("__debug__":Str))=false:=by decide) (he:Æ (e::es) X.env=(false,Ĝ e X.env)::Æ es X.env:=by rfl) (bN:(ď pos (Æ es X.env)).any (·.1)=false:=by rfl) :
  PE X (.Call (.Name x p) (e::es) [] pos) (tE X.K Ξ (aK fn fa)):=ck (rV F hr hg hm hk hb .nil Hq ha cG he bN) fun σ H Q Y=>by
 obtain ⟨w,env,W,S,V,h⟩:=Y;subst W;refine ⟨w,env,rfl,S,V,(Out.ak h).mono fun Z U N T R P O=>?_⟩;show fI X.K fn (P++[]) Z.H Q E0;rw [Ć];exact ⟨Z,U,rfl,T,O,R.ne⟩
def aj.env (h:aj K w ds vs) (n:Nat):bx K w (ds.map some++Ê (n-ds.length) none) (vs.map some++Ê (n-vs.length) none):=by
 have Y:=h.length;refine ⟨by simp [Y],fun i d e=>?_⟩;by_cases hi:i<ds.length
 ·rw [Õ (by simpa using hi),ò] at e
  rw [Õ (by simp;omega),ò]
  cases Z:ds[i]? with
  |none=>rw [Z] at e;cases e
  |some W =>
   rw [Z] at e;cases e;obtain ⟨v,ev,X⟩:=h.get' i d Z;exact ⟨v,by rw [ev];rfl,X⟩
 ·rw [è (by simpa using Ű hi),Ē] at e
  split at e<;>cases e
end
def y9 (F:kB K x qual st f fd) (S:iQ N ps (bI st))
 (hb:∀(aB:Ã) (A:Ö) (outer:List PySem.Env) (s:Á) (H:Hp) (E:XK),bc k (A.deeper (Č qual (bI st) s.heap.objs.size f aB))->bQ (er bV P w K mg base N qual (bI st) f aB A outer s H E).i9 (eR st) (tS K bY b)) :
  bP P w K mg base bV (k+1) f fd ps (fI K (aZ ps.length N.length b)):=by
 refine F.ok S (fun W H Q E h=>?_) (fun aB A outer s H W Q E V h=>?_)
 ·obtain ⟨w,U,rfl,S,Y,h⟩:=h
  rw [<- Y.length];unfold aZ at h;split at h
  ·assumption
  ·exact h.elim
 ·obtain ⟨w,U,rfl,S,Y,h⟩:=h
  refine ⟨_,hb aB A outer s w.H E V,?_⟩;unfold aZ at h;split at h
  ·rename_i T
   rw [<- T] at h;refine ⟨w,_,rfl,S,Y.env N.length,(Out.ak h).mono fun O R M X Z=>?_⟩
   cases R with
   |nx env=>intro L _;exact aw X Z _ rfl
   |rt d=>have q:=aw X Z;exact q
   |bk env=>exact Z.elim
   |ct env=>exact Z.elim
  ·exact h.elim
mutual
noncomputable def py:D->ņ
 | .aq=>.none
 | .bl b=>.bool b
 | .int i=>.int i
 | .str x=>.str x
 | .tup Z=>.tuple (bO Z)
 | .lst Z=>.list (bO Z)
 | .aW Y=>.dict (Y.map fun p=>(lA p.1,PyData.int p.2))
 | .aN _=>.none
 | .ty _=>.none
 | .bb _=>.none
 | .exc _ _=>.none
 | .bG _ _ _=>.none
noncomputable def bO:List D->List ņ
 | []=>[]
 |d::Z=>py d::bO Z
end
mutual
noncomputable def plain:D->Bool
 | .aq=>true
 | .bl _=>true
 | .int _=>true
 | .str _=>true
 | .tup Z=>iV Z
 | .lst Z=>iV Z
 | .aW _=>true
 | .aN _=>false
 | .ty _=>false
 | .bb _=>false
 | .exc _ _=>false
 | .bG _ _ _=>false
noncomputable def iV:List D->Bool
 | []=>true
 |d::Z=>plain d&&iV Z
end
mutual
noncomputable def lay:D->Bool
 | .aq=>true
 | .bl _=>true
 | .int _=>true
 | .str x=>PyData.strOk x
 | .tup Z=>cF Z
 | .lst Z=>cF Z
 | .aW _=>false
 | .aN _=>false
 | .ty _=>false
 | .bb _=>false
 | .exc _ _=>false
 | .bG _ _ _=>false
noncomputable def cF:List D->Bool
 | []=>true
 |d::Z=>lay d&&cF Z
end
mutual
noncomputable def dep:D->Nat
 | .tup Z=>de Z+1
 | .lst Z=>de Z+1
 | .aW Y=>1
 | .aq=>0
 | .bl _=>0
 | .int _=>0
 | .str _=>0
 | .aN _=>0
 | .ty _=>0
 | .bb _=>0
 | .exc _ _=>0
 | .bG _ _ _=>0
noncomputable def de:List D->Nat
 | []=>0
 |d::Z=>max (dep d) (de Z)
end
mutual
noncomputable def beq:D->D->Bool
 | .aq,.aq=>true
 | .bl a,.bl b=>a==b
 | .bl a,.int j=>(if a then 1 else 0)==j
 | .int i,.bl b=>i==(if b then 1 else 0)
 | .int i,.int j=>i==j
 | .str x,.str y=>x==y
 | .tup Z,.tup Y=>fz Z Y
 | .lst Z,.lst Y=>fz Z Y
 |_,_=>false
noncomputable def fz:List D->List D->Bool
 | [],[]=>true
 |x::Z,y::Y=>beq x y&&fz Z Y
 |_,_=>false
end
mutual
theorem kH:∀(d:D),lay d=true->plain d=true
 | .aq,_=>rfl
 | .bl _,_=>rfl
 | .int _,_=>rfl
 | .str _,_=>rfl
 | .tup Z,h=>by simp only [lay,plain] at h |-;exact mi Z h
 | .lst Z,h=>by simp only [lay,plain] at h |-;exact mi Z h
 | .aW _,h=>by simp [lay] at h
 | .aN _,h=>by simp [lay] at h
 | .ty _,h=>by simp [lay] at h
 | .bb _,h=>by simp [lay] at h
 | .exc _ _,h=>by simp [lay] at h
 | .bG _ _ _,h=>by simp [lay] at h
theorem mi:∀(ds:List D),cF ds=true->iV ds=true
 | [],_=>rfl
 |d::ds,h=>by
  simp only [cF,iV,Ä] at h |-;exact ⟨kH d h.1,mi ds h.2⟩
end
mutual
theorem ik:∀(d:D),lay d=true->(py d).canLay0=true/\(py d).depth=dep d
 | .aq,_=>⟨rfl,by simp [py,dep,PyData.depth]⟩
 | .bl _,_=>⟨rfl,by simp [py,dep,PyData.depth]⟩
 | .int _,_=>⟨rfl,by simp [py,dep,PyData.depth]⟩
 | .str _,h=>⟨h,by simp [py,dep,PyData.depth]⟩
 | .tup Z,h=>by
  obtain ⟨Y,X⟩:=oT Z (by simpa [lay] using h);simp only [py,dep,PyData.depth,PyData.canLay0];exact ⟨Y,by rw [X]⟩
 | .lst Z,h=>by
  obtain ⟨Y,X⟩:=oT Z (by simpa [lay] using h);simp only [py,dep,PyData.depth,PyData.canLay0];exact ⟨Y,by rw [X]⟩
 | .aW _,h=>by simp [lay] at h
 | .aN _,h=>by simp [lay] at h
 | .ty _,h=>by simp [lay] at h
 | .bb _,h=>by simp [lay] at h
 | .exc _ _,h=>by simp [lay] at h
 | .bG _ _ _,h=>by simp [lay] at h
theorem oT:∀(ds:List D),cF ds=true->PyData.canLayAll0 (bO ds)=true/\Ş (bO ds)=de ds
 | [],_=>⟨rfl,rfl⟩
 |d::ds,h=>by
  simp only [cF,Ä] at h;obtain ⟨a1,a2⟩:=ik d h.1;obtain ⟨Z,Y⟩:=oT ds h.2;simp only [bO,de,PyData.canLayAll0,Ş,a1,Z,a2,Y,Ľ,Ŷ]
end
mutual
theorem kR:∀(d e:D),lay d=true->lay e=true->ý (py d) (py e)=beq d e
 | .tup Z,.tup Y,h,g=>by
  simp only [py,beq,ý];exact rG Z Y (by simpa [lay] using h) (by simpa [lay] using g)
 | .lst Z,.lst Y,h,g=>by
  simp only [py,beq,ý];exact rG Z Y (by simpa [lay] using h) (by simpa [lay] using g)
 | .aq,e,_,g=>by cases e<;>simp_all [py,beq,ý,lay]
 | .bl _,e,_,g=>by cases e<;>simp_all [py,beq,ý,lay]
 | .int _,e,_,g=>by cases e<;>simp_all [py,beq,ý,lay]
 | .str _,e,_,g=>by cases e<;>simp_all [py,beq,ý,lay]
 | .tup _,.aq,_,_=>by simp [py,beq,ý]
 | .tup _,.bl _,_,_=>by simp [py,beq,ý]
 | .tup _,.int _,_,_=>by simp [py,beq,ý]
 | .tup _,.str _,_,_=>by simp [py,beq,ý]
 | .tup _,.lst _,_,_=>by simp [py,beq,ý]
 | .lst _,.aq,_,_=>by simp [py,beq,ý]
 | .lst _,.bl _,_,_=>by simp [py,beq,ý]
 | .lst _,.int _,_,_=>by simp [py,beq,ý]
 | .lst _,.str _,_,_=>by simp [py,beq,ý]
 | .lst _,.tup _,_,_=>by simp [py,beq,ý]
 | .aW _,_,h,_=>by simp [lay] at h
 | .aN _,_,h,_=>by simp [lay] at h
 | .ty _,_,h,_=>by simp [lay] at h
 | .bb _,_,h,_=>by simp [lay] at h
 | .exc _ _,_,h,_=>by simp [lay] at h
 | .bG _ _ _,_,h,_=>by simp [lay] at h
 |_,.aW _,_,h=>by simp [lay] at h
 |_,.aN _,_,h=>by simp [lay] at h
 |_,.ty _,_,h=>by simp [lay] at h
 |_,.bb _,_,h=>by simp [lay] at h
 |_,.exc _ _,_,h=>by simp [lay] at h
 |_,.bG _ _ _,_,h=>by simp [lay] at h
theorem rG:∀(ds es:List D),cF ds=true->cF es=true->PyData.eqvAll (bO ds) (bO es)=fz ds es
 | [],[],_,_=>rfl
 | [],_::_,_,_=>rfl
 |_::_,[],_,_=>rfl
 |d::ds,e::es,h,g=>by
  simp only [cF,Ä] at h g;simp only [bO,fz,PyData.eqvAll,kR d e h.1 g.1,rG ds es h.2 g.2]
end
mutual
theorem DV.py:∀{d:D} {v:V},DV K w d v->plain d=true->L2.DV K (fun _=>False) w.H (DI.py d) v
 | .aq,_,h,_=>h
 | .bl _,_,h,_=>h
 | .int _,_,h,_=>h
 | .str _,_,h,_=>h
 | .tup X,v,h,p=>by
  simp only [DV] at h;obtain ⟨a,Y,e,Z,r⟩:=h;simp only [DI.py,L2.DV];exact ⟨a,Y,e,Z,aj.py r (by simpa [plain] using p)⟩
 | .lst X,v,h,p=>by
  simp only [DV] at h;obtain ⟨a,Y,e,Z,r⟩:=h;simp only [DI.py,L2.DV];exact ⟨a,Y,e,not_false,Z.2,aj.py r (by simpa [plain] using p)⟩
 | .aW W,v,h,p=>by
  simp only [DV] at h;obtain ⟨a,e,U,Z⟩:=h;simp only [DI.py,L2.DV];exact ⟨a,_,e,not_false,Z,W,rfl,rfl⟩
 | .aN _,_,_,p=>by simp [plain] at p
 | .ty _,_,_,p=>by simp [plain] at p
 | .bb _,_,_,p=>by simp [plain] at p
 | .exc _ _,_,_,p=>by simp [plain] at p
 | .bG _ _ _,_,_,p=>by simp [plain] at p
theorem aj.py:∀{ds:List D} {vs:List V},aj K w ds vs->iV ds=true->L2.aj K (fun _=>False) w.H (DI.bO ds) vs
 | [],_,h,_=>h
 |d::ds,vs,h,p=>by
  simp only [aj] at h;obtain ⟨v,r,e,Z,Y⟩:=h;simp only [iV,Ä] at p;exact ⟨v,r,e,DV.py Z p.1,aj.py Y p.2⟩
end
def res (d:D) (s:aa):D:=match d with
 | .aN k=>match s[k]? with
  |some (.lst Z)=>.lst Z
  |_=>d
 |_=>d
theorem DV.res (S:aG K w) (h:DV K w d v) (p:plain (DI.res d w.ax)=true):L2.DV K (fun _=>False) w.H (DI.py (DI.res d w.ax)) v:=by
 cases d with
 |aN k =>
  unfold DI.res at p |-;simp only at p |-
  split at p<;>rename_i Z
  ·rename_i V
   obtain ⟨a,e1,rfl⟩:=h;obtain ⟨Y,X,W⟩:=S.cell k a _ e1 Z;simp only [DI.py,L2.DV];exact ⟨a,Y,rfl,not_false,X,W.py (by simpa [plain] using p)⟩
  ·simp [plain] at p
 |_=>exact h.py p
noncomputable def iI:D->Bool
 | .str _=>true
 |_=>false
def Ga (h:iI d=true):∃x,d=.str x:=by cases d<;>first|exact ⟨_,rfl⟩|cases h
def fX (x y:D):Option Bool:=if (iI x&&iI y)=true then some (beq x y) else if (lay x&&lay y&&decide (min (dep x) (dep y)<=100))=true then some (beq x y) else none
def fg (x y:D) (s:aa):Res D:=match fX (res x s) (res y s) with
 |some b=>ok (.bl b) s
 |none=>none
def bW (x y:D) (s:aa):Res D:=match fX (res x s) (res y s) with
 |some b=>ok (.bl (!b)) s
 |none=>none
def xt (S:aG K w) (hx:DV K w x v) (hy:DV K w y u) (h:fX (res x w.ax) (res y w.ax)=some b) :
  (t9 v u=true/\decide (v=u)=b)\/∃(d e:ņ),L2.DV K (fun _=>False) w.H d v/\L2.DV K (fun _=>False) w.H e u/\d.canLay0=true/\e.canLay0=true/\min d.depth e.depth<=100/\ý d e=b:=by
 have str:∀{d:D} {v:V},iI (res d w.ax)=true->DV K w d v->∃x,res d w.ax=.str x/\v=.str x:=fun {d v} hs W=>by
  obtain ⟨x,e⟩:=Ga hs
  cases d with
  |str y=>cases e;exact ⟨x,rfl,W⟩
  |aN k =>
   unfold res at e;simp only at e
   split at e<;>cases e
  |_=>cases e
 unfold fX at h;split at h
 ·rename_i hs
  rw [Ä] at hs;obtain ⟨a,U,rfl⟩:=str hs.1 hx;obtain ⟨c,T,rfl⟩:=str hs.2 hy;rw [U,T] at h;exact .inl ⟨rfl,by rw [<- MN h];exact rT⟩
 split at h
 ·rename_i X
  right;simp only [Ä,Ô] at X;obtain ⟨⟨Z,Y⟩,R⟩:=X;obtain ⟨Q,P⟩:=ik _ Z;obtain ⟨O,N⟩:=ik _ Y;exact ⟨_,_,hx.res S (kH _ Z),hy.res S (kH _ Y),Q,O,by rw [P,N];exact R,by rw [kR _ _ Z Y];exact MN h⟩
 ·cases h
section
variable {X:Cx} {Ξ:Wd->aM->Prop}
def qi (hr:bc k X.A):bp X (Ā .Eq) (rO X.K Ξ fg):=by
 rintro W s σ H x y v u Q I V U ⟨w,J,G,rfl,S,T,R,h⟩;unfold fg at h;split at h
 ·rename_i b P
  rcases xt S T R P with ⟨Z,Y⟩ | ⟨d,e,Z,Y,O,N,M,L⟩
  ·exact Hf W s σ w.H x y v u Q I V U ⟨Z,by rw [Y];exact aw S h _ rfl⟩
  exact FX hr W s σ w.H x y v u Q I V U ⟨d,e,_,Z,Y,O,N,M,by simp only [Ë,ü];rw [L];exact aw S h _ rfl⟩
 ·exact h.elim
def f9 (hr:bc k X.A):bp X (Ā .NotEq) (rO X.K Ξ bW):=by
 rintro W s σ H x y v u Q I V U ⟨w,J,G,rfl,S,T,R,h⟩;unfold bW at h;split at h
 ·rename_i b P
  rcases xt S T R P with ⟨Z,Y⟩ | ⟨d,e,Z,Y,O,N,M,L⟩
  ·exact yT W s σ w.H x y v u Q I V U ⟨Z,by rw [Y];exact aw S h _ rfl⟩
  exact FY hr W s σ w.H x y v u Q I V U ⟨d,e,_,Z,Y,O,N,M,by simp only [ĭ];rw [L];exact aw S h _ rfl⟩
 ·exact h.elim
end
end DI
namespace DI
open PySem L2
def bR (r:Option D) (s:aa):Res D:=match r with
 |some d=>ok d s
 |none=>none
def dt (h:Out K Ξ w (bR r w.ax) k):∃d,r=some d/\Out K Ξ w (ok d w.ax) k:=by
 unfold bR at h;split at h
 ·exact ⟨_,rfl,h⟩
 ·exact h.elim
noncomputable def zW (xs ys:List D):Bool:=decide (xs.length+ys.length<=Ï)
def zX:D->D->Option D
 | .int i,.int j=>some (.int (i+j))
 | .tup Z,.tup Y=>if zW Z Y=true then some (.tup (Z++Y)) else none
 | .lst Z,.lst Y=>if zW Z Y=true then some (.lst (Z++Y)) else none
 | .str x,.str y=>if decide (x.length+y.length<=Ï)=true then some (.str (x++y)) else none
 |_,_=>none
def cJ (x y:D) (s:aa):Res D:=bR (zX (res x s) (res y s)) s
noncomputable def zY:D->D->Option D
 | .int i,.int j=>some (.int (i-j))
 |_,_=>none
def gH (x y:D) (s:aa):Res D:=bR (zY x y) s
noncomputable def m6 (i j:Int):Bool:=(decide (-(2 ^ 64)<i)&&decide (i<2 ^ 64))||(decide (-(2 ^ 64)<j)&&decide (j<2 ^ 64))
def ug:D->D->Option D
 | .int i,.int j=>if m6 i j=true then some (.int (i*j)) else none
 | .tup Z,.int k=>if (!Z.isEmpty&&decide (1<=k)&&decide (Z.length*k.toNat<=Ï))=true then some (.tup (Ê k.toNat Z).flatten) else none
 | .lst Z,.int k=>if (decide (-(2 ^ 63)<=k)&&decide (k<2 ^ 63)&&decide (Z.length*k.toNat<=Ï))=true then some (.lst (Ê k.toNat Z).flatten) else none
 |_,_=>none
def bS (x y:D) (s:aa):Res D:=bR (ug x y) s
noncomputable def uh:D->D->Option D
 | .int i,.int j=>if decide (0<j)=true then some (.int (i % j)) else none
 |_,_=>none
def c8 (x y:D) (s:aa):Res D:=bR (uh x y) s
noncomputable def uk:D->D->Option D
 | .int i,.int j=>if (decide (0<j)&&decide (j<1073741824))=true then some (.int (i / j)) else none
 |_,_=>none
def fY (x y:D) (s:aa):Res D:=bR (uk x y) s
noncomputable def um:D->D->Option D
 | .int i,.int j=>if (decide (0<=j)&&decide (j<=1000000)&&decide (i.natAbs<2 ^ 64))=true then some (.int (i ^ j.toNat)) else none
 |_,_=>none
def j7 (x y:D) (s:aa):Res D:=bR (um x y) s
noncomputable def zZ:D->Option D
 | .int i=>some (.int (-i))
 |_=>none
def za (x:D) (s:aa):Res D:=bR (zZ x) s
theorem aj.flat (h:aj K w ds vs):∀n:Nat,aj K w (Ê n ds).flatten (Ê n vs).flatten
 |0=>rfl
 |n+1=>by
  rw [ċ,ċ,Ħ,Ħ];exact aj.append h (aj.flat h n)
def gy (S:aG K w) (h:DV K w d v) (e:res d w.ax=.lst ds):∃a xs,v=.ref a/\w.H a=some (.lst xs)/\aj K w ds xs:=by
 unfold res at e;split at e
 ·rename_i k
  split at e
  ·rename_i V Z
   cases e;obtain ⟨a,e1,rfl⟩:=h;obtain ⟨xs,Y,X⟩:=S.cell k a _ e1 Z;exact ⟨a,xs,rfl,Y,X⟩
  ·cases e
 ·subst e
  simp only [DV] at h;obtain ⟨a,xs,e,W,r⟩:=h;exact ⟨a,xs,e,W.2,r⟩
def cM (h:res d s=e) (hl:∀ds,e≠.lst ds):d=e:=by
 unfold res at h;split at h
 ·split at h
  ·exact absurd h.symm (hl _)
  ·exact h
 ·exact h
section
variable {X:Cx} {Ξ:Wd->aM->Prop}
def qd (S:aG K w) (ao:aj K w ds vs) (h:Out K Ξ w (ok (D.tup ds) w.ax) fun w' d=>∀v,DV K w' d v->Q v w'.H):kh K w.H vs Q:=fun a Z e Y =>
 h (w.same Z) (Fw.same e).le (S.same e) rfl (.ref a) ⟨a,vs,rfl,Y,(Fw.same e).le.all ao⟩
def z0 {K:ð} {w:Wd} {ds:List D} {vs:List V} {Q:VK} (S:aG K w) (ao:aj K w ds vs) (h:Out K Ξ w (ok (D.lst ds) w.ax) fun w' d=>∀v,DV K w' d v->Q v w'.H):∀p,w.H p=none->Q (.ref p) (upd w.H p (.lst vs)):=fun p Y =>
 h (w.grow p (.lst vs)) (Fw.grow Y).le (S.grow Y) rfl (.ref p) ⟨p,vs,rfl,⟨(show ¬ w.Z p from jl S Y),b9⟩,(Fw.grow Y).le.all ao⟩
def ei:bp X (č .Add) (rO X.K Ξ cJ):=by
 rintro T s σ H x y v u Q I R P ⟨w,J,G,rfl,S,Z,Y,h⟩;obtain ⟨d,e,h⟩:=dt h;unfold zX at e;split at e
 ·rename_i i j e1 e2
  rw [cM e1 (by intro _ z;cases z)] at Z;rw [cM e2 (by intro _ z;cases z)] at Y;cases e;cases Z;cases Y;exact FA T s σ w.H _ _ v u Q I R P ⟨i,j,rfl,rfl,aw S h _ rfl⟩
 ·rename_i M L e1 e2
  rw [cM e1 (by intro _ z;cases z)] at Z;rw [cM e2 (by intro _ z;cases z)] at Y;split at e
  ·rename_i W
   cases e;simp only [DV] at Z Y;obtain ⟨a,as,rfl,O,V⟩:=Z;obtain ⟨b,bs,rfl,N,U⟩:=Y;exact Ep T s σ w.H _ _ v u Q I R P ⟨a,b,as,bs,rfl,rfl,O,N,by rw [<- V.length,<- U.length];exact ó W,qd S (V.append U) h⟩
  ·cases e
 ·rename_i M L e1 e2
  split at e
  ·rename_i W
   cases e;obtain ⟨a,as,rfl,O,V⟩:=gy S Z e1;obtain ⟨b,bs,rfl,N,U⟩:=gy S Y e2;exact FQ T s σ w.H _ _ v u Q I R P ⟨a,b,as,bs,rfl,rfl,O,N,by rw [<- V.length,<- U.length];exact ó W,z0 S (V.append U) h⟩
  ·cases e
 ·rename_i i j e1 e2
  rw [cM e1 (by intro _ z;cases z)] at Z;rw [cM e2 (by intro _ z;cases z)] at Y;split at e
  ·rename_i W
   cases e;cases Z;cases Y;exact BY T s σ w.H _ _ v u Q I R P ⟨i,j,rfl,rfl,ó W,aw S h _ rfl⟩
  ·cases e
 ·cases e
def m7:bp X (č .Sub) (rO X.K Ξ gH):=by
 rintro Z s σ H x y v u Q I Y W ⟨w,T,R,rfl,S,V,U,h⟩;obtain ⟨d,e,h⟩:=dt h;unfold zY at e;split at e
 ·rename_i i j
  cases e;cases V;cases U;exact FC Z s σ w.H _ _ v u Q I Y W ⟨i,j,rfl,rfl,aw S h _ rfl⟩
 ·cases e
def fu:bp X (č .Mult) (rO X.K Ξ bS):=by
 rintro V s σ H x y v u Q I U T ⟨w,M,L,rfl,S,Y,R,h⟩;obtain ⟨d,e,h⟩:=dt h;unfold ug at e;split at e
 ·rename_i i j
  split at e
  ·rename_i Z
   cases e;cases Y;cases R;refine FD V s σ w.H _ _ v u Q I U T ⟨i,j,rfl,rfl,?_,aw S h _ rfl⟩;unfold qa;simpa [m6] using Z
  ·cases e
 ·rename_i O k
  split at e
  ·rename_i Z
   cases e;cases R;simp only [Ä,Ô] at Z;simp only [DV] at Y;obtain ⟨a,as,rfl,P,W⟩:=Y;have N:=W.length;refine Ez V s σ w.H _ _ v u Q I U T ⟨a,as,k,rfl,rfl,P,?_,Z.1.2,by rw [<- N];exact Z.2,qd S (W.flat _) h⟩;intro z;subst z
   cases O with
   |nil=>simp at Z
   |cons _ _=>cases N
  ·cases e
 ·rename_i O k
  split at e
  ·rename_i Z
   cases e;cases R;simp only [Ä,Ô] at Z;simp only [DV] at Y;obtain ⟨a,as,rfl,P,W⟩:=Y;exact FR V s σ w.H _ _ v u Q I U T ⟨a,k,as,rfl,rfl,P.2,Z.1.1,Z.1.2,by rw [<- W.length];exact Z.2,z0 S (W.flat _) h⟩
  ·cases e
 ·cases e
def iW:bp X (č .Mod) (rO X.K Ξ c8):=by
 rintro Z s σ H x y v u Q I Y W ⟨w,R,P,rfl,S,V,U,h⟩;obtain ⟨d,e,h⟩:=dt h;unfold uh at e;split at e
 ·rename_i i j
  split at e
  ·rename_i T
   cases e;cases V;cases U;exact FE Z s σ w.H _ _ v u Q I Y W ⟨i,j,rfl,rfl,ó T,aw S h _ rfl⟩
  ·cases e
 ·cases e
def j8:bp X (č .FloorDiv) (rO X.K Ξ fY):=by
 rintro Y s σ H x y v u Q I W V ⟨w,R,P,rfl,S,U,T,h⟩;obtain ⟨d,e,h⟩:=dt h;unfold uk at e;split at e
 ·rename_i i j
  split at e
  ·rename_i Z
   simp only [Ä,Ô] at Z;cases e;cases U;cases T;exact Ej Y s σ w.H _ _ v u Q I W V ⟨i,j,rfl,rfl,Z,aw S h _ rfl⟩
  ·cases e
 ·cases e
def tw:bp X (č .Pow) (rO X.K Ξ j7):=by
 rintro Y s σ H x y v u Q I W V ⟨w,R,P,rfl,S,U,T,h⟩;obtain ⟨d,e,h⟩:=dt h;unfold um at e;split at e
 ·rename_i i j
  split at e
  ·rename_i Z
   simp only [Ä,Ô] at Z;cases e;cases U;cases T;exact FF Y s σ w.H _ _ v u Q I W V ⟨i,j,rfl,rfl,⟨Z.1.1,Z.1.2,Z.2⟩,aw S h _ rfl⟩
  ·cases e
 ·cases e
def zb:nW X (unaryOp .USub) (rU X.K Ξ za):=by
 rintro Z s σ H x v Q I Y ⟨w,V,rfl,S,W,h⟩;obtain ⟨d,e,h⟩:=dt h;unfold zZ at e;split at e
 ·rename_i i
  cases e;cases W;exact FG Z s σ w.H _ v Q I Y ⟨i,rfl,aw S h _ rfl⟩
 ·cases e
noncomputable def lD (p:Int->Int->Bool):D->D->Option D
 | .int i,.int j=>some (.bl (p i j))
 |_,_=>none
def qj (x y:D) (s:aa):Res D:=bR (lD (fun i j=>decide (i<=j)) x y) s
def i3 (x y:D) (s:aa):Res D:=bR (lD (fun i j=>decide (j<i)) x y) s
def nF (x y:D) (s:aa):Res D:=bR (lD (fun i j=>decide (j<=i)) x y) s
def Jh:bp X (Ā .LtE) (rO X.K Ξ qj):=by
 rintro Z s σ H x y v u Q I Y W ⟨w,T,R,rfl,S,V,U,h⟩;obtain ⟨d,e,h⟩:=dt h;unfold lD at e;split at e
 ·rename_i i j
  cases e;cases V;cases U;exact Hg Z s σ w.H _ _ v u Q I Y W ⟨i,j,rfl,rfl,aw S h _ rfl⟩
 ·cases e
def z9:bp X (Ā .Gt) (rO X.K Ξ i3):=by
 rintro Z s σ H x y v u Q I Y W ⟨w,T,R,rfl,S,V,U,h⟩;obtain ⟨d,e,h⟩:=dt h;unfold lD at e;split at e
 ·rename_i i j
  cases e;cases V;cases U;exact Hh Z s σ w.H _ _ v u Q I Y W ⟨i,j,rfl,rfl,aw S h _ rfl⟩
 ·cases e
def Aa:bp X (Ā .GtE) (rO X.K Ξ nF):=by
 rintro Z s σ H x y v u Q I Y W ⟨w,T,R,rfl,S,V,U,h⟩;obtain ⟨d,e,h⟩:=dt h;unfold lD at e;split at e
 ·rename_i i j
  cases e;cases V;cases U;exact Hi Z s σ w.H _ _ v u Q I Y W ⟨i,j,rfl,rfl,aw S h _ rfl⟩
 ·cases e
def oj (d i:D) (s:aa):Option D:=match res d s,i with
 | .lst Z,.int i=>dg Z i
 | .tup Z,.int i=>dg Z i
 | .bb Y,.int i=>(dg Y i).map D.int
 | .str x,.int i=>if decide (x.length<=Ï)=true then (dg x.cps.toList i).map fun c=>.str ⟨#[c]⟩ else none
 |_,_=>none
def ba (x y:D) (s:aa):Res D:=bR (oj x y s) s
theorem aj.at (h:aj K w ds vs) (e:dg ds i=some d):∃v,dg vs i=some v/\DV K w d v:=by
 unfold dg at e |-;rw [h.length] at e
 cases hi:eD vs.length i with
 |none=>rw [hi] at e;cases e
 |some j =>
  rw [hi] at e;exact h.get' j d e
def Ji:nY X (rO X.K Ξ ba):=by
 rintro value slice T s σ H x y v u Q I R P ⟨w,B,A,rfl,S,Z,O,h⟩ hs;obtain ⟨d,e,N⟩:=dt h;clear h;unfold oj at e;split at e
 ·rename_i D i e1
  cases O;obtain ⟨a,M,rfl,W,L⟩:=gy S Z e1;obtain ⟨z,J,G⟩:=L.at e;exact xi value slice T s σ w.H _ _ v u Q I R P ⟨a,M,i,z,rfl,rfl,bo.of W,J,aw S N _ G⟩ hs
 ·rename_i D i e1
  cases O;rw [cM e1 (by intro _ z;cases z)] at Z;simp only [DV] at Z;obtain ⟨a,M,rfl,W,L⟩:=Z;obtain ⟨z,J,G⟩:=L.at e;exact FL value slice T s σ w.H _ _ v u Q I R P ⟨a,M,i,z,rfl,rfl,W,J,aw S N _ G⟩ hs
 ·rename_i U i e1
  cases O;rw [cM e1 (by intro _ z;cases z)] at Z;simp only [DV] at Z;obtain ⟨a,rfl,W⟩:=Z
  cases Y:dg U i with
  |none=>rw [Y] at e;cases e
  |some n =>
   rw [Y] at e;cases e;refine xi value slice T s σ w.H _ _ v u Q I R P ⟨a,U.map V.int,i,.int n,rfl,rfl,W.sq,?_,aw S N _ rfl⟩ hs;unfold dg at Y |-;rw [å]
   cases E:eD U.length i with
   |none=>rw [E] at Y;cases Y
   |some j =>
    rw [E] at Y;show (U.map V.int)[j]?=some (.int n);rw [ò,show U[j]?=some n from Y];rfl
 ·rename_i z i e1
  cases O;rw [cM e1 (by intro _ z;cases z)] at Z;cases Z;split at e
  ·rename_i C
   cases F:dg z.cps.toList i with
   |none=>rw [F] at e;cases e
   |some c =>
    rw [F] at e;cases e;exact FN value slice T s σ w.H _ _ v u Q I R P ⟨z,i,c,rfl,rfl,ó C,F,aw S N _ rfl⟩ hs
  ·cases e
 ·cases e
def cW (ha:PE X a (tE X.K Ξ f)) (hb:PE X b (tE X.K Ξ g)) (hs:xh b:=by intro _ _;rfl):PE X (.Subscript a b pos) (tE X.K Ξ (e2 ba f g)):=ck (Hm Ji ha hb hs) pe
def qk (d:D) (s:aa):Option D:=match res d s with
 | .lst Z=>some (.int Z.length)
 | .tup Z=>some (.int Z.length)
 | .bb Y=>some (.int Y.length)
 | .str x=>if decide (x.length<=Ï)=true then some (.int x.length) else none
 |_=>none
def dD (ds:List D) (s:aa):Res D:=match ds with
 | [d]=>bR (qk d s) s
 |_=>none
def mL (h:aj K w [d] vs):∃v,vs=[v]/\DV K w d v:=by
 obtain ⟨v,r,rfl,Z,dr⟩:=h;have e:r=[]:=dr;subst e;exact ⟨v,rfl,Z⟩
def kS (h:aj K w [d,e] vs):∃v u,vs=[v,u]/\DV K w d v/\DV K w e u:=by
 obtain ⟨v,r,rfl,Z,h⟩:=h;obtain ⟨u,rfl,Y⟩:=mL h;exact ⟨v,u,rfl,Z,Y⟩
def lg:cC X (.builtin "len") (rC X.K Ξ dD):=by
 rintro U s σ H T R Q I r ⟨w,M,rfl,S,Y,h⟩;unfold dD at h;split at h
 ·obtain ⟨v,rfl,Z⟩:=mL Y
  obtain ⟨d,e,h⟩:=dt h;unfold qk at e;split at e
  ·rename_i P e1
   cases e;obtain ⟨a,T,rfl,W,Y⟩:=gy S Z e1;exact qT U s σ w.H _ R Q I r ⟨a,T,rfl,.inl (bo.of W),by rw [<- Y.length];exact aw S h _ rfl⟩
  ·rename_i P e1
   cases e;rw [cM e1 (by intro _ z;cases z)] at Z;simp only [DV] at Z;obtain ⟨a,T,rfl,W,Y⟩:=Z;exact qT U s σ w.H _ R Q I r ⟨a,T,rfl,.inr W,by rw [<- Y.length];exact aw S h _ rfl⟩
  ·rename_i O e1
   cases e;rw [cM e1 (by intro _ z;cases z)] at Z;simp only [DV] at Z;obtain ⟨a,rfl,W⟩:=Z;exact qT U s σ w.H _ R Q I r ⟨a,O.map V.int,rfl,.inl W.sq,by rw [å];exact aw S h _ rfl⟩
  ·rename_i z e1
   rw [cM e1 (by intro _ z;cases z)] at Z;cases Z;split at e
   ·rename_i N
    cases e;exact By U s σ w.H _ R Q I r ⟨z,rfl,ó N,aw S h _ rfl⟩
   ·cases e
  ·cases e
 ·exact h.elim
noncomputable def gr:List D->Option (List Bool)
 | []=>some []
 | .bl b::Z=>(gr Z).map fun r=>b::r
 |_::_=>none
theorem pE:∀{ds:List D} {bs:List Bool},gr ds=some bs->ds=bs.map D.bl
 | [],bs,h=>by cases h;rfl
 | .bl b::ds,bs,h=>by
  simp only [gr] at h
  cases Z:gr ds with
  |none=>rw [Z] at h;cases h
  |some r=>rw [Z] at h;cases h;rw [pE Z];rfl
 | .aq::_,_,h=>by cases h
 | .int _::_,_,h=>by cases h
 | .str _::_,_,h=>by cases h
 | .tup _::_,_,h=>by cases h
 | .lst _::_,_,h=>by cases h
 | .aW _::_,_,h=>by cases h
 | .aN _::_,_,h=>by cases h
 | .ty _::_,_,h=>by cases h
 | .bb _::_,_,h=>by cases h
 | .exc _ _::_,_,h=>by cases h
 | .bG _ _ _::_,_,h=>by cases h
def EF:gr (bs.map D.bl)=some bs:=by
 induction bs with
 |nil=>rfl
 |cons b bs ih=>simp only [ñ,gr,ih,δ]
def nG (ds:List D) (s:aa):Res D:=match ds with
 | [d]=>match res d s with
  | .lst Z=>bR ((gr Z).map fun bs=>.bl (bs.all id)) s
  |_=>none
 |_=>none
def HA (hc:X.calm=true):cC X (.builtin "all") (rC X.K Ξ nG):=by
 rintro V s σ H U T Q I r ⟨w,O,rfl,S,Z,h⟩;unfold nG at h;split at h
 ·obtain ⟨v,rfl,R⟩:=mL Z
  split at h
  ·rename_i P e1
   obtain ⟨d,e,h⟩:=dt h
   cases Y:gr P with
   |none=>rw [Y] at e;cases e
   |some bs =>
    rw [Y] at e;cases e;obtain ⟨a,U,rfl,W,Z⟩:=gy S R e1;rw [pE Y] at Z;rw [Z.pd] at W;exact Dp hc V s σ w.H _ T Q I r ⟨a,bs,rfl,bo.of W,aw S h _ rfl⟩
  ·exact h.elim
 ·exact h.elim
def lh (ds:List D) (s:aa):Res D:=match ds with
 | [.int i,.int j]=>ok (.int (if j > i then j else i)) s
 |_=>none
def m8 (ds:List D) (s:aa):Res D:=match ds with
 | [.int i,.int j]=>ok (.int (if j<i then j else i)) s
 |_=>none
def Gb (hc:X.calm=true):cC X (.builtin "max") (rC X.K Ξ lh):=by
 rintro Z s σ H T Y Q I r ⟨w,R,rfl,S,W,h⟩;unfold lh at h;split at h
 ·rename_i i j
  obtain ⟨v,u,rfl,V,U⟩:=kS W;cases V;cases U;exact Cu hc Z s σ w.H _ Y Q I r ⟨i,j,rfl,aw S h _ rfl⟩
 ·exact h.elim
def Ge (hc:X.calm=true):cC X (.builtin "min") (rC X.K Ξ m8):=by
 rintro Z s σ H T Y Q I r ⟨w,R,rfl,S,W,h⟩;unfold m8 at h;split at h
 ·rename_i i j
  obtain ⟨v,u,rfl,V,U⟩:=kS W;cases V;cases U;exact Cv hc Z s σ w.H _ Y Q I r ⟨i,j,rfl,aw S h _ rfl⟩
 ·exact h.elim
end
def tB (n:Nat) (x:D) (ds:List D):Bool:=lay x&&cF ds&&decide (dep x<=n)
def inD (x:D) (ds:List D):Option Bool:=if tB 100 x ds=true then some (ds.any fun y=>beq y x) else none
def pV (d:D) (s:aa):Option (List D):=match res d s with
 | .lst Z=>some Z
 | .tup Z=>some Z
 |_=>none
def mB (x y:D) (s:aa):Res D:=match pV y s with
 |some Z=>bR ((inD x Z).map fun b=>D.bl (!b)) s
 |none=>none
def DC (S:aG K w) (h:DV K w d v) (e:pV d w.ax=some ds):∃a xs,v=.ref a/\(w.H a=some (.lst xs)\/bg K w.H a xs)/\aj K w ds xs:=by
 unfold pV at e;split at e
 ·rename_i X e1
  cases e;obtain ⟨a,xs,rfl,Z,Y⟩:=gy S h e1;exact ⟨a,xs,rfl,.inl Z,Y⟩
 ·rename_i X e1
  cases e;rw [cM e1 (by intro _ z;cases z)] at h;simp only [DV] at h;obtain ⟨a,xs,rfl,Z,Y⟩:=h;exact ⟨a,xs,rfl,.inr Z,Y⟩
 ·cases e
section
variable {X:Cx} {Ξ:Wd->aM->Prop} {π:List (Í×Obj)} {σ:St} {s:Á}
theorem yd (lx:lay x=true):∀{ds:List D},cF ds=true->((bO ds).any fun y=>ý y (py x))=ds.any fun y=>beq y x
 | [],_=>rfl
 |d::ds,h=>by
  simp only [cF,Ä] at h;simp only [bO,List.any_cons,kR d x h.1 lx,yd lx h.2]
def Gf (h:inD x ds=some b):lay x=true/\cF ds=true/\dep x<=100/\(ds.any fun y=>beq y x)=b:=by
 unfold inD tB at h;split at h
 ·rename_i Z
  simp only [Ä,Ô] at Z;exact ⟨Z.1.1,Z.1.2,Z.2,MN h⟩
 ·cases h
def EG (hr:bc k X.A):bp X (Ā .NotIn) (rO X.K Ξ mB):=by
 rintro π s σ H x y v u Q I J T ⟨w,W,B,rfl,S,G,F,h⟩;unfold mB at h;split at h
 ·rename_i Z E
  obtain ⟨d,e,h⟩:=dt h
  cases V:inD W Z with
  |none=>rw [V] at e;cases e
  |some b =>
   rw [V] at e;cases e;obtain ⟨U,Y,z,D⟩:=Gf V;obtain ⟨R,C⟩:=ik _ U;obtain ⟨P,t⟩:=oT _ Y;obtain ⟨bs,O⟩:=(G.py (kH _ U)).reads I J;have N:X.A.units+1+min (Ş (bO Z)) (py W).depth<cLine:=by
    have:=hr.un;rw [C];omega
   obtain ⟨a,M,rfl,ha,L⟩:=DC S F E;have fin:EP X π σ Q (.bool (!(bO Z).any fun y=>ý y (py W))) s:=⟨.bl (!b),w.H,I,by rw [yd U Y,D];rfl,aw S h _ rfl⟩
   rcases ha with ha|ha
   ·obtain ⟨cs,rc⟩:=(show L2.DV X.K (fun _=>False) w.H (.list (bO Z)) (.ref a) by simp only [L2.DV];exact ⟨a,M,rfl,not_false,ha,L.py (mi _ Y)⟩).reads I T
    exact SeqAt.notIn_list_reads rc O P R N fin
   ·obtain ⟨cs,rc⟩:=(show L2.DV X.K (fun _=>False) w.H (.tuple (bO Z)) (.ref a) by simp only [L2.DV];exact ⟨a,M,rfl,ha,L.py (mi _ Y)⟩).reads I T
    exact SeqAt.notIn_tuple_reads rc O P R N fin
 ·exact h.elim
def AQ:MG (Option Int):=fun _ s=>ok none s
variable {e a b:ÿ} {lo hi:Option ÿ} {pos p2 p3 p4:Pos} {f g:MG D}
noncomputable def cutD (xs:List D) (lo hi:Option Int):List D:=(xs.drop (HT.uP xs.length 0 lo)).take (HT.uP xs.length xs.length hi-HT.uP xs.length 0 lo)
def ye (d:D) (lo hi:Option Int) (s:aa):Res D:=match res d s with
 | .tup Z=>ok (.tup (cutD Z lo hi)) s
 | .lst Z=>ok (.lst (cutD Z lo hi)) s
 |_=>none
def AR (f:MG D) (l h:MG (Option Int)):MG D:=fun env s=>ak (f env s) fun d s=>ak (l env s) fun lo s=>ak (h env s) fun hi s=>ye d lo hi s
def Ab (d x:D) (s:aa):Res D:=match d with
 | .aN k=>match s[k]? with
  |some (.lst Z)=>if decide (Z.length<Ï)=true then ok .aq (s.set k (.lst (Z++[x]))) else none
  |_=>none
 |_=>none
def uo (d:D) (s:aa):Bool:=match d with
 | .aN k=>match s[k]? with
  |some (.lst _)=>true
  |_=>false
 |_=>false
def Ad (f g:MG D):MG D:=fun env s=>ak (f env s) fun d s=>if uo d s=true then ak (g env s) fun x s=>Ab d x s else none
def gM (d i x:D) (s:aa):Option aa:=match d,i with
 | .aN k,.int n=>match s[k]? with
  |some (.lst Z)=>(eD Z.length n).map fun j=>s.set k (.lst (Z.set j x))
  |_=>none
 |_,_=>none
def i4 (f o i:MG D):MG Fl:=fun env s=>ak (f env s) fun x s=>ak (o env s) fun d s=>ak (i env s) fun n s=>match gM d n x s with
 |some Z=>ok (.nx env) Z
 |none=>none
def Gg (S:aG K w) (dv:DV K w d v) (dn:DV K w i n) (du:DV K w x u) (h:gM d i x w.ax=some s'):∃a xs k j,v=.ref a/\n=.int k/\w.H a=some (.lst xs)/\eD xs.length k=some j/\∃w',w'.H=upd w.H a (.lst (xs.set j u))/\w'.ax=s'/\Le K w w'/\aG K w':=by
 unfold gM at h;split at h
 ·rename_i k m
  split at h
  ·rename_i Z Y
   cases X:eD Z.length m with
   |none=>rw [X] at h;cases h
   |some j =>
    rw [X] at h;cases h;obtain ⟨a,e1,rfl⟩:=dv;obtain ⟨xs,U,W⟩:=S.cell k a _ e1 Y;have V:(Cell.lst Z)≠.dead:=by intro z;cases z
    have le:=(Fw.put (K:=K) (o:=.lst (xs.set j u)) (c:=.lst (Z.set j x)) S e1 Y V).le;exact ⟨a,xs,m,j,rfl,dn,U,by rw [<- W.length];exact X,w.put k a (.lst (xs.set j u)) (.lst (Z.set j x)),rfl,rfl,le,S.zT e1 Y V ⟨_,b9,le.all (W.set du j)⟩⟩
  ·cases h
 ·cases h
def zc (he:PE X e (tE X.K Ξ f)) (ho:PE X o (tE X.K Ξ fo)) (hi:PE X i (tE X.K Ξ fi))
 (ha:∀v,assign (.Subscript o i jw) X.env v=(do
   let ov <- holding [v] (Ĝ o X.env)
   let iv <- holding [v,ov] (Ĝ i X.env)
   standAt jw
   holding [v,ov,iv] (setItem ov iv v)
   release [v,ov,iv] []):=by intro _;rfl)
 (hs:ų [.Subscript o i jw] e pos.line X.env=pure false:=by rfl) (hw:Ŵ [.Subscript o i jw] e X.env=pure none:=by rfl)
 (h1:(ĥ [.Subscript o i jw] X.env).map (·.2)=[assign (.Subscript o i jw) X.env]:=by rfl):PS X (.Assign [.Subscript o i jw] e pos) (tS X.K Ξ (i4 f fo fi)) :=
 iU (xV he (Fu ho hi set_list ha) hs hw h1) fun t σ H Q=>by
  obtain ⟨w,env,W,S,Z,h⟩:=Q;subst W;refine ⟨w,env,rfl,S,Z,(Out.ak h).mono fun P x V O h1 u N=>?_⟩;refine ⟨P,env,rfl,O,Z.le V,(Out.ak h1).mono fun M d U L J v I=>?_⟩;refine ⟨M,env,rfl,L,Z.le (V.trans U),(Out.ak J).mono fun G n T F Y m E=>?_⟩
  cases R:gM d n x G.ax with
  |none=>rw [R] at Y;exact Y.elim
  |some s =>
   rw [R] at Y;obtain ⟨a,D,k,j,e1,e2,C,B,A,W,z,le,y⟩:=Gg F (T _ _ I) E ((U.trans T) _ _ N) R;refine ⟨a,D,k,j,e1,e2,C,B,?_⟩;rw [<- W];exact Y A le y z σ (Z.le (V.trans (U.trans (T.trans le))))
end
def kd (d:D) (s:aa):Option Kn:=match res d s with
 | .aq=>some .aq
 | .bl _=>some .bl
 | .int _=>some .int
 | .str _=>some .str
 | .tup _=>some .tup
 | .lst _=>some .lst
 | .aW _=>some .aW
 |_=>none
def zd (S:aG K w) (h:DV K w d v) (e:kd d w.ax=some k):jF K w.H v k:=by
 unfold kd at e
 split at e<;>rename_i e1<;>first | (cases e;done) | (try cases e)
 ·rw [cM e1 (by intro _ z;cases z)] at h;cases h;trivial
 ·rw [cM e1 (by intro _ z;cases z)] at h;cases h;trivial
 ·rw [cM e1 (by intro _ z;cases z)] at h;cases h;trivial
 ·rw [cM e1 (by intro _ z;cases z)] at h;cases h;trivial
 ·rw [cM e1 (by intro _ z;cases z)] at h
  simp only [DV] at h;obtain ⟨a,Y,rfl,Z,_⟩:=h;exact ⟨Y,Z⟩
 ·obtain ⟨a,Y,rfl,Z,_⟩:=gy S h e1
  exact ⟨Y,bo.of Z⟩
 ·rw [cM e1 (by intro _ z;cases z)] at h
  simp only [DV] at h;obtain ⟨a,rfl,_,Z⟩:=h;exact ⟨_,Z⟩
noncomputable def ze (T:String):Bool:=T=="int"||T=="bool"||T=="str"||T=="tuple"||T=="list"
def bX (ds:List D) (s:aa):Res D:=match ds with
 | [d,.ty T]=>if ze T=true then bR ((kd d s).map fun k=>.bl (lu k T)) s else none
 |_=>none
section
variable {X:Cx} {Ξ:Wd->aM->Prop} {e a b:ÿ} {es:List ÿ} {pos:Pos} {f g:MG D} {fa:MG (List D)}
def iq:cC X (.builtin "isinstance") (rC X.K Ξ bX):=by
 rintro Z s σ H M Y Q I r ⟨w,L,rfl,S,R,h⟩;unfold bX at h;split at h
 ·rename_i d T
  obtain ⟨v,u,rfl,P,O⟩:=kS R;have N:u=.ty T:=O;subst N;split at h
  ·rename_i U
   obtain ⟨J,e,h⟩:=dt h
   cases V:kd d w.ax with
   |none=>rw [V] at e;cases e
   |some k =>
    rw [V] at e;cases e;have W:=zd S P V;simp only [ze,Bool.or_eq_true,beq_iff_eq] at U
    rcases U with (((rfl|rfl)|rfl)|rfl)|rfl
    ·exact Bz Z s σ w.H _ Y Q I r ⟨v,k,rfl,W,aw S h _ rfl⟩
    ·exact Bq Z s σ w.H _ Y Q I r ⟨v,k,rfl,W,aw S h _ rfl⟩
    ·exact BA Z s σ w.H _ Y Q I r ⟨v,k,rfl,W,aw S h _ rfl⟩
    ·exact Bo Z s σ w.H _ Y Q I r ⟨v,k,rfl,W,aw S h _ rfl⟩
    ·exact Br Z s σ w.H _ Y Q I r ⟨v,k,rfl,W,aw S h _ rfl⟩
  ·exact h.elim
 ·exact h.elim
def iz (hv:ì x=some (.type T)) (hg:Gl X x) (hm:X.mg x=none) (hn:x≠"__name__":=by decide) (hd:(x==("__debug__":Str))=false:=by decide):PE X (.Name x pos) (tE X.K Ξ (eC (.ty T))):=kZ (v:=.ty T) (o8 hg hm hv rfl hn hd) fun _=>rfl
def gb (g:∃t,X.mg x=some (.int i t)) (hg:Gl X x) (hd:(x==("__debug__":Str))=false:=by decide):PE X (.Name x pos) (tE X.K Ξ (eC (.int i))):=by
 obtain ⟨t,e⟩:=g;exact kZ (v:=.int i) (w9 hg e ⟨t,rfl⟩ hd) fun _=>rfl
def lE (d:D) (s:aa):Res D:=bR ((kd d s).map fun k=>.bl (decide (k=.tup)||decide (k=.lst))) s
def m9 (d:D):Bool:=plain d&&(py d).showable&&(!(py d).hasDict||(match py d with | .tuple Z=>lC Z | .dict _=>true | _=>false))&&decide ((py d).depth<=100)&&decide ((py d).shown.length<=Ï)
def ll (ds:List D) (s:aa):Res D:=match ds with
 | [d]=>if m9 (res d s)=true then ok (.str (py (res d s)).shown) s else none
 |_=>none
def yf (hr:bc k X.A):cC X (.builtin "repr") (rC X.K Ξ ll):=by
 rintro Z s σ H G Y Q I r ⟨w,F,rfl,S,N,h⟩;unfold ll at h;split at h
 ·rename_i d
  obtain ⟨v,rfl,M⟩:=mL N;split at h
  ·rename_i R
   simp only [m9,Ä,Ô] at R;obtain ⟨⟨⟨⟨L,W⟩,O⟩,V⟩,U⟩:=R;have T:=M.res S L;have fin:=aw S h _ rfl;generalize E:py (res d w.ax)=P at *
   cases P with
   |tuple J =>
    refine B3 hr Z s σ w.H _ Y Q I r ⟨v,J,_,rfl,T,W,?_,V,U,fin⟩;simpa using O
   |dict D=>exact wq hr Z s σ w.H _ Y Q I r ⟨v,_,_,rfl,T,W,.inr rfl,V,U,fin⟩
   |_ =>
    refine wq hr Z s σ w.H _ Y Q I r ⟨v,_,_,rfl,T,W,.inl ?_,V,U,fin⟩;simpa using O
  ·exact h.elim
 ·exact h.elim
noncomputable def jr:List D->Option (List Int)
 | []=>some []
 | .int i::Z=>(jr Z).map fun r=>i::r
 |_::_=>none
theorem wJ:∀{ds:List D} {ns:List Int},jr ds=some ns->ds=ns.map D.int
 | [],ns,h=>by cases h;rfl
 | .int b::ds,ns,h=>by
  simp only [jr] at h
  cases Z:jr ds with
  |none=>rw [Z] at h;cases h
  |some r=>rw [Z] at h;cases h;rw [wJ Z];rfl
 | .aq::_,_,h=>by cases h
 | .bl _::_,_,h=>by cases h
 | .str _::_,_,h=>by cases h
 | .tup _::_,_,h=>by cases h
 | .lst _::_,_,h=>by cases h
 | .aW _::_,_,h=>by cases h
 | .aN _::_,_,h=>by cases h
 | .ty _::_,_,h=>by cases h
 | .bb _::_,_,h=>by cases h
 | .exc _ _::_,_,h=>by cases h
 | .bG _ _ _::_,_,h=>by cases h
def CJ:jr (ns.map D.int)=some ns:=by
 induction ns with
 |nil=>rfl
 |cons b bs ih=>simp only [ñ,jr,ih,δ]
def nH (i j:Nat) (fa:MG (List D)):MG Fl:=fun env s=>ak (fa env s) fun Z s=>match Z with
 | [x,y]=>ok (.nx ((env.set i (some x)).set j (some y))) s
 |_=>none
def Gh (i j:Nat) {x y:Str} {px py pt:Pos} {kt k2 ko} (hc:X.calm=true) (hN:X.N.Nodup) (ha:PA X [a,b] (tA X.K Ξ fa)) (hi:X.N[i]?=some x:=by rfl) (hj:X.N[j]?=some y:=by rfl) (gS:i≠j:=by decide)
  (hx:X.env.scope.names.lookup x=some .local:=by rfl) (hy:X.env.scope.names.lookup y=some .local:=by rfl)
  (hw:Ŵ [.Tuple [.Name x px,.Name y py] kt pt] (.Tuple [a,b] k2 ko) X.env=pure (some [x,y]):=by rfl)
  (hs:ų [.Tuple [.Name x px,.Name y py] kt pt] (.Tuple [a,b] k2 ko) pos.line X.env=pure false:=by rfl) :
  PS X (.Assign [.Tuple [.Name x px,.Name y py] kt pt] (.Tuple [a,b] k2 ko) pos) (tS X.K Ξ (nH i j fa)):=iU (Fx hc hN hi hj gS hx hy ha hw hs) fun O σ H W=>by
 obtain ⟨w,env,V,S,Y,h⟩:=W;subst V;refine ⟨w,env,rfl,S,Y,(Out.ak h).mono fun M L U T Z J R=>?_⟩;split at Z
 ·obtain ⟨v,u,rfl,Q,P⟩:=kS R
  exact ⟨v,u,rfl,aw T Z _ (((Y.le U).set Q i).set P j)⟩
 ·exact Z.elim
end
end DI
namespace L2
open PySem PySem.Spec PyProof.Rows
structure DS (Y:Cx) (D:Í) (π:List (Í×Obj)):Prop where
 loc:D≠Y.env.locals
 fs:D∉Y.fs
 new:Y.bM.heap.objs.size<=D
 cell:∀x c,Y.env.cells.lookup x=some c->c≠D
 pin:∀p∈Y.pn++π,p.1≠D
structure J8 (Y:Cx) (D:Í) (nt:Nat) (aE:St) (π:List (Í×Obj)) (o:St) (H:Hp) (s:Á) (acc:List V):Prop where
 inv:Inv Y π (o++aE) H s
 len:o.length=nt
 lst:∃ys,s.heap.PlainList D ys/\Vals acc ys.toList
 free:H D=none
 uY:acc.length<=Ï
section
variable {Y:Cx} {D:Í} {nt:Nat} {aE:St}
def DS.obj (ds:DS Y D π) (B:J8 Y D nt aE π o H s acc):∃oD ys nn,s.heap.get? D=some oD/\oD={ cls:=.type "list",data:=.seq ys nn }/\Vals acc ys.toList/\Inv Y (π++[(D,oD)]) (o++aE) H s:=by
 obtain ⟨ys,⟨nn,Z⟩,X⟩:=B.lst;refine ⟨_,ys,nn,Z,rfl,X,B.inv.kK fun p W=>?_⟩
 rcases ė.mp W with z|z
 ·exact B.inv.pin p (á _ z)
 ·have e:p=(D,{ cls:=.type "list",data:=.seq ys nn }):=by simpa using z
  subst e;exact ⟨Z,B.free,ds.loc,ds.fs,fun v z=>by cases z⟩
end
section
variable {Y:Cx} {D:Í} {nt:Nat} {aE:St}
end
section
variable {X:Cx}
end
end L2
namespace DI
open PySem L2
def fm:ì "isinstance"=some (.builtin "isinstance"):=by decide +kernel
def HB:ì "int"=some (.type "int"):=by decide +kernel
def sv:ì "bool"=some (.type "bool"):=by decide +kernel
def pf:ì "tuple"=some (.type "tuple"):=by decide +kernel
def pF:ì "list"=some (.type "list"):=by decide +kernel
def HC:ì "all"=some (.builtin "all"):=by decide +kernel
def lp:ì "len"=some (.builtin "len"):=by decide +kernel
def yg:ì "repr"=some (.builtin "repr"):=by decide +kernel
def HD:ì "max"=some (.builtin "max"):=by decide +kernel
def HE:ì "min"=some (.builtin "min"):=by decide +kernel
structure Gd (K:ð) (mg:Str->Option Ã) (x:Str) (st:μ) (ps:List Str) (f:Í) (fd:ô):Prop where
 mg:mg x=some (.ref f)
 fn:kB K x x st f fd
 b:Binds K fd ps []
def HF {P:Ò} {w:é} {K:ð} {mg:Str->Option Ã} {base:ā} {k:Nat} {f:Í} {fd:ô} {ps:List Str} {g:List D->aa->Res D} (h:∀ds s,g ds s=none):bP P w K mg base bV k f fd ps (fI K g) :=
 ⟨fun Y H Q E Z=>by obtain ⟨w,ds,_,_,_,q⟩:=Z;rw [h] at q;exact q.elim,fun A outer s H args X Y Q E _ _ _ _ Z=>by obtain ⟨w,ds,_,_,_,q⟩:=Z;rw [h] at q;exact q.elim⟩
def uq (g:D->Env->Option Env) (t:MG Bool) (act:MG (List D)) (kf:Env):List D->aa->Res (List D)
 | [],s=>ok [] s
 |d::Z,s=>match g d kf with
  |none=>none
  |some env=>ak (ne (t env s)) fun b s=>if b=true then ak (ne (act env s)) fun Y s=>ak (uq g t act kf Z s) fun X s=>ok (Y++X) s
   else uq g t act kf Z s
def more (it:MG (List D)) (g:D->Env->Option Env) (t:MG Bool) (act:MG (List D)):MG (List D):=fun env s=>ak (it env s) fun Z s=>uq g t act env Z s
def Sl (g:D->Env->Option Env) (sl:List Nat):Prop:=∀d env Z,g d env=some Z->Z.length=env.length/\∀i,i∉sl->Z[i]?=env[i]?
def lW (sl:List Nat) (env:Env):Prop:=∀i∈sl,∀d,env[i]?≠some (some d)
def bx.back {K:ð} {w:Wd} {env aH:Env} {σ:St} {g:D->Env->Option Env} {sl:List Nat} {d:D} (hs:Sl g sl) (hf:lW sl env) (hg:g d env=some aH) (hl:env.length=σ.length) (h:bx K w aH σ):bx K w env σ :=
 ⟨hl,fun i x e=>by
  by_cases hi:i∈sl
  ·exact absurd e (hf i hi x)
  ·exact h.val i x (by rw [(hs d env aH hg).2 i hi];exact e)⟩
def DD {α β:Type} {r:Res α} {k:α->aa->Res β} {b:β} {s':aa} (h:ak r k=some (.ok b,s')):∃a s,r=some (.ok a,s)/\k a s=some (.ok b,s'):=by
 match r,h with
 |some (.ok a,s),h=>exact ⟨a,s,rfl,h⟩
def EH {α:Type} {r:Res α} {a:α} {s:aa} (h:ne r=some (.ok a,s)):r=some (.ok a,s):=by
 match r,h with
 |some (.ok b,Z),h=>exact h
def lW.of {nt:Nat} {g:D->Env->Option Env} {sl cx:List Nat} (hs:Sl g sl) (hd:∀i∈cx,i<nt/\i∉sl) {d:D} {aE aH:Env} (hg:g d (Ê nt none++aE)=some aH):lW cx aH:=fun i hi x e=>by
 obtain ⟨Z,Y⟩:=hd i hi;rw [(hs _ _ _ hg).2 i Y,Õ (by simpa using Z),Ē,ë Z] at e;cases e
def lW.on (hs:Sl g sl) (hd:∀i∈cx,i∉sl) (hf:lW cx env) (hg:g d env=some aH):lW cx aH:=fun i hi x e=>by
 rw [(hs _ _ _ hg).2 i (hd i hi)] at e;exact hf i hi x e
section
variable {X:Cx} {Ξ:Wd->aM->Prop} {el tg src J9 Jj Mn Ma:ÿ} {tests Gi L5:List ÿ} {sc:Ł} {ps pos:Pos} {N:List Str} {nt:Nat} {cap:List Nat} {it uX Mo:MG (List D)} {gd Ka Mp:D->Env->Option Env} {g0 Kb Mq:TG} {sl cx lX:List Nat} {ft Kc Mr:MG Bool} {f:MG D}
noncomputable def apart (nt:Nat) (sl cx:List Nat):Bool:=cx.all (fun i=>decide (i<nt)&&!sl.contains i)
end
end DI
namespace L2
open PySem PySem.Spec PyProof.Rows
end L2
namespace HT
open PySem PyProof.Rows
def ur (A:Ö) (s:Á) (y x:Ã) (b:Bool):Prop:=∀(prog:Ò) (w:é) (E:Ã->Á->Prop) (Q:Ã->Á->Prop),Q (.bool b) s->Ó (Ø prog w) A (richCompare .Lt y x) Q E s
inductive gC (A:Ö) (s:Á):List Ã->List Ã->Bool->Prop where
 |nn:gC A s [] [] false
 |nc (y:Ã) (ys:List Ã):gC A s [] (y::ys) true
 |cn (x:Ã) (xs:List Ã):gC A s (x::xs) [] false
 |eq {x y:Ã} {xs ys:List Ã} {b:Bool}:SeqAt.EqAt A s x y true->gC A s xs ys b->gC A s (x::xs) (y::ys) b
 |lt {x y:Ã} {xs ys:List Ã} {b:Bool}:SeqAt.EqAt A s x y false->ur A s x y b->gC A s (x::xs) (y::ys) b
section
open PySem.SeqAt
open PySem.AutoSeq1 (wpAny_loadPart')
open PySem.MeetsSeq PySem.MeetsSeq2 PySem.MeetsSeq3
def B6 (l b:Í) (items jm:Array Ã) (n n2:Nat) (dd jD:Option Í) (sl cx:Array (Option Ã)) (jd:Bool) :
  Meets (ο.«tuple.__lt__» ⟨[.ref l,.ref b],[]⟩)
   (fun A R s=>s.heap.get? l=some { cls:=.type "tuple",dict:=dd,data:=.seq items n,slots:=sl }/\s.heap.get? b=some { cls:=.type "tuple",dict:=jD,data:=.seq jm n2,slots:=cx } /\
    gC A.in1 s items.toList jm.toList jd/\R (.ok (.ret (.bool jd))) s) :=
 .of_wp fun prog w A R s h=>by
  obtain ⟨N,g,d,M,os⟩:=s;obtain ⟨K,J,I,h⟩:=h;have f2:=AutoSeq1.sub_tuple_tuple
  wp_walk using wpAny_loadPart' K,wpAny_loadPart' J,wpAny_forIn_list _ (fun rest b W=>b.1=none/\W=⟨N,g,d,M,os⟩/\∃(X ws:List Ã),rest=X.zip ws /\
   gC A.in1 ⟨N,g,d,M,os⟩ X ws jd/\X.length+jm.size=ws.length+items.size) _
  case turn =>
   rintro ⟨y,x⟩ rest b W ⟨V,rfl,X,ws,Y,U,Z⟩
   cases U with
   |nn=>cases Y
   |nc _ _=>cases Y
   |cn _ _=>cases Y
   |eq T S =>
    rw [į] at Y
    injection Y with Q L
    injection Q with P O
    subst P O;simp only [þ] at Z;refine À (T prog w _ _ ?_)
    wp_walk
    exact ⟨rfl,rfl,_,_,L,S,by omega⟩
   |lt T S =>
    rw [į] at Y
    injection Y with Q L
    injection Q with P O
    subst P O;refine À (T prog w _ _ ?_);have H:=S prog w
    wp_walk using H
    exact ⟨_,rfl,by simpa using h⟩
  case fin =>
   rintro ⟨F,E⟩ W ⟨V,rfl,X,ws,Y,U,Z⟩;simp only at V;subst V;have G:jd=decide (items.size<jm.size):=by
    cases U with
    |nn=>simp only [Ě] at Z;exact (í (by omega)).symm
    |nc _ _=>simp only [Ě,þ] at Z;exact (Ú (by omega)).symm
    |cn _ _=>simp only [Ě,þ] at Z;exact (í (by omega)).symm
    |eq _ _=>rw [į] at Y;cases Y
    |lt _ _=>rw [į] at Y;cases Y
   rw [G] at h
   wp_walk
   exact ⟨_,rfl,by simpa [Builtin.Tuple.tupleCompareSizes] using h⟩
  case h =>
   exact ⟨rfl,rfl,items.toList,jm.toList,rfl,I,by simp only [ŏ];omega⟩
end
open PySem.SeqAt PySem.MeetsSeq
section
variable {prog:Ò} {w:é} {A:Ö} {E:Ã->Á->Prop} {s:Á}
def xu (hl:IsTup s.heap l items) (hb:IsTup s.heap b jm) (hA:∀A':Ö,A'.units<=A.units+4->gC A' s items.toList jm.toList jd)
 (hu:A.units<cLine) (h:Q (.bool jd) s):Ó (Ø prog w) A (richCompare .Lt (.ref l) (.ref b)) Q E s:=by
 obtain ⟨⟨cls,U,data,T⟩,Z,Y,n,X⟩:=id hl;obtain ⟨⟨O,S,data2,R⟩,W,V,P,hd2⟩:=id hb;simp only at Y X V hd2;subst Y X V hd2;refine richCompare_meets_room (op:=.Lt) ⟨_,Z,rfl⟩ ⟨_,W,rfl⟩ PySem.F.slot_tuple_lt PySem.F.entry_tuple_lt (PySem.F.args_tuple_lt_2 _ _) (B6 l b items jm n P U S T R jd)
  ⟨Z,W,hA _ ?_,show Ğ jd≠Value.notImplemented/\Q (.bool jd) s from ⟨(fun x=>nomatch x),h⟩⟩ hu
 show A.units+1<=A.units+4;omega
end
end HT
namespace DI
open PySem L2 HT
mutual
noncomputable def kE:D->D->Option Bool
 | .int i,.int j=>some (decide (i<j))
 | .str x,.str y=>some (decide (x.cps.toList<y.cps.toList))
 | .tup Z,.tup Y=>lF Z Y
 |_,_=>none
noncomputable def lF:List D->List D->Option Bool
 | [],[]=>some false
 | [],_::_=>some true
 |_::_,[]=>some false
 |x::Z,y::Y=>if beq x y=true then lF Z Y else kE x y
end
section
variable {X:Cx} {Ξ:Wd->aM->Prop} {π:List (Í×Obj)} {σ:St} {s:Á} {w:Wd}
def HG (I:Inv X π σ w.H s) (A:Ö) (lx:lay x=true) (ly:lay y=true) (hu:A.units+dep x<cLine) (hx:DV X.K w x v) (hy:DV X.K w y u) (rx:RelV v vx) (ry:RelV u vy):SeqAt.EqAt A s vx vy (beq x y):=by
 obtain ⟨as,Z⟩:=(hx.py (kH _ lx)).reads I rx;obtain ⟨bs,Y⟩:=(hy.py (kH _ ly)).reads I ry;obtain ⟨W,V⟩:=ik _ lx;obtain ⟨U,T⟩:=ik _ ly;have:=SeqAt.eqAt_reads _ _ A s vx vy as bs Z Y W U (by rw [V];omega);rw [kR _ _ lx ly] at this;exact this
mutual
theorem zg (I:Inv X π σ w.H s):∀(A:Ö) (x y:D) (b:Bool) (v u:V) (vx vy:Ã),kE x y=some b->lay x=true->lay y=true->A.units+5*dep x+5<cLine->DV X.K w x v->DV X.K w y u->RelV v vx->RelV u vy->ur A s vx vy b
 |A,.int i,.int j,b,v,u,vx,vy,h,_,_,_,Z,Y,W,U=>by
  cases h;cases Z;cases Y;obtain ⟨t,rfl⟩:=W;obtain ⟨T,rfl⟩:=U;intro prog w E Q q;exact wD A s i t j T prog w E Q q
 |A,.str i,.str j,b,v,u,vx,vy,h,_,_,S,Z,Y,W,U=>by
  cases h;cases Z;cases Y;obtain ⟨t,rfl⟩:=W;obtain ⟨T,rfl⟩:=U;intro prog w E Q q;exact (PyProof.Rows.lt_str q:Ó (Ø prog w) A (Ā .Lt (.str i t) (.str j T)) Q E s)
 |A,.tup R,.tup P,b,v,u,vx,vy,h,O,N,S,Z,Y,W,U=>by
  simp only [kE] at h;simp only [DV] at Z Y;obtain ⟨a,as,rfl,M,L⟩:=Z;obtain ⟨c,cs,rfl,J,G⟩:=Y;cases W;cases U;obtain ⟨ah,F,C,_⟩:=I.tuple M;obtain ⟨B,z,r,_⟩:=I.tuple J;intro prog o E Q q;simp only [dep] at S;exact xu C r (fun p n=>by
   have:=yh I p R P b as cs ah B h (by simpa [lay] using O) (by simpa [lay] using N) (by omega) L G F z;simpa using this) (by omega) q
 |_,.aq,_,_,_,_,_,_,h,_,_,_,_,_,_,_=>by cases h
 |_,.bl _,_,_,_,_,_,_,h,_,_,_,_,_,_,_=>by cases h
 |_,.lst _,_,_,_,_,_,_,h,_,_,_,_,_,_,_=>by cases h
 |_,.aW _,_,_,_,_,_,_,h,_,_,_,_,_,_,_=>by cases h
 |_,.aN _,_,_,_,_,_,_,h,_,_,_,_,_,_,_=>by cases h
 |_,.ty _,_,_,_,_,_,_,h,_,_,_,_,_,_,_=>by cases h
 |_,.bb _,_,_,_,_,_,_,h,_,_,_,_,_,_,_=>by cases h
 |_,.exc _ _,_,_,_,_,_,_,h,_,_,_,_,_,_,_=>by cases h
 |_,.bG _ _ _,_,_,_,_,_,_,h,_,_,_,_,_,_,_=>by cases h
 |_,.int _,.aq,_,_,_,_,_,h,_,_,_,_,_,_,_=>by cases h
 |_,.int _,.bl _,_,_,_,_,_,h,_,_,_,_,_,_,_=>by cases h
 |_,.int _,.str _,_,_,_,_,_,h,_,_,_,_,_,_,_=>by cases h
 |_,.int _,.tup _,_,_,_,_,_,h,_,_,_,_,_,_,_=>by cases h
 |_,.int _,.lst _,_,_,_,_,_,h,_,_,_,_,_,_,_=>by cases h
 |_,.int _,.aW _,_,_,_,_,_,h,_,_,_,_,_,_,_=>by cases h
 |_,.int _,.aN _,_,_,_,_,_,h,_,_,_,_,_,_,_=>by cases h
 |_,.int _,.ty _,_,_,_,_,_,h,_,_,_,_,_,_,_=>by cases h
 |_,.int _,.bb _,_,_,_,_,_,h,_,_,_,_,_,_,_=>by cases h
 |_,.int _,.exc _ _,_,_,_,_,_,h,_,_,_,_,_,_,_=>by cases h
 |_,.int _,.bG _ _ _,_,_,_,_,_,h,_,_,_,_,_,_,_=>by cases h
 |_,.str _,.aq,_,_,_,_,_,h,_,_,_,_,_,_,_=>by cases h
 |_,.str _,.bl _,_,_,_,_,_,h,_,_,_,_,_,_,_=>by cases h
 |_,.str _,.int _,_,_,_,_,_,h,_,_,_,_,_,_,_=>by cases h
 |_,.str _,.tup _,_,_,_,_,_,h,_,_,_,_,_,_,_=>by cases h
 |_,.str _,.lst _,_,_,_,_,_,h,_,_,_,_,_,_,_=>by cases h
 |_,.str _,.aW _,_,_,_,_,_,h,_,_,_,_,_,_,_=>by cases h
 |_,.str _,.aN _,_,_,_,_,_,h,_,_,_,_,_,_,_=>by cases h
 |_,.str _,.ty _,_,_,_,_,_,h,_,_,_,_,_,_,_=>by cases h
 |_,.str _,.bb _,_,_,_,_,_,h,_,_,_,_,_,_,_=>by cases h
 |_,.str _,.exc _ _,_,_,_,_,_,h,_,_,_,_,_,_,_=>by cases h
 |_,.str _,.bG _ _ _,_,_,_,_,_,h,_,_,_,_,_,_,_=>by cases h
 |_,.tup _,.aq,_,_,_,_,_,h,_,_,_,_,_,_,_=>by cases h
 |_,.tup _,.bl _,_,_,_,_,_,h,_,_,_,_,_,_,_=>by cases h
 |_,.tup _,.int _,_,_,_,_,_,h,_,_,_,_,_,_,_=>by cases h
 |_,.tup _,.str _,_,_,_,_,_,h,_,_,_,_,_,_,_=>by cases h
 |_,.tup _,.lst _,_,_,_,_,_,h,_,_,_,_,_,_,_=>by cases h
 |_,.tup _,.aW _,_,_,_,_,_,h,_,_,_,_,_,_,_=>by cases h
 |_,.tup _,.aN _,_,_,_,_,_,h,_,_,_,_,_,_,_=>by cases h
 |_,.tup _,.ty _,_,_,_,_,_,h,_,_,_,_,_,_,_=>by cases h
 |_,.tup _,.bb _,_,_,_,_,_,h,_,_,_,_,_,_,_=>by cases h
 |_,.tup _,.exc _ _,_,_,_,_,_,h,_,_,_,_,_,_,_=>by cases h
 |_,.tup _,.bG _ _ _,_,_,_,_,_,h,_,_,_,_,_,_,_=>by cases h
theorem yh (I:Inv X π σ w.H s):∀(A:Ö) (xs ys:List D) (b:Bool) (vs us:List V) (ps qs:List Ã),lF xs ys=some b->cF xs=true->cF ys=true->A.units+5*de xs+5<cLine->aj X.K w xs vs->aj X.K w ys us->Vals vs ps->Vals us qs->gC A s ps qs b
 |A,[],[],b,vs,us,ps,qs,h,_,_,_,W,U,Z,Y=>by
  cases h;cases W;cases U;cases Z;cases Y;exact .nn
 |A,[],y::ys,b,vs,us,ps,qs,h,_,_,_,W,U,Z,Y=>by
  cases h;cases W;cases Z;obtain ⟨u,r,rfl,_,_⟩:=U;cases Y;exact .nc _ _
 |A,x::xs,[],b,vs,us,ps,qs,h,_,_,_,W,U,Z,Y=>by
  cases h;cases U;cases Y;obtain ⟨u,r,rfl,_,_⟩:=W;cases Z;exact .cn _ _
 |A,x::xs,y::ys,b,vs,us,ps,qs,h,T,S,N,W,U,Z,Y=>by
  obtain ⟨v,r,rfl,P,dr⟩:=W;obtain ⟨u,G,rfl,O,M⟩:=U;simp only [cF,Ä] at T S;simp only [de] at N;have F:=Nat.le_max_left (dep x) (de xs);have E:=Nat.le_max_right (dep x) (de xs)
  cases Z with
  |cons Z L =>
   cases Y with
   |cons Y J =>
    have R:=HG I A T.1 S.1 (by omega) P O Z Y;simp only [lF] at h;split at h
    ·rename_i Q
     rw [Q] at R;exact .eq R (yh I A xs ys b _ _ _ _ h T.2 S.2 (by omega) dr M L J)
    ·rename_i Q
     rw [Bool.not_eq_true] at Q;rw [Q] at R;exact .lt R (zg I A x y b _ _ _ _ h T.1 S.1 (by omega) P O Z Y)
end
def lG (x y:D) (s:aa):Res D:=if (lay x&&lay y&&decide (dep x<=30))=true then bR ((kE x y).map D.bl) s else none
def Ae (hr:bc k X.A):bp X (Ā .Lt) (rO X.K Ξ lG):=by
 rintro O s σ H x y v u Q I U T ⟨w,W,V,rfl,S,R,P,h⟩;unfold lG at h;split at h
 ·rename_i Z
  simp only [Ä,Ô] at Z;obtain ⟨d,e,h⟩:=dt h
  cases Y:kE W V with
  |none=>rw [Y] at e;cases e
  |some b =>
   rw [Y] at e;cases e;exact zg I X.A W V b x y v u Y Z.1.1 Z.1.2 (by have:=hr.un;have:=Z.2;have:cLine=9900:=rfl;omega) R P U T _ _ _ _ ⟨.bl b,w.H,I,rfl,aw S h _ rfl⟩
 ·exact h.elim
end
end DI
namespace DI
open PySem L2
section
variable {X:Cx} {Ξ:Wd->aM->Prop} {e:ÿ} {p pos Mt Mu IQ Mb:Pos} {f:MG D}
end
def kG:List D->aa->Res D:=aZ 2 2 (aD (bt (bJ (e2 lG (af 1) (eB dD (ae (af 0) ag)))) (aR (e2 ba (af 0) (af 1))) bC) (aR (eC (.int 0))))
def mv:List D->aa->Res D:=aZ 2 3 (aD (bz (aK kG (ae (af 0) (ae (af 1) ag))) (gN 2)) (aR (eNew (ae (eB lh (ae (eC (.int 0)) (ae (e2 gH (af 2) (e2 j7 (eC (.int 10)) (eC (.int 18)))) ag))) (ae (e2 c8 (af 2) (eC (.int 2147483647))) ag)))))
def cX:List D->aa->Res D:=aZ 2 4 (aD (bt (bJ (e2 i3 (e2 ba (af 0) (eC (.int 0))) (eC (.int 0)))) (aD (bz (e2 c8 (e2 ba (af 0) (eC (.int 0))) (af 1)) (gN 2)) (aD (i4 (e2 fY (e2 ba (af 0) (eC (.int 0))) (af 1)) (af 0) (eC (.int 0))) (aR (af 2)))) bC) (aD (i4 (e2 c8 (e2 cJ (e2 bS (e2 ba (af 0) (eC (.int 1))) (eC (.int 48271))) (eC (.int 29))) (eC (.int 2147483647))) (af 0) (eC (.int 1))) (aD (bz (e2 c8 (e2 cJ (e2 cJ (e2 bS (e2 ba (af 0) (eC (.int 1))) (e2 ba (af 0) (eC (.int 1)))) (e2 bS (eC (.int 39373)) (e2 ba (af 0) (eC (.int 1))))) (eC (.int 7))) (eC (.int 2147483629))) (gN 3)) (aD (bz (e2 c8 (e2 cJ (e2 bS (af 3) (af 3)) (e2 bS (eC (.int 16807)) (af 3))) (eC (.int 2147483587))) (gN 3)) (aR (e2 c8 (e2 fY (af 3) (eC (.int 8))) (af 1)))))))
def dO:Nat->List D->aa->Res D
 |0=>fun _ _=>none
 |n+1=>aZ 2 2 (aD (bt (c9 (e1 lE (af 1))) (aD (bt (gn (bJ (e2 bW (eB bX (ae (af 0) (ae (eC (.ty "tuple")) ag))) (eB bX (ae (af 1) (ae (eC (.ty "tuple")) ag))))) (bJ (e2 bW (eB bX (ae (af 0) (ae (eC (.ty "list")) ag))) (eB bX (ae (af 1) (ae (eC (.ty "list")) ag)))))) (aR (eC (.bl false))) bC) (aR (fx (e2 fg (eB dD (ae (af 0) ag)) (eB dD (ae (af 1) ag))) (eB nG (ae (dw 2 [] (Jg (ae (af 0) (ae (af 1) ag))) (gT [gN 0,gN 1]) dU (aK (dO n) (ae (af 0) (ae (af 1) ag)))) ag))))) bC) (aR (fx (e2 fg (eB bX (ae (af 0) (ae (eC (.ty "bool")) ag))) (eB bX (ae (af 1) (ae (eC (.ty "bool")) ag)))) (e2 fg (af 0) (af 1)))))
def qW:List D->aa->Res D:=aZ 1 1 (aR (fx (eB bX (ae (af 0) (ae (eC (.ty "int")) ag))) (fx (qe (eB bX (ae (af 0) (ae (eC (.ty "bool")) ag)))) (e2 nF (af 0) (eC (.int 0))))))
def jR:List D->aa->Res D:=aZ 2 2 (aR (fx (aK qW (ae (af 0) ag)) (e2 lG (af 0) (af 1))))
end DI
namespace ST
open PySem PySem.W PyProof.Rows
structure Ord (α:Type) where
 lt:α->α->Bool
 AS:∀a,lt a a=false
 tr:∀a b c,lt a b=true->lt b c=true->lt a c=true
 cL:∀a b,lt a b=false->lt b a=false->a=b
section
variable {α:Type} (O:Ord α)
def Ord.le (a b:α):Prop:=O.lt b a=false
variable {O}
def Ord.le_refl (a:α):O.le a a:=O.AS a
def Ord.le_of_lt (h:O.lt a b=true):O.le a b:=by
 unfold Ord.le
 cases Z:O.lt b a with
 |false=>rfl
 |true=>have:=O.tr _ _ _ h Z;rw [O.AS] at this;cases this
def Ord.tD (h:O.le a b) (g:O.le b c):O.le a c:=by
 unfold Ord.le at *
 cases Z:O.lt c a with
 |false=>rfl
 |true =>
  cases Y:O.lt a b with
  |true=>have:=O.tr _ _ _ Z Y;rw [g] at this;cases this
  |false =>
   have e:=O.cL a b Y h;subst e;rw [g] at Z;cases Z
def Ord.HH (h:O.le a b) (g:O.le b a):a=b:=O.cL _ _ g h
end
def ok {β:Type} (c:Nat->Nat->Bool) (n:Nat):KasT β->(β->Prop)->Prop
 | .ret a,Q=>Q a
 | .ask i j k,Q=>i<n/\j<n/\ok c n (k (c i j)) Q
theorem ji {β:Type} {c:Nat->Nat->Bool} {n:Nat} {Q R:β->Prop}:∀{t:KasT β},ok c n t Q->(∀a,Q a->R a)->ok c n t R
 | .ret a,h,i=>i a h
 | .ask _ _ k,h,i=>⟨h.1,h.2.1,ji (t:=k _) h.2.2 i⟩
theorem ph {β γ:Type} {c:Nat->Nat->Bool} {n:Nat} {f:β->KasT γ} {Q:γ->Prop}:∀{t:KasT β},ok c n t (fun a=>ok c n (f a) Q)->ok c n (t.bind f) Q
 | .ret _,h=>h
 | .ask _ _ k,h=>⟨h.1,h.2.1,ph (t:=k _) h.2.2⟩
section
variable {α:Type} {O:Ord α} {x:Nat->α} {n:Nat}
noncomputable def ky (x:Nat->α) (p:Array Nat) (i:Nat):α:=x (p.getD i 0)
def Pm (n:Nat) (p:Array Nat):Prop:=p.size=n/\p.toList.Perm (ĸ n)
def Up (O:Ord α) (f:Nat->α) (k:Nat):Prop:=∀i j,i<j->j<k->O.le (f i) (f j)
def Dn (O:Ord α) (f:Nat->α) (k:Nat):Prop:=∀i j,i<j->j<k->O.le (f j) (f i)
def Up.more (h:Up O f k) (hk:1<=k) (h1:O.le (f (k-1)) (f k)):Up O f (k+1):=fun i j Z X=>by
 by_cases e:j=k
 ·subst e
  by_cases Y:i=j-1
  ·subst Y;exact h1
  ·exact Ord.tD (h i (j-1) (by omega) (by omega)) h1
 ·exact h i j Z (by omega)
def Dn.more (h:Dn O f k) (hk:1<=k) (h1:O.le (f k) (f (k-1))):Dn O f (k+1):=fun i j Z X=>by
 by_cases e:j=k
 ·subst e
  by_cases Y:i=j-1
  ·subst Y;exact h1
  ·exact Ord.tD h1 (h i (j-1) (by omega) (by omega))
 ·exact h i j Z (by omega)
def Pm.lt (h:Pm n p) (hi:i<n):p.getD i 0<n:=by
 have hs:i<p.size:=by rw [h.1];exact hi
 have:p[i]∈p.toList:=by simp
 have e:p.getD i 0=p[i]:=by simp [Array.getD,hs]
 rw [e];exact Ń.mp (h.2.mem_iff.mp this)
def Pm.rev (h:Pm n p) (i j:Nat):Pm n (kas_rev p i j):=⟨by rw [kas_rev_size];exact h.1,(Array.perm_iff_toList_perm.mp (mirror_perm p i j _)).trans h.2⟩
def xw {p q:Array Nat} {i j:Nat} (h:p[i]?=q[j]?):p.getD i 0=q.getD j 0:=by
 rw [Array.getD_eq_getD_getElem?,Array.getD_eq_getD_getElem?,h]
def sx {p:Array Nat} {i j:Nat} (hj:j<=p.size) (k:Nat):ky x (kas_rev p i j) k=if i<=k/\k<j then ky x p (i+j-1-k) else ky x p k:=by
 have e:=getElem?_mirror_all (i:=i) hj k;unfold ky kas_rev
 split<;>rename_i h
 ·rw [ë h] at e;rw [xw e]
 ·rw [î h] at e;rw [xw e]
def xx (hj:j<=p.size) (he:∀k,i<=k->k<j->ky x p k=ky x p (j-1)):ky x (kas_rev p i j)=ky x p:=funext fun k=>by
 rw [sx hj];split
 ·rw [he _ (by omega) (by omega),he k (by omega) (by omega)]
 ·rfl
noncomputable abbrev asks (O:Ord α) (x:Nat->α) (i j:Nat):Bool:=O.lt (x i) (x j)
theorem sy {p:Array Nat} (hp:Pm n p):∀(f m:Nat),1<=m->m+f<=n->Up O (ky x p) m->ok (asks O x) n (kas_asc p f m) fun r=>m<=r/\r<=m+f/\Up O (ky x p) r/\(r<m+f->O.lt (ky x p r) (ky x p (r-1))=true)
 |0,m,Y,V,Z=>⟨MK _,MK _,Z,fun z=>absurd z (ê _)⟩
 |f+1,m,Y,V,Z=>by
  refine ⟨hp.lt (by omega),hp.lt (by omega),?_⟩
  show ok _ _ (if O.lt (ky x p m) (ky x p (m-1))=true then _ else _) _
  cases X:O.lt (ky x p m) (ky x p (m-1)) with
  |true =>
   rw [ë rfl];exact ⟨MK _,by omega,Z,fun _=>X⟩
  |false =>
   rw [î Î];refine ji (sy hp f (m+1) (by omega) (by omega) (Z.more Y X)) fun r W=>⟨by omega,by omega,W.2.2.1,fun z=>W.2.2.2 (by omega)⟩
structure DS (O:Ord α) (x:Nat->α) (n:Nat) (p:Array Nat) (m q:Nat):Prop where
 pm:Pm n p
 q1:q+1<=m
 mn:m<=n
 dn:Dn O (ky x p) m
 bl:∀k,m-(q+1)<=k->k<m->ky x p k=ky x p (m-1)
def DS.turn (D:DS O x n p m q):Pm n (kas_rev p (m-(q+1)) m)/\ky x (kas_rev p (m-(q+1)) m)=ky x p :=
 ⟨D.pm.rev _ _,xx (by rw [D.pm.1];exact D.mn) D.bl⟩
theorem pj:∀(f:Nat) (p:Array Nat) (m q:Nat),m+f<=n->DS O x n p m q->ok (asks O x) n (kas_desc f p m q) fun r=>m<=r.2.1/\DS O x n r.1 r.2.1 r.2.2
 |0,p,m,q,_,D=>⟨MK _,D⟩
 |f+1,p,m,q,P,D=>by
  have q1:=D.q1;refine ⟨D.pm.lt (by omega),D.pm.lt (by omega),?_⟩
  show ok _ _ (if O.lt (ky x p m) (ky x p (m-1))=true then _ else _) _
  cases X:O.lt (ky x p m) (ky x p (m-1)) with
  |true =>
   rw [ë rfl];have one:∀Y,Pm n Y->ky x Y=ky x p->DS O x n Y (m+1) 0:=fun Y V U=>⟨V,by omega,by omega,by rw [U];exact D.dn.more (by omega) (Ord.le_of_lt X),fun k T S=>by rw [show k=m+1-1 by omega]⟩;by_cases W:q > 0
   ·rw [ë W]
    exact ji (pj f _ (m+1) 0 (by omega) (one _ D.turn.1 D.turn.2)) fun r Z=>⟨by omega,Z.2⟩
   ·rw [î W]
    exact ji (pj f _ (m+1) 0 (by omega) (one _ D.pm rfl)) fun r Z=>⟨by omega,Z.2⟩
  |false =>
   rw [î Î];refine ⟨D.pm.lt (by omega),D.pm.lt (by omega),?_⟩
   show ok _ _ (if O.lt (ky x p (m-1)) (ky x p m)=true then _ else _) _
   cases R:O.lt (ky x p (m-1)) (ky x p m) with
   |true =>
    rw [ë rfl];exact ⟨MK _,D⟩
   |false =>
    rw [î Î];have e:ky x p m=ky x p (m-1):=O.cL _ _ X R;refine ji (pj f p (m+1) (q+1) (by omega) ⟨D.pm,by omega,by omega,D.dn.more (by omega) (by rw [e];exact Ord.le_refl _),fun k T S=>?_⟩) fun r Z=>⟨by omega,Z.2⟩;show _=ky x p m;by_cases Q:k=m
    ·rw [Q]
    ·rw [D.bl k (by omega) (by omega),e]
def xy {p:Array Nat} {m:Nat} (hp:Pm n p) (h1:1<=m) (hm:m<=n) (hd:Dn O (ky x p) m):ok (asks O x) n (kas_tail3 m n p) fun r=>1<=r.1/\r.1<=n/\Pm n r.2/\Up O (ky x r.2) r.1:=by
 refine ph ?_;have Z:Up O (ky x (kas_rev p 0 m)) m:=fun i j W Y=>by
  rw [sx (by rw [hp.1];exact hm),sx (by rw [hp.1];exact hm),ë ⟨by omega,by omega⟩,ë ⟨by omega,Y⟩];exact hd _ _ (by omega) (by omega)
 exact ji (sy (hp.rev 0 m) (n-m) m h1 (by omega) Z) fun r X=>⟨by show 1<=r;omega,by show r<=n;omega,hp.rev 0 m,X.2.2.1⟩
def vR {p:Array Nat} {m:Nat} (hp:Pm n p) (h1:1<=m) (hm:m+1<=n) (hd:Dn O (ky x p) (m+1)):ok (asks O x) n (kas_descPart m n p) fun r=>1<=r.1/\r.1<=n/\Pm n r.2/\Up O (ky x r.2) r.1:=by
 refine ph (ji (pj (n-(m+1)) p (m+1) 0 (by omega) ⟨hp,by omega,hm,hd,fun k Y X=>by rw [show k=m+1-1 by omega]⟩) fun r Z=>?_);obtain ⟨W,D⟩:=Z;split
 ·exact xy D.turn.1 (by have:=D.q1;omega) D.mn (by rw [D.turn.2];exact D.dn)
 ·exact xy D.pm (by have:=D.q1;omega) D.mn D.dn
def rH {p:Array Nat} (hp:Pm n p) (hn:1<=n):ok (asks O x) n (kas_count n p) fun r=>1<=r.1/\r.1<=n/\Pm n r.2/\Up O (ky x r.2) r.1:=by
 refine ph (ji (sy hp (n-1) 1 (MK _) (by omega) fun i j U X=>by omega) fun m S=>?_);obtain ⟨Z,Q,Y,R⟩:=S;split
 ·rename_i e
  rw [beq_iff_eq] at e;exact ⟨Z,by omega,hp,Y⟩
 ·rename_i e
  have P:m≠n:=fun z=>e (by rw [z];exact ğ n);have hs:=R (by omega);split
  ·refine ⟨hp.lt (by omega),hp.lt (by omega),?_⟩
   show ok _ _ (if O.lt (ky x p 0) (ky x p (m-1))=true then _ else _) _
   cases T:O.lt (ky x p 0) (ky x p (m-1)) with
   |true =>
    rw [ë rfl];exact ⟨Z,by omega,hp,Y⟩
   |false =>
    rw [î Î];have W:∀k,0<=k->k<m->ky x p k=ky x p (m-1):=fun k _ V=>by
     have a1:O.le (ky x p k) (ky x p (m-1)):=by
      by_cases e:k=m-1
      ·rw [e];exact Ord.le_refl _
      ·exact Y k (m-1) (by omega) (by omega)
     have a2:O.le (ky x p (m-1)) (ky x p k):=by
      by_cases e:k=0
      ·rw [e];exact T
      ·exact Ord.tD T (Y 0 k (by omega) V)
     exact Ord.HH a1 a2
    have V:=xx (x:=x) (p:=p) (i:=0) (j:=m) (by rw [hp.1];omega) W;refine vR (hp.rev 0 m) Z (by omega) ?_;rw [V];refine Dn.more (fun i j U X=>?_) Z (Ord.le_of_lt hs);rw [W i (by omega) (by omega),W j (by omega) X];exact Ord.le_refl _
  ·refine vR hp Z (by omega) (Dn.more (fun i j U X=>by omega) Z (Ord.le_of_lt hs))
end
section
variable {α:Type} {O:Ord α} {x:Nat->α} {prog:Ò} {w:é} {A:Ö} {E:Ã->Á->Prop} {s:Á}
def uY (us:List Ã) (h:us.length<2):(us.toArray.zip us.toArray).map (·.2)=((List.toArray (ĸ us.length)).toList.map fun i=>us.getD i Value.none).toArray:=by
 rcases us with _ | ⟨u,_ | ⟨v,r⟩⟩
 ·exact Array.toList_inj.mp (by simp)
 ·exact Array.toList_inj.mp (by simp)
 ·(simp at h;omega)
end
open HT
section
variable {prog:Ò} {w:é} {A:Ö} {E:Ã->Á->Prop} {s:Á}
inductive jx (h:ā):List Ã->List (List Int)->Prop where
 |nil:jx h [] []
 |cons {a:Í} {ah:Array Ã} {ns:List Int} {us:List Ã} {gu:List (List Int)}:IsTup h a ah->IntsAre ah.toList ns->jx h us gu->jx h (.ref a::us) (ns::gu)
def jx.keep (k:∀c o,h.get? c=some o->h'.get? c=some o) (t:jx h us gu):jx h' us gu:=by
 induction t with
 |nil=>exact .nil
 |cons a b _ ih =>
  obtain ⟨o,Z,r⟩:=a;exact .cons ⟨o,k _ _ Z,r⟩ b ih
theorem jx.at (t:jx h us gu):∀i,i<us.length->∃a ah,us.getD i Value.none=.ref a/\IsTup h a ah/\IntsAre ah.toList (gu.getD i []):=by
 induction t with
 |nil=>intro i hi;simp at hi
 |cons a b _ ih =>
  intro i hi
  cases i with
  |zero=>exact ⟨_,_,rfl,a,b⟩
  |succ i =>
   obtain ⟨c,ah,e,r⟩:=ih i (by simpa using hi);exact ⟨c,ah,by simpa using e,r⟩
inductive oo:List (Option Ã)->List (List Int)->Prop where
 |nil:oo [] []
 |aq {fs:List (Option Ã)} {gu:List (List Int)}:oo fs gu->oo (none::fs) ([]::gu)
 |one {fs:List (Option Ã)} {gu:List (List Int)} {n:Int} {t:Tok} {r:List Int}:oo fs gu->oo (some (.int n t)::fs) ((n::r)::gu)
noncomputable def ins {α:Type} (O:Ord α) (a:α):List α->List α
 | []=>[a]
 |b::r=>if O.lt b a=true then b::ins O a r else a::b::r
end
section
variable {α:Type} {O:Ord α}
end
end ST
namespace DI
open PySem L2
section
variable {X:Cx} {Ξ:Wd->aM->Prop} {a e tg:ÿ} {p pos:Pos} {f:MG D} {fa:MG (List D)}
end
end DI
namespace L2
open PySem PySem.Spec PyProof.Rows
structure yi (sc:Ł) (cl dH:List (Str×Í)) (C:Nat) (h:ā):Prop where
 old:∀n c,dH.lookup n=some c->(C<c/\(n,NameKind.cell)∈sc.names/\∃v,h.IsCell c v)\/cl.lookup n=some c
 own:∀n,sc.names.lookup n=some .cell\/(cl.lookup n).isSome=true->∃c,dH.lookup n=some c
 inj:(∀x y c,cl.lookup x=some c->cl.lookup y=some c->x=y)->(∀x c,cl.lookup x=some c->c<C)->∀x y c,dH.lookup x=some c->dH.lookup y=some c->x=y
theorem rj:∀(names:List (Str×Ĩ)) (n:Nat) (acc:List (Str×Í)),(ń n names acc).lookup x=some c->((x,NameKind.cell)∈names/\n<=c)\/acc.lookup x=some c
 | [],n,acc,h=>.inr h
 |(y,k)::r,n,acc,h=>by
  unfold ń at h;split at h
  ·rename_i Z
   have Z:k=.cell:=by simpa using Z
   subst Z
   rcases rj r (n+1) _ h with ⟨h1,Y⟩|h1
   ·exact .inl ⟨Ð _ h1,by omega⟩
   ·rw [û] at h1
    split at h1
    ·rename_i e
     have e:x=y:=by simpa using e
     subst e;cases h1;exact .inl ⟨Ý,MK _⟩
    ·exact .inr h1
  ·rcases rj r n acc h with ⟨h1,Y⟩|h1
   ·exact .inl ⟨Ð _ h1,Y⟩
   ·exact .inr h1
theorem rk:∀(names:List (Str×Ĩ)) (n:Nat) (acc:List (Str×Í)),(∀x y c,acc.lookup x=some c->acc.lookup y=some c->x=y)->(∀x c,acc.lookup x=some c->c<n)->∀x y c,(ń n names acc).lookup x=some c->(ń n names acc).lookup y=some c->x=y
 | [],n,acc,hi,X=>hi
 |(z,k)::r,n,acc,hi,X=>by
  unfold ń;split
  ·refine rk r (n+1) _ (fun x y c Z Y=>?_) fun x c Z=>?_
   ·rw [û] at Z Y
    split at Z
    ·rename_i e1
     split at Y
     ·rename_i e2
      exact (by simpa using e1:x=z).trans (by simpa using e2:y=z).symm
     ·cases Z
      exact absurd (X y _ Y) (ê _)
    ·split at Y
     ·cases Y
      exact absurd (X x _ Z) (ê _)
     ·exact hi x y c Z Y
   ·rw [û] at Z
    split at Z
    ·cases Z;exact Nat.lt_succ_self _
    ·exact Nat.lt_succ_of_lt (X x c Z)
  ·exact rk r n acc hi X
theorem rJ {lo:Nat}:∀(names:List (Str×Ĩ)) (h:ā) (acc:List (Str×Í)),lo<=h.objs.size->(∀x c,acc.lookup x=some c->lo<=c->h.IsCell c none)->(ń h.objs.size names acc).lookup x=some c->lo<=c->(pushCells h names).IsCell c none
 | [],h,acc,_,Z,e,Y=>Z x c e Y
 |(z,k)::r,h,acc,V,Z,e,Y=>by
  unfold ń at e;unfold pushCells;split at e
  ·rename_i W
   rw [ë W];have U:(h.push { cls:=.type "cell",data:=.cell none }).objs.size=h.objs.size+1:=õ ..;refine rJ (lo:=lo) r _ ((z,h.objs.size)::acc) (by omega) (fun y d X T=>?_) (by rw [U];exact e) Y;rw [û] at X;split at X
   ·cases X
    exact ⟨_,Ñ _ rfl,rfl⟩
   ·exact (Z y d X T).keeps fun b o q=>Â _ q
  ·rename_i W
   rw [î W];exact rJ r h acc V Z e Y
def Bs {E:Ã->Á->Prop} {Q:Env->Á->Prop}
 (hQ:∀dH h3,((∀x c,cl.lookup x=some c->c<s.heap.objs.size)->yi scope cl dH s.heap.objs.size h3)->h3.Ns s.heap.objs.size (fun _=>none)->(∀b o,s.heap.get? b=some o->h3.get? b=some o)->Q (newEnv scope s.heap.objs.size globals dH qual none .none (some env) bi) { s with heap:=h3 }) :
  Ó M A (newFunctionEnv scope globals cl [] qual none .none (some env) bi) Q E s:=by
 simp only [newFunctionEnv,Option.isSome_some,ĭ];refine À (wpAny_alloc ?_)
 refine À (wpAny_layCells _ (fun name kind cells=>by cases Z:kind==NameKind.cell<;>simp [Z]) _ _ _ _ ?_)
 rw [show ({ s with heap:=s.heap.push { cls:=.type "dict",data:=.dict #[] } }:Á).heap.objs.size=s.heap.objs.size+1 from õ ..]
 simp only [List.forIn_nil];refine À (Ì (Ì ?_));have Y:(s.heap.push { cls:=.type "dict",data:=.dict #[] }).objs.size=s.heap.objs.size+1:=õ ..;refine hQ (ń (s.heap.objs.size+1) scope.names cl) _ (fun X=>⟨fun n c e=>?_,fun n W=>?_,fun hi V=>rk _ _ _ hi fun x c e=>Nat.lt_succ_of_lt (V x c e)⟩) ((Heap.Ns.new s.heap (.type "dict")).keeps (pushCells_keeps _ _)) fun b o e=>pushCells_keeps _ _ b o (Â _ e)
 ·rcases rj _ _ _ e with ⟨h1,U⟩|h1
  ·exact .inl ⟨by omega,h1,none,rJ (lo:=s.heap.objs.size+1) scope.names _ cl (by omega) (fun x d q T=>absurd (X x d q) (Ÿ.mpr (Nat.le_of_succ_le T))) (by rw [Y];exact e) U⟩
  ·exact .inr h1
 ·exact ő.mp (Ĭ scope.names _ cl W)
abbrev dj (X:Cx) (N:List Str) (sc:Ł) (cl:List (Str×Í)) (C:Í) (s:Á) (H:Hp) (ex:List Í) (pn:List (Í×Obj)):Cx:={ JW X N sc cl C s H ex pn with fn:=fun x=>sc.names.lookup x==some .cell }
structure kT (X:Cx) (sc:Ł) (N:List Str) (nt:Nat) (cap:List Nat):Prop where
 kind:sc.kind=.function
 names:∀x∈sc.names,x.2=.local->sc.names.lookup x.1=some .local
 cells:∀x∈sc.names,x.2=.cell->sc.names.lookup x.1=some .cell
 frees:∀x∈sc.names,x.2=.free->sc.names.lookup x.1=some .free/\(X.env.scope.names.lookup x.1=some .cell\/X.env.scope.names.lookup x.1=some .free)
 len:N.length=nt+cap.length
 zO:∀(k:Nat) j,cap[k]?=some j->∃x,X.N[j]?=some x/\N[nt+k]?=some x/\(x,Û)∈sc.names
section
variable {X:Cx} {sc:Ł} {N:List Str} {nt:Nat} {cap:List Nat} {cl dH:List (Str×Í)} {s:Á} {h1:ā} {H:Hp} {σ:St} {π:List (Í×Obj)} {fp:List Í} {C:Í} {t':Nat}
def Inv.Gj (I:Inv X π σ H s) (S:kT X sc N nt cap) (cH:∀n c,cl.lookup n=some c↔((n,Û)∈sc.names/\X.env.cells.lookup n=some c)) (hZ:yi sc cl dH C h1) (hf:∀b∈fp,fe X π H b) (fK:∀b∈fp,b<s.heap.objs.size)
  (hk:∀b o,s.heap.get? b=some o->h1.get? b=some o) (hC:s.heap.objs.size<=C) (lY:∃m,h1.Ns C m):Inv (dj X N sc dH C s H fp (X.pn++π)) [] (mI nt cap σ) H { s with heap:=h1,toks:=t' }:=by
 have O:∀b∈bh X.stack,b∈X.env.locals::X.fs:=I.jW;have J:∀x c,cl.lookup x=some c->c<s.heap.objs.size:=fun x c e=>by
  obtain ⟨v,o,V,_⟩:=I.cell x c ((cH x c).mp e).2;exact Ç V
 have G:∀x,(relabel sc X.env).names.lookup x=some .cell\/(relabel sc X.env).names.lookup x=some .free->(x,Û)∈sc.names\/sc.names.lookup x=some .cell:=fun x Z=>by
  rw [vO] at Z
  cases e:sc.names.lookup x with
  |none=>rw [e] at Z;rcases Z with z|z<;>cases z
  |some k =>
   have hm:(x,k)∈sc.names:=by
    obtain ⟨l1,l2,e1,_⟩:=List.lookup_eq_some_iff.mp e;rw [e1];simp
   rw [e] at Z
   cases k with
   |free=>exact .inl hm
   |cell=>exact .inr rfl
   |_=>exfalso;revert Z;simp
 have F:∀x,(x,Û)∈sc.names->∃c,X.env.cells.lookup x=some c:=fun x Z=>I.ok.has x (S.frees _ Z rfl).2;have M:∀x c,(x,Û)∈sc.names->X.env.cells.lookup x=some c->dH.lookup x=some c:=fun x c Z R=>by
  have e:=(cH x c).mpr ⟨Z,R⟩;obtain ⟨d,hd⟩:=hZ.own x (.inr (by rw [e];rfl))
  rcases hZ.old x d hd with ⟨_,q,_⟩|q
  ·have T:=S.cells _ q rfl
   have W:=(S.frees _ Z rfl).1;dsimp only at T W;rw [T] at W;cases W
  ·rw [e] at q
   cases q;exact hd
 have ok:Cx.Ok (dj X N sc dH C s H fp (X.pn++π)):=by
  refine ⟨I.ok.mod,?_,I.ok.glob,I.ok.blt,hC,?_,?_,?_,I.ok.hd,I.ok.frames,.inl rfl,?_,I.bs,ß I.ok.gk I.sz,?_,?_,I.stack,I.mz⟩
  ·exact S.kind
  ·exact hZ.inj (fun x y c Z E=>I.ok.inj x y c ((cH x c).mp Z).2 ((cH y c).mp E).2) fun x c e=>Å (J x c e) hC
  ·intro x Z
   rcases G x Z with hm|hm
   ·obtain ⟨c,e⟩:=F x hm
    exact ⟨c,M x c hm e⟩
   ·exact hZ.own x (.inl hm)
  ·intro x c Z e
   rcases hZ.old x c e with ⟨q,_,_⟩|q
   ·exact ß hC (Nat.le_of_lt q)
   ·have W:=(S.frees _ ((cH x c).mp q).1 rfl).1
    have T:sc.names.lookup x=some .cell:=by simpa using Z
    dsimp only at W;rw [T] at W;cases W
  ·intro b Y
   refine ⟨à (Å (fK b Y) hC),fun x c e=>?_⟩
   rcases hZ.old x c e with ⟨q,_,_⟩|q
   ·exact ĳ (Å (fK b Y) (ß hC (Nat.le_of_lt q)))
   ·exact (hf b Y).2.2.2.2.1 x c ((cH x c).mp q).2
  ·intro b o e Y
   rcases (hf b Y).2.2.2.1 with z|z
   ·exact I.ok.ke b o e z
   ·exact absurd (Å (Ç e) (ß I.ok.gk z)) (ê _)
  ·intro b Y z
   rcases ã.mp (O b z) with e|e
   ·exact (hf b Y).2.1 e
   ·exact (hf b Y).2.2.1 e
 obtain ⟨m,hm⟩:=lY;obtain ⟨mX,Mv,D⟩:=I.loc;refine ⟨ok,rfl,I.bare,Un.kept hk,⟨m,hm,fun i x v e1 e2 e3=>?_⟩,fun x c e=>?_,I.au.fresh hC,fun x c e=>?_,fun p B=>?_,I.au.kept hk,?_⟩
 ·
  have hi:nt<=i:=by
   apply Ű;intro L;have:(mI nt cap σ)[i]?=some none:=by
    unfold mI;rw [Õ (by simpa using L),Ē,ë L]
   rw [this] at e2;cases e2
  have U:(cap.map fun j=>(σ[j]?).getD none)[i-nt]?=some (some v):=by
   have e:=e2;unfold mI at e;rw [è (by simpa using hi)] at e;simpa using e
  rw [ò] at U
  cases Q:cap[i-nt]? with
  |none=>rw [Q] at U;cases U
  |some j =>
   rw [Q] at U;have ev:(σ[j]?).getD none=some v:=MN U;have A:σ[j]?=some (some v):=by
    cases q:σ[j]? with
    |none=>rw [q] at ev;cases ev
    |some z=>rw [q] at ev;exact ě some ev
   obtain ⟨y,f1,f2,K⟩:=S.zO _ _ Q;rw [Nat.add_sub_cancel' hi] at f2;have w:y=x:=MN (f2.symm.trans e1);subst w;obtain ⟨g1,g2⟩:=S.frees _ K rfl;have t:lQ X.env.scope y:=.inr g2;obtain ⟨u,r,l⟩:=D j y v f1 A t;refine ⟨u,r,.inr ⟨?_,?_⟩⟩
   ·show (relabel sc X.env).names.lookup y=some .cell\/(relabel sc X.env).names.lookup y=some .free
    rw [vO,g1];simp only [δ];split
    ·exact .inl rfl
    ·exact .inr rfl
   ·rcases l with ⟨k,_⟩ | ⟨_,c,R,h⟩
    ·exfalso
     have g:X.env.scope.names.lookup y=some .local:=k;dsimp only at g2;rw [g] at g2
     rcases g2 with z|z<;>cases z
    ·obtain ⟨P,V,hd⟩:=h
     exact ⟨c,M y c K R,P,hk _ _ V,hd⟩
 ·rcases hZ.old x c e with ⟨_,_,q⟩|q
  ·exact q
  ·obtain ⟨v,P,V,hd⟩:=I.cell x c ((cH x c).mp q).2
   exact ⟨v,P,hk _ _ V,hd⟩
 ·rcases hZ.old x c e with ⟨q,_,_⟩|q
  ·exact I.au.fresh (by omega)
  ·exact I.fU x c ((cH x c).mp q).2
 ·have f:p∈X.pn++π:=by simpa using B
  obtain ⟨e,n,ne,a,d⟩:=I.pin p f;refine ⟨hk _ _ e,n,à (Å (Ç e) hC),fun z=>?_,d⟩
  rcases ã.mp (O p.1 z) with q|q
  ·exact ne q
  ·exact a q
 ·unfold mI
  rw [ć,Ū,å];exact S.len.symm
end
structure zi (P:Ò) (w:é) (E el tg src:ÿ) (tests:List ÿ) (new:Sem Ã) (ap:String) (mk:Í->List V->HO) (gY:List V->Prop) where
 o0:Obj
 live:o0.isFreed=false
 Ac:Í->List V->ā->Prop
 clauses:clausesOf E=[⟨tg,src,tests,0⟩]
 turns:∀{A:Ö} {R:Result->Á->Prop} {s:Á} {gU av:Ã} {ce:Env} (J:Nat->Á->Prop)
  (turn:∀n s,J n s->Ó (Ø P w) A (pyNext gU) (fun r s1=>match r with
   |none=>R (.ok .next) s1
   |some v=>Ó (Ø P w) A (ŕ tg gU v) (fun _ s2=>Ó (Ø P w) A (assign tg ce v) (fun _ s3 =>
     Ó (Ø P w) A (forIn tests true fun c r=>if r=true then do let ok <- isTrue c ce (Ĝ c ce);pure (Ĉ ok) else pure (Ĉ r)) (fun ok s4 =>
      if ok=true then Ó (Ø P w) A (Ĝ el ce) (fun y s5=>Ó (Ø P w) A (call (.builtin ap) [av,y]) (fun _ s6=>∃m,m<n/\J m s6) (fun _ _=>False) s5) (fun _ _=>False) s4
      else ∃m,m<n/\J m s4) (fun _ _=>False) s3) (fun _ _=>False) s2) (fun _ _=>False) s1) (fun _ _=>False) s)
  (n:Nat) (_:J n s),ż (Ø P w) A (.compLoop E 0 gU av ce) R s
 new:∀{A:Ö} {X:Ã->Á->Prop} {s:Á} {Q:Ã->Á->Prop},Q (.ref s.heap.objs.size) { s with heap:=s.heap.push o0 }->Ó (Ø P w) A new Q X s
 start:∀{A:Ö} {R:Result->Á->Prop} {s:Á} {it acc:Ã} {env:Env},ż (Ø P w) A (.compLoop E 0 it acc env) R s->Ó (Ø P w) A (pyIter it) (fun Ko s'=>ż (Ø P w) A (.compLoop E 0 Ko acc env) R s') (notedBy (Ø P w) A env fun x s'=>R (.error x) s') s->ż (Ø P w) A (.compStart E 0 it acc env) R s
 init:∀{D:Í} {h:ā},h.get? D=some o0->Ac D [] h
 obj:∀{D:Í} {acc:List V} {h:ā},Ac D acc h->∃o,h.get? D=some o/\∀v,o.data≠.cell v
 cu:∀{D:Í} {acc:List V} {h h':ā},Ac D acc h->(∀o,h.get? D=some o->h'.get? D=some o)->Ac D acc h'
 yj:∀{D:Í} {acc:List V} {h:ā} {H:Hp},gY acc->Ac D acc h->cB P w (upd H D (mk D acc)) h D (mk D acc)
 add:∀{A:Ö} {s:Á} {D:Í} {acc:List V} {v:V} {y:Ã} {Q:Ã->Á->Prop},Ac D acc s.heap->RelV v y->gY acc->gY (acc++[v])->(∀h' tk,Ĳ D s.heap h'->Ac D (acc++[v]) h'->Q .none { s with heap:=h',toks:=tk })->Ó (Ø P w) A (call (.builtin ap) [.ref D,y]) Q (fun _ _=>False) s
section
variable {X:Cx}
def B7 {E el tg src:ÿ} {tests:List ÿ} {sc:Ł} {N:List Str} {nt:Nat} {cap:List Nat} {wi:TI} {g:TG} {tf:TT} {te:TE} {p1:Pos} {use:Option (Ã->Sem Unit)} {R:Ã->Á->Prop} {π:List (Í×Obj)} {s:Á} {σ:St} {H:Hp} {Q:VK} {new:Sem Ã} {ap:String} {mk:Í->List V->HO} {gY:List V->Prop} (B:zi X.prog X.w E el tg src tests new ap mk gY) (hc:X.calm=true) (S:kT X sc N nt cap) (jc:n5 g nt) (hi:PI X tg src wi)
  (hY:∀(cl:List (Str×Í)) (C:Í) (s:Á) (H:Hp) (ex:List Í) (pn:List (Í×Obj)),PG (dj X N sc cl C s H ex pn) tg g/\PF (dj X N sc cl C s H ex pn) tests tf/\PE (dj X N sc cl C s H ex pn) el te)
  (hs:∀x,ĕ src X.env x=pure x) (I:Inv X π σ H s) (h:wi σ H fun J H1=>AG mk gY J nt (j5 cap σ) g tf te H1 Q)
  (uf:∀(s':Á) (H1:Hp) (D C:Í) (m:Str->Option Ã),(∀h',Ĳ C s'.heap h'->Inv X π σ H1 { s' with heap:=h' })->s'.heap.Ns C m->H1 C=none->C≠X.env.locals->C∉X.fs->X.bM.heap.objs.size<=C->(∀x c,X.env.cells.lookup x=some c->c≠C)->(∀p∈X.pn++π,p.1≠C)->Q (.ref D) H1->compPost (Ø X.prog X.w) X.A X.xe use R (.ref D) C (.ok .next) s') :
  Ó (Ø X.prog X.w) X.A (comprehension E sc X.env p1 new false (Ĝ src X.env) use) R X.xe s:=by
 obtain ⟨cl,HJ,cH⟩:=FT (env:=X.env) (sc:=sc) fun n hn=>I.ok.has n (S.frees _ hn rfl).2;refine wpAny_comprehension_free (use:=use) B.clauses hs HJ S.kind S.names (aL (hi π s σ H _ I h) fun xv s1 h1=>aL h1 fun gU k h2=>?_);obtain ⟨it,t,tn,J,H2,e,M,T,jC,f2,W,⟨m0,w0⟩,turn⟩:=h2;subst e;refine B.new (Bs fun dH h3 j nI lZ=>?_);dsimp only at j nI lZ |-;generalize hD:k.heap.objs.size=D at j nI lZ |-;generalize hG:k.heap.push B.o0=G at j nI lZ |-;generalize Kp:G.objs.size=C at j nI lZ |-;have hC:C=D+1:=by rw [<- Kp,<- hG,õ,hD]
 have vc:D≠C:=by omega
 have d:k.heap.objs.size<=D:=Nat.le_of_eq hD;have l:k.heap.objs.size<=C:=by omega
 have old:∀b o,k.heap.get? b=some o->h3.get? b=some o:=fun b o e=>lZ b o (hG ▸ Â _ e);have Jl:B.Ac D [] h3:=B.init (lZ _ _ (hG ▸ hD ▸ Ñ _ B.live));have fK:∀b∈t,b<k.heap.objs.size:=fun b P=>by
  obtain ⟨o,e,_⟩:=T.obj _ _ jC b P;exact Ç e
 have j:=j fun x c e=>by
  obtain ⟨v,o,ho,_⟩:=M.cell x c ((cH x c).mp e).2;exact Å (Ç ho) l
 have IB:=M.Gj (t':=k.toks) S cH j f2 fK old l ⟨_,nI⟩;have Kq:D∉bh X.stack:=fun z=>by
  rcases ã.mp (M.jW D z) with e|e
  ·exact absurd (Å M.lt d) (by rw [e];exact ê _)
  ·exact M.tV d e
 have AU:D∉t:=fun z=>absurd (Å (fK D z) d) (ê _);have Gk:∀x c,dH.lookup x=some c->c≠D:=fun x c e z=>by
  rcases j.old x c e with ⟨q,_,_⟩|e
  ·rw [z] at q
   exact absurd q (by rw [hC];exact Ÿ.mpr (Nat.le_succ D))
  ·obtain ⟨v,o,ho,_⟩:=M.cell x c ((cH x c).mp e).2
   exact absurd (Å (Ç ho) (by rw [z];exact d)) (ê _)
 have HK:∀p∈X.pn++π,p.1≠D:=fun p L z=>absurd (Å (Ç (M.pin p L).1) (by rw [z];exact d)) (ê _);generalize O:dj X N sc dH C k H2 t (X.pn++π)=Y at IB;have vd:∀{U:Hp} {pl:List (Í×Obj)},(∀b∈t,U b=none)->(∀p∈pl,p.1∉t)->∀b∈t,fe Y pl U b:=fun {U pl} hn L b P=>by
  subst O;obtain ⟨_,f1,Kr,f3,f4,f5⟩:=f2 b P;refine ⟨hn b P,à (Å (fK b P) l),fun z=>?_,.inl P,fun x c e=>(j.old x c e).elim (fun q z=>ĳ (Å (fK b P) (ß l (Nat.le_of_lt q.1))) z) fun e=>f4 x c ((cH x c).mp e).2,fun p Ks=>?_⟩
  ·rcases ã.mp (M.jW b z) with e|e
   ·exact f1 e
   ·exact Kr e
  ·rcases ė.mp Ks with z|z
   ·exact f5 p z
   ·exact fun e=>L p z (e ▸ P)
 have Kt:PG Y tg g:=by subst O;exact (hY _ _ _ _ _ _).1
 have Ku:PF Y tests tf:=by subst O;exact (hY _ _ _ _ _ _).2.1
 have Kv:PE Y el te:=by subst O;exact (hY _ _ _ _ _ _).2.2
 have eP:Y.prog=X.prog:=by subst O;rfl
 have eW:Y.w=X.w:=by subst O;rfl
 have eA:Y.A=X.A:=by subst O;rfl
 have eK:Y.K=X.K:=by subst O;rfl
 have eE:Y.env=compEnvC sc dH C X.env:=by subst O;rfl
 have eX:Y.xe=fun _ _=>False:=by subst O;rfl
 have eC:Y.calm=true:=by subst O;exact hc
 have eS:Y.bM.heap.objs.size<=D:=by subst O;exact d
 have eF:D∉Y.fs:=by subst O;exact Kq
 have eL:D≠Y.env.locals:=by subst O;exact vc
 have Kw:∀x c,Y.env.cells.lookup x=some c->c≠D:=by subst O;exact Gk
 have eN:∀p∈Y.pn,p.1≠D:=by subst O;exact HK
 have fin:∀(s':Á) (a:St) (U:Hp) (Z:List V),Inv Y [] a U s'->B.Ac D Z s'.heap->U D=none->gY Z->(∀D,U D=none->Q (.ref D) (upd U D (mk D Z))) ->
   compPost (Ø X.prog X.w) X.A X.xe use R (.ref D) C (.ok .next) s':=by
  intro s' a U Z F pl hn hz q;subst O;obtain ⟨m,hm,_⟩:=id F.loc;refine uf s' (upd U D (mk D Z)) D C m (fun h' sb=>?_) hm ?_ (fun z=>absurd (Å M.lt l) (by rw [z];exact ê _)) (M.tV l) (ß M.sz l) (fun x c e z=>?_) (fun p L z=>absurd (Å (Ç (M.pin p L).1) (by rw [z];exact l)) (ê _)) (q D hn)
  ·have Jm:bE X.prog X.w U h':=F.au.but F.free sb
   have u:=(F.base.but l sb).adopt (o:=mk D Z) d hn
   refine M.sV (s':={ s' with heap:=h' }) (ch:=t) F.os u (Jm.adopt hn (B.yj hz (B.cu pl fun o e=>(sb.2 D vc).trans e))) F.bare (fun b P=>?_)
   obtain ⟨_,f1,_,f3,f4,f5⟩:=f2 b P;exact ⟨f3,f1,f4,f5⟩
  ·rw [aF (χ vc)]
   exact F.free
  ·obtain ⟨v,o,dS,_⟩:=M.cell x c e
   exact absurd (Å (Ç dS) (by rw [z];exact l)) (ê _)
 have loop:ż (Ø X.prog X.w) X.A (.compLoop E 0 (.ref it) (.ref D) (compEnvC sc dH C X.env)) (compPost (Ø X.prog X.w) X.A X.xe use R (.ref D) C)
   { k with heap:=h3 }:=by
  refine B.turns (fun n s'=>∃i Z o U,Inv Y [] (o++j5 cap σ) U s'/\o.length=nt/\tn i s'.heap/\(∀b∈t,U b=none)/\B.Ac D Z s'.heap/\U D=none/\W i n Z U) ?_ m0
   ⟨0,[],Ê nt none,H2,IB,by simp,T.keep _ _ _ jC fun b _ o e=>old b o e,fun b P=>(f2 b P).1,Jl,M.au.fresh d,w0⟩
  rintro n s3 ⟨i,Z,o3,H3,I3,AV,ku,nV,AW,Kx,w3⟩;generalize Ky:o3++j5 cap σ=a at I3;obtain ⟨f,ho,HL⟩:=B.obj AW;have AX:Inv Y [(D,f)] a H3 s3:=I3.kK fun p L=>by
   have e:p=(D,f):=by simpa using L
   subst e;exact ⟨ho,Kx,eL,eF,HL⟩
  have ve:∀p∈[(D,f)],p.1∉t:=fun p L=>by
   have e:p=(D,f):=by simpa using L
   subst e;exact AU
  have vf:∀{pl:List (Í×Obj)} {ot:St} {U:Hp} {s':Á},Inv Y ([(D,f)]++pl) ot U s'->B.Ac D Z s'.heap/\U D=none:=fun {pl ot U s'} F=>by
   have q:=F.pin (D,f) (á _ (Ģ _ (by simp)));exact ⟨B.cu AW fun o e=>by rw [ho] at e;cases e;exact q.1,q.2.1⟩
  rcases turn i n Z H3 w3 with ⟨stop,hz,q⟩ | ⟨go,hz,N',hN,step⟩
  ·have hd:=T.done Y eP eW eK eC i [(D,f)] s3 a H3 (fun _ _=>False) AX (vd nV ve) ku stop
   rw [eA] at hd;refine aL hd fun r s4 h4=>?_;obtain ⟨hr,I4⟩:=h4;subst hr;obtain ⟨Kz,n4⟩:=vf (pl:=[]) (by simpa using I4);exact fin s4 a H3 Z (Inv.oS (π:=[]) I4) Kz n4 hz q
  ·have hd:=T.item Y eP eW eK eC i [(D,f)] s3 a H3 (fun _ _=>False) AX (vd nV ve) ku go
   rw [eA] at hd;refine aL hd fun r s4 h4=>?_;obtain ⟨u,hr,h4⟩:=h4;subst hr;refine aL h4 fun _ s5 h5=>?_;obtain ⟨x,H5,I5,r5,y5,ja,uN⟩:=h5;have uO:=I5.pinned (vd uN ve) (T.obj _ _ ja);have q5:=Kt _ s5 a H5 x u _ uO r5 (Ky ▸ jc x o3 _ H5 _ AV (step o3 x H5 AV y5));rw [eP,eW,eA,eE,eX] at q5;refine aL q5 fun _ s6 h6=>?_;obtain ⟨qF,H6,I6,⟨o6,AY,Ag⟩,q6⟩:=h6;have q7:=Ku _ s6 qF H6 _ I6 q6;rw [eP,eW,eA,eE,eX] at q7;refine aL q7 fun b s7 h7=>?_;obtain ⟨H7,I7,q7⟩:=h7;have Ah:∀{ot:St} {U:Hp} {s':Á},Inv Y ([(D,f)]++mH t s5.heap) ot U s'->tn (i+1) s'.heap/\∀b∈t,U b=none:=fun {ot U s'} F=>by
    refine ⟨T.keep _ _ _ ja fun b P o e=>(F.pin (b,o) (á _ (á _ (oI P e)))).1,fun b P=>?_⟩;obtain ⟨o,e,_⟩:=T.obj _ _ ja b P;exact (F.pin (b,o) (á _ (á _ (oI P e)))).2.1
   cases b with
   |false =>
    rw [î Î] at q7 |-;obtain ⟨m',hm,w7⟩:=hN _ _ q7;obtain ⟨KC,n7⟩:=vf I7;obtain ⟨t7,f7⟩:=Ah I7;exact ⟨m',hm,i+1,Z,o6,H7,Ag ▸ I7.kK (fun p L=>by simp at L),AY,t7,f7,KC,n7,w7⟩
   |true =>
    rw [ë rfl] at q7 |-;have q8:=Kv _ s7 qF H7 _ I7 q7;rw [eP,eW,eA,eE,eX] at q8;refine aL q8 fun y s8 h8=>?_;obtain ⟨v,H8,I8,r8,q9⟩:=h8;obtain ⟨m',hm,w8⟩:=hN _ _ q9;obtain ⟨KD,n8⟩:=vf I8;obtain ⟨t8,f8⟩:=Ah I8;have gp:gY (Z++[v]):=by
     rcases turn (i+1) m' (Z++[v]) H8 w8 with q|q
     ·exact q.2.1
     ·exact q.2.1
    refine B.add KD r8 hz gp fun h9 KG AZ KH=>?_;have KJ:Inv Y [] qF H8 s8:=I8.kK (fun p L=>by simp at L)
    have I9:Inv Y [] qF H8 { s8 with heap:=h9,toks:=KG }:=KJ.turned (it:=D) (fun b o P e=>(AZ.2 b P).trans e) n8 eL (.inr eS) Kw (fun p L=>eN p (by simpa using L))
    exact ⟨m',hm,i+1,Z++[v],o6,H8,Ag ▸ I9,AY,T.keep _ _ _ t8 fun b P o e=>(AZ.2 b (fun z=>AU (z ▸ P))).trans e,f8,KH,n8,w8⟩
 exact B.start loop (T.self _ _ _ _ _ (T.keep _ _ _ jC fun b _ o e=>old b o e) loop)
def Jn {P:Ò} {w:é} {el tg src:ÿ} {tests:List ÿ} {sc:Ł} {ps:Pos}:zi P w (.ListComp el [⟨tg,src,tests,0⟩] sc ps) el tg src tests (newList []) "list.append" (fun _ acc=>.lst acc) (fun acc=>acc.length<=Ï) where
 o0:={ cls:=.type "list",dict:=none,data:=.seq ([]:List Ã).toArray }
 live:=rfl
 Ac:=fun D acc h=>∃Z,h.PlainList D Z/\Vals acc Z.toList
 clauses:=rfl
 turns:=B1
 new:=fun h=>ĺ h
 start:=codeAny_compStart_list
 init:=fun e=>⟨#[],⟨_,e⟩,.nil⟩
 obj:=fun ⟨_,⟨_,e⟩,_⟩=>⟨_,e,fun _ z=>by cases z⟩
 cu:=fun ⟨Z,⟨n,e⟩,r⟩ k=>⟨Z,⟨n,k _ e⟩,r⟩
 yj:=fun Y ⟨Z,⟨n,e⟩,r⟩=>⟨Y,Z.toList,n,r,by simpa using e⟩
 add:=fun {A s D acc v y Q} ⟨Z,X,r⟩ W Y _ q=>wpAny_list_append_plain (hsz:=by have e:=r.length;simp only [ŏ] at e;omega) X fun V U T=>q V s.toks T ⟨Z.push y,U,by rw [Array.toList_push];exact Vals.append r (.cons W .nil)⟩
def wK (hc:X.calm=true) (S:kT X sc N nt cap) (jc:n5 g nt) (hi:PI X tg src wi)
 (hY:∀(cl:List (Str×Í)) (C:Í) (s:Á) (H:Hp) (ex:List Í) (pn:List (Í×Obj)),PG (dj X N sc cl C s H ex pn) tg g/\PF (dj X N sc cl C s H ex pn) tests tf/\PE (dj X N sc cl C s H ex pn) el te)
 (hs:∀x,ĕ src X.env x=pure x:=by intro _;rfl):PE X (.ListComp el [⟨tg,src,tests,0⟩] sc ps) (kX wi nt cap g tf te):=by
 intro T s σ H Q I h;rw [eval_ListComp];exact B7 Jn (use:=none) hc S jc hi hY hs I h fun R Z D C m Y W _ _ _ _ _ _ q=>⟨m,W,fun V U=>⟨.ref D,Z,Y V U,rfl,q⟩⟩
end
noncomputable def sA (sc:Ł) (on:List (Str×Ĩ)) (oN N:List Str) (nt:Nat) (cap:List Nat):Bool :=
 decide (sc.kind=.function)&&sc.names.all (fun x=>decide (x.2=.local->sc.names.lookup x.1=some .local))&&sc.names.all (fun x=>decide (x.2=.cell->sc.names.lookup x.1=some .cell)) &&
 sc.names.all (fun x=>decide (x.2=.free->sc.names.lookup x.1=some .free/\(on.lookup x.1=some .cell\/on.lookup x.1=some .free)))&&decide (N.length=nt+cap.length) &&
 (ĸ cap.length).all (fun k=>match cap[k]? with
  |some j=>match oN[j]? with
   |some x=>decide (N[nt+k]?=some x)&&decide ((x,Û)∈sc.names)
   |none=>false
  |none=>true)
def zj (h:sA sc X.env.scope.names X.N N nt cap=true):kT X sc N nt cap:=by
 unfold sA at h;simp only [Ä,Đ,Ô] at h;obtain ⟨⟨⟨⟨⟨Z,Y⟩,W⟩,V⟩,U⟩,T⟩:=h;refine ⟨Z,Y,W,fun x S e=>V x S e,U,fun k j e=>?_⟩;have R:k<cap.length:=(É.mp e).1;have:=T k (Ń.mpr R);rw [e] at this;dsimp only at this
 cases ex:X.N[j]? with
 |none=>rw [ex] at this;cases this
 |some x =>
  rw [ex] at this;simp only [Ä,Ô] at this;exact ⟨x,rfl,this.1,this.2⟩
end L2
namespace DI
open PySem L2
section
variable {X:Cx} {Ξ:Wd->aM->Prop} {e a b c tg el src:ÿ} {es rest tests:List ÿ} {pos:Pos} {f g h:MG D} {fa:MG (List D)} {ft gt:MG Bool}
def EJ (hc:X.calm=true) (S:kT X sc N nt cap) (T:Tg X.K g0 gd nt) (hi:PI X tg src (iG X.K Ξ it))
 (hY:∀(cl:List (Str×Í)) (C:Í) (s:Á) (H:Hp) (ex:List Í) (pn:List (Í×Obj)),PG (dj X N sc cl C s H ex pn) tg g0/\PF (dj X N sc cl C s H ex pn) tests (tT X.K bY ft)/\PE (dj X N sc cl C s H ex pn) el (tE X.K bY f))
 (hs:∀x,ĕ src X.env x=pure x:=by intro _;rfl):PE X (.ListComp el [⟨tg,src,tests,0⟩] sc ps) (tE X.K Ξ (dw nt cap it gd ft f)) :=
 ck (wK hc S T.og hi hY hs) fun σ H Q h=>v5 T.imp (fun R Z i h=>Dy R Z i h) (Dv σ H Q h)
end
end DI
namespace L2
open PySem PySem.Spec PyProof.Rows
section
variable {X:Cx} {tg:ÿ}
end
end L2
namespace DI
open PySem L2
section
variable {X:Cx} {Ξ:Wd->aM->Prop} {a b c tg:ÿ} {pos:Pos} {fa:MG (List D)}
end
end DI
namespace L2
open PySem PySem.Spec PyProof.Rows
section
variable {X:Cx}
end
end L2
namespace DI
open PySem L2
section
variable {X:Cx} {Ξ:Wd->aM->Prop} {a:ÿ} {p pos:Pos} {fa:MG (List D)}
end
section
variable {X:Cx} {Ξ:Wd->aM->Prop} {a:ÿ} {p pos:Pos} {f g:MG D} {fa:MG (List D)}
end
open HT PyProof.Rows
section
variable {X:Cx} {Ξ:Wd->aM->Prop}
end
end DI
namespace TK
open PySem PySem.W PyProof.Rows DI
mutual
noncomputable def kd:D->Bool
 | .int _=>true
 | .str x=>PyData.strOk x
 | .tup Z=>fj Z
 |_=>false
noncomputable def fj:List D->Bool
 | []=>true
 |k::Z=>kd k&&fj Z
end
mutual
def KA (h:ā):D->Ã->Prop
 | .int i,v=>∃t,v=.int i t
 | .str x,v=>∃t,v=.str x t
 | .tup Z,v=>∃a o ah n,v=.ref a/\h.get? a=some o/\o.cls=.type "tuple"/\o.data=.seq ah n/\cI h Z ah.toList
 |_,_=>False
def cI (h:ā):List D->List Ã->Prop
 | [],Z=>Z=[]
 |k::Y,Z=>∃v r,Z=v::r/\KA h k v/\cI h Y r
end
mutual
theorem mM:∀k:D,kd k=true->lay k=true
 | .int _,_=>rfl
 | .str _,h=>h
 | .tup Z,h=>by simp only [kd] at h;simp only [lay];exact oU Z h
 | .aq,h=>by cases h
 | .bl _,h=>by cases h
 | .lst _,h=>by cases h
 | .aW _,h=>by cases h
 | .aN _,h=>by cases h
 | .ty _,h=>by cases h
 | .bb _,h=>by cases h
 | .exc _ _,h=>by cases h
 | .bG _ _ _,h=>by cases h
theorem oU:∀ks:List D,fj ks=true->cF ks=true
 | [],_=>rfl
 |k::ks,h=>by
  simp only [fj,cF,Ä] at h |-;exact ⟨mM k h.1,oU ks h.2⟩
end
mutual
theorem Gm:∀x y:D,kd x=true->kd y=true->(beq x y=true↔x=y)
 | .int i,.int j,_,_=>by simp [beq]
 | .str i,.str j,_,_=>by simp [beq]
 | .tup Z,.tup Y,h,g=>by
  simp only [kd] at h g;simp only [beq,rK Z Y h g];exact ⟨fun e=>by rw [e],fun e=>by injection e⟩
 | .int _,.str _,_,_=>by simp [beq]
 | .int _,.tup _,_,_=>by simp [beq]
 | .str _,.int _,_,_=>by simp [beq]
 | .str _,.tup _,_,_=>by simp [beq]
 | .tup _,.int _,_,_=>by simp [beq]
 | .tup _,.str _,_,_=>by simp [beq]
 | .aq,_,h,_=>by cases h
 | .bl _,_,h,_=>by cases h
 | .lst _,_,h,_=>by cases h
 | .aW _,_,h,_=>by cases h
 | .aN _,_,h,_=>by cases h
 | .ty _,_,h,_=>by cases h
 | .bb _,_,h,_=>by cases h
 | .exc _ _,_,h,_=>by cases h
 | .bG _ _ _,_,h,_=>by cases h
 |_,.aq,_,h=>by cases h
 |_,.bl _,_,h=>by cases h
 |_,.lst _,_,h=>by cases h
 |_,.aW _,_,h=>by cases h
 |_,.aN _,_,h=>by cases h
 |_,.ty _,_,h=>by cases h
 |_,.bb _,_,h=>by cases h
 |_,.exc _ _,_,h=>by cases h
 |_,.bG _ _ _,_,h=>by cases h
theorem rK:∀xs ys:List D,fj xs=true->fj ys=true->(fz xs ys=true↔xs=ys)
 | [],[],_,_=>by simp [fz]
 | [],_::_,_,_=>by simp [fz]
 |_::_,[],_,_=>by simp [fz]
 |x::xs,y::ys,h,g=>by
  simp only [fj,Ä] at h g;simp only [fz,Ä,Gm x y h.1 g.1,rK xs ys h.2 g.2,List.cons.injEq]
end
mutual
theorem KA.reads:∀(k:D) (v:Ã),KA h k v->∃as,Reads h v (py k) as
 | .int i,v,q=>by obtain ⟨t,rfl⟩:=q;exact ⟨_,.int i t⟩
 | .str x,v,q=>by obtain ⟨t,rfl⟩:=q;exact ⟨_,.str x t⟩
 | .tup Z,v,q=>by
  simp only [KA] at q;obtain ⟨a,o,ah,n,rfl,Y,X,W,r⟩:=q;obtain ⟨as,r⟩:=cI.reads Z _ r;exact ⟨as,.tuple Y X W r⟩
 | .aq,_,q=>by cases q
 | .bl _,_,q=>by cases q
 | .lst _,_,q=>by cases q
 | .aW _,_,q=>by cases q
 | .aN _,_,q=>by cases q
 | .ty _,_,q=>by cases q
 | .bb _,_,q=>by cases q
 | .exc _ _,_,q=>by cases q
 | .bG _ _ _,_,q=>by cases q
theorem cI.reads:∀(ks:List D) (vs:List Ã),cI h ks vs->∃as,ReadsAll h vs (bO ks) as
 | [],vs,q=>by cases q;exact ⟨_,.nil⟩
 |k::ks,vs,q=>by
  obtain ⟨v,r,rfl,Z,Y⟩:=q;obtain ⟨as,Z⟩:=KA.reads k v Z;obtain ⟨bs,Y⟩:=cI.reads ks r Y;exact ⟨_,.cons Z Y⟩
end
def Gn (q:KA h y (.int i t)):y=.int i:=by
 cases y with
 |int j=>obtain ⟨_,e⟩:=q;cases e;rfl
 |str j=>obtain ⟨_,e⟩:=q;cases e
 |tup Z=>simp only [KA] at q;obtain ⟨_,_,_,_,e,_⟩:=q;cases e
 |_=>cases q
def Gp (q:KA h y (.str i t)):y=.str i:=by
 cases y with
 |str j=>obtain ⟨_,e⟩:=q;cases e;rfl
 |int j=>obtain ⟨_,e⟩:=q;cases e
 |tup Z=>simp only [KA] at q;obtain ⟨_,_,_,_,e,_⟩:=q;cases e
 |_=>cases q
def Gq (q:KA h y (.ref a)):∃ks o ah n,y=.tup ks/\h.get? a=some o/\o.cls=.type "tuple"/\o.data=.seq ah n/\cI h ks ah.toList:=by
 cases y with
 |str j=>obtain ⟨_,e⟩:=q;cases e
 |int j=>obtain ⟨_,e⟩:=q;cases e
 |tup ks =>
  simp only [KA] at q;obtain ⟨_,o,ah,n,e,r⟩:=q;cases e;exact ⟨ks,o,ah,n,rfl,r⟩
 |_=>cases q
mutual
theorem KA.inj:∀(x y:D) (v:Ã),KA h x v->KA h y v->x=y
 | .int i,y,v,p,q=>by
  obtain ⟨t,rfl⟩:=p;exact (Gn q).symm
 | .str i,y,v,p,q=>by
  obtain ⟨t,rfl⟩:=p;exact (Gp q).symm
 | .tup Z,y,v,p,q=>by
  simp only [KA] at p;obtain ⟨a,o,ah,n,rfl,Y,T,X,r⟩:=p;obtain ⟨S,R,Q,P,rfl,W,O,V,U⟩:=Gq q;cases Y.symm.trans W;cases X.symm.trans V;rw [cI.inj Z _ _ r U]
 | .aq,_,_,q,_=>by cases q
 | .bl _,_,_,q,_=>by cases q
 | .lst _,_,_,q,_=>by cases q
 | .aW _,_,_,q,_=>by cases q
 | .aN _,_,_,q,_=>by cases q
 | .ty _,_,_,q,_=>by cases q
 | .bb _,_,_,q,_=>by cases q
 | .exc _ _,_,_,q,_=>by cases q
 | .bG _ _ _,_,_,q,_=>by cases q
theorem cI.inj:∀(xs ys:List D) (vs:List Ã),cI h xs vs->cI h ys vs->xs=ys
 | [],ys,vs,p,q=>by
  cases p
  cases ys with
  |nil=>rfl
  |cons y ys=>obtain ⟨_,_,e,_⟩:=q;cases e
 |x::xs,ys,vs,p,q=>by
  obtain ⟨v,r,rfl,Z,Y⟩:=p
  cases ys with
  |nil=>cases q
  |cons y ys =>
   obtain ⟨X,W,e,g1,g2⟩:=q;cases e;rw [KA.inj x y v Z g1,cI.inj xs ys r Y g2]
end
mutual
theorem KA.keep (hk:∀a o,h.get? a=some o->o.cls=.type "tuple"->(∃ah n,o.data=.seq ah n)->h'.get? a=some o):∀(x:D) (v:Ã),KA h x v->KA h' x v
 | .int i,v,p=>p
 | .str i,v,p=>p
 | .tup X,v,p=>by
  simp only [KA] at p |-;obtain ⟨a,o,ah,n,e,W,Z,Y,r⟩:=p;exact ⟨a,o,ah,n,e,hk a o W Z ⟨ah,n,Y⟩,Z,Y,cI.keep hk X _ r⟩
 | .aq,_,q=>by cases q
 | .bl _,_,q=>by cases q
 | .lst _,_,q=>by cases q
 | .aW _,_,q=>by cases q
 | .aN _,_,q=>by cases q
 | .ty _,_,q=>by cases q
 | .bb _,_,q=>by cases q
 | .exc _ _,_,q=>by cases q
 | .bG _ _ _,_,q=>by cases q
theorem cI.keep (hk:∀a o,h.get? a=some o->o.cls=.type "tuple"->(∃ah n,o.data=.seq ah n)->h'.get? a=some o):∀(xs:List D) (vs:List Ã),cI h xs vs->cI h' xs vs
 | [],vs,p=>p
 |x::xs,vs,p=>by
  obtain ⟨v,r,e,Z,Y⟩:=p;exact ⟨v,r,e,KA.keep hk x v Z,cI.keep hk xs r Y⟩
end
def xA (h:k∈ks):dep k<=de ks:=by
 induction ks with
 |nil=>cases h
 |cons x Z ih =>
  simp only [de]
  rcases ã.mp h with rfl|h
  ·exact Nat.le_max_left _ _
  ·exact ß (ih h) (Nat.le_max_right _ _)
mutual
noncomputable def hs (w:é):D->Int
 | .int i=>hashInt i
 | .str x=>hashStr w x
 | .tup Z=>reduceHash (ŋ (iJ w Z))
 |_=>0
noncomputable def iJ (w:é):List D->List Int
 | []=>[]
 |k::Z=>hs w k::iJ w Z
end
mutual
noncomputable def dr:D->Nat
 | .int _=>1
 | .str _=>1
 | .tup Z=>ia Z+1
 |_=>0
noncomputable def ia:List D->Nat
 | []=>0
 |k::Z=>dr k+ia Z
end
def xB (w:é) (xs ys:List D):iJ w (xs++ys)=iJ w xs++iJ w ys:=by
 induction xs with
 |nil=>rfl
 |cons x xs ih=>simp only [đ,iJ,ih]
def xC (xs ys:List D):ia (xs++ys)=ia xs+ia ys:=by
 induction xs with
 |nil=>simp [ia]
 |cons x xs ih=>simp only [đ,ia,ih,ŷ]
section
variable {prog:Ò} {w:é}
def DE (hu:A.units<cLine) (ho:s.heap.get? a=some o) (hc:o.cls=.type "tuple") (hd:o.data=.seq items m) (hi:cI s.heap ks items.toList)
 (ih:∀k∈ks,∀(A':Ö) (s':Á) (v:Ã) (E':Ã->Á->Prop) (Q':Int->Á->Prop),A'.units<=A.units+1->KA s'.heap k v->Q' (hs w k) { s' with toks:=s'.toks+dr k }->Ó (Ø prog w) A' (pyHash v) Q' E' s')
 (h:Q (hs w (.tup ks)) { s with toks:=s.toks+dr (.tup ks) }):Ó (Ø prog w) A (pyHash (.ref a)) Q E s:=by
 have Z:s.TypeIs (.ref a) "tuple":=⟨o,ho,hc⟩;unfold pyHash
 first|unfold pyHashByItsType|skip
 first|refine À (wpAny_cRoomFor_or (.inr hu) ?_)|skip
 refine À (wpAny_specialOf Z ţ.lookup ?_)
 show Ó _ _ (if (some (Value.builtin "tuple.__hash__")==some Value.none)=true then _ else _) Q E s
 rw [î (by rw [beq_builtin_none];exact Î)];refine À (wpAny_specialOf Z ţ.lookup ?_);show Ó _ _ (callSpecialIfBoundUnlessNone? (.ref a) "__hash__" _ >>= _) Q E s;refine À (wpAny_callSpecialIfBoundUnlessNone?_slot Z ţ (Ī ţ Z F.entry_tuple_hash ?_ (F.args_tuple_hash_1 _)));show Ó _ _ (θ (.ref a) >>= _) _ _ s;refine À (wpAny_tupleItemsOf ho hd ?_);refine À ?_;rw [<- Array.forIn_toList];refine wpAny_forIn_list _
  (fun rest (b:Array Int) s'=>∃done left,ks=done++left/\cI s.heap left rest/\b.toList=iJ w done/\s'={ s with toks:=s.toks+ia done })
  _ ?_ ?_ _ _ ⟨[],ks,rfl,hi,rfl,rfl⟩
 ·rintro x rest b s' ⟨done,left,e,Y,X,rfl⟩
  cases left with
  |nil=>cases Y
  |cons k left =>
   obtain ⟨T,S,ex,U,V⟩:=Y;cases ex
   refine À (ih k (by rw [e];simp) _ { s with toks:=s.toks+ia done } _ _ _ ?_ U ?_)
   ·exact MK _
   ·first
     |exact Ì ⟨done++[k],left,by simp [e],V,by simp [X,xB,iJ],by simp [ŷ,xC,ia]⟩
     |exact À (Ì (Ì ⟨done++[k],left,by simp [e],V,by simp [X,xB,iJ],by simp [ŷ,xC,ia]⟩))
 ·rintro b s' ⟨done,left,e,Y,X,rfl⟩
  cases left with
  |cons k left=>obtain ⟨_,_,ex,_⟩:=Y;cases ex
  |nil =>
  rw [Ć] at e;subst e;simp only [hs,dr] at h;show Ó _ _ (retInt (ŋ b.toList)) _ _ _;rw [X];generalize ŋ (iJ w ks)=z at h |-;refine wpAny_ret_mkInt ?_
  show Ó _ _ (if (decide (-(2:Int) ^ 63<=z)&&decide (z<2 ^ 63))=true then _ else _) Q E _
  unfold reduceHash at h;by_cases W:(decide (-(2:Int) ^ 63<=z)&&decide (z<2 ^ 63))=true
  ·rw [ë W]
   rw [ë W] at h;exact Ì (by simpa [ŷ] using h)
  ·rw [î W]
   rw [î W] at h;exact À (wpAny_rule (Ì (by simpa [ŷ] using h)))
def EK:∀(n:Nat) (k:D),dep k<=n->∀(A:Ö) (s:Á) (v:Ã) (E:Ã->Á->Prop) (Q:Int->Á->Prop),KA s.heap k v->A.units+n<cLine->Q (hs w k) { s with toks:=s.toks+dr k }->Ó (Ø prog w) A (pyHash v) Q E s:=by
 intro n
 induction n with
 |zero =>
  intro k Z A s v E Q q Y h
  cases k with
  |int i=>obtain ⟨t,rfl⟩:=q;exact wpAny_pyHash_int h
  |str i=>obtain ⟨t,rfl⟩:=q;exact wpAny_pyHash_str h
  |tup X=>simp [dep] at Z
  |_=>cases q
 |succ n ih =>
  intro k Z A s v E Q q Y h
  cases k with
  |int i=>obtain ⟨t,rfl⟩:=q;exact wpAny_pyHash_int h
  |str i=>obtain ⟨t,rfl⟩:=q;exact wpAny_pyHash_str h
  |tup X =>
   simp only [dep] at Z;simp only [KA] at q;obtain ⟨a,o,items,m,rfl,W,V,U,hi⟩:=q;exact DE (by omega) W V U hi (fun k T S R v P O L N M=>ih k (by have:=xA T;omega) S R v P O N (by omega) M) h
  |_=>cases q
def DF:∀(n:Nat) (k:D),dep k<=n->∀{A:Ö} {s:Á} {v:Ã} {E:Ã->Á->Prop} {Q:Bool->Á->Prop},KA s.heap k v->Q true s->Ó (Ø prog w) A (eqIsQuiet n v) Q E s:=by
 intro n
 induction n with
 |zero =>
  intro k Z A s v E Q q h
  cases k with
  |int i=>obtain ⟨t,rfl⟩:=q;rw [Ť _ rfl];exact Ì h
  |str i=>obtain ⟨t,rfl⟩:=q;rw [Ť _ rfl];exact Ì h
  |tup W=>simp [dep] at Z
  |_=>cases q
 |succ n ih =>
  intro k Z A s v E Q q h
  cases k with
  |int i=>obtain ⟨t,rfl⟩:=q;rw [Ť _ rfl];exact Ì h
  |str i=>obtain ⟨t,rfl⟩:=q;rw [Ť _ rfl];exact Ì h
  |tup W =>
   simp only [dep] at Z;simp only [KA] at q;obtain ⟨a,o,items,m,rfl,V,R,P,hi⟩:=q;have U:s.TypeIs (.ref a) "tuple":=⟨o,V,R⟩;unfold eqIsQuiet;refine À (wpAny_specialOf U F.slot_tuple_eq.lookup ?_);show Ó _ _ (isInstance (.ref a) (.type "tuple") >>= _) _ _ s;refine À (wpAny_isInstance U isSubtype_tuple_tuple ?_);simp only [ĉ,Ë,ü];refine À (Ď V P ?_);refine À ?_;show Ó _ _ (forIn items _ _) _ _ s;rw [<- Array.forIn_toList];refine wpAny_forIn_list _ (fun rest r Y=>r.1=none/\Y=s/\∃left,cI s.heap left rest/\∀k∈left,dep k<=n) _ ?_ ?_ _ _ ⟨rfl,rfl,W,hi,fun k O=>by have:=xA O;omega⟩
   ·rintro v rest r Y ⟨X,rfl,left,T,S⟩
    cases left with
    |nil=>cases T
    |cons k left =>
     obtain ⟨K,J,ex,N,M⟩:=T;cases ex;refine À (ih k (S k Ý) N ?_);simp only [ĉ,Ë,ü];exact Ì ⟨rfl,rfl,left,M,fun u L=>S u (Ð _ L)⟩
   ·rintro ⟨I,H⟩ Y ⟨X,rfl,_⟩
    simp only at X;subst X;exact Ì h
  |_=>cases q
def vg (h:ā) (ks:List D) (a:Í):Prop:=fj ks=true/\de ks<=6/\KA h (.tup ks) (.ref a)
noncomputable instance Mc:DecidableEq (List D):=fun a b=>Classical.propDecidable (a=b)
def Gr (hu:A.units+10<cLine) (hx:vg s.heap x a) (hy:vg s.heap y b) (h:Q (decide (x=y)) s):Ó (Ø prog w) A (PySem.eqBool (.ref a) (.ref b)) Q E s:=by
 obtain ⟨W,N,Z⟩:=hx;obtain ⟨V,M,Y⟩:=hy;obtain ⟨as,Z⟩:=KA.reads _ _ Z;obtain ⟨bs,Y⟩:=KA.reads _ _ Y;have U:lay (.tup x)=true:=by simp only [lay];exact oU x W
 have T:lay (.tup y)=true:=by simp only [lay];exact oU y V
 obtain ⟨S,R⟩:=ik _ U;obtain ⟨P,O⟩:=ik _ T;have e:=SeqAt.eqAt_reads _ _ A s _ _ as bs Z Y S P (by rw [R,O];simp only [dep];omega);rw [kR _ _ U T] at e;refine e prog w E Q ?_;have:beq (.tup x) (.tup y)=decide (x=y):=by
  have:=rK x y W V;simp only [beq]
  cases X:fz x y with
  |true=>exact (Ú (this.mp X)).symm
  |false=>exact (í fun z=>by rw [this.mpr z] at X;cases X).symm
 rw [this];exact h
def kind (prog:Ò) (w:é):HeapKind prog w (List D) where
 is:=vg
 hash:=fun X=>hs w (.tup X)
 draws:=fun X=>dr (.tup X)
 room:=fun A=>A.units+10<cLine
 inj:=fun W V=>by have:=KA.inj _ _ _ W.2.2 V.2.2;injection this
 keeps:=fun {h Q k a d o P O} x S R hs=>⟨x.1,x.2.1,KA.keep (fun b u U N Y=>(hs.2 b (fun e=>by
  subst e;rw [S] at U;cases U;obtain ⟨_,_,Y⟩:=Y;rw [R] at Y;cases Y)).trans U) _ _ x.2.2⟩
 pyHash:=fun T Z h=>EK 7 _ (by simp only [dep];have:=Z.2.1;omega) _ _ _ _ _ Z.2.2 (by omega) h
 eqBool:=fun T W V h=>Gr T W V h
 quiet:=fun Z h=>DF 8 _ (by simp only [dep];have:=Z.2.1;omega) Z.2.2 h
end
end TK
namespace TK
open PySem PySem.W PyProof.Rows DI L2
def DX.cu (h1 h2:ā) (h:DX a es h1) (k:∀o,h1.get? a=some o->h2.get? a=some o):DX a es h2:=by
 obtain ⟨z,o,Z,Y,X,r⟩:=h;exact ⟨z,o,Z,Y,k o X,r⟩
def AllK (w:é) (az:List (D×Int)):Prop:=∀p∈az,∃Z,p.1=.tup Z/\fj Z=true/\de Z<=6/\p.2=hs w p.1
noncomputable def ah:D->List D
 | .tup Z=>Z
 |_=>[]
section
variable {X:Cx} {π:List (Í×Obj)} {σ:L2.St} {s:Á} {w:Wd}
mutual
theorem HM (I:Inv X π σ w.H s):∀(d:D) (v:V) (u:Ã),kd d=true->DI.DV X.K w d v->RelV v u->KA s.heap d u
 | .int i,v,u,_,h,r=>by cases h;exact r
 | .str x,v,u,_,h,r=>by cases h;exact r
 | .tup Z,v,u,k,h,r=>by
  simp only [DI.DV] at h;obtain ⟨a,Y,rfl,W,U⟩:=h;cases r;obtain ⟨ah,T,⟨o,S,R,n,Q⟩,_⟩:=I.tuple W;simp only [kd] at k;simp only [KA];exact ⟨a,o,_,n,rfl,S,R,Q,yk I Z Y _ k U (by simpa using T)⟩
 | .aq,_,_,k,_,_=>by cases k
 | .bl _,_,_,k,_,_=>by cases k
 | .lst _,_,_,k,_,_=>by cases k
 | .aW _,_,_,k,_,_=>by cases k
 | .aN _,_,_,k,_,_=>by cases k
 | .ty _,_,_,k,_,_=>by cases k
 | .bb _,_,_,k,_,_=>by cases k
 | .exc _ _,_,_,k,_,_=>by cases k
 | .bG _ _ _,_,_,k,_,_=>by cases k
theorem yk (I:Inv X π σ w.H s):∀(ds:List D) (vs:List V) (us:List Ã),fj ds=true->DI.aj X.K w ds vs->Vals vs us->cI s.heap ds us
 | [],vs,us,_,h,r=>by cases h;cases r;rfl
 |d::ds,vs,us,k,h,r=>by
  obtain ⟨v,Z,rfl,Y,W⟩:=h;simp only [fj,Ä] at k
  cases r with
  |cons r U=>exact ⟨_,_,rfl,HM I d v _ k.1 Y r,yk I ds Z _ k.2 W U⟩
end
end
section
variable {X:Cx} {Ξ:Wd->aM->Prop} {e o i:ÿ} {pos jw:Pos} {f fo fi:DI.MG D}
end
end TK
namespace TK
open PySem PySem.W PyProof.Rows DI L2
def kj (h:ā) (d:Í) (es:Array DictEntry) (ep:Nat):Prop:=∃o,h.get? d=some o/\o.ExactDict/\o.data=.dict es ep
section
variable {prog:Ò} {w:é} {A:Ö} {E:Ã->Á->Prop} {s:Á} {d it:Í} {es:Array DictEntry} {ep i:Nat}
def kj.ty (r:kj s.heap d es ep):s.TypeIs (.ref d) "dict":=by obtain ⟨o,Z,x,_⟩:=r;exact ⟨o,Z,x.1⟩
def kj.lt (r:kj h d es ep):d<h.objs.size:=by obtain ⟨o,Z,_⟩:=r;exact Ç Z
def kj.at (r:kj h d es ep) (k:∀o,h.get? d=some o->h'.get? d=some o):kj h' d es ep:=by obtain ⟨o,Z,x⟩:=r;exact ⟨o,k o Z,x⟩
end
section
variable {X:Cx} {Ξ:Wd->aM->Prop}
end
open HT
section
variable {s:Á}
def HN (kx:kd x=true) (ky:kd y=true) (hu:A.units+dep x<cLine) (hx:KA s.heap x vx) (hy:KA s.heap y vy):SeqAt.EqAt A s vx vy (beq x y):=by
 obtain ⟨as,Z⟩:=KA.reads _ _ hx;obtain ⟨bs,Y⟩:=KA.reads _ _ hy;obtain ⟨X,W⟩:=ik _ (mM _ kx);obtain ⟨V,U⟩:=ik _ (mM _ ky);have:=SeqAt.eqAt_reads _ _ A s vx vy as bs Z Y X V (by rw [W];omega);rw [kR _ _ (mM _ kx) (mM _ ky)] at this;exact this
mutual
theorem HP:∀(A:Ö) (x y:D) (b:Bool) (vx vy:Ã),kE x y=some b->kd x=true->kd y=true->A.units+5*dep x+5<cLine->KA s.heap x vx->KA s.heap y vy->ur A s vx vy b
 |A,.int i,y,b,vx,vy,h,_,_,_,Z,Y=>by
  cases y with
  |int j =>
   cases h;obtain ⟨t,rfl⟩:=Z;obtain ⟨X,rfl⟩:=Y;exact fun prog w E Q q=>wD A s i t j X prog w E Q q
  |_=>cases h
 |A,.str i,y,b,vx,vy,h,_,_,_,Z,Y=>by
  cases y with
  |str j =>
   cases h;obtain ⟨t,rfl⟩:=Z;obtain ⟨X,rfl⟩:=Y;exact fun prog w E Q q=>(PyProof.Rows.lt_str q:Ó (Ø prog w) A (Ā .Lt (.str i t) (.str j X)) Q E s)
  |_=>cases h
 |A,.tup V,y,b,vx,vy,h,W,ky,U,Z,Y=>by
  cases y with
  |tup T =>
   simp only [kE] at h;simp only [KA] at Z Y;obtain ⟨a,o,ah,n,rfl,S,R,P,r⟩:=Z;obtain ⟨H,O,G,N,rfl,M,L,K,J⟩:=Y;simp only [dep] at U;simp only [kd] at W ky;exact fun prog w E Q q=>xu ⟨o,S,R,n,P⟩ ⟨O,M,L,N,K⟩ (fun I F=>yl I V T b _ _ h W ky (by omega) r J) (by omega) q
  |_=>cases h
 |_,.aq,_,_,_,_,_,k,_,_,_,_=>by cases k
 |_,.bl _,_,_,_,_,_,k,_,_,_,_=>by cases k
 |_,.lst _,_,_,_,_,_,k,_,_,_,_=>by cases k
 |_,.aW _,_,_,_,_,_,k,_,_,_,_=>by cases k
 |_,.aN _,_,_,_,_,_,k,_,_,_,_=>by cases k
 |_,.ty _,_,_,_,_,_,k,_,_,_,_=>by cases k
 |_,.bb _,_,_,_,_,_,k,_,_,_,_=>by cases k
 |_,.exc _ _,_,_,_,_,_,k,_,_,_,_=>by cases k
 |_,.bG _ _ _,_,_,_,_,_,k,_,_,_,_=>by cases k
theorem yl:∀(A:Ö) (xs ys:List D) (b:Bool) (ps qs:List Ã),lF xs ys=some b->fj xs=true->fj ys=true->A.units+5*de xs+5<cLine->cI s.heap xs ps->cI s.heap ys qs->gC A s ps qs b
 |A,[],ys,b,ps,qs,h,_,_,_,V,Z=>by
  cases V
  cases ys with
  |nil=>cases h;cases Z;exact .nn
  |cons y ys=>cases h;obtain ⟨v,r,rfl,_⟩:=Z;exact .nc _ _
 |A,x::xs,ys,b,ps,qs,h,Y,ky,T,V,Z=>by
  obtain ⟨v,r,rfl,U,S⟩:=V
  cases ys with
  |nil=>cases h;cases Z;exact .cn _ _
  |cons y ys =>
   obtain ⟨u,R,rfl,g1,g2⟩:=Z;simp only [fj,Ä] at Y ky;simp only [de] at T;have Q:=Nat.le_max_left (dep x) (de xs);have P:=Nat.le_max_right (dep x) (de xs);have X:=HN (A:=A) Y.1 ky.1 (by omega) U g1;simp only [lF] at h;split at h
   ·rename_i W
    rw [W] at X;exact .eq X (yl A xs ys b _ _ h Y.2 ky.2 (by omega) S g2)
   ·rename_i W
    rw [Bool.not_eq_true] at W;rw [W] at X;exact .lt X (HP A x y b _ _ h Y.1 ky.1 (by omega) U g1)
end
end
section
variable {prog:Ò} {w:é} {A:Ö} {E:Ã->Á->Prop} {s:Á}
end
inductive Pg where
 |made (m d:Int) (h l:List Int)
 |Jo (m d k:Int)
noncomputable def ti (l:List Int):D:=.tup (l.map D.int)
def Pg.d:Pg->D
 | .made m d h l=>.tup [.str "made",.int m,.int d,.tup [ti h,ti l]]
 | .Jo m d k=>.tup [.str "mended",.int m,.int d,.int k]
section
variable {prog:Ò} {w:é} {A:Ö} {E:Ã->Á->Prop} {s:Á}
end
end TK
namespace TK
open PySem PySem.W PyProof.Rows DI L2
open Classical in
section
variable {X:Cx} {Ξ:Wd->aM->Prop}
end
section
variable {prog:Ò} {w:é} {A:Ö} {E:Ã->Á->Prop} {s:Á}
end
section
variable {X:Cx} {Ξ:Wd->aM->Prop} {e:ÿ} {te:TE} {pos p2 p4:Pos} {f:DI.MG D}
end
end TK
namespace DI
open PySem L2
section
variable {X:Cx} {Ξ:Wd->aM->Prop} {el tg src J9 Jj:ÿ} {tests Gi:List ÿ} {sc:Ł} {ps pos:Pos} {N:List Str} {nt:Nat} {cap:List Nat} {it uX:MG (List D)} {gd Ka:D->Env->Option Env} {g0 Kb:TG} {sl cx:List Nat} {ft Kc:MG Bool} {f:MG D}
end
open Classical in
def gB (nt:Nat) (aE:Env) (g:D->Env->Option Env) (t:MG Bool) (f:MG D) (γ:aa->Prop):List D->aa->Res (List D)
 | [],s=>if γ s then ok [] s else none
 |d::Z,s=>if γ s then (match g d (Ê nt none++aE) with
  |none=>none
  |some env=>ak (ne (t env s)) fun b s=>if b=true then ak (ne (f env s)) fun x s=>ak (gB nt aE g t f γ Z s) fun Y s=>ok (x::Y) s
   else gB nt aE g t f γ Z s) else none
def mO (nt:Nat) (cap:List Nat) (it:MG (List D×(aa->Prop))) (g:D->Env->Option Env) (t:MG Bool) (f:MG D):MG D:=fun env s =>
 ak (it env s) fun p s=>fq p.1 (ak (gB nt (eV cap env) g t f p.2 p.1 s) fun Z s=>ok (.lst Z) s)
def A0 (K:ð) (w:Wd) (J:It) (ds:List D) (γ:aa->Prop):Prop:=∀Z,Le K w Z->aG K Z->γ Z.ax->∀i,
 (∀d,ds[i]?=some d->J.go i Z.H/\∀x X,J.nU i Z.H x X->∃Y,Y.H=X/\Le K Z Y/\aG K Y/\Y.ax=Z.ax/\DV K Y d x)/\(ds.length<=i->J.stop i Z.H)
def nJ (K:ð) (Ξ:Wd->aM->Prop) (f:MG (List D×(aa->Prop))):TI:=fun σ H R=>∃w env,w.H=H/\aG K w/\bx K w env σ/\Out K Ξ w (f env w.ax) fun Z p=>∀J,A0 K Z J p.1 p.2->R J Z.H
section
variable {K:ð} {Ξ:Wd->aM->Prop}
def B8 (σ:St) (H:Hp) (Q:VK) :
  tE K Ξ (mO nt cap it g ft f) σ H Q->kX (nJ K Ξ it) nt cap (gD K g) (tT K bY ft) (tE K bY f) σ H Q:=by
 rintro ⟨w,env,rfl,S,r,h⟩;refine ⟨w,env,rfl,S,r,(Out.ak h).mono fun D p l1 S1 C J n=>?_⟩;obtain ⟨V,F⟩:=p;obtain ⟨l,C⟩:=mr C;have l:V.length<=Ï:=l;refine ⟨fun i m T k=>m=V.length-i/\i<=V.length/\T.length<=i/\∃Y R,Y.H=k/\Le K D Y/\aG K Y/\aj K Y R T/\Out K Ξ Y (gB nt (eV cap env) g ft f F (V.drop i) Y.ax) fun W M=>∀U,aj K W (R++M) U->∀p,W.H p=none->Q (.ref p) (upd W.H p (.lst U)),
  ⟨V.length,rfl,ĵ _,ĵ _,D,[],rfl,Le.refl _,S1,rfl,(Out.ak C).mono fun W M O L h2 U E p P=>?_⟩,?_⟩
 ·exact h2 (W.grow p (.lst U)) (Fw.grow P).le (L.grow P) rfl (.ref p) ⟨p,U,rfl,⟨(show ¬ W.Z p from jl L P),b9⟩,(Fw.grow P).le.all E⟩
 rintro i m T k ⟨rfl,hi,ha,Y,R,rfl,I,B,A,X⟩;by_cases z:i<V.length
 ·right
  rw [Ŋ z] at X;unfold gB at X;by_cases N:F Y.ax
  ·rw [ë N] at X
   obtain ⟨jc,hy⟩:=(n Y I B N i).1 _ (æ z)
   cases u:g V[i] (Ê nt none++eV cap env) with
   |none=>rw [u] at X;exact X.elim
   |some t =>
    rw [u] at X;refine ⟨jc,by omega,fun s j=>s.length<=i+1/\∃Y R,Y.H=j/\Le K D Y/\aG K Y/\aj K Y R s/\Out K Ξ Y (gB nt (eV cap env) g ft f F (V.drop (i+1)) Y.ax) fun W M=>∀U,aj K W (R++M) U->∀p,W.H p=none->Q (.ref p) (upd W.H p (.lst U)),
     fun s j ⟨u5,q⟩=>⟨V.length-(i+1),by omega,rfl,z,u5,q⟩,fun o x H3 ho y=>?_⟩
    obtain ⟨W,rfl,O,L,es,dv⟩:=hy x H3 y;refine ⟨W,_,V[i],t,rfl,L,(r.le (l1.trans (I.trans O))).block nt cap o ho,dv,u,fun kq c=>?_⟩;rw [<- es] at X;refine ⟨W,t,rfl,L,c,(Out.ak (X.from O)).ne.mono fun a b G S3 h3=>?_⟩
    cases b with
    |true =>
     refine ⟨a,t,rfl,S3,c.le G,(Out.ak h3).ne.mono fun w4 d l4 S4 h4 v u7=>⟨by rw [ć];simp;omega,w4,R++[d],rfl,I.trans (O.trans (G.trans l4)),S4,aj.append ((O.trans (G.trans l4)).all A) (aj.one u7),(Out.ak h4).mono fun w5 M l5 S5 h5 U E p P=>?_⟩⟩;exact aw S5 h5 U (by rw [Ţ] at E;exact E) p P
    |false =>
     exact ⟨by omega,a,R,rfl,I.trans (O.trans G),S3,(O.trans G).all A,h3⟩
  ·rw [î N] at X
   exact X.elim
 ·left
  have e:i=V.length:=by omega
  subst e;rw [List.drop_length] at X;unfold gB at X;by_cases N:F Y.ax
  ·rw [ë N] at X
   exact ⟨(n Y I B N _).2 (MK _),by omega,fun p P=>aw B X T (by rw [Ć];exact A) p P⟩
  ·rw [î N] at X
   exact X.elim
def CK (R R':It->Hp->Prop) (i:∀J H',R J H'->R' J H') (h:nJ K Ξ it σ H R):nJ K Ξ it σ H R':=by
 obtain ⟨w,env,Z,S,Y,h⟩:=h;exact ⟨w,env,Z,S,Y,h.mono fun V p _ _ X J W=>i J _ (X J W)⟩
def EL (h:DV K w x (.ref a)) (g:DV K w y (.ref b)):A0 K w (Jc K a b) (fy ds es) fun s=>res x s=.lst ds/\res y s=.lst es:=fun D U Z T i=>by
 obtain ⟨p,Y,e,X,S⟩:=gy Z (U _ _ h) T.1;obtain ⟨q,W,N,V,R⟩:=gy Z (U _ _ g) T.2;cases e;cases N;refine ⟨fun d M=>?_,fun L=>⟨Y,W,bo.of X,bo.of V,?_⟩⟩
 ·obtain ⟨x,y,e1,e2,rfl⟩:=wI M
  obtain ⟨v,ev,J⟩:=S.get' i x e1;obtain ⟨u,Q,I⟩:=R.get' i y e2;refine ⟨⟨Y,W,v,u,bo.of X,bo.of V,ev,Q⟩,fun z C ⟨r,B,y1,H,G,F,E⟩=>?_⟩;obtain ⟨P,O⟩:=E Y W (bo.of X) (bo.of V);rw [ev] at P;rw [Q] at O;cases P;cases O;subst G F;exact wx Z H J I
 ·rw [rF] at L
  have:=S.length;have:=R.length;omega
end
def uu (ds:List D) (s:aa):Res (List D×(aa->Prop)):=match ds with
 | [x,y]=>match res x s,res y s with
  | .tup Z,.tup Y=>ok (fy Z Y,fun _=>True) s
  | .lst Z,.lst Y=>ok (fy Z Y,fun s=>res x s=.lst Z/\res y s=.lst Y) s
  |_,_=>none
 |_=>none
def iX (fa:MG (List D)):MG (List D×(aa->Prop)):=fun env s=>ak (fa env s) uu
section
variable {X:Cx} {Ξ:Wd->aM->Prop} {a b:ÿ} {fa:MG (List D)} {pos:Pos}
def Gs {p:Pos} {elts:List ÿ} {kk:Nat} {nB:Pos} (hg:Gl X "zip") (hm:X.mg "zip"=none) (ha:PA X [a,b] (tA X.K Ξ fa)) (hs:Æ [a,b] X.env=[(false,Ĝ a X.env),(false,Ĝ b X.env)]:=by rfl) (fH:Æ [b] X.env=[(false,Ĝ b X.env)]:=by rfl) :
  PI X (.Tuple elts kk nB) (.Call (.Name "zip" p) [a,b] [] pos) (nJ X.K Ξ (iX fa)):=by
 intro Q s σ H R I V;obtain ⟨w,env,C,S,P,h⟩:=V;subst C
 cases Z:fa env w.ax with
 |none=>rw [show iX fa env w.ax=none by unfold iX;rw [Z];rfl] at h;exact h.elim
 |some r =>
  obtain ⟨r,F⟩:=r
  cases r with
  |error x =>
   rw [show iX fa env w.ax=some (.error x,F) by unfold iX;rw [Z];rfl] at h;refine xm hg hm ha hs fH Q s σ w.H R I ⟨w,env,rfl,S,P,?_⟩;rw [Z];exact h
  |ok B =>
   have A:iX fa env w.ax=uu B F:=by unfold iX;rw [Z];rfl
   rw [A] at h;unfold uu at h;split at h
   ·rename_i x y
    split at h
    ·rename_i t o ex O
     have e1:=cM ex (by intro _ z;cases z);have e2:=cM O (by intro _ z;cases z);refine xm hg hm ha hs fH Q s σ w.H R I ⟨w,env,rfl,S,P,?_⟩;rw [Z];intro N le U T n M;obtain ⟨v,u,rfl,Y,W⟩:=kS M;rw [e1] at Y;rw [e2] at W;have E:=Y;have D:=W;simp only [DV] at E D;obtain ⟨p,L,rfl,V,_⟩:=E;obtain ⟨q,J,rfl,G,_⟩:=D;exact ⟨p,q,L,J,rfl,V,G,h N le U T _ fun m l k _ i=>DB Y W m l k i⟩
    ·rename_i t o ex O
     refine Ew hg hm ha hs fH Q s σ w.H R I ⟨w,env,rfl,S,P,?_⟩;rw [Z];intro N le U T n M;obtain ⟨v,u,rfl,Y,W⟩:=kS M;obtain ⟨p,L,rfl,V,_⟩:=gy U Y (by rw [T];exact ex);obtain ⟨q,J,rfl,G,_⟩:=gy U W (by rw [T];exact O);exact ⟨p,q,L,J,rfl,bo.of V,bo.of G,h N le U T _ (EL Y W)⟩
    ·exact h.elim
   ·exact h.elim
def DG (hc:X.calm=true) (S:kT X sc N nt cap) (T:Tg X.K g0 gd nt) (hi:PI X tg src (nJ X.K Ξ it))
 (hY:∀(cl:List (Str×Í)) (C:Í) (s:Á) (H:Hp) (ex:List Í) (pn:List (Í×Obj)),PG (dj X N sc cl C s H ex pn) tg g0/\PF (dj X N sc cl C s H ex pn) tests (tT X.K bY ft)/\PE (dj X N sc cl C s H ex pn) el (tE X.K bY f))
 (hs:∀x,ĕ src X.env x=pure x:=by intro _;rfl):PE X (.ListComp el [⟨tg,src,tests,0⟩] sc ps) (tE X.K Ξ (mO nt cap it gd ft f)) :=
 ck (wK hc S T.og hi hY hs) fun σ H Q h=>v5 T.imp (fun R Z i h=>CK R Z i h) (B8 σ H Q h)
end
end DI
namespace ST
open PySem PySem.Spec PyProof.Rows
section
variable {prog:Ò} {w:é} {A:Ö} {E:Ã->Á->Prop} {s:Á}
end
end ST
namespace DI
open PySem L2
section
variable {X:Cx} {Ξ:Wd->aM->Prop}
end
section
variable {X:Cx} {Ξ:Wd->aM->Prop} {e o i:ÿ} {pos jw:Pos} {f fo fi:MG D}
end
end DI
namespace L2
open PySem PySem.Spec PyProof.Rows
section
variable {X:Cx}
end
end L2
namespace DI
open PySem L2
section
variable {X:Cx} {Ξ:Wd->aM->Prop}
end
end DI
namespace L2
open PySem PySem.Spec PyProof.Rows
section
variable {X:Cx}
end
end L2
namespace DI
open PySem L2
section
variable {X:Cx} {Ξ:Wd->aM->Prop} {a:ÿ} {pos:Pos} {f:MG D}
end
end DI
namespace L2
open PySem PySem.Spec PyProof.Rows
section
variable {X:Cx}
end
end L2
namespace DI
open PySem L2
section
variable {X:Cx} {Ξ:Wd->aM->Prop} {pos:Pos}
def Gu:PE X (.Dict [] [] pos) (tE X.K Ξ (eC (.aW []))):=ck Du fun σ H Q W=>by
 obtain ⟨w,env,V,S,U,h⟩:=W;subst V;intro p Y;exact h (w.grow p (.dK [])) (Fw.grow Y).le (S.grow Y) rfl (.ref p) ⟨p,rfl,(show ¬ w.Z p from jl S Y),b9⟩
end
end DI
namespace L2
open PySem PySem.Spec PyProof.Rows
def zk:ì "sum"=some (.builtin "sum"):=by decide +kernel
end L2
namespace DI
open PySem L2
section
variable {X:Cx} {Ξ:Wd->aM->Prop}
end
end DI
namespace L2
open PySem PySem.Spec PyProof.Rows
open AutoSeq1 (wpAny_loadPart')
section
variable {prog:Ò} {w:é} {A:Ö} {E:Ã->Á->Prop} {s:Á}
end
section
variable {X:Cx}
end
end L2
namespace DI
open PySem L2
section
variable {X:Cx} {Ξ:Wd->aM->Prop} {a:ÿ} {p pos:Pos} {fa:MG (List D)}
end
end DI
namespace L2
open PySem PySem.Spec PyProof.Rows
section
variable {X:Cx} {pos:Pos}
end
end L2
namespace DI
open PySem L2
section
variable {X:Cx} {Ξ:Wd->aM->Prop} {a b c:ÿ} {pos:Pos} {fa:MG (List D)}
end
noncomputable def notStar:ÿ->Bool
 | .Starred ..=>false
 |_=>true
def EM (h:notStar e=true):Æ (e::es) env=(false,Ĝ e env)::Æ es env:=by
 cases e<;>first|rfl|cases h
section
variable {X:Cx} {Ξ:Wd->aM->Prop} {e:ÿ} {es:List ÿ} {f:MG D} {fa:MG (List D)} {pos:Pos}
def jj (ha:PE X e (tE X.K Ξ f)) (hr:PA X es (tA X.K Ξ fa)) (h:notStar e=true):PA X (e::es) (tA X.K Ξ (ae f fa)):=bU ha hr (EM h)
def ym {e1 e2 e3 e4 e5 e6 e7:ÿ} {f1 f2 f3 f4 f5 f6 f7:MG D} (h1:PE X e1 (tE X.K Ξ f1)) (h2:PE X e2 (tE X.K Ξ f2)) (h3:PE X e3 (tE X.K Ξ f3)) (h4:PE X e4 (tE X.K Ξ f4)) (h5:PE X e5 (tE X.K Ξ f5)) (h6:PE X e6 (tE X.K Ξ f6)) (h7:PE X e7 (tE X.K Ξ f7)) (s1:notStar e1=true:=by rfl) (s2:notStar e2=true:=by rfl) (s3:notStar e3=true:=by rfl) (s4:notStar e4=true:=by rfl) (s5:notStar e5=true:=by rfl) (s6:notStar e6=true:=by rfl) (s7:notStar e7=true:=by rfl):PE X (.List [e1,e2,e3,e4,e5,e6,e7] pos) (tE X.K Ξ (cP (ae f1 (ae f2 (ae f3 (ae f4 (ae f5 (ae f6 (ae f7 ag))))))))):=eh (jj h1 (jj h2 (jj h3 (jj h4 (jj h5 (jj h6 (jj h7 fV s7) s6) s5) s4) s3) s2) s1)
end
end DI
namespace L2
open PySem
def bu {α:Type}:Sem α->Prop
 | .pure _=>True
 | .raise _=>True
 | .unsupported _=>True
 | .finish _=>True
 | .rule _ k=>bu (k ())
 | .at _ k=>bu (k ())
 | .load _ _ k=>∀o,bu (k o)
 | .update _ _ f k=>(∀o,(f o).dict=o.dict)/\bu (k ())
 | .loadIfAlive _ k=>∀o,bu (k o)
 | .point _ k=>bu (k ())
 | .register _ _=>True
 | .alloc _ k=>∀a,bu (k a)
 | .fresh k=>∀t,bu (k t)
 | .ask k=>∀t,bu (k t)
 | .choose _ _ k=>∀n,bu (k n)
 | .os _ _ k=>∀r,bu (k r)
 | .call ..=>False
 | .handled _ k=>∀v,bu (k v)
 | .genState _ k=>∀v,bu (k v)
 | .newGen _ k=>∀v,bu (k v)
 | .resume ..=>False
 | .yield ..=>True
 | .stack k=>∀v,bu (k v)
 | .fork ..=>True
 | .thread k=>∀v,bu (k v)
 | .await ..=>True
def Dk (h0 h:ā):Prop:=h0.objs.size<=h.objs.size/\∀b o,h0.get? b=some o->∀Z,h.get? b=some Z->Z.dict=o.dict
def Dk.refl (h:ā):Dk h h:=⟨MK _,fun b o e Y Z=>by rw [e] at Z;cases Z;rfl⟩
theorem Dk.push {h0 h:ā} (k:Dk h0 h) (o:Obj):Dk h0 (h.push o):=by
 refine ⟨ß k.1 (by rw [õ];exact Nat.le_succ _),fun b p e X W=>k.2 b p e X ?_⟩;have Z:=Å (Ç e) k.1;obtain ⟨Y,V⟩:=İ.mp W;refine İ.mpr ⟨?_,V⟩;have:(h.push o).objs[b]?=h.objs[b]?:=by
  show (h.objs.push o)[b]?=_;rw [Array.getElem?_push_lt Z,Array.getElem?_eq_getElem Z]
 rw [this] at Y;exact Y
def Dk.upd {h0 h:ā} (k:Dk h0 h) {a:Í} {f:Obj->Obj} (hf:∀o,(f o).dict=o.dict) (ha:(h.get? a).isSome):Dk h0 (h.update a f):=by
 refine ⟨by rw [Heap.size_update];exact k.1,fun b p e Y X=>?_⟩;by_cases U:b=a
 ·subst U
  obtain ⟨W,e1⟩:=ő.mp ha;have T:=k.2 b p e W e1;obtain ⟨Z,S⟩:=İ.mp X;obtain ⟨V,R⟩:=İ.mp e1;have:Y=f W:=by
   obtain ⟨objs,l⟩:=h;have Z:(objs.modify b f)[b]?=some Y:=Z;have V:objs[b]?=some W:=V;rw [Array.getElem?_modify,ë rfl,V] at Z;exact (MN Z).symm
  rw [this,hf,T]
 ·rw [ε _ _ _ _ U] at X
  exact k.2 b p e Y X
def DH {α:Type} (M:Model) (Γ:Ctx) (t:Sem α):∀{Q:α->Pos->Á->Prop} {E:Ã->Pos->Á->Prop} {p:Pos} {s:Á},bu t->ī M Γ t Q E p s->∀{h0:ā},Dk h0 s.heap ->
  ī M Γ t (fun a p' s'=>Q a p' s'/\Dk h0 s'.heap) (fun e p' s'=>E e p' s'/\Dk h0 s'.heap) p s:=by
 induction t with
 |pure a=>intro Q E p s d h h0 k;rw [ī] at h |-;exact ⟨h,k⟩
 |raise e=>intro Q E p s d h h0 k;rw [ī] at h |-;exact ⟨h,k⟩
 |unsupported w=>intro Q E p s d h h0 k;rw [ī] at h;exact h.elim
 |finish w=>intro Q E p s d h h0 k;rw [ī] at h;exact h.elim
 |rule t Z ih=>intro Q E p s d h h0 k;rw [ī] at h |-;exact ih () d h k
 | «at» t Z ih=>intro Q E p s d h h0 k;rw [ī] at h |-;exact ih () d h k
 |load a pt Z ih=>intro Q E p s d h h0 k;rw [ī] at h |-;obtain ⟨o,e,h⟩:=h;exact ⟨o,e,ih o (d o) h k⟩
 |loadIfAlive a Z ih=>intro Q E p s d h h0 k;rw [ī] at h |-;exact ih _ (d _) h k
 |point a Z ih=>intro Q E p s d h h0 k;rw [ī] at h |-;exact ih () d h k
 |register a Z ih=>intro Q E p s d h h0 k;rw [ī] at h;exact h.elim
 |fresh Z ih=>intro Q E p s d h h0 k;rw [ī] at h |-;exact ih _ (d _) h k
 |ask Z ih=>intro Q E p s d h h0 k;rw [ī] at h |-;exact ih _ (d _) h k
 |choose a n Z ih=>intro Q E p s d h h0 k;rw [ī] at h |-;exact ⟨h.1,ih _ (d _) h.2 k⟩
 |os a n Z ih=>intro Q E p s d h h0 k;rw [ī] at h |-;exact ih _ (d _) h k
 |call a b c n Z ih=>intro Q E p s d h h0 k;exact ï d
 |handled a Z ih=>intro Q E p s d h h0 k;rw [ī] at h |-;exact ih _ (d _) h k
 |genState a Z ih=>intro Q E p s d h h0 k;rw [ī] at h |-;obtain ⟨o,e,h⟩:=h;exact ⟨o,e,ih _ (d _) h k⟩
 |newGen a Z ih=>intro Q E p s d h h0 k;rw [ī] at h |-;exact ih _ (d _) h k
 |resume a b c Z ih=>intro Q E p s d h h0 k;exact ï d
 |yield a b c Z ih=>intro Q E p s d h h0 k;rw [ī] at h;exact h.elim
 |stack Z ih=>intro Q E p s d h h0 k;rw [ī] at h |-;exact ih _ (d _) h k
 |fork a Z ih=>intro Q E p s d h h0 k;rw [ī] at h;exact h.elim
 |thread Z ih=>intro Q E p s d h h0 k;rw [ī] at h |-;exact ih _ (d _) h k
 |await a b c e Z ih=>intro Q E p s d h h0 k;rw [ī] at h;exact h.elim
 |alloc o Z ih=>intro Q E p s d h h0 k;rw [ī] at h |-;exact ih _ (d _) h (k.push o)
 |update a pt f Z ih=>intro Q E p s d h h0 k;rw [ī] at h |-;exact ⟨h.1,ih () d.2 h.2 (k.upd d.1 h.1)⟩
def mw {α:Type} {M:Model} {A:Ö} {t:Sem α} {Q:α->Á->Prop} {E:Ã->Á->Prop} {s:Á} (d:bu t) (h:Ó M A t Q E s):Ó M A t (fun a s'=>Q a s'/\Dk s.heap s'.heap) (fun e s'=>E e s'/\Dk s.heap s'.heap) s :=
 fun Z p i=>DH M Z t d (h Z p i) (Dk.refl _)
def cR {α β:Type} {t:Sem α} {f:α->Sem β} (h:bu t) (g:∀a,bu (f a)):bu (t >>= f):=by
 show bu (t.bind f)
 induction t with
 |pure a=>exact g a
 |raise e=>trivial
 |unsupported w=>trivial
 |finish w=>trivial
 |rule t k ih=>exact ih () h
 | «at» t k ih=>exact ih () h
 |load a p k ih=>exact fun o=>ih o (h o)
 |loadIfAlive a k ih=>exact fun o=>ih o (h o)
 |point a k ih=>exact ih () h
 |register a k ih=>trivial
 |fresh k ih=>exact fun o=>ih o (h o)
 |ask k ih=>exact fun o=>ih o (h o)
 |choose a n k ih=>exact fun o=>ih o (h o)
 |os a n k ih=>exact fun o=>ih o (h o)
 |call a b c n k ih=>exact h.elim
 |handled a k ih=>exact fun o=>ih o (h o)
 |genState a k ih=>exact fun o=>ih o (h o)
 |newGen a k ih=>exact fun o=>ih o (h o)
 |resume a b c k ih=>exact h.elim
 |yield a b c k ih=>trivial
 |stack k ih=>exact fun o=>ih o (h o)
 |fork a k ih=>trivial
 |thread k ih=>exact fun o=>ih o (h o)
 |await a b c e k ih=>trivial
 |alloc o k ih=>exact fun o=>ih o (h o)
 |update a p f k ih=>exact ⟨h.1,ih () h.2⟩
def oV (v:Ã) (i:Nat):bu (field v i):=by
 unfold field fieldsOf;refine cR ?_ fun a=>?_
 ·cases v with
  |ref a =>
   refine cR (fun o=>trivial) fun o=>?_
   split<;>trivial
  |_=>trivial
 ·split<;>trivial
def DJ (g:Array Ã->Array Ã) (o:Obj):(Obj.mapFields g o).dict=o.dict:=by
 unfold Obj.mapFields
 split<;>rfl
def sC (v:Ã) (i:Nat) (x:Ã):bu (setField v i x):=by
 unfold setField
 cases v with
 |ref a =>
  show bu (updateField a i x);unfold updateField;refine cR (fun o=>trivial) fun o=>?_;split
  ·split
   ·exact ⟨DJ _,trivial⟩
   ·trivial
  ·trivial
 |_=>trivial
def Gv (ty:String) (vs:List Ã):bu (newFields ty vs):=by
 show bu (if vs.toArray.size > Ï+2 then _ else newObjAsIs (.type ty) (.fields vs.toArray))
 split
 ·trivial
 ·exact fun _=>trivial
def rl (e:Ã) (f:Option Í):bu (setFlight e f):=by
 unfold setFlight;refine cR (oV _ _) fun a=>?_;split
 ·exact sC _ _ _
 ·trivial
theorem wL:∀l:List PySem.Env,bu (readyFrames l)
 | []=>trivial
 |env::outer=>by
  unfold readyFrames;split
  ·refine cR (fun o=>trivial) fun o=>?_
   split
   ·trivial
   ·refine cR ?_ fun b=>cR ?_ fun v=>cR ⟨fun _=>rfl,trivial⟩ fun _=>wL outer
    ·unfold behindIsImport
     split
     ·trivial
     ·split
      ·trivial
      ·exact cR (oV _ _) fun _=>trivial
    ·cases outer with
     |nil =>
      show bu (if (env.scope.isGenerator||env.scope.isCoroutine)=true then pure Value.none else _)
      split
      ·trivial
      ·exact fun _=>trivial
     |cons _ _=>trivial
  ·trivial
def DK (env:PySem.Env):bu (frameOf env):=by
 unfold frameOf frameEnvs;refine cR (fun _=>trivial) fun l=>cR ?_ fun r=>?_
 ·generalize l.dropWhile _=Z
  cases Z with
  |nil=>trivial
  |cons a r=>exact cR (wL _) fun _=>trivial
 ·split<;>trivial
def DL (f:Í) (b:Bool):bu (entryPlaceOf f b):=by
 unfold entryPlaceOf;refine cR (fun _=>trivial) fun a=>?_
 split<;>trivial
def xD (e:Ã) (env:PySem.Env):bu (noteFrame e env):=by
 unfold noteFrame;split
 ·refine cR (oV _ _) fun Z=>?_
  rename_i L _;have jp:bu (frameOf env >>= fun f=>entryPlaceOf L (Z != Value.none) >>= fun Y=>EntryCells.newEntry Z f Value.none (Ũ L) Value.none Y >>= fun b=>setField e 1 b) :=
   cR (DK env) fun f=>cR (DL _ _) fun Y=>cR (Gv _ _) fun b=>sC _ _ _
  show bu (if (Z != Value.none)=true then _ else _)
  split
  ·refine cR (oV _ _) fun x=>?_
   split
   ·trivial
   ·exact cR (sC _ _ _) fun _=>jp
  ·exact jp
 ·trivial
def wM (env:PySem.Env) (e:Ã):bu (leaving env e):=by
 unfold leaving;exact cR (xD e env) fun _=>rl _ _
open PySem.Spec PyProof.Rows
structure iL (P:Ò) (w:é) (outer:List Env) (H:Hp) (s:Á) (H':Hp) (B:ā) (a:Í) (cls a0:Ã) (h:ā):Prop where
 fl:Ů B outer a cls a0 h
 old:∀b o,s.heap.get? b=some o->H b=none->b∉bh outer->B.get? b=some o
 there:∀b o,s.heap.get? b=some o->b∉bh outer->∃o',B.get? b=some o'
 slot:∀b o,s.heap.get? b=some o->b∈bh outer->∃sl,h.get? b=some { o with slots:=sl }
 au:bE P w H' B
 free:∀b o,s.heap.get? b=some o->H b=none->H' b=none
 cN:∀b xs,H b=some (.tup xs)->H' b=some (.tup xs)
 cE:∀b o u,H b=some (.aI o u)->H' b=some (.aI o u)
 cO:∀b ps,H b=some (.cf ps)->∃more,H' b=some (.cf (ps++more))
def Dm (h:ā) (a:Í) (m:Option Í):Prop:=∀Z,m=some Z->∃o,h.get? a=some o/\o.dict=some Z
def Dm.aq (h:ā) (a:Í):Dm h a none:=fun _ z=>by cases z
def Dm.on {h h':ā} {a:Í} {m:Option Í} (x:Dm h a m) (k:Dk h h') (t:∃o,h'.get? a=some o):Dm h' a m:=fun X e=>by
 obtain ⟨o,e1,e2⟩:=x X e;obtain ⟨Z,Y⟩:=t;exact ⟨Z,Y,(k.2 a o e1 Z Y).trans e2⟩
def dJ (P:Ò) (w:é):fE:=fun outer H s E e Z=>∃a cls X Y B m,e=.ref a/\Z.os=s.os/\υ Z.gens/\iL P w outer H s Y B a cls X Z.heap/\Dm Z.heap a m/\E cls m Y
section
variable {P:Ò} {w:é} {outer:List Env} {H H':Hp} {s:Á} {B h h':ā} {a:Í} {cls a0:Ã}
def iL.un (F:iL P w outer H s H' B a cls a0 h):Un (bh outer) [] H H' s.heap h where
 keep:=fun b o e n Z _=>F.fl.1 b o (F.old b o e n Z)
 slot:=fun b o e n Z _=>F.slot b o e Z
 free:=fun b o e n _=>F.free b o e n
 there:=fun b o e _=>by
  by_cases Z:b∈bh outer
  ·obtain ⟨X,q⟩:=F.slot b o e Z
   exact ⟨_,q⟩
  ·obtain ⟨Y,q⟩:=F.there b o e Z
   exact ⟨Y,F.fl.1 b Y q⟩
 cN:=F.cN
 cE:=F.cE
 cO:=F.cO
def iL.held (F:iL P w outer H s H' B a cls a0 h):bE P w H' h:=F.au.kept fun b o e=>F.fl.1 b o e
def iL.on (F:iL P w outer H s H' B a cls a0 h) (hf:Ů B outer a cls a0 h') (hs:h.UpToSlots h'):iL P w outer H s H' B a cls a0 h' :=
 { F with
  fl:=hf
  slot:=fun b o e Z=>by
   obtain ⟨U,q⟩:=F.slot b o e Z;obtain ⟨_,T,Y,X⟩:=F.fl.2.2.1.mem Z;rw [q] at Y;cases Y;obtain ⟨W,V⟩:=hs b _ q X;exact ⟨W,V⟩ }
def cB.HQ {o:HO} (x:cB P w H h a o):∃ob,h.get? a=some ob:=by
 cases o with
 |lst Z=>obtain ⟨_,_,_,_,e⟩:=x;exact ⟨_,e⟩
 |tup Z=>obtain ⟨_,_,_,ob,e,_⟩:=x;exact ⟨ob,e⟩
 |dK Y=>obtain ⟨_,_,_,_,o,_,_,e,_⟩:=x;exact ⟨_,e⟩
 |dT Y=>obtain ⟨_,_,_,_,o,_,_,e,_⟩:=x;exact ⟨_,e⟩
 |set S n=>obtain ⟨o,_,_,_,e,_⟩:=x;exact ⟨_,e⟩
 |ins C X fs=>obtain ⟨_,_,_,e,_⟩:=x;exact ⟨_,e⟩
 |own y=>exact x
 |xd fs=>obtain ⟨_,⟨_,_,_,e,_⟩,_⟩:=x;exact ⟨_,e⟩
 |dF lo hi=>obtain ⟨_,_,_,e⟩:=x;exact ⟨_,e⟩
 |aI ob u=>obtain ⟨e,_⟩:=x;exact ⟨_,e⟩
 |cf W=>exact ⟨_,x⟩
 |met f y=>exact ⟨_,x⟩
 |ext V=>obtain ⟨_,e,_⟩:=x;exact e
def iL.new (F:iL P w outer H s H' B a cls a0 h):H' a=none:=by
 cases e:H' a with
 |none=>rfl
 |some o =>
  obtain ⟨Y,Z⟩:=(F.au a o e).HQ;rw [F.fl.2.1] at Z;cases Z
end
structure Lv (X:Cx) (E:XK):Prop where
 xe:X.xe=fun e s'=>Ó (Ø X.prog X.w) X.A (leaving X.env e) (fun _ gX=>dJ X.prog X.w X.outer X.iw X.bM E e gX) (fun e' gX=>dJ X.prog X.w X.outer X.iw X.bM E e' gX) s'
 gj:X.stack=X.env::X.outer
 fr:X.env.frame=some X.env.locals
 ex:X.ex=[]
section
variable {X:Cx} {E:XK} {π:List (Í×Obj)} {σ:St} {H:Hp} {s:Á}
def Inv.kU (I:Inv X π σ H s) (L:Lv X E) {b:Í} {o:Obj} (e:X.bM.heap.get? b=some o) (hb:b∉bh X.outer):b∉bh X.stack:=fun z=>by
 rcases ã.mp (I.jW b z) with q|q
 ·exact absurd (Ç e) (by rw [q];exact Ÿ.mpr I.ok.above)
 ·exact hb q
def oW (L:Lv X E) {b:Í} (hb:b∈bh X.outer):b∈bh X.stack:=by
 rw [L.gj];unfold bh;rw [Ŏ,L.fr];exact Ð _ hb
def jZ (L:Lv X E):Passes (dJ X.prog X.w) X E:=by
 intro π σ H s e S I h;obtain ⟨a,cls,R,M,B,m,rfl,os,bare,F,K,q⟩:=h;rw [L.xe];have fl:=F.fl;rw [L.gj] at fl
 refine ù (mw (wM _ _) (wpAny_leaves_onW (E:=fun _ _=>False) (Q:=fun _ P=>∃Y,P={ S with heap:=Y }/\Ů B X.outer a cls R Y/\S.heap.UpToSlots Y) (by rw [I.ok.frames,L.gj]) L.fr fl fun Y V U=>⟨Y,rfl,V,U⟩)) (fun _ P z=>?_) fun _ _ z=>z.1.elim
 obtain ⟨⟨Y,rfl,V,U⟩,J⟩:=z
 refine ⟨a,cls,R,M,B,m,rfl,os.trans I.os,bare,⟨V,fun b o e n Z=>?_,fun b o e Z=>?_,fun b o e Z=>?_,F.au,fun b o e n=>?_,fun b O e=>F.cN b O (I.base.cN b O e),fun b o u e=>F.cE b o u (I.base.cE b o u e),fun b G e=>?_⟩,K.on J (let ⟨o,e,_⟩:=V.there;⟨o,e⟩),q⟩
 ·exact F.old b o (I.base.keep b o e n Z (by rw [L.ex];simp)) (I.base.free b o e n (by rw [L.ex];simp)) (I.kU L e Z)
 ·obtain ⟨T,W⟩:=I.base.there b o e (by rw [L.ex];simp)
  exact F.there b T W (I.kU L e Z)
 ·obtain ⟨v,W⟩:=I.base.slot b o e (I.ok.gO b Z) Z (by rw [L.ex];simp)
  obtain ⟨t,e2⟩:=F.slot b _ W (oW L Z);obtain ⟨_,r,N,D⟩:=F.fl.2.2.1.mem (oW L Z);rw [e2] at N;cases N;obtain ⟨C,A⟩:=U b _ e2 D;exact ⟨C,A⟩
 ·obtain ⟨T,W⟩:=I.base.there b o e (by rw [L.ex];simp)
  exact F.free b T W (I.base.free b o e n (by rw [L.ex];simp))
 ·obtain ⟨y,e1⟩:=I.base.cO b G e
  obtain ⟨x,e2⟩:=F.cO b _ e1;exact ⟨y++x,by rw [e2,Array.append_assoc]⟩
def B9 (L:Lv X E) (I:Inv X π σ H s) {h1:ā} {e:Í} {cls:Ã} {us:List Ã} (hm:Heap.MadeExcOf s.heap h1 e cls us) (q:E cls none H):X.xe (.ref e) { s with heap:=h1 }:=by
 rw [L.xe];have V:=I.stack;have U:∀b u,H b=some u->b∉bh X.stack:=fun b u e z=>by rw [I.mz b z] at e;cases e
 refine wpAny_leaves_madeW (base:=PySem.W.hideAll s.heap (bh X.stack)) (h:=s.heap) (env:=X.env) (outer:=X.outer) (by rw [I.ok.frames,L.gj]) L.fr (fun b o e=>PySem.W.of_hideAll _ e) ?_ hm fun J t S _ _ R=>⟨e,cls,_,H,PySem.W.hideAll s.heap (bh X.stack),none,rfl,I.os,I.bare,⟨S,fun b o e n Z=>?_,fun b o e Z=>?_,fun b o e Z=>?_,fun b u e=>?_,fun b o e n=>I.base.free b o e n (by rw [L.ex];simp),I.base.cN,I.base.cE,I.base.cO⟩,Dm.aq _ _,q⟩
 ·rw [<- L.gj]
  refine PySem.W.funFrames_hide V fun env Q a P=>?_;unfold bh;exact Į.mpr ⟨env,Q,P⟩
 ·exact ō _ (I.base.keep b o e n Z (by rw [L.ex];simp)) (I.kU L e Z)
 ·obtain ⟨O,Y⟩:=I.base.there b o e (by rw [L.ex];simp)
  exact ⟨O,ō _ Y (I.kU L e Z)⟩
 ·obtain ⟨G,Y⟩:=I.base.slot b o e (I.ok.gO b Z) Z (by rw [L.ex];simp)
  obtain ⟨_,F,T,N⟩:=V.mem (oW L Z);rw [Y] at T;cases T;obtain ⟨M,K⟩:=R b _ (hm.keeps b _ Y) N;exact ⟨M,K⟩
 ·refine (I.au b u e).cu (fun c v hc z=>ō _ z ?_) (fun _ z=>z) fun _ _ z=>z
  rcases hc with rfl|hc
  ·exact U c _ e
  ·exact U c _ hc
def Gw (X:Cx) (M:Mod X.K X.mg X.base) {x:Str} {C:Í} {dq:List Ã} {newId:String} (eC:Ü X.K È x=some (some (.ref C))) (qC:ω X.K C dq newId=true):OwnCls x C dq newId X.mg X.base:=by
 have KB:=M.gg;refine ⟨ē KB M.glob eC,?_⟩;unfold ω at qC;split at qC
 case h_2=>cases qC
 rename_i P cd Y O;split at qC
 case h_2=>cases qC
 rename_i H bm V a1 a2 U nw T S hs;simp only [Ä,beq_iff_eq,ľ] at qC;obtain ⟨⟨⟨⟨⟨N,L⟩,R⟩,J⟩,Z⟩,Q⟩:=qC;subst N L;cases cd;dsimp only at S R Z Q;subst S R;have I:Y=#[V,a1,a2,U,some (.builtin nw),T]:=by cases Y;simp only at hs;rw [hs]
 subst I;exact ⟨bm,_,_,_,_,_,_,_,_,_,P,V,a1,a2,U,T,_,KB _ _ O,.of_isNs (PySem.W.isNs_of_in KB Z),PySem.W.nsMap_none_of_in KB Z Q,PySem.W.tail_of_in KB J⟩
def DM {x:Str} {C:Í} {dq:List Ã} {B newId mP:String} {np aO pos:Pos} {i6:ÿ} {rest:List ÿ} {t:TA} (L:Lv X E) (eC:Ü X.K È x=some (some (.ref C))) (qC:ω X.K C dq newId=true) (FB:ExcBaseFacts B newId mP dq) (hc:X.calm=true) (hg:Gl X x) (ha:PA X (i6::rest) t) (hd:(x==("__debug__":Str))=false:=by decide)
  (he:Æ (i6::rest) X.env=(false,Ĝ i6 X.env)::Æ rest X.env:=by rfl) (dZ:(ď aO (Æ rest X.env)).any (·.1)=false:=by rfl) :
  PS X (.Raise (some (.Call (.Name x np) (i6::rest) [] aO)) none pos) (fun _ σ H=>t σ H fun vs H1=>vs.length<=Ï/\E (.ref C) none H1):=by
 intro π s σ H D I h;have O:OwnCls x C dq newId X.mg X.base:=Gw X I.ok.mod eC qC;obtain ⟨W,N,nm,q,bs,hdct,sn,sub,ab,col,dd,k0,k1,k2,k3,k5,mN,V,U,S,T⟩:=O.obj;refine wpAny_Raise_call_subT (C:=C) (nm:=nm) (q:=q) (N:=N) (bs:=bs) (bm:=W) (hdct:=hdct) (sn:=sn) (sub:=sub) (ab:=ab) (col:=col) (dd:=dd) (k0:=k0) (k1:=k1) (k2:=k2) (k3:=k3) (k5:=k5)
  FB (mN:=mN) (T.hasType FB.hasBase) (I.ok.hd hc) (by rw [he];show (false||(ď aO (Æ rest X.env)).any (·.1))=false;rw [dZ];rfl) S (jU I hg O.bound ⟨rfl,?_⟩ hd)
 have Y:=ha aO π s σ H _ I h;rw [he] at Y |-;refine ű (aL Y fun P M ⟨vs,H1,Z,r,z,R⟩=>⟨rfl,by rw [<- r.length];exact z,Z.bk _ _ V,U.keeps Z.bk,T.keeps Z.bk,fun J e Q=>?_⟩);exact B9 L Z Q R
end
end L2
namespace DI
open PySem L2
abbrev GG (K:ð) (mg:Str->Option Ã) (x:Str) (st:μ) (ps:List Str):Prop:=∃f fd,Gd K mg x st ps f fd
abbrev gv (P:Ò) (w:é) (K:ð) (mg:Str->Option Ã) (base:ā) (x:Str) (st:μ) (ps:List Str) (k:Nat) (fn:List D->aa->Res D):Prop:=∀{f:Í} {fd:ô},Gd K mg x st ps f fd->bP P w K mg base bV k f fd ps (fI K fn)
noncomputable def jz (N ps:List Str) (sc:Ł):Bool:=decide (sc.kind=.function)&&!sc.isCoroutine&&!sc.isGenerator&&decide N.Nodup&&decide (N.take ps.length=ps)&&ps.all (fun x=>decide (sc.names.lookup x=some .local\/sc.names.lookup x=some .cell))&&sc.names.all (fun y=>decide (y.2≠.free))
def gE (h:jz N ps sc=true):iQ N ps sc:=by
 unfold jz at h;simp only [Ä,ľ,Ô,Đ] at h;obtain ⟨⟨⟨⟨⟨⟨Z,Y⟩,X⟩,W⟩,V⟩,U⟩,T⟩:=h;exact ⟨Z,Y,X,W,V,U,T⟩
def gI (G:Gd K mg x st ps f fd) (N:List Str) (S:jz N ps (bI st)=true)
 (hb:N.Nodup->∀(aB:Ã) (A:Ö) (outer:List PySem.Env) (s:Á) (H:Hp) (E:XK),bc k (A.deeper (Č x (bI st) s.heap.objs.size f aB))->bQ (er bV P w K mg base N x (bI st) f aB A outer s H E).i9 (eR st) (tS K bY b)) :
  bP P w K mg base bV (k+1) f fd ps (fI K (aZ ps.length N.length b)):=y9 G.fn (gE S) (hb (gE S).nd)
section
variable {X:Cx} {Ξ:Wd->aM->Prop} {e a b c tg el src:ÿ} {es rest tests:List ÿ} {pos:Pos} {f g h:MG D} {fa:MG (List D)} {ft gt:MG Bool}
def bD {k n:Nat} {x:Str} {st:μ} {ps:List Str} {fn:List D->aa->Res D} {p:Pos} (G:GG X.K X.mg x st ps) (F:gv X.prog X.w X.K X.mg X.base x st ps k fn) (hr:bc n X.A) (ha:PA X (e::es) (tA X.K Ξ fa)) (hk:k<=n:=by decide) (hg:Gl X x:=by rfl) (cG:(x==("__debug__":Str))=false:=by decide)
  (he:Æ (e::es) X.env=(false,Ĝ e X.env)::Æ es X.env:=by rfl) (bN:(ď pos (Æ es X.env)).any (·.1)=false:=by rfl):PE X (.Call (.Name x p) (e::es) [] pos) (tE X.K Ξ (aK fn fa)):=by
 obtain ⟨f,fd,G⟩:=G;exact mK (F G) (hr.mono hk) hg G.mg G.fn.kp G.b ha cG he bN
def aV (ha:PE X a (tE X.K Ξ f)) (hs:Æ [a] X.env=(false,Ĝ a X.env)::Æ [] X.env:=by rfl):PA X [a] (tA X.K Ξ (ae f ag)):=bU ha fV hs
def aP (ha:PE X a (tE X.K Ξ f)) (hb:PE X b (tE X.K Ξ g)) (h1:Æ [a,b] X.env=(false,Ĝ a X.env)::Æ [b] X.env:=by rfl) (h2:Æ [b] X.env=(false,Ĝ b X.env)::Æ [] X.env:=by rfl):PA X [a,b] (tA X.K Ξ (ae f (ae g ag))):=bU ha (bU hb fV h2) h1
def ee (ha:PE X a (tE X.K Ξ f)) (hb:PE X b (tE X.K Ξ g)) (hc:PE X c (tE X.K Ξ h)) (h1:Æ [a,b,c] X.env=(false,Ĝ a X.env)::Æ [b,c] X.env:=by rfl) (h2:Æ [b,c] X.env=(false,Ĝ b X.env)::Æ [c] X.env:=by rfl) (h3:Æ [c] X.env=(false,Ĝ c X.env)::Æ [] X.env:=by rfl):PA X [a,b,c] (tA X.K Ξ (ae f (ae g (ae h ag)))):=bU ha (bU hb (bU hc fV h3) h2) h1
def nK {x:Str} {px:Pos} {sc:Ł} {ps:Pos} (N:List Str) {cap:List Nat} {it:MG (List D)} (hi:PI X (.Name x px) src (iG X.K Ξ it))
  (hY:∀(cl:List (Str×Í)) (C:Í) (s:Á) (H:Hp) (ex:List Í) (pn:List (Í×Obj)),PF (dj X N sc cl C s H ex pn) tests (tT X.K bY ft)/\PE (dj X N sc cl C s H ex pn) el (tE X.K bY f))
  (hc:X.calm=true:=by rfl) (S:sA sc X.env.scope.names X.N N 1 cap=true:=by kernel_rfl) (nd:N.Nodup:=by decide +kernel) (h0:N[0]?=some x:=by rfl) (hx:∀cl C s H ex pn,(dj X N sc cl C s H ex pn).env.scope.names.lookup x=some .local:=by intros;rfl) (hs:∀x,ĕ src X.env x=pure x:=by intro _;rfl) :
  PE X (.ListComp el [⟨.Name x px,src,tests,0⟩] sc ps) (tE X.K Ξ (dw 1 cap it (gN 0) ft f)) :=
 EJ hc (zj S) (EB 0) hi (fun cl C s H ex pn=>⟨o9 nd h0 (.inl (hx cl C s H ex pn)) (.inr (hx cl C s H ex pn)),hY cl C s H ex pn⟩) hs
end
def eI (mg:Str->Option Ã) (E:XK):Wd->aM->Prop:=fun w x=>∃C,mg x.c=some (.ref C)/\match x.many with
 |none=>E (.ref C) none w.H
 |some i=>∀Z Y t,w.H Z=none->ν "many" Y=some (some (.int i t))->E (.ref C) (some Z) (upd w.H Z (.aI Y (.own Z)))
def l7 (mg:Str->Option Ã) (K:ð) (f:List D->aa->Res D):Sp:=fun X H Q E=>∃w Z,w.H=H/\aG K w/\aj K w Z X/\Out K (eI mg E) w (f Z w.ax) fun Y d=>∀v,DV K Y d v->Q v Y.H
def mQ (c:Str) (fa:MG (List D)):MG Fl:=fun env s=>ak (fa env s) fun Z s=>if decide (Z.length<=10)=true then some (.error ⟨c,none⟩,s) else none
def ql (K:ð) (mg:Str->Option Ã) (x:Str):Prop:=∃C,Ü K È x=some (some (.ref C))/\mg x=some (.ref C)/\ω K C [.type "ValueError",.type "Exception",.type "BaseException",.type "object"] "ValueError.__new__"=true
def cS (fn:List D->aa->Res D) (fa:MG (List D)):MG D:=fun env s=>ak (fa env s) fn
section
variable {X:Cx} {E:XK} {Ξ:Wd->aM->Prop} {e a b c:ÿ} {es rest:List ÿ} {pos:Pos} {f g h:MG D} {fa:MG (List D)}
def sd {x:Str} {np aO:Pos} {i6:ÿ} (L:Lv X E) (hO:ql X.K X.mg x) (ha:PA X (i6::rest) (tA X.K (eI X.mg E) fa)) (hc:X.calm=true:=by rfl) (hg:Gl X x:=by rfl) (hd:(x==("__debug__":Str))=false:=by decide)
  (he:Æ (i6::rest) X.env=(false,Ĝ i6 X.env)::Æ rest X.env:=by rfl) (dZ:(ď aO (Æ rest X.env)).any (·.1)=false:=by rfl) :
  PS X (.Raise (some (.Call (.Name x np) (i6::rest) [] aO)) none pos) (tS X.K (eI X.mg E) (mQ x fa)) :=
 let ⟨C,eC,V,U⟩:=hO
 iU (DM L eC U PySem.F.excBase_ValueError hc hg ha hd he dZ) fun N σ H T=>by
  obtain ⟨w,env,R,S,Q,h⟩:=T;subst R;refine ⟨w,env,rfl,S,Q,(Out.ak h).mono fun W M J P Z I O=>?_⟩;split at Z
  ·rename_i Y
   have Y:=ó Y;obtain ⟨G,e1,q⟩:=Z W (Le.refl W) P rfl;rw [V] at e1;cases e1;exact ⟨ß (by rw [<- O.length];exact Y) (by decide),q⟩
  ·exact Z.elim
def EN {k:Nat} {fA:Í} {fd:ô} {jL:List Str} {fn:List D->aa->Res D} {x:Str} {p:Pos} (L:Passes (dJ X.prog X.w) X E) (F:bP X.prog X.w X.K X.mg X.base (dJ X.prog X.w) k fA fd jL (l7 X.mg X.K fn)) (hr:bc k X.A) (hg:Gl X x) (hm:X.mg x=some (.ref fA)) (hk:Ą X.K (.ref fA)=true) (hb:Binds X.K fd jL [])
  (ha:PA X (e::es) (tA X.K (eI X.mg E) fa)) (cG:(x==("__debug__":Str))=false:=by decide) (he:Æ (e::es) X.env=(false,Ĝ e X.env)::Æ es X.env:=by rfl) (bN:(ď pos (Æ es X.env)).any (·.1)=false:=by rfl) :
  PE X (.Call (.Name x p) (e::es) [] pos) (tE X.K (eI X.mg E) (cS fn fa)):=ck (rV F hr hg hm hk hb .nil L ha cG he bN) fun σ H Q Y=>by
 obtain ⟨w,env,W,S,V,h⟩:=Y;subst W;refine ⟨w,env,rfl,S,V,(Out.ak h).mono fun Z U N T R P O=>?_⟩;show l7 X.mg X.K fn (P++[]) Z.H Q E;rw [Ć];exact ⟨Z,U,rfl,T,O,R⟩
def Gx {α:Type} {K:ð} {w:Wd} {r:Res α} {k:Wd->α->Prop} (h:Out K bY w r k):Out K Ξ w r k:=by
 match r,h with
 |some (.ok a,s),h=>exact h
 |some (.error x,s),h=>exact fun Z l S e=>(h Z l S e).elim
def Gy:Passes (dJ X.prog X.w) X E0:=fun _ _ _ _ _ _ _ ⟨_,_,_,_,_,_,_,_,_,_,_,q⟩=>q.elim
def EO {k:Nat} {fA:Í} {fd:ô} {jL:List Str} {fn:List D->aa->Res D} {x:Str} {p:Pos} (F:bP X.prog X.w X.K X.mg X.base (dJ X.prog X.w) k fA fd jL (l7 X.mg X.K fn)) (hr:bc k X.A) (hg:Gl X x) (hm:X.mg x=some (.ref fA)) (hk:Ą X.K (.ref fA)=true) (hb:Binds X.K fd jL [])
  (ha:PA X (e::es) (tA X.K Ξ fa)) (cG:(x==("__debug__":Str))=false:=by decide) (he:Æ (e::es) X.env=(false,Ĝ e X.env)::Æ es X.env:=by rfl) (bN:(ď pos (Æ es X.env)).any (·.1)=false:=by rfl) :
  PE X (.Call (.Name x p) (e::es) [] pos) (tE X.K Ξ (aK fn fa)):=ck (rV F hr hg hm hk hb .nil Gy ha cG he bN) fun σ H Q Y=>by
 obtain ⟨w,env,W,S,V,h⟩:=Y;subst W;refine ⟨w,env,rfl,S,V,(Out.ak h).mono fun Z U N T R P O=>?_⟩;show l7 X.mg X.K fn (P++[]) Z.H Q E0;rw [Ć];exact ⟨Z,U,rfl,T,O,Gx R.ne⟩
end
def pG {P:Ò} {w:é} {K:ð} {mg:Str->Option Ã} {base:ā} {x:Str} {st:μ} {f:Í} {fd:ô} {ps:List Str} {k:Nat} {b:MG Fl} (G:Gd K mg x st ps f fd) (N:List Str) (S:jz N ps (bI st)=true)
  (hb:N.Nodup->∀(aB:Ã) (A:Ö) (outer:List PySem.Env) (s:Á) (H:Hp) (E:XK),bc k (A.deeper (Č x (bI st) s.heap.objs.size f aB))->Lv (er (dJ P w) P w K mg base N x (bI st) f aB A outer s H E) E->bQ (er (dJ P w) P w K mg base N x (bI st) f aB A outer s H E) (eR st) (tS K (eI mg E) b)) :
  bP P w K mg base (dJ P w) (k+1) f fd ps (l7 mg K (aZ ps.length N.length b)):=by
 obtain ⟨J,I,kV,doc,pm,an,aB,ct,F,rfl,lk,V⟩:=G.fn.ex;refine sZ lk V (gE S) (fun U H Q E h=>?_) fun A outer s H U Q E T h=>?_
 ·obtain ⟨w,R,rfl,S,Y,h⟩:=h
  rw [<- Y.length];unfold aZ at h;split at h
  ·assumption
  ·exact h.elim
 ·obtain ⟨X,R,rfl,O,Y,h⟩:=h
  refine ⟨_,hb (gE S).nd aB A outer s X.H E T ⟨rfl,rfl,rfl,rfl⟩,?_⟩;unfold aZ at h;split at h
  ·rename_i M
   rw [<- M] at h;refine ⟨X,_,rfl,O,Y.env N.length,(Out.ak h).mono fun D L C W Z=>?_⟩
   cases L with
   |nx env=>intro B _;exact aw W Z _ rfl
   |rt d=>have q:=aw W Z;exact q
   |bk env=>exact Z.elim
   |ct env=>exact Z.elim
  ·exact h.elim
end DI
namespace L2
open PySem PySem.Spec PyProof.Rows PySem.W
structure HR (env:Env) (names:List (Str×Ĩ)) (cl:List (Str×Í)):Prop where
 ng:∀x c,cl.lookup x=some c->env.cells.lookup x=some c
 all:∀x,(x,Û)∈names->∃c,cl.lookup x=some c
theorem rL {env:Env}:∀(names:List (Str×Ĩ)) (acc:List (Str×Í)),(∀x,(x,Û)∈names->∃c,env.cells.lookup x=some c)->(∀x c,acc.lookup x=some c->env.cells.lookup x=some c) ->
  ∃cl,(forIn names acc fun (p:Str×Ĩ) (r:List (Str×Í))=>(match p with | (name,kind)=>if kind==.free then (do let c <- cellOf env name;pure (Ĉ ((name,c)::r))) else pure (Ĉ r):Sem (ForInStep (List (Str×Í)))))=pure cl /\
   (∀x c,cl.lookup x=some c->env.cells.lookup x=some c)/\(∀x,(x,Û)∈names->∃c,cl.lookup x=some c)/\∀x c,acc.lookup x=some c->∃c,cl.lookup x=some c
 | [],acc,_,Y=>⟨acc,by simp,Y,fun _ h=>(Ċ h).elim,fun x c h=>⟨c,h⟩⟩
 |(y,k)::r,acc,W,Y=>by
  by_cases V:k=.free
  ·subst V
   obtain ⟨c,e⟩:=W y Ý;have Q:∀x Z,((y,c)::acc).lookup x=some Z->env.cells.lookup x=some Z:=fun x Z h=>by
    rw [û] at h;split at h
    ·rename_i q
     have q:x=y:=by simpa using q
     cases h;rw [q];exact e
    ·exact Y x Z h
   obtain ⟨cl,U,T,S,X⟩:=rL r ((y,c)::acc) (fun x h=>W x (Ð _ h)) Q;have R:∃c,cl.lookup y=some c:=X y c (by rw [û];simp);refine ⟨cl,?_,T,fun x h=>?_,fun x Z h=>?_⟩
   ·rw [ŝ]
    simp only [ğ,ĭ,cellOf,e,pure_bind];exact U
   ·rcases ã.mp h with q|q
    ·cases q;exact R
    ·exact S x q
   ·by_cases q:x=y
    ·rw [q];exact R
    ·exact X x Z (by rw [û,show (x==y)=false by simpa using q];exact h)
  ·obtain ⟨cl,U,T,S,X⟩:=rL r acc (fun x h=>W x (Ð _ h)) Y
   refine ⟨cl,?_,T,fun x h=>?_,X⟩
   ·rw [ŝ]
    have P:(k==Û)=false:=by simpa using V
    simp only [P,Ë,ü,pure_bind];exact U
   ·rcases ã.mp h with q|q
    ·cases q;exact absurd rfl V
    ·exact S x q
def DN {env:Env} {scope:Ł} (hc:∀x,(x,Û)∈scope.names->∃c,env.cells.lookup x=some c):∃cl,closureFor scope env=pure cl/\HR env scope.names cl:=by
 obtain ⟨cl,Z,Y,X,_⟩:=rL scope.names [] hc (fun x c h=>by cases h);refine ⟨cl,?_,Y,X⟩;unfold closureFor;simp only [pure_bind,bind_pure];exact Z
noncomputable abbrev pH (q:Str) (params:ś) (body:ÿ) (scope:Ł) (cl:List (Str×Í)) (pm:Ã) (c':Í) (eJ:Ã):Obj:=kla_obj "<lambda>" q params body scope cl pm c' eJ
section
variable {X:Cx} {π:List (Í×Obj)} {σ:St} {H:Hp} {s:Á}
def Inv.table {P c':Í} {ps qH:Array Ã} {oc:Obj} {h':ā} {t':Nat} (I:Inv X π σ H s) (hP:H P=some (.cf ps)) (hx:Heap.ExtBut P s.heap h') (hc:s.heap.objs.size<=c') (i8:h'.get? c'=some oc) (ht:h'.get? P=some (tabObj (ps++qH))) :
  Inv X π σ (upd (upd H c' (.aI oc (.own c'))) P (.cf (ps++qH))) { s with heap:=h',toks:=t' }:=by
 have Y:H c'=none:=I.au.fresh hc;have U:c'≠P:=fun z=>by rw [z,hP] at Y;cases Y
 have ne:∀b u,H b=u->u≠some (.cf ps)->b≠P:=fun b u e d z=>by rw [z,hP] at e;exact d e.symm
 have at_:∀b u,H b=some u->b≠P->upd (upd H c' (.aI oc (.own c'))) P (.cf (ps++qH)) b=some u:=fun b u e n=>by rw [aF n,aF (bA e Y)];exact e
 refine I.un ⟨fun b o e n _ _=>hx b o (ne b _ n (by intro z;cases z)) e,fun b o e n _ _=>⟨o.slots,hx b o (ne b _ n (by intro z;cases z)) e⟩,fun b o e n _=>?_,fun b o e _=>?_,fun b V e=>at_ b _ e (ne b _ e (by intro z;cases z)),fun b o u e=>at_ b _ e (ne b _ e (by intro z;cases z)),fun b T e=>?_⟩ fun b u e=>?_
 ·rw [aF (ne b _ n (by intro z;cases z)),aF (à (Å (Ç e) hc))];exact n
 ·by_cases Z:b=P
  ·exact ⟨_,Z ▸ ht⟩
  ·exact ⟨o,hx b o Z e⟩
 ·by_cases Z:b=P
  ·subst Z
   rw [hP] at e;cases e;exact ⟨qH,b9⟩
  ·exact ⟨#[],by rw [at_ b _ e Z];simp⟩
 ·by_cases Z:b=P
  ·subst Z
   rw [b9] at e;cases e;exact ht
  ·rw [aF Z] at e
   by_cases W:b=c'
   ·subst W
    rw [b9] at e;cases e;exact ⟨i8,oc,i8⟩
   ·rw [aF W] at e
    refine (I.au b u e).cu (fun c v hc q=>hx c v ?_ q) (fun c q=>at_ c _ q (ne c _ q (by intro z;cases z))) fun c V q=>at_ c _ q (ne c _ q (by intro z;cases z))
    rcases hc with z|z
    ·rw [z];exact Z
    ·exact ne c _ z (by intro z;cases z)
def DO {params:ś} {body:ÿ} {scope:Ł} {dE:Pos} {cl:List (Str×Í)} {c P:Í} {ps:Array Ã} {E:Ã->Á->Prop} {A:Ö} {Q:Ã->Á->Prop} (I:Inv X π σ H s) (cH:closureFor scope X.env=pure cl) (pW:X.env.code=.ref c) (C:CodeHd X.base c P) (hb:X.base.BuiltinsAt X.mg P)
  (hP:H P=some (.cf ps)) (ht:TriplesOk ps.toList) (uv:defaultsOf params X.env=([],[]))
  (Jp:∀cv,codeAmong dE ps.toList=some cv->∃c' oc vs t,cv=.ref c'/\H c'=some (.aI oc (.own c'))/\oc.data=.fields vs/\vs[1]?=some (.str (X.env.qual++"<lambda>") t))
  (h:∀(f c':Í) (eJ:Ã) (oc:Obj) (vs:Array Ã) (t:Tok) (H1:Hp) (s1:Á),Inv X π σ H1 s1->s.heap.objs.size<=f->H1 f=none->s1.heap.get? f=some (pH (X.env.qual++"<lambda>") params body scope cl ((X.mg "__name__").getD .none) c' eJ)->H1 c'=some (.aI oc (.own c'))->oc.data=.fields vs->vs[1]?=some (.str (X.env.qual++"<lambda>") t) ->
   (H1=H\/(H c'=none/\c'≠P/\H1=upd (upd H c' (.aI oc (.own c'))) P (.cf (ps++#[Ũ dE.line,Ũ dE.col,.ref c']))/\TriplesOk (ps++#[Ũ dE.line,Ũ dE.col,.ref c']).toList))->Q (.ref f) s1) :
  Ó (Ø X.prog X.w) A (Ĝ (.Lambda params body scope dE) X.env) Q E s:=by
 have Y:s.heap.get? P=some (tabObj ps):=I.au P _ hP;have M:CodeHd s.heap c P:=C.keeps I.bk
 have L:s.heap.BuiltinsAt X.mg P:=let ⟨bm,o,a1,a2,G,F,D,r⟩:=hb;⟨bm,o,a1,a2,G,F,I.bk _ _ D,r⟩
 have W:s.heap.Ns È X.mg:=I.ok.mod.glob.keeps I.bk;have B:È≠P:=fun q=>by
  obtain ⟨o,g,d,e,V,_⟩:=W;rw [q,Y] at e;cases e;cases V
 refine kla_eval uv ?_
 cases U:codeAmong dE ps.toList with
 |some cv =>
  obtain ⟨c',oc,vs,t,rfl,y,x,v⟩:=Jp cv U;refine kla_makeFunctionHit cH I.ok.glob W pW M Y ht U L fun eJ h' T u Z=>?_
  have S:Inv X π σ H { s with heap:=h'.push (pH (X.env.qual++"<lambda>") params body scope cl ((X.mg "__name__").getD .none) c' eJ),toks:=T }:=I.kept fun b o e=>Â _ (u b o e)
  exact h _ c' eJ oc vs t H _ S Z (I.au.fresh Z) (Ñ _ rfl) y x v (.inl rfl)
 |none =>
  refine kla_makeFunction cH I.ok.glob W pW M Y ht U B L fun c' eJ h' T p R K m l=>?_;obtain ⟨c₂,oc,vs,t,e2,k,V,j⟩:=m;cases e2;have O:H c'=none:=I.au.fresh R;have J:c'≠P:=fun z=>by rw [z,hP] at O;cases O
  have S:=I.table (t':=T) hP (h':=h'.push (pH (X.env.qual++"<lambda>") params body scope cl ((X.mg "__name__").getD .none) c' eJ)) (fun b o n e=>Â _ (p b o n e)) R (Â _ k) (Â _ l);have N:s.heap.objs.size<=h'.objs.size:=ß R (Nat.le_of_lt K);have i:h'.objs.size≠P:=fun z=>by have:=Ç Y;rw [<- z] at this;exact absurd (Å this N) (ê _)
  refine h _ c' eJ oc vs t _ _ S N ?_ (Ñ _ rfl) ?_ V j (.inr ⟨O,J,rfl,?_⟩)
  ·rw [aF i,aF (ĳ K)];exact I.au.fresh N
  ·rw [aF J,b9]
  ·rw [Array.toList_append]
   exact TriplesOk_snoc _ _ _ _ ht
end
def CL {pos:Pos} {c cv:Ã} {a b:Int} (l:List Ã) (h:TriplesOk l) (e:codeAmong pos (l++[Ũ a,Ũ b,c])=some cv):codeAmong pos l=some cv\/cv=c:=by
 fun_induction TriplesOk l with
 |case1 =>
  simp only [Ę,codeAmong,Ũ] at e;split at e
  ·cases e;exact .inr rfl
  ·cases e
 |case2 a t b u x rest ih =>
  simp only [đ,codeAmong] at e |-;split
  ·rename_i q;rw [ë q] at e;exact .inl e
  ·rename_i q;rw [î q] at e;exact ih h e
 |case3 l Z Y=>exact h.elim
def l8 (P:Ò) (w:é) (K:ð) (mg:Str->Option Ã) (base:ā) (N:List Str) (qual:Str) (scope:Ł) (f:Í) (cd:Ã) (cl:List (Str×Í)) (A:Ö) (outer:List Env) (s:Á) (H:Hp) (E:XK):Cx where
 prog:=P
 w:=w
 K:=K
 mg:=mg
 base:=base
 A:=A.deeper (envX qual scope s.heap.objs.size f cd cl)
 N:=N
 bM:=s
 iw:=H
 env:=envX qual scope s.heap.objs.size f cd cl
 outer:=outer
 stack:=envX qual scope s.heap.objs.size f cd cl::outer
 ex:=[]
 calm:=true
 fn:=fun _=>false
 pn:=[]
 xe:=fun e Y=>Ó (Ø P w) (A.deeper (envX qual scope s.heap.objs.size f cd cl)) (leaving (envX qual scope s.heap.objs.size f cd cl) e) (fun _ Z=>dJ P w outer H s E e Z) (fun X Z=>dJ P w outer H s E X Z) Y
structure DP (N:List Str) (scope:Ł):Prop where
 co:scope.isCoroutine=false
 gen:scope.isGenerator=false
 kind:scope.kind=.function
 so:∀x∈scope.names,x.2≠.cell
def Gz {P:Ò} {w:é} {K:ð} {mg:Str->Option Ã} {base:ā} {k:Nat} {f c':Í} {N:List Str} {q:Str} {params:ś} {body:ÿ} {scope:Ł} {cl:List (Str×Í)} {pm eJ:Ã} {vs:List V} {t:XK->TE} {oc:Obj} {fs:Array Ã} {tq:Tok}
  (S:DP N scope) (ho:base.get? f=some (pH q params body scope cl pm c' eJ)) (hl:N.length=vs.length)
  (inj:∀x y c,cl.lookup x=some c->cl.lookup y=some c->x=y) (has:∀x,scope.names.lookup x=some .free->∃c,cl.lookup x=some c) (j0:∀x c,cl.lookup x=some c->∃v,base.IsCell c v)
  (hv:∀(i:Nat) x v,N[i]?=some x->vs[i]?=some v->scope.names.lookup x=some .free/\∃c u,cl.lookup x=some c/\base.IsCell c (some u)/\RelV v u)
  (ib:oc.data=.fields fs) (fK:fs[1]?=some (.str q tq))
  (gG:∀(A:Ö) (outer:List Env) (s:Á) (H:Hp) (E:XK),bc k (A.deeper (envX q scope s.heap.objs.size f (.ref c') cl))->Lv (l8 P w K mg base N q scope f (.ref c') cl A outer s H E) E->PE (l8 P w K mg base N q scope f (.ref c') cl A outer s H E) body (t E)) :
  bP P w K mg base (dJ P w) (k+1) f (kla_fn "<lambda>" q params body scope cl pm (.ref c') eJ) [] (fun us H Q E=>us=[]/\H c'=some (.aI oc (.own c'))/\t E (vs.map some) H Q):=by
 refine ⟨fun us H Q E h=>by rw [h.1];rfl,fun A outer s H args us KU Q E W Z R r O=>?_⟩;obtain ⟨_,M,L⟩:=O;have lim:s.heap.NoLimit:=Z.mod.nolimit.keeps fun b o e=>(Z.bs b o e).1;have bk:∀b o,base.get? b=some o->s.heap.get? b=some o:=fun b o e=>(Z.bs b o e).1;have G:s.heap.CodeRec (.ref c') q:=⟨c',oc,fs,tq,rfl,(Z.au c' _ M).1,ib,fK⟩;refine kla_callFunE W.depth (bk _ _ ho) rfl S.co S.gen rfl G (R _ _ _ _ ?_);refine wpAny_newFunctionEnv S.so (fun x F=>absurd F (by simp)) (fun T D C=>?_) S.kind;have Y:∀b o,s.heap.get? b=some o->T.get? b=some o:=fun b o e=>C.extBut b o (à (Ç e)) (Â _ e);refine ⟨lim.keeps Y,?_⟩;show ż _ _ (.expr body (envX q scope s.heap.objs.size f (.ref c') cl)) _ _;have B:bc k (A.deeper (envX q scope s.heap.objs.size f (.ref c') cl)):=W.deeper _;have n:∀c v,base.IsCell c v->H c=none:=fun c v ⟨o,e,_⟩=>(Z.bs c o e).2;have U:∀b:Í,b∉(l8 P w K mg base N q scope f (.ref c') cl A outer s H E).ex:=fun b z=>absurd (show b∈([]:List Í) from z) (by simp)
 have I:Inv (l8 P w K mg base N q scope f (.ref c') cl A outer s H E) [] (vs.map some) H { s with heap:=T,toks:=s.toks+([]:List (Str×Ã)).length }:=by
  refine ⟨⟨Z.mod,S.kind,rfl,rfl,MK _,inj,fun y hy=>?_,fun y c h=>absurd h Î,fun _=>W.hd,Around.frames_deeper Z.frames,.inr ⟨rfl,rfl⟩,fun b z=>absurd z (U b),Z.bs,Z.gk,fun b _ _=>U b,fun b z=>absurd z (U b),Z.eZ,Z.gO⟩,
   rfl,Z.bare,Un.kept Y,⟨_,D,fun i y v m X h3=>?_⟩,fun y c h=>?_,Z.au.fresh (MK _),fun y c h=>?_,fun p l=>absurd (show p∈([]:List (Í×Obj)) from l) (by simp),Z.au.kept Y,?_⟩
  ·have hy:scope.names.lookup y=some .cell\/scope.names.lookup y=some .free:=hy
   rcases hy with hy|hy
   ·exact absurd rfl (S.so _ (Ă hy))
   ·exact has y hy
  ·have j:vs[i]?=some v:=by
    rw [ò] at X
    cases e:vs[i]? with
    |none=>rw [e] at X;cases X
    |some a=>rw [e] at X;cases X;rfl
   obtain ⟨g,c,u,e1,e2,d⟩:=hv i y v m j;exact ⟨u,d,.inr ⟨.inr g,c,e1,(e2.keeps bk).keeps Y⟩⟩
  ·obtain ⟨v,e⟩:=j0 y c h
   exact ⟨v,(e.keeps bk).keeps Y⟩
  ·obtain ⟨v,e⟩:=j0 y c h
   exact n c v e
  ·rw [å];exact hl.symm
 refine kla_codeExpr (ù (gG A outer s H E B ⟨rfl,rfl,rfl,rfl⟩ [] _ (vs.map some) H Q I L) (fun u s' h=>?_) fun e s' h=>h);obtain ⟨v,H',J,rv,z⟩:=h;exact ⟨v,H',J.os,J.bare,J.base,J.au,rv,z⟩
end L2
namespace DI
open PySem L2 PySem.W
def HU (pre:Hp->Prop):Prop:=∀H Z:Hp,(∀b o u,H b=some (.aI o u)->Z b=some (.aI o u))->pre H->pre Z
def qK (P:Ò) (w:é) (K:ð) (mg:Str->Option Ã) (base:ā) (k:Nat) (pre:Hp->Prop) (f:Í) (vs:List V) (ds:List D) (th:aa->Res D):Prop :=
 HU pre/\∃fd,(∃o,base.get? f=some o/\o.data=.func fd)/\Binds K fd [] [] /\
  bP P w K mg base (dJ P w) k f fd [] (fun X H Q E=>X=[]/\pre H/\∃Z:Wd,Z.H=H/\aG K Z/\aj K Z ds vs/\Out K (eI mg E) Z (th Z.ax) fun Y d=>∀v,DV K Y d v->Q v Y.H)
def l9 (cl:D) (th:aa->Res D) (i:Nat):MG D:=fun env s=>open Classical in if env[i]?=some (some cl) then th s else none
section
variable {X:Cx} {E:XK} {Ξ:Wd->aM->Prop} {pos:Pos}
end
def spT (K:ð) (pre:Hp->Prop) (cl:D) (fn:List D->aa->Res D):Sp:=fun Y H Q _=>pre H/\∃w:Wd,w.H=H/\aG K w/\aj K w [cl] Y/\Out K bY w (fn [cl] w.ax) fun Z d=>∀v,DV K Z d v->Q v Z.H
def HV {P:Ò} {w:é} {K:ð} {mg:Str->Option Ã} {base:ā} {x:Str} {st:μ} {f:Í} {fd:ô} {ps:List Str} {k:Nat} {b:MG Fl} {pre:Hp->Prop} {cl:D} (G:Gd K mg x st ps f fd) (N:List Str) (S:jz N ps (bI st)=true)
  (hb:N.Nodup->∀(aB:Ã) (A:Ö) (outer:List PySem.Env) (s:Á) (H:Hp) (E:XK),pre H->bc k (A.deeper (Č x (bI st) s.heap.objs.size f aB))->bQ (er bV P w K mg base N x (bI st) f aB A outer s H E).i9 (eR st) (tS K bY b)) :
  bP P w K mg base bV (k+1) f fd ps (spT K pre cl (aZ ps.length N.length b)):=by
 refine G.fn.ok (gE S) (fun W H Q E h=>?_) (fun aB A outer s H W Q E V h=>?_)
 ·obtain ⟨_,w,rfl,S,Y,h⟩:=h
  rw [<- Y.length];unfold aZ at h;split at h
  ·assumption
  ·exact h.elim
 ·obtain ⟨U,w,rfl,T,Y,h⟩:=h
  refine ⟨_,hb (gE S).nd aB A outer s w.H E U V,?_⟩;unfold aZ at h;split at h
  ·rename_i R
   rw [<- R] at h;refine ⟨w,_,rfl,T,Y.env N.length,(Out.ak h).mono fun M O L X Z=>?_⟩
   cases O with
   |nx env=>intro J _;exact aw X Z _ rfl
   |rt d=>have q:=aw X Z;exact q
   |bk env=>exact Z.elim
   |ct env=>exact Z.elim
  ·exact h.elim
def iY (env:Env):List Nat->Option (List D)
 | []=>some []
 |i::r=>match env[i]?,iY env r with
  |some (some d),some Z=>some (d::Z)
  |_,_=>none
theorem wN {K:ð} {w:Wd} {env:Env} {σ:St} (eo:bx K w env σ):∀{aE:List Nat} {ds:List D},iY env aE=some ds->∃vs,aj K w ds vs/\∀(i:Nat) j v,aE[i]?=some j->vs[i]?=some v->σ[j]?=some (some v)
 | [],ds,h=>by cases h;exact ⟨[],rfl,fun i j v h=>by simp at h⟩
 |j::r,ds,h=>by
  unfold iY at h;split at h
  ·rename_i d R e1 e2
   cases h;obtain ⟨v,X,W⟩:=eo.val j d e1;obtain ⟨vs,V,U⟩:=wN eo e2;refine ⟨v::vs,⟨v,vs,rfl,W,V⟩,fun i T S Z Y=>?_⟩
   cases i with
   |zero=>cases Z;cases Y;exact X
   |succ i=>exact U i T S (by simpa using Z) (by simpa using Y)
  ·cases h
def iB (x:Str) (aE:List Nat) (fb:MG D) (g:D->(aa->Res D)->List D->aa->Res D):MG D:=fun env s=>match (iY env aE:Option (List D)) with
 |some Z=>match (s[0]?:Option Cell) with
  |some (.tb y)=>if decide (y=x)=true then ne (g .aq (fb (Z.map some)) [.aq] s) else none
  |_=>none
 |none=>none
noncomputable def yn (dN N:List Str) (aE:List Nat) (A3 sc:Ł):Bool:=decide (sc.kind=.function)&&!sc.isCoroutine&&!sc.isGenerator&&sc.names.all (fun y=>decide (y.2≠.cell))&&decide (N.length=aE.length) &&
 (N.zip aE).all (fun p=>decide (dN[p.2]?=some p.1)&&decide (A3.names.lookup p.1=some .cell)&&decide (sc.names.lookup p.1=some .free))&&sc.names.all (fun y=>decide (y.2≠.free)||decide (A3.names.lookup y.1=some .cell))
abbrev A4 (P:Ò) (w:é) (K:ð) (mg:Str->Option Ã) (x:Str) (st:μ) (ps:List Str) (k kt:Nat) (g:D->(aa->Res D)->List D->aa->Res D):Prop :=
 ∀{base:ā} {pre:Hp->Prop} {f:Í} {vs:List V} {ds:List D} {th:aa->Res D},qK P w K mg base kt pre f vs ds th->∀{gA:Í} {fd:ô},Gd K mg x st ps gA fd->bP P w K mg base bV k gA fd ps (spT K pre (.bG f vs ds) (g (.bG f vs ds) th))
section
variable {X:Cx} {Ξ:Wd->aM->Prop} {pos:Pos}
def js (X:Cx) (H:Hp) (s:Á):ā:=hideAll s.heap (bh X.stack++lP s.heap H)
def oO {H:Hp} {s:Á} {b:Í} {o:Obj} (e:s.heap.get? b=some o) (n:H b=none) (hf:b∉bh X.stack):(js X H s).get? b=some o:=hideAll_get _ e fun z=>by
 rcases ė.mp z with z|z
 ·exact hf z
 ·unfold lP at z
  have:=(Ź.mp z).2;rw [n] at this;cases this
def wO {H:Hp} {s:Á} {b:Í} {o:Obj} (e:(js X H s).get? b=some o):s.heap.get? b=some o/\H b=none/\b∉bh X.stack:=by
 have e1:=of_hideAll _ e;refine ⟨e1,?_,fun z=>?_⟩
 ·cases q:H b with
  |none=>rfl
  |some u =>
   have:(js X H s).get? b=none:=hideAll_none _ (á _ (Ź.mpr ⟨Ń.mpr (Ç e1),by rw [q];rfl⟩));rw [e] at this;cases this
 ·have:(js X H s).get? b=none:=hideAll_none _ (Ģ _ z)
  rw [e] at this;cases this
def _root_.L2.Inv.GA {π:List (Í×Obj)} {σ:St} {H:Hp} {s:Á} (I:Inv X π σ H s):∀b o,X.base.get? b=some o->(js X H s).get? b=some o:=fun b o e=>oO (I.bs b o e).1 (I.bs b o e).2 fun z=>by
 have:=(I.stack.mem z).1;rw [e] at this;cases this
def _root_.L2.Inv.HW {π:List (Í×Obj)} {σ:St} {H:Hp} {s:Á} (I:Inv X π σ H s):lr X.prog X.w X.K X.mg (js X H s) X.A X.stack s H:=by
 have k:=I.GA;refine ⟨I.ok.frames,⟨I.ok.mod.gg.keeps k,I.ok.mod.glob.keeps k,?_,I.ok.mod.nolimit.keeps k⟩,fun b o e=>⟨(wO e).1,(wO e).2.1⟩,Nat.le_of_eq (hideAll_size _ _),?_,I.mz,I.au,I.bare⟩
 ·obtain ⟨Z,Y,W⟩:=I.ok.mod.blt
  exact ⟨Z,Y.keeps k,W⟩
 ·refine funFrames_hide I.stack fun env V a U=>Ģ _ ?_
  unfold bh;exact Į.mpr ⟨env,V,U⟩
def ni {x g:Str} {p dE:Pos} {params:ś} {body:ÿ} {sc:Ł} {c P:Í} {A5:μ} {A6:List Str} {k n kb:Nat} {gf:D->(aa->Res D)->List D->aa->Res D} {fb:MG D} (N:List Str) {aE:List Nat}
  (pW:X.env.code=.ref c) (zl:X.env.qual=x++".<locals>.") (ht:tabIn X.K x=some (c,P)) (hC:codeHdIn X.K c P=true) (hb:X.base.BuiltinsAt X.mg P)
  (G:GG X.K X.mg g A5 A6) (F:A4 X.prog X.w X.K X.mg g A5 A6 k (kb+1) gf) (Js:∀cl th s,gf cl th [cl] s=gf .aq th [.aq] s) (hr:bc n X.A)
  (gG:∀(base:ā) (q:Str) (f:Í) (cd:Ã) (cl:List (Str×Í)) (A:Ö) (outer:List PySem.Env) (s:Á) (H:Hp) (E:XK),bc kb (A.deeper (envX q sc s.heap.objs.size f cd cl))->Lv (l8 X.prog X.w X.K X.mg base N q sc f cd cl A outer s H E) E->PE (l8 X.prog X.w X.K X.mg base N q sc f cd cl A outer s H E) body (tE X.K (eI X.mg E) fb))
  (hk:k<=n:=by decide) (uw:yn X.N N aE X.env.scope sc=true:=by kernel_rfl) (nS:∀x,X.fn x=true:=by intro _;rfl) (tF:∀(cl:List (Str×Í)) (pm:Ã) (c':Í) (eJ:Ã),bindArgs (kla_fn "<lambda>" (x++".<locals>."++"<lambda>") params body sc cl pm (.ref c') eJ) ⟨[],[]⟩=pure []:=by intros;rfl)
  (uv:defaultsOf params X.env=([],[]):=by rfl) (hg:Gl X g:=by rfl) (cG:(g==("__debug__":Str))=false:=by decide)
  (he:Æ [.Lambda params body sc dE] X.env=(false,Ĝ (.Lambda params body sc dE) X.env)::Æ [] X.env:=by rfl) (bN:(ď pos (Æ [] X.env)).any (·.1)=false:=by rfl) :
  PE X (.Call (.Name g p) [.Lambda params body sc dE] [] pos) (tE X.K Ξ (iB x aE fb gf)):=by
 intro π s σ H Q I ay;have C:=codeHd_of_K I.ok.mod.gg hC;obtain ⟨w,env,eH,S,eo,h⟩:=ay;subst eH;unfold iB at h
 cases qL:iY env aE with
 |none=>rw [qL] at h;exact h.elim
 |some W =>
 rw [qL] at h
 cases U:w.ax[0]? with
 |none=>simp only [U] at h;exact h.elim
 |some c0 =>
 simp only [U] at h
 cases c0 with
 |dead=>exact h.elim
 |lst _=>exact h.elim
 |dK _=>exact h.elim
 |dT _=>exact h.elim
 |tb y =>
 dsimp only at h;by_cases hy:y=x
 case neg=>rw [î (by simpa using hy)] at h;exact h.elim
 rw [ë (by simpa using hy)] at h;subst hy;obtain ⟨vs,ao,K0⟩:=wN eo qL;obtain ⟨a,ha⟩:∃a,w.ρ[0]?=some a:=by
  have:=S.len
  cases K1:w.ρ with
  |nil=>rw [K1] at this;have h0:=(É.mp U).1;rw [<- this] at h0;simp at h0
  |cons a r=>exact ⟨a,rfl⟩
 have Jt:=S.cell 0 a _ ha U;obtain ⟨c2,ps,t1,t2,t3,t4⟩:=Jt;rw [ht] at t1;cases t1;unfold yn at uw;simp only [Ä,Bool.or_eq_true,ľ,Ô,Đ] at uw;obtain ⟨⟨⟨⟨⟨⟨k1,k2⟩,k3⟩,k4⟩,k5⟩,k6⟩,k7⟩:=uw;obtain ⟨cl,cH,R⟩:=DN (env:=X.env) (scope:=sc) fun z hz=>by
  rcases k7 _ hz with q|q
  ·exact absurd rfl q
  ·exact I.ok.has z (.inl q)
 obtain ⟨gA,Mw,G⟩:=G;refine ř (jU I hg G.mg ?_ cG);refine ι (h₀:=X.base) I.ok.mod.gg G.fn.kp ?_ he bN;rw [he];show Ó _ _ (spliced ((false,Ĝ (.Lambda params body sc dE) X.env)::ď pos (Æ [] X.env))) _ _ s;refine Ř (DO I cH pW C hb t2 t3 uv (fun cv q=>?_) fun f c' eJ oc fs tq H1 J Y hf Ai vj fh ib fK hH=>?_)
 ·rw [zl]
  obtain ⟨c',oc,fs,t,r1,r2,r3,r4⟩:=t4 dE cv q;exact ⟨c',oc,fs,t,r1,r2.2,r3,r4⟩
 rw [zl] at vj fK;refine Calls.spliced_nil ⟨Y.dR,?_⟩;have W1:∃V:Wd,V.H=H1/\aG X.K V/\Le X.K w V/\V.ax=w.ax:=by
  rcases hH with rfl | ⟨hn,qI,rfl,K2⟩
  ·exact ⟨w,rfl,S,Le.refl w,rfl⟩
  ·have S2:=S.grow (o:=.aI oc (.own c')) hn
   have O:=(Fw.grow (K:=X.K) (o:=.aI oc (.own c')) hn).le;have l2:=(Fw.put (o:=.cf (ps++#[Ũ dE.line,Ũ dE.col,.ref c'])) (c:=.tb y) S2 ha U (by intro z;cases z)).le;refine ⟨(w.grow c' (.aI oc (.own c'))).put 0 P (.cf (ps++#[Ũ dE.line,Ũ dE.col,.ref c'])) (.tb y),rfl,S2.zT ha U (by intro z;cases z) ⟨c,_,ht,b9,K2,fun pos cv e=>?_⟩,O.trans l2,?_⟩
   ·rw [Array.toList_append] at e
    rcases CL _ t3 e with e|e
    ·obtain ⟨c3,o3,v3,K3,r1,r2,r3⟩:=t4 pos cv e
     exact ⟨c3,o3,v3,K3,r1,(O.trans l2).aI c3 o3 _ r2.1 r2.2,r3⟩
    ·refine ⟨c',oc,fs,tq,e,?_,ib,fK⟩
     exact l2.aI c' oc _ (fun z=>jl S hn z) b9
   ·exact List.ext_getElem? fun i=>by
     show (w.ax.set 0 (.tb y))[i]?=w.ax[i]?
     cases i with
     |zero=>rw [â (É.mp U).1,U]
     |succ i=>rw [Þ (by omega)]
 obtain ⟨V,rfl,S1,O,es⟩:=W1;have cells:∀z Z,cl.lookup z=some Z->∀v,J.heap.IsCell Z v->(js X V.H J).IsCell Z v:=fun z Z e v ⟨o,ho,hd⟩=>by
  have e2:=R.ng z Z e;refine ⟨o,oO ho (Y.fU z Z e2) fun q=>?_,hd⟩
  rcases ã.mp (Y.jW _ q) with q|q
  ·exact Y.gm z Z e2 q
  ·obtain ⟨_,o2,dS,_⟩:=Y.ok.eZ.mem q
   exact absurd (Ç dS) (Ÿ.mpr (Y.ok.lR z Z (nS z) e2))
 have Aj:f∉bh X.stack:=fun q=>by
  obtain ⟨_,o2,dS,_⟩:=I.stack.mem q;exact absurd (Ç dS) (Ÿ.mpr hf)
 have nl:N.length=vs.length:=by
  have e1:=ao.length;have e2:∀(cs:List Nat) (W:List D),iY env cs=some W->W.length=cs.length:=fun cs=>by
   induction cs with
   |nil=>intro W h;cases h;rfl
   |cons i r ih =>
    intro W h;unfold iY at h;split at h
    ·cases h;rename_i e;simp [ih _ e]
    ·cases h
  rw [k5,<- e2 aE W qL,e1]
 have T:qK X.prog X.w X.K X.mg (js X V.H J) (kb+1) (fun H=>H c'=some (.aI oc (.own c'))) f vs W (fb (W.map some)):=by
  refine ⟨fun H H' st q=>st _ _ _ q,_,⟨_,oO vj Ai Aj,rfl⟩,Binds.all fun us hl=>?_,(Gz (t:=fun E=>tE X.K (eI X.mg E) fb) (vs:=vs) (oc:=oc) ⟨k2,k3,k1,k4⟩ (oO vj Ai Aj) nl (fun z1 z2 Z M B=>Y.ok.inj z1 z2 Z (R.ng _ _ M) (R.ng _ _ B)) (fun z hz=>R.all z (Ă hz)) (fun z Z e=>?_) (fun i z v M B=>?_) ib fK
   (fun A outer s H E hr L=>gG _ _ f (.ref c') cl A outer s H E hr L)).imp fun us H Q E h=>?_⟩
  ·have:us=[]:=List.eq_nil_of_length_eq_zero (by simpa using hl)
   subst this;exact tF _ _ _ _
  ·obtain ⟨v,q⟩:=Y.cell z Z (R.ng z Z e)
   exact ⟨v,cells z Z e v q⟩
  ·have hi:i<aE.length:=by
    have:=(É.mp M).1;rw [k5] at this;exact this
   obtain ⟨j,hj⟩:∃j,aE[i]?=some j:=⟨aE[i],æ hi⟩;have hm:(z,j)∈N.zip aE:=by
    refine ģ (i:=i) ?_;rw [List.getElem?_zip_eq_some];exact ⟨M,hj⟩
   obtain ⟨⟨q1,q2⟩,q3⟩:=k6 _ hm;obtain ⟨m,hn,hl⟩:=Y.loc;obtain ⟨u,r,lk⟩:=hl j z v q1 (K0 i j v hj B) (.inr (.inl q2));refine ⟨q3,?_⟩
   rcases lk with ⟨lk,_⟩ | ⟨_,Z,e1,e2⟩
   ·rw [show X.env.kindOf z=X.env.scope.names.lookup z from rfl,q2] at lk;cases lk
   ·obtain ⟨c3,e3⟩:=R.all z (Ă q3)
    have e4:=R.ng z c3 e3;rw [e1] at e4;cases e4;exact ⟨Z,u,e3,cells z Z e3 _ e2,r⟩
  ·obtain ⟨M,B,w',rfl,S',jK,hh⟩:=h
   refine ⟨M,B,w',W.map some,rfl,S',⟨?_,fun i d e=>?_⟩,hh⟩
   ·rw [å,å];exact jK.length
   ·rw [ò] at e
    cases q:W[i]? with
    |none=>rw [q] at e;cases e
    |some d' =>
     rw [q] at e;cases e;obtain ⟨v,e1,e2⟩:=jK.get' i d q;exact ⟨v,by rw [ò,e1];rfl,e2⟩
 have hq:=(h.from O).ne;rw [<- es,<- Js (.bG f vs W)] at hq;refine ļ (ũ ((F T G).run X.A X.stack J V.H ⟨[.ref f],[]⟩ [.ref f] [.ref f] Q (fun _ _ _=>False) (hr.mono hk) Y.HW (G.b J [.ref f] Y.dR ?_) (.cons rfl .nil) ⟨fh,V,rfl,S1,⟨.ref f,[],rfl,⟨rfl,O.all ao⟩,rfl⟩,hq⟩) fun r s' l=>?_)
 ·have:=(F T G).len [.ref f] V.H Q (fun _ _ _=>False) ⟨fh,V,rfl,S1,⟨.ref f,[],rfl,⟨rfl,O.all ao⟩,rfl⟩,hq⟩
  simpa using this
 ·cases r with
  |error e=>exact l.elim
  |ok fl =>
   cases fl with
   |ret u=>exact Y.after l
   |next=>exact ï l
   |brk=>exact ï l
   |cont=>exact ï l
end
end DI
namespace L2
open PySem PySem.Spec PyProof.Rows PySem.W
section
variable {X:Cx} {π:List (Í×Obj)} {σ:St} {H:Hp} {s:Á}
def pk {M:Model} {A:Ö} {E:Ã->Á->Prop} {i:Nat} {x:Str} {pos:Pos} {Q:Unit->Á->Prop} (I:Inv X π σ H s) (hN:X.N.Nodup) (hi:X.N[i]?=some x) (hk:X.env.scope.names.lookup x=some .local) (h:∀s',Inv X π (σ.set i none) H s'->Q () s') :
  Ó M A (do bindName X.env x .none;unbindBehindTheSuite X.env x pos) Q E s:=by
 obtain ⟨m,V,S⟩:=id I.loc;have R:(X.env.scope.kind==.class||(X.env.scope.kind==.module&&X.env.locals != X.env.globals))=false:=by rw [I.ok.kind];rfl
 have gm:=I.gm;refine wpAny_nameGoes_keeps hk V R fun u v P hs=>?_;obtain ⟨t,_,_,r,_⟩:=id V;refine h _ ⟨I.ok,I.os,I.bare,⟨fun b o e n Y Z=>?_,fun b o e n Y Z=>?_,I.base.free,fun b o e Z=>?_,I.base.cN,I.base.cE,I.base.cO⟩,⟨_,P,fun j y O e1 e2 L=>?_⟩,fun y c e=>?_,I.free,I.fU,fun p K=>?_,fun b J e=>?_,by rw [ú];exact I.len⟩
 ·exact (hs.2 b (à (Å (Ç e) I.ok.above))).trans (I.base.keep b o e n Y Z)
 ·obtain ⟨G,e1⟩:=I.base.slot b o e n Y Z
  exact ⟨G,(hs.2 b (à (Å (Ç e) I.ok.above))).trans e1⟩
 ·obtain ⟨F,e1⟩:=I.base.there b o e Z
  exact ⟨F,(hs.2 b (à (Å (Ç e) I.ok.above))).trans e1⟩
 ·by_cases W:j=i
  ·subst W
   have U:=(É.mp e2).1;rw [ú] at U;rw [â U] at e2;cases e2
  ·rw [Þ (χ W)] at e2
   obtain ⟨D,C,q⟩:=S j y O e1 e2 L;refine ⟨D,C,?_⟩
   rcases q with ⟨k,e⟩ | ⟨k,c,e,z⟩
   ·refine .inl ⟨k,?_⟩
    have:y≠x:=fun e=>W (rz hN e1 (e ▸ hi));simp [this,e]
   ·exact .inr ⟨k,c,e,z.sameBut hs (gm y c e)⟩
 ·obtain ⟨T,z⟩:=I.cell y c e
  exact ⟨T,z.sameBut hs (gm y c e)⟩
 ·obtain ⟨e,n,ne,B,d⟩:=I.pin p K
  exact ⟨(hs.2 p.1 ne).trans e,n,ne,B,d⟩
 ·refine (I.au b J e).cu (fun c T w q=>(hs.2 c ?_).trans q) (fun _ q=>q) fun _ _ q=>q
  rintro rfl
  rcases w with z|z
  ·have:=I.free;rw [z,e] at this;cases this
  ·have:=I.free;rw [z] at this;cases this
noncomputable abbrev Cx.held (X:Cx) (a:Í):Cx:={ X with A:=X.A.mark (some (.ref a)),calm:=false,xe:=fun _ _=>False }
theorem Inv.held (I:Inv X π σ H s) (a:Í):Inv (X.held a) π σ H s:=by
 obtain ⟨⟨a1,a2,Z,Y,W,V,U,T,w,S,R,Q,P,O,N,M,L,K⟩,J,G,F,E,D,C,B,A,y,x⟩:=I;exact ⟨⟨a1,a2,Z,Y,W,V,U,T,fun z=>absurd z Î,S,R,Q,P,O,N,M,L,K⟩,J,G,F,E,D,C,B,A,y,x⟩
def Inv.pI {a:Í} (ok:X.Ok) (I:Inv (X.held a) π σ H s):Inv X π σ H s:=by
 obtain ⟨_,Z,Y,W,V,U,T,S,R,Q,P⟩:=I;exact ⟨ok,Z,Y,W,V,U,T,S,R,Q,P⟩
def pJ (X:Cx) (π:List (Í×Obj)) (σ:St) (E:XK) (e:Ã) (s':Á):Prop:=∃Z Y,Inv X π σ Z Y/\dJ X.prog X.w X.stack Z Y E e s'
def ef {E:XK} {E':Ã->Á->Prop} {e:Ã} {s':Á} {cn n:Str} {np ux:Pos} {nL:μ} {nj:List μ} {j:Nat} {CM:Í} {D:Ends} (Th:pJ X π σ E e s') (L:X.stack=X.env::X.outer) (hf:X.env.frame=some X.env.locals)
  (hN:X.N.Nodup) (hj:X.N[j]?=some n) (jN:X.env.scope.names.lookup n=some .local) (hg:Gl X cn) (hm:X.mg cn=some (.ref CM)) (hd:(cn==("__debug__":Str))=false)
  (h:∀cls m H' ,E cls m H'->exmOne X.K cls (.ref CM)=some true/\∀(a:Í) (o:Obj),H' a=none->o.cls=cls->(notCls o=true/\∀dx,m=some dx->o.dict=some dx)->∀s5,Inv (X.held a) π (σ.set j (some (.ref a))) (upd H' a (.aI o (.own a))) s5 ->
   Ó (Ø X.prog X.w) (X.held a).A (execs (nL::nj) X.env) (SP (X.held a) π { nx:=fun aA H'=>D.nx (aA.set j none) H',rt:=D.rt,bk:=fun aA H'=>D.bk (aA.set j none) H',ct:=fun aA H'=>D.ct (aA.set j none) H' }) (fun _ _=>False) s5) :
  Ó (Ø X.prog X.w) X.A (noteFrame e X.env) (fun _ ek=>Ó (Ø X.prog X.w) X.A (setFlight e none) (fun _ Ju=>Ó (Ø X.prog X.w) X.A (handleBy e X.env [.ExceptHandler (some (.Name cn np)) (some n) (nL::nj) ux]) (SP X π D) E' Ju) E' ek) E' s':=by
 obtain ⟨H1,t,W,a,cls,O,H',B,m,rfl,os,bare,F,dm,hE⟩:=Th;obtain ⟨p,hh⟩:=h cls m H' hE
 refine ù (mw (xD _ _) (wpAny_looks_onW (E:=fun _ _=>False) (Q:=fun _ i=>∃V,i={ s' with heap:=V }/\Heap.HeldW B (X.env::X.outer) a cls O X.env.locals V/\s'.heap.UpToSlots V) (by rw [W.ok.frames,L]) hf (by have:=F.fl;rw [L] at this;exact this) fun V x y=>⟨V,rfl,x,y⟩)) (fun _ i z=>?_) fun _ _ z=>z.1.elim
 obtain ⟨⟨V,rfl,g,K4⟩,K5⟩:=z
 refine ù (mw (rl _ _) (wpAny_landsW (E:=fun _ _=>False) (Q:=fun _ d=>∃Z,d={ s' with heap:=Z }/\Ů B (X.env::X.outer) a cls O Z/\V.UpToSlots Z) g fun Z x y=>⟨Z,rfl,x,y⟩)) (fun _ d z=>?_) fun _ _ z=>z.1.elim
 obtain ⟨⟨Z,rfl,Ak,K6⟩,K7⟩:=z
 have K8:Dm Z a m:=(dm.on K5 (let ⟨o,e,_⟩:=g.there;⟨o,e⟩)).on K7 (let ⟨o,e,_⟩:=Ak.there;⟨o,e⟩)
 have P:Ů B X.stack a cls O Z:=by rw [L];exact Ak
 have I:=F.on P (K4.trans K6);have Jv:t.heap.get? a=none:=by
  cases q:t.heap.get? a with
  |none=>rfl
  |some o =>
   by_cases S:a∈bh X.stack
   ·obtain ⟨sl,e1⟩:=I.slot a o q S
    obtain ⟨_,o2,e2,hd2⟩:=P.2.2.1.mem S
    obtain ⟨H,ws,e3,_,e4,_⟩:=P.first
    rw [e3] at e2;cases e2;exact absurd e4 (hd2 _)
   ·obtain ⟨o',e1⟩:=F.there a o q S
    rw [F.fl.2.1] at e1;cases e1
 have I3:Inv X π σ H' { s' with heap:=Z }:=W.sV (s':={ s' with heap:=Z }) (ch:=[]) os I.un I.held bare (fun b z=>absurd z (by simp))
 refine wpAny_handleBy_cons (codeAny_handlers_test ?_) (by intro q;cases q);refine (show Ó (Ø X.prog X.w) (X.held a).A (Ĝ (.Name cn np) (X.held a).env) _ _ _ from jU (I3.held a) hg hm ?_ hd);obtain ⟨ob,K9,nv⟩:=P.there;have LT:Looks (Ø X.prog X.w) Z (typeOf (.ref a)) cls:=by subst nv;exact (Looks.ld K9).andThen .now
 refine (exm_one (M:=Ø X.prog X.w) (K:=X.K) (h:=Z) I3.dR LT p).here ?_;refine codeAny_handlers_suite_as ?_
 refine ù (mw (rl _ _) (lands_againW (s:={ s' with heap:=Z }) (E:=fun _ _=>False) (Q:=fun _ s4=>∃Y,s4={ s' with heap:=Y }/\Ů B X.stack a cls O Y/\Z.UpToSlots Y) P fun Y x y=>⟨Y,rfl,x,y⟩)) (fun _ s4 z=>?_) fun _ _ z=>z.1.elim
 obtain ⟨⟨Y,rfl,G,La⟩,Lb⟩:=z
 have Lc:Dm Y a m:=K8.on Lb (let ⟨o,e,_⟩:=G.there;⟨o,e⟩)
 have l:=I.on G La;obtain ⟨H,C,Jw⟩:=G.there;have R:H' a=none:=l.new
 have I4:Inv X π σ (upd H' a (.aI H (.own a))) { s' with heap:=Y }:=by
  have u:=l.un;have lT:∀b o,t.heap.get? b=some o->b≠a:=fun b o e z=>by rw [z,Jv] at e;cases e
  refine W.sV (s':={ s' with heap:=Y }) (ch:=[]) os ⟨u.keep,u.slot,fun b o e n p=>?_,u.there,fun b xs e=>?_,fun b o v e=>?_,fun b ps e=>?_⟩ (fun b v e=>?_) bare (fun b z=>absurd z (by simp))
  ·rw [aF (lT b o e)];exact u.free b o e n p
  ·have:=u.cN b xs e;rw [aF (bA this R)];exact this
  ·have:=u.cE b o v e;rw [aF (bA this R)];exact this
  ·obtain ⟨more,this⟩:=u.cO b ps e;exact ⟨more,by rw [aF (bA this R)];exact this⟩
  ·by_cases S:b=a
   ·subst S
    rw [b9] at e;cases e;exact ⟨C,H,C⟩
   ·rw [aF S] at e
    refine (l.held b v e).cu (fun _ _ _ q=>q) (fun c q=>?_) fun c xs q=>?_
    ·rw [aF (bA q R)];exact q
    ·rw [aF (bA q R)];exact q
 refine mq I4 hN hj (.inl jN) (v:=.ref a) (u:=.ref a) rfl (fun s5 I5=>?_) (.inr jN)
 refine ù (hh a H R Jw ⟨by obtain ⟨o2,vs,e1,_,e2,_⟩:=G.first;rw [C] at e1;cases e1;unfold notCls;rw [e2],fun dx e=>by obtain ⟨o,e1,e2⟩:=Lc dx e;rw [C] at e1;cases e1;exact e2⟩ s5 (I5.held a)) (fun f s6 q=>?_) fun _ _ z=>z.elim
 cases f with
 |next =>
  obtain ⟨aA,U,J,q⟩:=q;exact pk (J.pI W.ok) hN hj jN fun k T=>⟨_,U,T,q⟩
 |brk =>
  obtain ⟨aA,U,J,q⟩:=q;exact pk (J.pI W.ok) hN hj jN fun k T=>⟨_,U,T,q⟩
 |cont =>
  obtain ⟨aA,U,J,q⟩:=q;exact pk (J.pI W.ok) hN hj jN fun k T=>⟨_,U,T,q⟩
 |ret u =>
  obtain ⟨v,aA,U,J,r,q⟩:=q;exact pk (J.pI W.ok) hN hj jN fun k T=>⟨v,_,U,T,r,q⟩
end
end L2
namespace DI
open PySem L2 PySem.W
def bx.unset {K:ð} {w:Wd} {env:Env} {σ:St} (h:bx K w env σ) (i:Nat):bx K w (env.set i none) (σ.set i none):=by
 refine ⟨by rw [ú,ú];exact h.len,fun j X e=>?_⟩;by_cases Z:i=j
 ·subst Z
  have Y:=(É.mp e).1;rw [ú] at Y;rw [â Y] at e;cases e
 ·rw [Þ Z] at e
  rw [Þ Z];exact h.val j X e
section
variable {X:Cx} {E:XK} {pos:Pos}
def GB {π:List (Í×Obj)} {σ:St} {s:Á} {w:Wd} {env:Env} {Q:VK} {k i:Nat} {x:Str} {p:Pos} {pre:Hp->Prop} {f:Í} {vs:List V} {ds:List D} {th:aa->Res D} (T:qK X.prog X.w X.K X.mg X.base k pre f vs ds th) (h0:pre X.iw) (hr:bc k X.A)
  (hN:X.N[i]?=some x) (hv:lQ X.env.scope x) (hd:(x==("__debug__":Str))=false) (bF:(x==("__classdict__":Str))=false)
  (I:Inv X π σ w.H s) (S:aG X.K w) (eo:bx X.K w env σ) (he:env[i]?=some (some (.bG f vs ds))) (h:Out X.K (eI X.mg E) w (th w.ax) fun w' d=>∀v,DV X.K w' d v->Q v w'.H) :
  Ó (Ø X.prog X.w) X.A (Ĝ (.Call (.Name x p) [] [] pos) X.env) (EP X π σ Q) (pJ X π σ E) s:=by
 obtain ⟨M,fd,⟨o,L,J⟩,G,F⟩:=T;obtain ⟨v,e1,e2⟩:=eo.val i _ he;obtain ⟨rfl,C⟩:=e2;refine PySem.wpAny_Call_Name_kw ?_;have U:=(xT (X:=X.fZ fun e O=>pJ X π σ E e O) (pos:=p) hN hv hd bF π s σ w.H (fun v B=>v=.ref f/\B=w.H) (I.fZ _) ⟨_,e1,rfl,rfl⟩);refine aL U fun u R U=>?_;obtain ⟨v,t,Z,r,rfl,rfl⟩:=U;have Z:=Z.iS;have r:u=.ref f:=r;subst r;have z:∀h:ā,h.get? f=some o->∃k,(k=Keeper.frame\/k=Keeper.machine\/k=Keeper.boundFrame)/\Looks (Ø X.prog X.w) h (keeperOf (.ref f)) k:=fun h e=>by
  obtain ⟨q,n,m,os⟩:=o;cases J;exact ⟨.frame,.inl rfl,(Looks.ld (part:=none) e).andThen .now⟩
 refine PySem.W.callWith_of (P:=fun h=>h.get? f=some o) rfl z (PyProof.Rows.evalArgs_nil3 ⟨Z.bk _ _ L,?_⟩);refine ļ (ũ (F.run X.A X.stack R w.H ⟨[],[]⟩ [] [] Q E hr Z.kf (G R [] Z.dR rfl) .nil ⟨rfl,M _ _ (fun b o u e=>Z.base.cE b o u e) h0,w,rfl,S,C,h⟩) fun r O Y=>?_)
 cases r with
 |error e=>exact ⟨w.H,R,Z,Y⟩
 |ok y =>
  cases y with
  |ret u=>exact Z.after Y
  |next=>exact ï Y
  |brk=>exact ï Y
  |cont=>exact ï Y
end
end DI
namespace L2
open PySem PySem.Spec PySem.Calls PyProof.Rows PySem.W PySem.Builtin PySem.Builtin.ObjectAttr PySem.Builtin.Getset_descriptor
section
variable {prog:Ò} {w:é} {A:Ö} {E:Ã->Á->Prop} {s:Á} {K:ð} {x C:Í}
noncomputable def jt (K:ð) (C:Í):Bool:=(findIn K (.ref C) "__getattribute__"==some (some (.builtin "BaseException.__getattribute__")))&&(findIn K (.ref C) "__getattr__"==some none)&&(clsIn K C).isSome&&(findIn K (.ref C) "__class__"==some (some (.builtin "object.__class__")))&&(specialIn K (.builtin "object.__class__") "__get__"==some (some (.builtin "getset_descriptor.__get__")))&&(takesIn K (.builtin "object.__class__")==some true)&&(mroIn K C (.type "object")==some true)&&(mroIn K C (.type "BaseException")==some true)
def yo {M:Model} {zo:Ã} {Q:Unit->Á->Prop} (LT:Looks M s.heap (typeOf (.ref x)) (.ref C)) (M5:Looks M s.heap (isSubtype (.ref C) (.type "BaseException")) true) (hq:Q () s):Ó M A (checkBuiltinCall "BaseException.__getattribute__" ⟨[.ref x,zo],[]⟩) Q E s:=by
 have Z:builtinKind "BaseException.__getattribute__"=some .slot:=by decide +kernel
 have Y:splitId "BaseException.__getattribute__"=some ("BaseException","__getattribute__"):=by decide +kernel
 have X:=F.args_bexc_ga (.ref x) zo;simp only [checkBuiltinCall,Z,Y];refine À ?_;unfold isInstance
 repeat (first|with_reducible refine LT.at ?_|with_reducible refine M5.at ?_|wp_step)
 exact hq
def cls_read {Q:Option Ã->Á->Prop} (X:K.In s.heap) (LT:Looks (Ø prog w) s.heap (typeOf (.ref x)) (.ref C)) (hc:jt K C=true) (h:Q (some (.ref C)) { s with toks:=s.toks+1 }) :
  Ó (Ø prog w) A (getAttr? (.ref x) "__class__") Q E s:=by
 unfold jt at hc;simp only [Ä,beq_iff_eq] at hc;obtain ⟨⟨⟨⟨⟨⟨⟨Y,W⟩,_⟩,V⟩,U⟩,T⟩,S⟩,R⟩:=hc;obtain ⟨Z,g,d,t,os⟩:=s;have M1:=Ķ (M:=Ø prog w) X Y;have M2:=Ķ (M:=Ø prog w) X W;have P:Looks (Ø prog w) Z (find (.ref x) (.ref C) "__class__") (.bind (.builtin "getset_descriptor.__get__") (.builtin "object.__class__")) :=
  (Ķ X V).andThen ((looks_specialIn X U).andThen ((show Looks (Ø prog w) Z (dataDescriptor? (some (.builtin "object.__class__")) (some (.builtin "getset_descriptor.__get__"))) (some (.builtin "getset_descriptor.__get__",.builtin "object.__class__")) from (looks_takesIn X T).andThen .now).andThen (Looks.tag .now)))
 have L:=looks_mroIn (M:=Ø prog w) X S;have O:=looks_mroIn (M:=Ø prog w) X R;have N:=ť.ga.bind (.ref x);unfold getAttr? getAttrBy? getAttrBy;refine À (wpAny_mkText (À (ŵ (ą (À (LT.at (À (M1.at ?_))))))));show Ó _ _ (ζ (.ref x) _ (.ref C) (.builtin "BaseException.__getattribute__") false false) _ _ _;unfold ζ;refine À (M2.at (À (ŵ (ą ?_))));show Ó _ _ (boundAndCalled (.builtin "BaseException.__getattribute__") (.ref x) _) _ _ _;unfold boundAndCalled;rw [N];refine À (Ì (ļ (ł ť.ga.plain F.entry_bexc_ga ?_)));refine yo LT O ?_;unfold ο.«object.__getattribute__»;rw [show slotArgs "__getattribute__" 1 ⟨[.ref x]++[.str "__class__" t],[]⟩=pure (.ref x,[.str "__class__" t]) from rfl];refine À (Ì ?_);dsimp only;rw [show attrName (.str "__class__" t)=pure ("__class__":Str) from rfl];refine À (Ì (À (LT.at (À (P.at ?_)))));show Ó _ _ (holding [Value.builtin "object.__class__"] (call (.builtin "getset_descriptor.__get__") [.builtin "object.__class__",.ref x,.ref C]) >>= ret) _ _ _;refine À (ą (ļ ?_));refine ł KF.slot_gs.plain KF.entry_gs (KF.slot_gs.check _ _ _ _ _ _ _ _ KF.type_class (KF.args_gs _ _ _) ?_);unfold ο.«getset_descriptor.__get__» descrGet;rw [dga_obj];refine À (Ì ?_);unfold descrGetter descrCheckInstance descrNameAndClass isInstance;simp only [KF.owner_class]
 repeat lk
 refine ⟨Code.quiet_builtin _ (by decide +kernel),codeAny_builtin KF.entry_class ?_⟩;unfold ο.«object.__class__» shownTypeOf
 repeat lk
 exact h
def DQ {o:Obj} (ho:o.cls=.ref C) (hc:jt K C=true):KitX K (.ref x) (.ref C) (fun h=>h.get? x=some o) where
 ty:=fun M h _ e=>ho ▸ (Looks.ld e).andThen .now
 it:=fun M h X _=>by
  unfold jt at hc;simp only [Ä] at hc;have z:=hc.1.1.1.1.1.2;unfold clsIn at z;split at z
  ·rename_i q
   intro W V U T k r;unfold isType loadHead;exact À (wpAny_loadPart (k _ _ (X _ _ q)) (Ì r))
  ·cases z
 ne:=fun h Z S ah n R X Y=>by
  unfold jt at hc;simp only [Ä] at hc;have z:=hc.1.1.1.1.1.2;refine Bool.eq_false_iff.mpr fun q=>?_;have e:C=Z:=Value.ref.inj (beq_iff_eq.mp q);subst e;unfold clsIn at z;split at z
  ·rename_i r
   have z:=(X _ _ r).symm.trans Y;cases z
  ·cases z
 ca:=fun X e k=>cls_read X (ho ▸ (Looks.ld e).andThen .now) hc k
end
end L2
namespace DI
open PySem L2 PySem.W
def cb (cs:List Str) (yes:Str->Bool) (d:D) (s:aa):Res D:=match d with
 | .aq=>ok (.bl false) s
 | .exc c _=>if decide (c∈cs)=true then ok (.bl (yes c)) s else none
 |_=>none
def kM (K:ð) (cs:List Str) (T:Ã) (yes:Str->Bool):Prop:=kitOne K (.type "NoneType") T=some false/\∀c∈cs,∃C,nsIn K È c=some (some (.ref C))/\jt K C=true/\kitOne K (.ref C) T=some (yes c)
section
variable {X:Cx} {Ξ:Wd->aM->Prop} {a:ÿ} {pos:Pos} {f:MG D}
def GD {cs:List Str} {T:Ã} {yes:Str->Bool} (hc:kM X.K cs T yes) {vT:V} (hT:∀u,RelV vT u->u=T):cC X (.builtin "isinstance") (fun xs H Q=>∃(w:Wd) (d:D) (x:V),w.H=H/\aG X.K w/\DV X.K w d x/\xs=[x,vT]/\Out X.K Ξ w (cb cs yes d w.ax) fun w' d=>∀v,DV X.K w' d v->Q v w'.H):=by
 rintro A s σ H y N Q I r ⟨w,d,x,rfl,S,U,rfl,h⟩;obtain ⟨Y,W,R,Z⟩:∃Y,RelV x Y/\∃R,N=[Y,R]/\RelV vT R:=by
  cases r with
  |cons W Z=>cases Z with|cons Z M=>cases M;exact ⟨_,W,_,rfl,Z⟩
 obtain ⟨rfl,Z⟩:=Z;cases hT _ Z
 cases d with
 |aq =>
  have e:x=.aq:=U;subst e;have e:Y=Value.none:=W;subst e;exact kia_one kitx_none I.dR trivial hc.1 (by intro z;cases z) fun P=>⟨.bl false,w.H,I.tok P,rfl,aw S h _ rfl⟩
 |exc c _ =>
  simp only [DV] at U;obtain ⟨b,o,C,rfl,L,⟨J,G⟩,_⟩:=U;have e:Y=Ė b:=W;subst e;unfold cb at h;dsimp only at h;split at h
  ·rename_i F
   obtain ⟨t,O,E,B⟩:=hc.2 c (ó F);rw [G] at O;cases O;exact kia_one (DQ J E) I.dR (I.au b _ L.2).1 B (by intro z;cases z) fun P=>⟨.bl (yes c),w.H,I.tok P,rfl,aw S h _ rfl⟩
  ·exact h.elim
 |_=>exact h.elim
def yp {cs:List Str} {T:Ã} {yes:Str->Bool} {vT:V} {cn:Str} {p np:Pos} (hc:kM X.K cs T yes) (hT:∀u,RelV vT u->u=T) (h1:PE X (.Name cn np) (tC vT)) (ha:PE X a (tE X.K Ξ f)) (hm:X.mg "isinstance"=none) (hv:ì "isinstance"=some (.builtin "isinstance")) (hg:Gl X "isinstance":=by rfl)
  (hs:Æ [a,.Name cn np] X.env=(false,Ĝ a X.env)::Æ [.Name cn np] X.env:=by rfl) (jO:Æ [.Name cn np] X.env=(false,Ĝ (.Name cn np) X.env)::Æ [] X.env:=by rfl) (bN:(ď pos (Æ [.Name cn np] X.env)).any (·.1)=false:=by rfl) :
  PE X (.Call (.Name "isinstance" p) [a,.Name cn np] [] pos) (tE X.K Ξ (e1 (cb cs yes) f)) :=
 ck (rB (GD (Ξ:=Ξ) hc hT) hg hm hv (ig ha (ig h1 jY jO) hs) (by decide) (by decide) hs bN) fun σ H Q Z=>by
  obtain ⟨w,env,Y,S,W,h⟩:=Z;subst Y;exact ⟨w,env,rfl,S,W,(Out.ak h).mono fun U x O R h1 v1 P=>⟨U,x,v1,rfl,R,P,rfl,h1⟩⟩
end
open PyProof.Rows PySem.SeqAt
def uy (d:D) (s:aa):Res D:=match d with
 | .lst Z=>match gr Z with
  |some bs=>ok (.int (bs.count true:Nat)) s
  |none=>none
 |_=>none
def vu (d:D) (s:aa):Res D:=match d with
 | .lst Z=>match gr Z with
  |some bs=>if (decide (bs.idxOf true<bs.length)&&decide (bs.length<=100))=true then ok (.int (bs.idxOf true:Nat)) s else none
  |none=>none
 |_=>none
theorem zp:∀(bs:List Bool) (m:Nat) (h:m<bs.length),m<bs.idxOf true->bs[m]=false
 | [],m,h,_=>absurd h (Nat.not_lt_zero _)
 |true::r,m,h,g=>by simp at g
 |false::r,0,h,g=>rfl
 |false::r,m+1,h,g=>by
  have e:(false::r).idxOf true=r.idxOf true+1:=by rw [List.idxOf_cons];rfl
  rw [e] at g;exact zp r m (by simpa using h) (by omega)
noncomputable def lI:Ã->Bool
 | .bool b=>b
 |_=>false
theorem rm:∀{bs:List Bool} {ah:List Ã},Vals (bs.map V.bl) ah->ah=bs.map Ğ
 | [],_,.nil=>rfl
 |b::r,_,.cons e t=>by
  have e:_=Ğ b:=e;rw [e,rm t];rfl
theorem xE:∀bs:List Bool,(bs.map Ğ).countP lI=bs.count true
 | []=>rfl
 |b::r=>by
  rw [ñ,List.countP_cons,List.count_cons,xE r]
  cases b<;>rfl
def yq {A:Ö} {s:Á} {bs:List Bool} (y:Ã) (hy:y∈(bs.map Ğ).toArray):EqAt A s y (.bool true) (lI y):=by
 have hy:y∈bs.map Ğ:=by simpa using hy
 obtain ⟨b,_,rfl⟩:=List.mem_map.mp hy;have h:=EqAt.bool_bool (A:=A) (s:=s) b true
 cases b<;>exact h
section
variable {X:Cx} {Ξ:Wd->aM->Prop} {o:ÿ} {f:MG D} {p apos aO:Pos} {j:Nat}
def DR:uQ X "list.count" (fun x xs H Q=>∃(a:Í) (bs:List Bool),x=.ref a/\xs=[.bl true]/\bo X.K H a (bs.map V.bl)/\Q (.int (bs.count true:Nat)) H):=by
 rintro E s σ H x xs v U Q I T S ⟨a,bs,rfl,rfl,R,h⟩;have e:v=Ė a:=T;subst e;obtain ⟨u,rfl,rfl⟩:∃u,U=[u]/\u=Ğ true:=by
  cases S with|cons P O=>cases O;exact ⟨_,rfl,P⟩
 obtain ⟨ah,N,M,_⟩:=I.list R;cases rm N;obtain ⟨⟨cls,L,data,J⟩,n,Z,Y,_,W⟩:=M;simp only at Y W;subst Y W;refine call_meets PySem.F.slot_list_count ⟨_,Z,rfl⟩ PySem.F.entry_list_count (PySem.F.args_list_count_2 _ _) (list_countAt a _ n L J (.bool true) lI) ⟨Z,fun y G=>yq y G,?_⟩;rw [show (bs.map Ğ).toArray.toList=bs.map Ğ from rfl,xE];exact ⟨.int _,H,I.tok _,⟨_,rfl⟩,h⟩
def DT:uQ X "list.index" (fun x xs H Q=>∃(a:Í) (bs:List Bool),x=.ref a/\xs=[.bl true]/\bo X.K H a (bs.map V.bl)/\bs.idxOf true<bs.length/\bs.length<=100/\Q (.int (bs.idxOf true:Nat)) H):=by
 rintro A s σ H x xs v T Q I S R ⟨a,bs,rfl,rfl,P,O,z,h⟩;have e:v=Ė a:=S;subst e;obtain ⟨u,rfl,rfl⟩:∃u,T=[u]/\u=Ğ true:=by
  cases R with|cons N M=>cases M;exact ⟨_,rfl,N⟩
 obtain ⟨ah,L,J,_⟩:=I.list P;cases rm L;obtain ⟨⟨cls,G,data,E⟩,n,Z,Y,_,W⟩:=J;simp only at Y W;subst Y W;have sz:(bs.map Ğ).toArray.size=bs.length:=by simp
 refine call_meets PySem.F.slot_list_index ⟨_,Z,rfl⟩ PySem.F.entry_list_index (PySem.F.args_list_index_2 _ _) (list_indexAt a _ n G E (.bool true) lI (bs.idxOf true) (by rw [sz];exact O) (by omega) ?_ ?_) ⟨Z,fun y D=>yq y D,?_⟩
 ·simp [lI,List.getElem_idxOf]
 ·intro m U C
  have B:=zp bs m (by rw [sz] at U;exact U) C;simp [lI,B]
 ·exact ⟨.int _,H,I.tok _,⟨_,rfl⟩,h⟩
def GF (ho:PE X o (tE X.K Ξ f))
  (j4:Ļ o "count" X.env (Ĝ o X.env)=Ĝ o X.env:=by rfl)
  (nC:((ď aO (Æ [.Constant (.bool true) j p] X.env)).all (fun x=>!x.1)&&(backToKw aO (keywordEach [] X.env)).all (fun x=>x.1.isSome)
   && decide (([.Constant (.bool true) j p]:List ÿ).length+([]:List ξ).length+(if ([]:List ξ).isEmpty then 0 else 1)<30))=true:=by rfl)
  (mV:(apos.endLine==aO.line)=true:=by rfl) (hs:Æ [.Constant (.bool true) j p] X.env=(false,Ĝ (.Constant (.bool true) j p) X.env)::Æ [] X.env:=by rfl) (dZ:(ď aO (Æ [] X.env)).any (·.1)=false:=by rfl) :
  PE X (.Call (.Attribute o "count" apos) [.Constant (.bool true) j p] [] aO) (tE X.K Ξ (e1 uy f)) :=
 ck (yV PySem.F.plainAttrs_list PySem.F.slot_list_count PySem.F.type_list_count DR ho (ig sW jY hs) j4 nC mV hs dZ) fun σ H Q V=>by
  obtain ⟨w,env,U,S,T,h⟩:=V;subst U;refine ⟨w,env,rfl,S,T,(Out.ak h).mono fun O d N R Z v Y=>?_⟩
  cases d with
  |lst M =>
   unfold uy at Z;dsimp only at Z;split at Z
   ·rename_i bs P
    simp only [DV] at Y;obtain ⟨a,L,rfl,W,r⟩:=Y;cases pE P;cases r.pd;exact ⟨.inl ⟨rfl,_,W.sq⟩,a,bs,rfl,rfl,W.sq,aw R Z _ rfl⟩
   ·exact Z.elim
  |_=>exact Z.elim
def HX (ho:PE X o (tE X.K Ξ f))
  (j4:Ļ o "index" X.env (Ĝ o X.env)=Ĝ o X.env:=by rfl)
  (nC:((ď aO (Æ [.Constant (.bool true) j p] X.env)).all (fun x=>!x.1)&&(backToKw aO (keywordEach [] X.env)).all (fun x=>x.1.isSome)
   && decide (([.Constant (.bool true) j p]:List ÿ).length+([]:List ξ).length+(if ([]:List ξ).isEmpty then 0 else 1)<30))=true:=by rfl)
  (mV:(apos.endLine==aO.line)=true:=by rfl) (hs:Æ [.Constant (.bool true) j p] X.env=(false,Ĝ (.Constant (.bool true) j p) X.env)::Æ [] X.env:=by rfl) (dZ:(ď aO (Æ [] X.env)).any (·.1)=false:=by rfl) :
  PE X (.Call (.Attribute o "index" apos) [.Constant (.bool true) j p] [] aO) (tE X.K Ξ (e1 vu f)) :=
 ck (yV PySem.F.plainAttrs_list PySem.F.slot_list_index PySem.F.type_list_index DT ho (ig sW jY hs) j4 nC mV hs dZ) fun σ H Q U=>by
  obtain ⟨w,env,T,S,R,h⟩:=U;subst T;refine ⟨w,env,rfl,S,R,(Out.ak h).mono fun N d M P Z v W=>?_⟩
  cases d with
  |lst L =>
   unfold vu at Z;dsimp only at Z;split at Z
   ·rename_i bs O
    split at Z
    ·rename_i Y
     rw [Ä,Ô,Ô] at Y;simp only [DV] at W;obtain ⟨a,J,rfl,V,r⟩:=W;cases pE O;cases r.pd;exact ⟨.inl ⟨rfl,_,V.sq⟩,a,bs,rfl,rfl,V.sq,Y.1,Y.2,aw P Z _ rfl⟩
    ·exact Z.elim
   ·exact Z.elim
  |_=>exact Z.elim
end
end DI
namespace L2
open PySem PySem.Spec PyProof.Rows PySem.W
def CN {Pr:Ò} {w:é} {K:ð} {mg mb:Str->Option Ã} {CX:fE} {k:Nat} {fa a c P:Í} {fd:ô} {x:Str} {sp:Sp} {aU:Á} {vs:List Ã} {ns:List Int}
  (KX:K.In aU.heap) (lY:aU.heap.Ns È mg) (hb:aU.heap.Ns builtinsNs mb) (Lf:∀x:Str,x≠"__name__"->mb x=ì x) (Jx:aU.heap.NoLimit) (hg:aU.gens=#[])
  (ha:aU.heap.get? a=some { cls:=.type "list",data:=.seq vs.toArray }) (hi:IntsAre vs ns) (hl:ns.length<=Ï) (hr:bc k callerA)
  (CT:CodeHd aU.heap c P) (hP:aU.heap.get? P=some (tabObj #[])) (vv:K.lookup P=none) (vw:aU.heap.BuiltinsAt mg P)
  (F:∀base:ā,K.In base->base.Ns È mg->base.BuiltinsAt mg P->bP Pr w K mg base CX k fa fd [x] sp) (tF:∀(s:Á) (u:Ã),BindsTo s fd ⟨[u],[]⟩ [(x,u)])
  (fF:∀H:Hp,H P=some (.cf #[])->bo K H a (ns.map V.int)->sp [.ref a] H (fun v _=>v=.bl true) fun _ _ _=>False)
  (vz:∀H e s',CX [] H aU (fun _ _ _=>False) e s'->False) :
  ż (Ø Pr w) callerA (.call (.ref fa) ⟨[.ref a],[]⟩) (fun r s'=>r=.ok (.ret (.bool true))/\OldK aU.heap s'.heap/\s'.os=aU.os/\υ s'.gens) aU:=by
 have Q:=wo hi;have D:=hi.length;have O:a≠P:=fun z=>by rw [z,hP] at ha;cases ha
 have core:∀H:Hp,H P=some (.cf #[])->(∀b,H b=none\/b=P\/(b=a/\∃o U,H b=some (.aI o (.lst U))))->bo K H a (ns.map V.int)->bE Pr w H aU.heap->(H a≠none->K.lookup a=none) ->
   ż (Ø Pr w) callerA (.call (.ref fa) ⟨[.ref a],[]⟩) (fun r s'=>r=.ok (.ret (.bool true))/\OldK aU.heap s'.heap/\s'.os=aU.os/\υ s'.gens) aU:=by
  intro H N T C M B;have free:∀{b:Í} {o:Obj},aU.heap.get? b=some o->o≠tabObj #[]->o≠{ cls:=.type "list",data:=.seq vs.toArray }->H b=none:=fun {b o} e A y=>by
   rcases T b with z|z | ⟨z,_⟩
   ·exact z
   ·rw [z,hP] at e;exact absurd (MN e).symm A
   ·rw [z,ha] at e;exact absurd (MN e).symm y
  have X:∀{b:Í} {m:Str->Option Ã},aU.heap.Ns b m->(iZ aU.heap H).Ns b m:=fun {b m} ⟨o,t,p,e,d,r⟩=>⟨o,t,p,rq e (free e (fun z=>by rw [z] at d;cases d) fun z=>by rw [z] at d;cases d),d,r⟩;have L:K.In (iZ aU.heap H):=fun b o e=>rq (KX b o e) (by
   rcases T b with z|z | ⟨z,J,U,W⟩
   ·exact z
   ·rw [z,vv] at e;cases e
   ·subst z;rw [B (by rw [W];intro z;cases z)] at e;cases e)
  have l:Mod K mg (iZ aU.heap H):=⟨L,X lY,⟨mb,X hb,Lf⟩,let ⟨j,i,g⟩:=Jx;⟨j,X i,g⟩⟩
  have f:(iZ aU.heap H).BuiltinsAt mg P:=let ⟨bm,o,b1,b2,b3,b4,I,S,r⟩:=vw;⟨bm,o,b1,b2,b3,b4,rq I (free I (fun z=>by rw [z] at S;cases S) fun z=>by rw [z] at r;cases r.2),S,r⟩
  have e0:lr Pr w K mg (iZ aU.heap H) callerA [] aU H:=⟨rfl,l,fun b o e=>Ee e,Nat.le_of_eq (Cn _ _),trivial,fun b hb=>absurd (show b∈([]:List Í) from hb) (by simp),M,.of_eq hg⟩;refine ũ ((F _ L (X lY) f).run callerA [] aU H ⟨[.ref a],[]⟩ [.ref a] [.ref a] _ _ hr e0 (tF aU (.ref a)) (.cons rfl .nil) (fF H N C)) fun r s' h=>?_
  cases r with
  |error e=>exact (vz H e s' h).elim
  |ok fl =>
   cases fl with
   |next=>exact ï h
   |brk=>exact ï h
   |cont=>exact ï h
   |ret u =>
    obtain ⟨v,H',os,bare,un,G,r',q⟩:=h;have q':v=.bl true:=q;subst q';obtain rfl:u=Ğ true:=r';have keep:∀b o,aU.heap.get? b=some o->b≠P->s'.heap.get? b=some o:=fun b o e n=>by
     rcases T b with z|z | ⟨z,J,U,W⟩
     ·exact un.keep b o e z (by intro z;exact absurd (show b∈([]:List Í) from z) (by simp)) (by simp)
     ·exact absurd z n
     ·obtain ⟨e1,_⟩:=M b _ W
      obtain ⟨e2,_⟩:=G b _ (un.cE b J _ W);rw [e] at e1;cases e1;exact e2
    obtain ⟨more,hm⟩:=un.cO P _ N;have E:s'.heap.get? P=some (tabObj (#[]++more)):=G P _ hm;refine ⟨rfl,⟨fun b o e=>?_,fun b o e=>?_⟩,os,bare⟩
    ·by_cases hb:b=P
     ·subst hb
      rw [hP] at e;cases e;exact .inr (.inl ⟨(CT.tab hP).isCodeTable,rfl,#[],more,rfl,E⟩)
     ·exact .inl (keep b o e hb)
    ·by_cases hb:b=P
     ·subst hb;exact ⟨_,E⟩
     ·exact ⟨o,keep b o e hb⟩
 cases R:K.lookup a with
 |some o =>
  have e:=KX a o R;rw [ha] at e;cases e
  refine core (fun b=>if b=P then some (.cf #[]) else none) (ë rfl) (fun b=>?_) (.inr ⟨_,vs.toArray,_,R,rfl,rfl,rfl,by rw [Ù,D];exact hl,by simpa using Q⟩) (fun b u z=>?_) (fun z=>absurd (î O) z)
  ·by_cases hb:b=P
   ·exact .inr (.inl hb)
   ·exact .inl (î hb)
  ·by_cases hb:b=P
   ·have Z:=(ë hb).symm.trans z
    cases Z;subst hb;exact hP
   ·have Z:=(î hb).symm.trans z
    cases Z
 |none =>
  refine core (fun b=>if b=P then some (.cf #[]) else if b=a then some (.aI { cls:=.type "list",data:=.seq vs.toArray } (.lst (ns.map V.int))) else none) (ë rfl) (fun b=>?_) (.inl (.inr ⟨{ cls:=.type "list",data:=.seq vs.toArray },(î O).trans (ë rfl)⟩)) (fun b u z=>?_) (fun _=>R)
  ·by_cases hb:b=P
   ·exact .inr (.inl hb)
   ·by_cases Y:b=a
    ·exact .inr (.inr ⟨Y,_,_,(î hb).trans (ë Y)⟩)
    ·exact .inl ((î hb).trans (î Y))
  ·by_cases hb:b=P
   ·have Z:=(ë hb).symm.trans z
    cases Z;subst hb;exact hP
   ·by_cases Y:b=a
    ·have Z:=((î hb).trans (ë Y)).symm.trans z
     cases Z;subst Y;exact ⟨ha,by rw [å];exact hl,vs,_,Q,ha⟩
    ·have Z:=((î hb).trans (î Y)).symm.trans z
     cases Z
def GH {l:OpenLaw} {n k:Nat} {q:Ò} {loose:List Str} {XP:(Str->Option Ã)->ā->Prop} {YP:é->ā->Prop} {d:DefRec} {K:Params->ð} {CX:é->fE} {sp:é->Í->Sp} {x:Str}
  (hn:l.most=some n) (Lg:n<=Ï) (nZ:d.params.defaults=[]) (hr:bc k callerA)
  (hY:∀(w:é) (h:ā),YP w h->(K w.params).In h) (hd:(recsOf q).find? (fun e=>e.name==d.name)=some d)
  (F:∀(w:é) (mg:Str->Option Ã) (fa:Í) (h:ā),(K w.params).In h->h.Ns È mg->mg d.name=some (.ref fa) ->
   ∃(c P:Í) (fd:ô),tabIn (K w.params) d.name=some (c,P)/\(K w.params).lookup P=none/\(∀(s:Á) (u:Ã),BindsTo s fd ⟨[u],[]⟩ [(x,u)]) /\
    ∀base:ā,(K w.params).In base->base.Ns È mg->base.BuiltinsAt mg P->bP l.prog w (K w.params) mg base (CX w) k fa fd [x] (sp w P))
  (fF:∀(w:é) (P:Í) (H:Hp) (a:Í) (ns:List Int),ns.length<=n->H P=some (.cf #[])->bo (K w.params) H a (ns.map V.int)->sp w P [.ref a] H (fun v _=>v=.bl true) fun _ _ _=>False)
  (vz:∀(w:é) (H:Hp) (s:Á) (e:Ã) (s':Á),CX w [] H s (fun _ _ _=>False) e s'->False) :
  WalkO q loose XP YP l.row.toRowW d [] (fun f vs=>PySem.call f vs):=by
 refine AE.BL hn nZ fun w m S mg j fa o pm cd doc a vs ns G Y i Mx bF O N hints Z M=>?_;have W:=hY w _ Y;obtain ⟨c,P,fd,L,J,I,E⟩:=F w mg fa _ W G.T.g O;obtain ⟨D,R⟩:=tab_of G.T W hd L;have C:S.heap.BuiltinsAt mg P:=by
  obtain ⟨bm,B,A,y,X,Q,t,U⟩:=G.T.bmain;refine ⟨bm,B,A,y,fun z=>?_,fun z=>?_,X,Q,t,U⟩
  ·obtain ⟨o,es,ep,e,hd,_⟩:=G.T.g
   rw [z,e] at X;cases X;rw [hd] at U;cases U
  ·rw [z,R] at X;cases X;cases Q
 exact CN W G.T.g G.T.b G.T.builtins G.T.nolimit M N hints (ß Z Lg) hr D R J C E I (fun H r p=>fF w P H a ns Z r p) fun H e s'=>vz w H S e s'
end L2
namespace DI
open PySem L2 PySem.W
def HY {P:Ò} {w:é} {K:ð} {mg:Str->Option Ã} {base:ā} {x:Str} {st:μ} {f c T:Í} {fd:ô} {ps:List Str} {k:Nat} {b:MG Fl} (G:Gd K mg x st ps f fd) (hx:nsIn K È x=some (some (.ref f))) (ht:tabIn K x=some (c,T)) (N:List Str) (S:jz N ps (bI st)=true)
  (hb:N.Nodup->∀(A:Ö) (outer:List PySem.Env) (s:Á) (H:Hp) (E:XK),bc k (A.deeper (Č x (bI st) s.heap.objs.size f (.ref c)))->bQ (er bV P w K mg base N x (bI st) f (.ref c) A outer s H E).i9 (eR st) (tS K bY b)) :
  bP P w K mg base bV (k+1) f fd ps (fI K (aZ ps.length N.length b)):=by
 obtain ⟨D,C,kV,doc,pm,an,X,ct,B,rfl,lk,U⟩:=G.fn.ex;have R:X=.ref c:=by
  unfold tabIn at ht;rw [hx] at ht;dsimp only at ht;rw [lk] at ht;dsimp only at ht
  cases X with
  |ref z =>
   dsimp only at ht;split at ht
   ·split at ht
    ·cases ht;rfl
    ·cases ht
   ·cases ht
  |_=>cases ht
 subst R;refine sZ lk U (gE S) (fun O H Q E h=>?_) fun A outer s H O Q E M h=>?_
 ·obtain ⟨w,L,rfl,S,Y,h⟩:=h
  rw [<- Y.length];unfold aZ at h;split at h
  ·assumption
  ·exact h.elim
 ·obtain ⟨W,L,rfl,J,Y,h⟩:=h
  refine ⟨_,(hb (gE S).nd A outer s W.H E M).i9,?_⟩;unfold aZ at h;split at h
  ·rename_i I
   rw [<- I] at h;refine ⟨W,_,rfl,J,Y.env N.length,(Out.ak h).mono fun y F v V Z=>?_⟩
   cases F with
   |nx env=>intro u _;exact aw V Z _ rfl
   |rt d=>have q:=aw V Z;exact q
   |bk env=>exact Z.elim
   |ct env=>exact Z.elim
  ·exact h.elim
def pK (K:ð) (T:Í):Sp:=fun Y H Q _=>∃(a:Í) (Z:List Int),Y=[.ref a]/\bo K H a (Z.map V.int)/\Z.length<=63/\H T=some (.cf #[])/\∀X,Q (.bl true) X
def ER {P:Ò} {w:é} {K:ð} {mg:Str->Option Ã} {base:ā} {k:Nat} {f c T:Í} {fd:ô} {x y:Str} {g:List D->aa->Res D} (F:bP P w K mg base bV k f fd [x] (fI K g)) (ht:tabIn K y=some (c,T))
  (h:∀ns:List Int,ns.length<=63->∃s,g [.bb ns] [.tb y]=some (.ok (.bl true),s)):bP P w K mg base bV k f fd [x] (pK K T):=F.imp fun U H Q E ⟨a,ns,e,hS,X,Y,q⟩=>by
 subst e;obtain ⟨s,hs⟩:=h ns X;have W:∀b,(⟨[T],[.tb y],H⟩:Wd).Z b->b=T:=fun b ⟨k,c,e1,_,_⟩=>by
  cases k with
  |zero=>exact (MN e1).symm
  |succ k=>cases e1
 have S:aG K ⟨[T],[.tb y],H⟩:=by
  refine ⟨rfl,by simp,fun k a e=>?_,fun k a R e1 e2=>?_⟩
  ·cases k with
   |zero=>cases e;show H T≠none;rw [Y];intro z;cases z
   |succ k=>cases e
  ·cases k with
   |zero=>cases e1;cases e2;exact ⟨c,#[],ht,Y,trivial,fun pos O z=>by cases z⟩
   |succ k=>cases e1
 refine ⟨⟨[T],[.tb y],H⟩,[.bb ns],rfl,S,aj.one ⟨a,rfl,?_⟩,?_⟩
 ·rcases hS with hS|hS
  ·refine .inl ⟨fun z=>?_,hS⟩
   rw [W a z] at hS
   rcases hS with hS | ⟨_,hS⟩<;>(rw [Y] at hS;cases hS)
  ·exact .inr hS
 ·show Out K bY _ (g [.bb ns] [.tb y]) _
  rw [hs];intro N _ _ _ v V;have e:v=.bl true:=V;subst e;exact q _
def BD:ì "ValueError"=some (.type "ValueError"):=by decide +kernel
noncomputable def isNm (n c:Str):Bool:=decide (c=n)
noncomputable def anyS (_:Str):Bool:=true
abbrev md (P:Ò) (w:é) (K:ð) (mg:Str->Option Ã) (base:ā) (x:Str) (st:μ) (ps:List Str) (k:Nat) (fn:List D->aa->Res D):Prop:=∀{f:Í} {fd:ô},Gd K mg x st ps f fd->bP P w K mg base (dJ P w) k f fd ps (l7 mg K fn)
def cQ (K:ð) (mg:Str->Option Ã) (cs:List Str) (n:Str):Prop:=∃C,mg n=some (.ref C)/\kM K cs (.ref C) (isNm n)
def Bc (K:ð) (mg:Str->Option Ã) (cs:List Str) (n:Str):Prop:=∃Z,mg n=some (.ref Z)/\∀c∈cs,∃C,nsIn K È c=some (some (.ref C))/\mg c=some (.ref C)/\exmOne K (.ref C) (.ref Z)=some true
section
variable {X:Cx} {E:XK} {Ξ:Wd->aM->Prop} {e a b c:ÿ} {es rest:List ÿ} {pos:Pos} {f g h:MG D} {fa:MG (List D)}
def j9 {k n:Nat} {x:Str} {st:μ} {ps:List Str} {fn:List D->aa->Res D} {p:Pos} (G:GG X.K X.mg x st ps) (F:md X.prog X.w X.K X.mg X.base x st ps k fn) (L:Passes (dJ X.prog X.w) X E) (hr:bc n X.A) (ha:PA X (e::es) (tA X.K (eI X.mg E) fa)) (hk:k<=n:=by decide) (hg:Gl X x:=by rfl) (cG:(x==("__debug__":Str))=false:=by decide)
  (he:Æ (e::es) X.env=(false,Ĝ e X.env)::Æ es X.env:=by rfl) (bN:(ď pos (Æ es X.env)).any (·.1)=false:=by rfl):PE X (.Call (.Name x p) (e::es) [] pos) (tE X.K (eI X.mg E) (cS fn fa)):=by
 obtain ⟨f,fd,G⟩:=G;exact EN L (F G) (hr.mono hk) hg G.mg G.fn.kp G.b ha cG he bN
def ka {k n:Nat} {x:Str} {st:μ} {ps:List Str} {fn:List D->aa->Res D} {p:Pos} (G:GG X.K X.mg x st ps) (F:md X.prog X.w X.K X.mg X.base x st ps k fn) (hr:bc n X.A) (ha:PA X (e::es) (tA X.K Ξ fa)) (hk:k<=n:=by decide) (hg:Gl X x:=by rfl) (cG:(x==("__debug__":Str))=false:=by decide)
  (he:Æ (e::es) X.env=(false,Ĝ e X.env)::Æ es X.env:=by rfl) (bN:(ď pos (Æ es X.env)).any (·.1)=false:=by rfl):PE X (.Call (.Name x p) (e::es) [] pos) (tE X.K Ξ (aK fn fa)):=by
 obtain ⟨f,fd,G⟩:=G;exact EO (F G) (hr.mono hk) hg G.mg G.fn.kp G.b ha cG he bN
def cY {cs:List Str} {cn:Str} {p np:Pos} (hc:cQ X.K X.mg cs cn) (ha:PE X a (tE X.K Ξ f)) (hm:X.mg "isinstance"=none) (hg:Gl X "isinstance":=by rfl) (vA:Gl X cn:=by rfl) (hd:(cn==("__debug__":Str))=false:=by decide)
  (hs:Æ [a,.Name cn np] X.env=(false,Ĝ a X.env)::Æ [.Name cn np] X.env:=by rfl) (jO:Æ [.Name cn np] X.env=(false,Ĝ (.Name cn np) X.env)::Æ [] X.env:=by rfl) (bN:(ď pos (Æ [.Name cn np] X.env)).any (·.1)=false:=by rfl) :
  PE X (.Call (.Name "isinstance" p) [a,.Name cn np] [] pos) (tE X.K Ξ (e1 (cb cs (isNm cn)) f)):=by
 obtain ⟨C,Z,h⟩:=hc;exact yp (vT:=.ref C) h (fun u r=>r) (w9 vA Z rfl hd) ha hm fm hg hs jO bN
def GI {cs:List Str} {p np:Pos} (hc:kM X.K cs (.type "ValueError") anyS) (ha:PE X a (tE X.K Ξ f)) (hm:X.mg "isinstance"=none) (Lh:X.mg "ValueError"=none) (hg:Gl X "isinstance":=by rfl) (vA:Gl X "ValueError":=by rfl)
  (hs:Æ [a,.Name "ValueError" np] X.env=(false,Ĝ a X.env)::Æ [.Name "ValueError" np] X.env:=by rfl) (jO:Æ [.Name "ValueError" np] X.env=(false,Ĝ (.Name "ValueError" np) X.env)::Æ [] X.env:=by rfl) (bN:(ď pos (Æ [.Name "ValueError" np] X.env)).any (·.1)=false:=by rfl) :
  PE X (.Call (.Name "isinstance" p) [a,.Name "ValueError" np] [] pos) (tE X.K Ξ (e1 (cb cs anyS) f)) :=
 yp (vT:=.ty "ValueError") hc (fun u r=>r) (o8 vA Lh BD rfl) ha hm fm hg hs jO bN
end
noncomputable def sD (K:ð) (x:Str):Bool:=match tabIn K x with
 |some (c,P)=>codeHdIn K c P&&(K.lookup P).isNone
 |none=>false
def ES {K:ð} {x:Str} (h:sD K x=true):∃c P,tabIn K x=some (c,P)/\codeHdIn K c P=true/\K.lookup P=none:=by
 unfold sD at h;split at h
 ·rename_i c P e
  rw [Ä] at h;exact ⟨c,P,e,h.1,Option.isNone_iff_eq_none.mp h.2⟩
 ·cases h
def mR {K:ð} {x:Str} {p:Í->Bool} (h:(match nsIn K È x with|some (some (.ref C))=>p C | _=>false)=true):∃C,nsIn K È x=some (some (.ref C))/\p C=true:=by
 split at h
 ·rename_i C e
  exact ⟨C,e,h⟩
 ·cases h
section
variable {K:ð} {cs asked:List Str} {ef:Str} {h:ā} {mg:Str->Option Ã}
end
end DI
namespace L2
open PySem PySem.Spec PyProof.Rows PySem.W
structure dA (k:Nat) (A:Ö):Prop where
 dp:A.depth+3*k+5<ŧ
 un:A.units+16*k+200<cLine
def bc.h {k:Nat} {A:Ö} (r:bc k A):dA k A:=⟨r.dp,r.un⟩
def dA.mono {j k:Nat} {A:Ö} (r:dA k A) (h:j<=k):dA j A:=⟨by have:=r.dp;omega,by have:=r.un;omega⟩
theorem dA.deeper {k:Nat} {A:Ö} (r:dA (k+1) A) (env:Env):dA k (A.deeper env) :=
 ⟨by have:=r.dp;show A.depth+1+3*k+5 < _;omega,by have:=r.un;show A.units+3+16*k+200 < _;omega⟩
theorem dA.depth {k:Nat} {A:Ö} (r:dA k A):A.depth<ŧ:=by have:=r.dp;omega
def dA.held {k:Nat} {A:Ö} (r:dA k A) (v:Option Ã):dA k (A.mark v):=⟨r.dp,r.un⟩
structure pX (P:Ò) (w:é) (K:ð) (mg:Str->Option Ã) (base:ā) (k:Nat) (f:Í) (fd:ô) (ps:List Str) (sp:Sp):Prop where
 len:∀vs H Q E,sp vs H Q E->vs.length=ps.length
 run:∀(A:Ö) (outer:List Env) (s:Á) (H:Hp) (args:Args) (us:List Ã) (vs:List V) (Q:VK) (E:XK),dA k A->lr P w K mg base A outer s H->BindsTo s fd args (ps.zip us)->Vals vs us->sp vs H Q E ->
  ż (Ø P w) A (.call (.ref f) args) (CR bV outer P w H s Q E) s
noncomputable abbrev _root_.PySem.Around.pY (A:Ö):Ö:={ A with handled:=none }
noncomputable abbrev Cx.loud (X:Cx) (A:Ö):Cx:={ X with A:=A,calm:=false,xe:=fun _ _=>False }
theorem Inv.loud {X:Cx} {π:List (Í×Obj)} {σ:St} {H:Hp} {s:Á} (I:Inv X π σ H s) (A:Ö) (h:A.frames=X.A.frames):Inv (X.loud A) π σ H s:=by
 obtain ⟨⟨a1,a2,Z,Y,W,V,U,T,v,S,R,Q,P,O,N,M,L,K⟩,J,G,F,E,D,C,B,y,x,w⟩:=I;exact ⟨⟨a1,a2,Z,Y,W,V,U,T,fun z=>absurd z Î,h.trans S,R,Q,P,O,N,M,L,K⟩,J,G,F,E,D,C,B,y,x,w⟩
def GJ {P:Ò} {w:é} {K:ð} {mg:Str->Option Ã} {base:ā} {k:Nat} {f:Í} {name qual:Str} {params:ś} {body:List μ} {scope:Ł} {dV kV doc pm aB ct oc:Ã} {an od:Option Í}
  {cK:Array (Option Ã)} {N ps:List Str} {sp:Sp} (lk:K.lookup f=some ⟨oc,od,.func (Ĕ name qual params body scope dV kV doc pm an aB ct),cK⟩) (bF:Ņ K aB qual=true) (S:iQ N ps scope)
  (len:∀vs H Q E,sp vs H Q E->vs.length=ps.length)
  (gG:∀(A:Ö) (outer:List Env) (s:Á) (H:Hp) (vs:List V) (Q:VK) (E:XK),dA k (A.deeper (MF qual scope s.heap.objs.size f aB))->sp vs H Q E ->
   ∃t,bQ ((er bV P w K mg base N qual scope f aB A.pY outer s H E).loud (A.deeper (MF qual scope s.heap.objs.size f aB))) body t/\t { nx:=fun _ H'=>Q .aq H',rt:=Q } (start N vs) H) :
  pX P w K mg base (k+1) f (Ĕ name qual params body scope dV kV doc pm an aB ct) ps sp:=by
 refine ⟨len,fun A outer s H args p vs Q E T Z M r R=>?_⟩;have L:=len _ _ _ _ R;have O:K.In s.heap:=Z.mod.gg.keeps fun b o e=>(Z.bs b o e).1;have lim:s.heap.NoLimit:=Z.mod.nolimit.keeps fun b o e=>(Z.bs b o e).1;refine ū T.depth (O _ _ lk) rfl S.co S.gen rfl (PySem.W.codeRec_of O bF) (M _ _ _ _ ?_);refine ŀ S.kind (fun y G=>?_) fun env F D x=>?_
 ·rcases S.par y.1 (Ś G).1 with q|q
  ·exact .inl q
  ·exact .inr ⟨q,Ĭ _ _ _ (.inl q)⟩
 subst F;refine ⟨lim.keeps x.toInCall.keep,codeAny_func ?_⟩;obtain ⟨t,C,B⟩:=gG A outer s H vs Q E (T.deeper _) R;have I:=(wk (CX:=bV) (P:=P) (w:=w) (A:=A.pY) (E:=E) S rfl ⟨Z.frames,Z.mod,Z.bs,Z.gk,Z.eZ,Z.gO,Z.au,Z.bare⟩ L r x).loud (A.deeper (MF qual scope s.heap.objs.size f aB)) rfl;refine ù (C [] D (start N vs) H _ I B) (fun z X hs=>?_) fun e X hs=>hs.elim;have fin:∀{Y:St} {H':Hp} {v:V} {u:Ã},Inv ((er bV P w K mg base N qual scope f aB A.pY outer s H E).loud (A.deeper (MF qual scope s.heap.objs.size f aB))) [] Y H' X->RelV v u->Q v H'->CE outer P w H s Q u X :=
  fun {Y H' v u} J U q=>⟨v,H',J.os,J.bare,J.base,J.au,U,q⟩
 cases z with
 |ret u=>obtain ⟨v,Y,H',J,U,q⟩:=hs;exact fin J U q
 |next=>obtain ⟨Y,H',J,q⟩:=hs;exact fin (v:=V.aq) (u:=Value.none) J rfl q
 |brk=>obtain ⟨_,_,_,q⟩:=hs;exact q.elim
 |cont=>obtain ⟨_,_,_,q⟩:=hs;exact q.elim
section
variable {X:Cx} {k:Nat} {f:Í} {fd:ô} {ps:List Str} {sp:Sp} {E:XK} {x:Str} {p pos:Pos} {e:ÿ} {es:List ÿ} {t:TA}
def DU (F:pX X.prog X.w X.K X.mg X.base k f fd ps sp) (hr:dA k X.A) (hg:Gl X x) (hm:X.mg x=some (.ref f)) (hk:Ą X.K (.ref f)=true) (hb:Binds X.K fd ps [])
  (ha:PA X (e::es) t) (cG:(x==("__debug__":Str))=false:=by decide) (he:Æ (e::es) X.env=(false,Ĝ e X.env)::Æ es X.env:=by rfl) (bN:(ď pos (Æ es X.env)).any (·.1)=false:=by rfl) :
  PE X (.Call (.Name x p) (e::es) [] pos) (yU sp [] E0 t):=by
 intro S s σ H Q I h;refine ř (jU I hg hm ?_ cG);refine ι (h₀:=X.base) I.ok.mod.gg hk (aL (ha pos S s σ H _ I h) fun Z V ⟨U,R,W,r,q⟩=>⟨W.dR,?_⟩) he bN;have T:Vals (U++[]) (Z++[]):=r.append .nil;have P:(Z++[]).length=ps.length:=by rw [<- T.length];exact F.len _ _ _ _ q
 refine ļ (ũ (F.run X.A X.stack V R ⟨Z,[]⟩ (Z++[]) (U++[]) Q E0 hr W.kf (hb V Z W.dR P) T q) fun r N Y=>?_)
 cases r with
 |error e=>exact ï Y
 |ok O =>
  cases O with
  |ret u=>exact W.after Y
  |next=>exact ï Y
  |brk=>exact ï Y
  |cont=>exact ï Y
end
end L2
namespace DI
open PySem L2 PySem.W
abbrev Bd (P:Ò) (w:é) (K:ð) (mg:Str->Option Ã) (base:ā) (x:Str) (st:μ) (ps:List Str) (k:Nat) (fn:List D->aa->Res D):Prop:=∀{f:Í} {fd:ô},Gd K mg x st ps f fd->pX P w K mg base k f fd ps (fI K fn)
def H0 {P:Ò} {w:é} {K:ð} {mg:Str->Option Ã} {base:ā} {x:Str} {st:μ} {f:Í} {fd:ô} {ps:List Str} {k:Nat} {b:MG Fl} (G:Gd K mg x st ps f fd) (N:List Str) (S:jz N ps (bI st)=true)
  (hb:N.Nodup->∀(aB:Ã) (A:Ö) (outer:List PySem.Env) (s:Á) (H:Hp) (E:XK),dA k (A.deeper (Č x (bI st) s.heap.objs.size f aB))->bQ ((er bV P w K mg base N x (bI st) f aB A.pY outer s H E).loud (A.deeper (Č x (bI st) s.heap.objs.size f aB))) (eR st) (tS K bY b)) :
  pX P w K mg base (k+1) f fd ps (fI K (aZ ps.length N.length b)):=by
 obtain ⟨L,J,kV,doc,pm,an,aB,ct,I,rfl,lk,W⟩:=G.fn.ex;refine GJ lk W (gE S) (fun V H Q E h=>?_) fun A outer s H V Q E U h=>?_
 ·obtain ⟨w,T,rfl,S,Y,h⟩:=h
  rw [<- Y.length];unfold aZ at h;split at h
  ·assumption
  ·exact h.elim
 ·obtain ⟨w,T,rfl,R,Y,h⟩:=h
  refine ⟨_,hb (gE S).nd aB A outer s w.H E U,?_⟩;unfold aZ at h;split at h
  ·rename_i O
   rw [<- O] at h;refine ⟨w,_,rfl,R,Y.env N.length,(Out.ak h).mono fun F M D X Z=>?_⟩
   cases M with
   |nx env=>intro C _;exact aw X Z _ rfl
   |rt d=>have q:=aw X Z;exact q
   |bk env=>exact Z.elim
   |ct env=>exact Z.elim
  ·exact h.elim
def ju (cs:List Str) (told:Str) (f:MG D) (j:Nat) (b:MG Fl):MG Fl:=fun env s=>match f env s with
 |none=>none
 |some (.ok d,s)=>ok (.rt (.tup [.str told,d])) s
 |some (.error x,s)=>if decide (x.c∈cs)=true then ak (b (env.set j (some (.exc x.c x.many))) s) fun Z s=>match Z with
   | .nx env=>ok (.nx (env.set j none)) s
   | .rt d=>ok (.rt d) s
   |_=>none else none
section
variable {X:Cx} {E:XK} {Ξ:Wd->aM->Prop} {e a b c:ÿ} {es rest:List ÿ} {pos:Pos} {f g h:MG D} {fa:MG (List D)}
def H9 {k n:Nat} {x:Str} {st:μ} {ps:List Str} {fn:List D->aa->Res D} {p:Pos} (G:GG X.K X.mg x st ps) (F:Bd X.prog X.w X.K X.mg X.base x st ps k fn) (hr:dA n X.A) (ha:PA X (e::es) (tA X.K Ξ fa)) (hk:k<=n:=by decide) (hg:Gl X x:=by rfl) (cG:(x==("__debug__":Str))=false:=by decide)
  (he:Æ (e::es) X.env=(false,Ĝ e X.env)::Æ es X.env:=by rfl) (bN:(ď pos (Æ es X.env)).any (·.1)=false:=by rfl):PE X (.Call (.Name x p) (e::es) [] pos) (tE X.K Ξ (aK fn fa)):=by
 obtain ⟨f,fd,G⟩:=G;refine ck (DU (F G) (hr.mono hk) hg G.mg G.fn.kp G.b ha cG he bN) fun σ H Q Y=>?_;obtain ⟨w,env,W,S,V,h⟩:=Y;subst W;refine ⟨w,env,rfl,S,V,(Out.ak h).mono fun Z U N T R P O=>?_⟩;show fI X.K fn (P++[]) Z.H Q E0;rw [Ć];exact ⟨Z,U,rfl,T,O,R.ne⟩
def tG (x y:D) (s:aa):Res D:=match x,y with
 | .int i,.int j=>ok (.bl (!(i==j))) s
 |_,_=>none
def Ia:bp X (Ā .NotEq) (rO X.K Ξ tG):=by
 rintro Z s σ H x y v u Q I Y W ⟨w,R,P,rfl,S,U,T,h⟩;unfold tG at h;split at h
 ·rename_i i j
  cases U;cases T;refine yT Z s σ w.H _ _ v u Q I Y W ⟨rfl,?_⟩;have:(!decide (V.int i=V.int j))=!(i==j):=by
   congr 1;rw [Ĵ];simp
  rw [this];exact aw S h _ rfl
 ·exact h.elim
def GK {k i j:Nat} {x cn n told:Str} {p aO nB Jz np ux c0:Pos} {k0 k1} {pre:Hp->Prop} {f:Í} {vs:List V} {ds:List D} {th:aa->Res D} {nL:μ} {nj:List μ} {b:MG Fl} {cs:List Str} (T:qK X.prog X.w X.K X.mg X.base k pre f vs ds th) (h0:pre X.iw) (hr:bc k X.A)
  (hc:∃CM,X.mg cn=some (.ref CM)/\∀c∈cs,∃C,nsIn X.K È c=some (some (.ref C))/\X.mg c=some (.ref C)/\exmOne X.K (.ref C) (.ref CM)=some true)
  (hs:∀a,bQ (X.held a) (nL::nj) (tS X.K bY b)) (jG:X.N.Nodup)
  (L:X.stack=X.env::X.outer:=by rfl) (hf:X.env.frame=some X.env.locals:=by rfl) (hj:X.N[j]?=some n:=by rfl) (jN:X.env.scope.names.lookup n=some .local:=by rfl) (hg:Gl X cn:=by rfl) (Li:(cn==("__debug__":Str))=false:=by decide)
  (hN:X.N[i]?=some x:=by rfl) (hv:lQ X.env.scope x:=by first|exact Or.inl rfl|exact Or.inr (Or.inl rfl)|exact Or.inr (Or.inr rfl)) (hd:(x==("__debug__":Str))=false:=by decide) (bF:(x==("__classdict__":Str))=false:=by decide)
  (h1:Æ [.Constant (.str told) k0 c0,.Call (.Name x p) [] [] aO] X.env=(false,Ĝ (.Constant (.str told) k0 c0) X.env)::Æ [.Call (.Name x p) [] [] aO] X.env:=by rfl) (h2:Æ [.Call (.Name x p) [] [] aO] X.env=(false,Ĝ (.Call (.Name x p) [] [] aO) X.env)::Æ [] X.env:=by rfl) :
  PS X (.Try [.Return (some (.Tuple [.Constant (.str told) k0 c0,.Call (.Name x p) [] [] aO] k1 nB)) Jz] [.ExceptHandler (some (.Name cn np)) (some n) (nL::nj) ux] [] [] pos) (tS X.K bY (ju cs told (l9 (.bG f vs ds) th i) j b)):=by
 intro g s σ H D I ay;obtain ⟨w,env,eH,S,eo,h⟩:=ay;subst eH;obtain ⟨CM,iF,hZ⟩:=hc;unfold ju l9 at h;by_cases he:env[i]?=some (some (.bG f vs ds))
 case neg=>rw [î he] at h;exact h.elim
 rw [ë he] at h;refine wpAny_Try_except ?_
 let E:XK:=fun cls m U=>∃(Y:Wd) (c:Str) (C:Í) (G:Option Int),Y.H=U/\aG X.K Y/\bx X.K Y env σ/\cls=.ref C/\c∈cs/\X.mg c=some (.ref C)/\(∀i,G=some i->∃W R t,m=some W/\(¬ Y.Z W/\Y.H W=some (.aI R (.own W)))/\lookIn "many" R=some (some (.int i t)))/\Out X.K bY Y (ak (b (env.set j (some (.exc c G))) Y.ax) fun F s=>match F with
   | .nx env=>ok (.nx (env.set j none)) s
   | .rt d=>ok (.rt d) s
   |_=>none) (qf X.K D)
 have Lj:Out X.K (eI X.mg E) w (th w.ax) fun Y d=>∀v,DV X.K Y d v->∀q,Y.H q=none->D.rt (.ref q) (upd Y.H q (.tup [.str told,v])):=by
  cases hr:th w.ax with
  |none=>rw [hr] at h;exact h.elim
  |some q =>
   obtain ⟨q,s2⟩:=q;rw [hr] at h
   cases q with
   |ok d =>
    intro Y l P e v dv q hq;have l2:=(Fw.grow (K:=X.K) (o:=.tup [.str told,v]) hq).le;exact h (Y.grow q (.tup [.str told,v])) (l.trans l2) (P.grow hq) e (.ref q) ⟨q,_,rfl,bg.of b9,⟨.str told,[v],rfl,rfl,l2.all ⟨v,[],rfl,dv,rfl⟩⟩⟩
   |error y =>
    intro Y l P e;dsimp only at h;split at h
    ·rename_i B
     have B:=ó B;obtain ⟨C,_,h2,_⟩:=hZ _ B;refine ⟨C,h2,?_⟩
     cases hm:y.many with
     |none =>
      refine ⟨Y,y.c,C,none,rfl,P,eo.le l,rfl,B,h2,(fun i z=>by cases z),?_⟩;rw [hm] at h;rw [e];exact h.from l
     |some i =>
      intro W R t O hl;have le:=(Fw.grow (K:=X.K) (o:=.aI R (.own W)) O).le;refine ⟨Y.grow W (.aI R (.own W)),y.c,C,some i,rfl,P.grow O,(eo.le l).le le,rfl,B,h2,fun i' z=>?_,?_⟩
      ·cases z
       exact ⟨W,R,t,rfl,⟨fun z=>jl P O z,b9⟩,hl⟩
      ·rw [hm] at h
       show Out X.K bY _ (ak (b (env.set j (some (.exc y.c (some i)))) Y.ax) _) _;rw [e];exact (h.from l).from le
    ·exact h.elim
 have gG:=fun {M:Á} (I:Inv X g σ w.H M)=>GB (pos:=aO) (p:=p) (Q:=fun v U=>∀q,U q=none->D.rt (.ref q) (upd U q (.tup [.str told,v]))) T h0 hr hN hv hd bF I S eo he Lj;refine ů (ù (wpAny_Return_some (Q:=SP X g { nx:=fun _ _=>False,rt:=D.rt }) (E:=pJ X g σ E) (wpAny_Tuple_spliced ?_)) (fun F M q=>?_) fun e M q=>?_)
 ·rw [h1]
  refine Ř (Calls.Constant_str (k:=k0) (pos:=c0) ?_);rw [h2];refine Ř (aL (gG (I.tok _)) fun u M hq=>Calls.spliced_nil ?_);obtain ⟨v,H1,I1,r,q⟩:=hq;refine ⟨show 2<=Ï by decide,?_⟩;have hf:H1 M.heap.objs.size=none:=I1.au.fresh (MK _);refine ⟨.ref M.heap.objs.size,σ,upd H1 M.heap.objs.size (.tup [.str told,v]),I1.laid (t':=M.toks) (fun b u e=>Â _ e) (MK _) ?_,rfl,q _ hf⟩;exact ⟨show 2<=Ï by decide,_,.cons ⟨_,rfl⟩ (.cons r .nil),⟨_,Ñ _ rfl,rfl,_,rfl⟩⟩
 ·cases F with
  |next=>obtain ⟨_,_,_,z⟩:=q;exact ï z
  |ret v=>exact q
  |brk=>obtain ⟨_,_,_,z⟩:=q;exact ï z
  |cont=>obtain ⟨_,_,_,z⟩:=q;exact ï z
 ·refine ef (D:=D) q L hf jG hj jN hg iF Li fun cls m U hE=>?_
  obtain ⟨Y,c,C,G,rfl,P,jI,rfl,qw,Lk,Ll,ho⟩:=hE;obtain ⟨C2,k1,k2,k3⟩:=hZ c qw;rw [Lk] at k2;cases k2;refine ⟨k3,fun a o O i8 ib s5 I5=>?_⟩;have le:=(Fw.grow (K:=X.K) (o:=.aI o (.own a)) O).le;have S5:=P.grow (o:=.aI o (.own a)) O;have dv:DV X.K (Y.grow a (.aI o (.own a))) (.exc c G) (.ref a):=by
   simp only [DV];refine ⟨a,o,C,rfl,⟨fun z=>jl P O z,b9⟩,⟨i8,k1⟩,fun i hi=>?_⟩;obtain ⟨W,R,t,q1,q2,q3⟩:=Ll i hi;exact ⟨ib.1,W,R,t,ib.2 W q1,(Fw.grow (K:=X.K) (o:=.aI o (.own a)) O).aI W R _ q2.1 q2.2,q3⟩
  have hd:=hs a g s5 (σ.set j (some (.ref a))) _ { nx:=fun J U=>D.nx (J.set j none) U,rt:=D.rt,bk:=fun J U=>D.bk (J.set j none) U,ct:=fun J U=>D.ct (J.set j none) U } I5
   ⟨Y.grow a (.aI o (.own a)),env.set j (some (.exc c G)),rfl,S5,(jI.le le).set dv j,(Out.ak (ho.from le)).mono fun w6 F l6 S6 q=>?_⟩
  ·exact hd
  ·cases F with
   |nx aH=>exact fun J e'=>aw S6 q (J.set j none) (e'.unset j)
   |rt d=>have z:=aw S6 q;exact z
   |bk aH=>exact q.elim
   |ct aH=>exact q.elim
end
end DI
namespace L2
open PySem PySem.Spec PyProof.Rows
def BE {X:Cx}:cC X (.builtin "isinstance") (fun xs H Q=>∃x k p,xs=[x,.ref p]/\jF X.K H x k/\H p=some (.ext (kY p ["list","tuple"]))/\Q (.bl (decide (k=.tup)||decide (k=.lst))) H):=by
 intro P s σ H xs O Q I r h;obtain ⟨x,k,p,rfl,W,V,q⟩:=h;obtain ⟨u,c,rfl,U,rc⟩:=vals2 r;cases rc;obtain ⟨N,T,Z,S,Y⟩:=FW (K:=X.K) I W U;have R:cB X.prog X.w H s.heap p (.ext (kY p ["list","tuple"])):=I.au p _ V
 match T,Z,Y with
 | [M,y1],Z,Y =>
  refine IsiPair.tupleOfB (.cons Z.2.1 (.cons Z.1 .nil)) S R.1 ?_ fun L=>⟨.bl _,H,I.tok _,rfl,q⟩;rw [<- Y];simp only [List.any_cons,List.any_nil,Bool.or_false,id];exact Bool.or_comm _ _
end L2
namespace DI
open PySem L2
def ET {X:Cx} {Ξ:Wd->aM->Prop} {a:ÿ} {pos:Pos} {f:MG D} {p p1 p2 p3:Pos} {x1} (ha:PE X a (tE X.K Ξ f)) (hg:Gl X "isinstance") (hm:X.mg "isinstance"=none) (hv:ì "isinstance"=some (.builtin "isinstance")) (h1:PE X (.Name "tuple" p1) (tC (.ty "tuple"))) (h2:PE X (.Name "list" p2) (tC (.ty "list")))
  (he:Æ (a::[.Tuple [.Name "list" p2,.Name "tuple" p1] x1 p3]) X.env=(false,Ĝ a X.env)::Æ [.Tuple [.Name "list" p2,.Name "tuple" p1] x1 p3] X.env:=by rfl) :
  PE X (.Call (.Name "isinstance" p) [a,.Tuple [.Name "list" p2,.Name "tuple" p1] x1 p3] [] pos) (tE X.K Ξ (e1 lE f)) :=
 ck (rB BE hg hm hv (ig ha (ig (Dj (ig h2 (ig h1 jY))) jY) he) (by decide) (by decide) he) fun σ H Q T=>by
  obtain ⟨w,env,R,S,P,h⟩:=T;subst R;refine ⟨w,env,rfl,S,P,(Out.ak h).mono fun Y d M O h1 v N=>?_⟩;refine ⟨["list","tuple"],rfl,(by show 2<=Ï;decide),fun p W=>?_⟩;obtain ⟨L,e,h1⟩:=dt h1
  cases Z:kd d Y.ax with
  |none=>rw [Z] at e;cases e
  |some k =>
   rw [Z] at e;cases e;have V:=O.grow (o:=.ext (kY p ["list","tuple"])) W;have U:=(Fw.grow (K:=X.K) (o:=.ext (kY p ["list","tuple"])) W).le;exact ⟨v,k,p,rfl,zd (w:=Y.grow p _) V (U _ _ N) Z,b9,h1 _ U V rfl _ rfl⟩
def nM (f:ÿ->Option D):List ÿ->Option (List D)
 | []=>some []
 |e::Z=>match f e,nM f Z with
  |some d,some Y=>if notStar e=true then some (d::Y) else none
  |_,_=>none
def cst:Nat->ÿ->Option D
 |0,_=>none
 |n+1,e=>match e with
  | .Constant (.str x) _ _=>some (.str x)
  | .Constant (.int i) _ _=>some (.int i)
  | .Constant (.bool b) _ _=>some (.bl b)
  | .Constant .none _ _=>some .aq
  | .UnaryOp .USub (.Constant (.int i) _ _) _=>some (.int (-i))
  | .Tuple Y _ _=>match nM (cst n) Y with
   |some Z=>if Z.length<=100 then some (.tup Z) else none
   |none=>none
  | .List Y _=>match nM (cst n) Y with
   |some Z=>if Z.length<=100 then some (.lst Z) else none
   |none=>none
  |_=>none
def aC (ds:List D):MG (List D):=fun _ s=>ok ds s
def Ib {ds:List D} (h:ds.length<=100):bB (aC ds)=eC (.tup ds):=by
 funext env s;show fq ds (ok (D.tup ds) s)=_;exact ë (ß h (by decide))
def Ic {ds:List D} (h:ds.length<=100):cP (aC ds)=eC (.lst ds):=by
 funext env s;show fq ds (ok (D.lst ds) s)=_;exact ë (ß h (by decide))
section
variable {X:Cx} {Ξ:Wd->aM->Prop}
theorem tH {f:ÿ->Option D} (hf:∀e d,f e=some d->PE X e (tE X.K Ξ (eC d))):∀{es:List ÿ} {ds:List D},nM f es=some ds->PA X es (tA X.K Ξ (aC ds))
 | [],ds,h=>by cases h;exact fV
 |e::es,ds,h=>by
  unfold nM at h;split at h
  ·rename_i d Z e1 e2
   split at h
   ·rename_i hs
    cases h;exact jj (hf e d e1) (tH hf e2) hs
   ·cases h
  ·cases h
theorem pZ:∀(n:Nat) {e:ÿ} {d:D},cst n e=some d->PE X e (tE X.K Ξ (eC d))
 |0,e,d,h=>by cases h
 |n+1,e,d,h=>by
  unfold cst at h;split at h
  ·cases h;exact dP
  ·cases h;exact ar
  ·cases h;exact dB
  ·cases h;exact pU
  ·cases h;exact zV zb ar
  ·split at h
   ·rename_i W Z
    split at h
    ·rename_i Y
     cases h;rw [<- Ib Y];exact cm (tH (fun e d=>pZ n) Z)
    ·cases h
   ·cases h
  ·split at h
   ·rename_i W Z
    split at h
    ·rename_i Y
     cases h;rw [<- Ic Y];exact eh (tH (fun e d=>pZ n) Z)
    ·cases h
   ·cases h
  ·cases h
end
end DI
namespace L2
open PySem PySem.Spec PySem.Calls PyProof.Rows PySem.W PySem.Builtin PySem.Builtin.ObjectAttr PySem.Builtin.Getset_descriptor
section
variable {prog:Ò} {w:é} {A:Ö} {E:Ã->Á->Prop} {s:Á} {K:ð} {x C:Í}
noncomputable def kc:List Ã->Bool
 | .ref _::r=>kc r
 |r=>decide (r=[.type "ValueError",.type "Exception",.type "BaseException",.type "object"])
def Ca (self:Ã) (l:List Ã) (h:kc l=true):refuseLoop self "__setattr__" l=pure ():=by
 induction l with
 |nil=>cases h
 |cons a r ih =>
  unfold kc at h;split at h
  ·rename_i c Z e
   cases e;rw [refuseLoop_ref];exact ih h
  ·rw [ó h]
   exact PySem.F.store_ValueError.passes self
def CO (l:List Ã) (h:kc l=true):l.contains (.type "object")=true:=by
 induction l with
 |nil=>cases h
 |cons a r ih =>
  unfold kc at h;split at h
  ·rename_i c Z e
   cases e;rw [List.contains_cons,ih h,Bool.or_true]
  ·rw [ó h]
   decide
def il (K:ð) (C:Í):Bool:=(findIn K (.ref C) "__getattribute__"==some (some (.builtin "BaseException.__getattribute__")))&&(findIn K (.ref C) "__getattr__"==some none)&&(findIn K (.ref C) "many"==some none)&&(findIn K (.ref C) "__setattr__"==some (some (.builtin "object.__setattr__")))&&(mroIn K C (.type "BaseException")==some true) &&
 (match clsIn K C with|some cd=>cd.hasDict&&kc cd.mro|none=>false)
def wQ (h:il K C=true):∃cd,clsIn K C=some cd/\cd.hasDict=true/\kc cd.mro=true:=by
 unfold il at h;rw [Ä] at h;have h:=h.2;split at h
 ·rename_i cd e
  rw [Ä] at h;exact ⟨cd,e,h.1,h.2⟩
 ·cases h
def CP {expr:Bool} {i:Int} {t0:Tok} {ox od:Obj} {Q:Ã->Á->Prop} (X:K.In s.heap) (I:InstAt s.heap x ox C (some od)) (hc:il K C=true) (hl:lookIn "many" od=some (some (.int i t0))) (h:Q (.int i t0) { s with toks:=s.toks+1 }) :
  Ó (Ø prog w) A (getAttr (.ref x) "many" expr) Q E s:=by
 obtain ⟨cd,Z,Y,_⟩:=wQ hc;unfold il at hc;simp only [Ä,beq_iff_eq] at hc;obtain ⟨⟨⟨⟨⟨V,U⟩,T⟩,H⟩,S⟩,_⟩:=hc;have LT:=I.type (M:=Ø prog w);have O:=looks_own (M:=Ø prog w) (name:="many") X I Z (by unfold W.ownOf;rw [Y,ë rfl];exact hl);obtain ⟨R,g,d,t,os⟩:=s;have M1:=Ķ (M:=Ø prog w) X V;have M2:=Ķ (M:=Ø prog w) X U;have P:Looks (Ø prog w) R (find (.ref x) (.ref C) "many") (.value (.int i t0)) :=
  (Ķ X T).andThen (Looks.now.andThen (Looks.now.andThen (O.andThen (Looks.tag .now))))
 have N:=looks_mroIn (M:=Ø prog w) X S;have L:=ť.ga.bind (.ref x);unfold getAttr getAttrBy;refine À (wpAny_mkText (ą (À (LT.at (À (M1.at ?_))))));show Ó _ _ (ζ (.ref x) _ (.ref C) (.builtin "BaseException.__getattribute__") true expr) _ _ _;unfold ζ;refine À (M2.at (À (ŵ (ą ?_))))
 have J:callGetattribute (.ref x) (.str "many" t) (.builtin "BaseException.__getattribute__") expr=boundAndCalled (.builtin "BaseException.__getattribute__") (.ref x) (.str "many" t):=by cases expr<;>rfl
 rw [J];unfold boundAndCalled;rw [L];refine À (Ì (ļ (ł ť.ga.plain F.entry_bexc_ga ?_)));refine yo LT N ?_;unfold ο.«object.__getattribute__»;rw [show slotArgs "__getattribute__" 1 ⟨[.ref x]++[.str "many" t],[]⟩=pure (.ref x,[.str "many" t]) from rfl];refine À (Ì ?_);dsimp only;rw [show attrName (.str "many" t)=pure ("many":Str) from rfl];refine À (Ì (À (LT.at (À (P.at ?_)))));exact Ì (Ì h)
def Cb {v:Ã} {o:Obj} {Q:Unit->Á->Prop} (X:K.In s.heap) (hx:s.heap.get? x=some o) (cH:o.cls=.ref C) (jf:o.dict=none) (vB:∀c,o.data≠.cls c) (hc:il K C=true)
  (hq:∀h' tk dx,dx=s.heap.objs.size->h'.get? x=some { o with dict:=some dx }->h'.Ns1 dx (fun y=>if y="many" then some v else none)->(∀b p,b≠x->s.heap.get? b=some p->h'.get? b=some p)->Q () { s with heap:=h',toks:=tk }) :
  Ó (Ø prog w) A (setAttr (.ref x) "many" v) Q E s:=by
 have Z:=PySem.F.store_ValueError;obtain ⟨cd,T,N,Y⟩:=wQ hc;unfold il at hc;simp only [Ä,beq_iff_eq] at hc;obtain ⟨⟨⟨⟨⟨h1,h2⟩,L⟩,J⟩,h5⟩,_⟩:=hc;have LT:Looks (Ø prog w) s.heap (typeOf (.ref x)) (.ref C):=by rw [<- cH];exact (Looks.ld hx).andThen .now
 obtain ⟨h,g,d,t,os⟩:=s;have I:=Ķ (M:=Ø prog w) X J;have H:=Ķ (M:=Ø prog w) X L;have S:=looks_clsIn (M:=Ø prog w) X T;have G:=Z.slot.bind (.ref x)
 have ne:cd.mro.isEmpty=false:=by cases q:cd.mro with|nil=>rw [q] at Y;cases Y|cons _ _=>rfl
 have sub:Looks (Ø prog w) h (isInstance (.ref x) (.type "object")) true:=LT.andThen (looks_mroIn X (by unfold mroIn;rw [T,Option.bind_some,î (by rw [ne];decide),CO _ Y]));have D:Looks (Ø prog w) h (mroOf (.ref C)) cd.mro:=S.andThen .now;unfold setAttr callSpecial? specialOf;refine À (wpAny_mkText ?_);refine À (À (À (LT.at (I.at ?_))));dsimp only;refine ą ?_;rw [G];refine À (Ì ?_);dsimp only;refine À (ļ ?_);refine ł Z.slot.plain Z.entry ?_;refine @check_slot (Ø prog w) _ _ _ "object.__setattr__" "object" "__setattr__" (.ref x) [.str "many" t,v] [] _ Z.kind Z.split sub (Z.args (.ref x) (.str "many" t) v) ?_;show Ó _ _ (ο.«object.__setattr__» ⟨[.ref x,.str "many" t,v],[]⟩) _ _ _;rw [osa_eq,refuse_eq];refine À (À (LT.at (À (D.at ?_))));rw [Ca _ _ Y];refine Ì (À (LT.at (À (H.at (À (Ì ?_))))));dsimp only;unfold storeInOwnDict;refine À (Ì ?_);show Ó _ _ (ownDictForStores (.ref x) >>= _) _ _ _;unfold ownDictForStores instanceDict;have R:x≠h.objs.size:=à (Ç hx);refine À (À (wpAny_loadPart hx ?_));rw [cH];dsimp only;refine À (S.at ?_);rw [N];rw [î (by decide),jf];dsimp only;rw [î (by simp [typeHasDict])];split
 ·rename_i c e
  exact absurd e (vB c)
 have P:(h.push { cls:=.type "dict",data:=.dict #[] }).get? x=some o:=Â _ hx;refine À (wpAny_alloc' ?_);refine À (wpAny_update' P ?_);refine Ì ?_;dsimp only;generalize W:(h.push { cls:=.type "dict",data:=.dict #[] }).update x (fun o=>{ cls:=o.cls,dict:=some h.objs.size,data:=o.data,slots:=o.slots })=U;have B:U.get? h.objs.size=some { cls:=.type "dict",data:=.dict #[] }:=by
  rw [<- W,ε _ _ _ _ R.symm];exact Heap.get?_push_at rfl rfl
 have z:U.Ns h.objs.size (fun _=>none):=⟨_,#[],_,B,rfl,fun e u=>absurd u (by simp),fun _=>rfl⟩
 have r:U.get? x=some { o with dict:=some h.objs.size }:=by
  rw [<- W];refine Ŭ _ P ?_;have n:=(İ.mp hx).2;obtain ⟨oc,od,m,cK⟩:=o
  cases m<;>first|rfl|exact n
 have l:∀b p,b≠x->h.get? b=some p->U.get? b=some p:=fun b p V e=>by
  rw [<- W,ε _ _ _ _ V];exact Â _ e
 unfold storeInDict newKeyGuard;refine À (Ì (À (wpAny_nsSet1 (Heap.Ns1.of_empty z) fun h' O hs=>?_)));obtain ⟨oD,My,Mz,k,j,i⟩:=O.count (Within.cons "many" v Within.nil);refine À (wpAny_lookBehind k (by rw [j];exact pastItsLine_dict (ß i (by rw [þ,Ě,š];omega))) ?_);refine Ì ?_;dsimp only;refine Ì (Ì ?_);refine hq h' _ h.objs.size rfl ((hs.2 x R).trans r) ?_ fun b p V e=>(hs.2 b (à (Ç e))).trans (l b p V e);obtain ⟨f,a,ep,e1,e2,e3,eu,e4⟩:=O;exact ⟨f,a,ep,e1,e2,e3,eu,fun y=>by rw [e4 y]⟩
end
end L2
namespace DI
open PySem L2 PySem.W
def nq (iN:List Str) (d:D) (s:aa):Res D:=match d with
 | .exc c (some i)=>if decide (c∈iN)=true then ok (.int i) s else none
 |_=>none
def vC (K:ð) (iN:List Str):Prop:=∀c∈iN,∃C,nsIn K È c=some (some (.ref C))/\il K C=true
def yr {X:Cx} {Ξ:Wd->aM->Prop} {e:ÿ} {pos:Pos} {f:MG D} {iN:List Str} (hm:vC X.K iN) (he:PE X e (tE X.K Ξ f)) (hb:Ļ e "many" X.env (Ĝ e X.env)=Ĝ e X.env:=by rfl) :
  PE X (.Attribute e "many" pos) (tE X.K Ξ (e1 (nq iN) f)):=by
 intro L s σ H Q I J;obtain ⟨w,env,G,S,F,h⟩:=J;subst G;have E:=he L s σ w.H (fun v R=>∃Z d,Z.H=R/\aG X.K Z/\DV X.K Z d v/\Out X.K Ξ Z (nq iN d Z.ax) fun P B=>∀v,DV X.K P B v->Q v P.H) I ⟨w,env,rfl,S,F,(Out.ak h).mono fun Z d b U Y v W=>⟨Z,d,rfl,U,W,Y⟩⟩;refine Em hb (aL E fun u O T=>?_);obtain ⟨v,R,V,r,Z,d,rfl,U,W,Y⟩:=T;unfold nq at Y;split at Y
 ·rename_i c i
  split at Y
  ·rename_i A
   simp only [DV] at W;obtain ⟨a,o,C,rfl,T,⟨z,y⟩,k⟩:=W;obtain ⟨x,N,q,t,p,n,m⟩:=k i rfl;have l:u=Ė a:=r;subst l;obtain ⟨C',M,j⟩:=hm c (ó A);rw [y] at M;cases M;have ga:O.heap.get? a=some o:=(V.au a _ T.2).1;have g:O.heap.get? N=some q:=(V.au N _ n.2).1;refine CP V.dR ⟨ga,z,x,by rw [p];exact g⟩ j m ⟨.int i,Z.H,V.tok _,⟨_,rfl⟩,aw U Y _ rfl⟩
  ·exact Y.elim
 ·exact Y.elim
end DI
namespace L2
open PySem PySem.Spec PyProof.Rows PySem.W
section
variable {prog:Ò} {w:é} {A:Ö} {E:Ã->Á->Prop} {h:ā} {g:Array GenState} {d:Drawn} {t:Nat} {os:OsState}
variable {nm q:Str} {C N fi:Í} {bs bm dq:List Ã} {hdct:Bool} {sn:List Str} {sub:List Ã} {ab:Bool} {col:Option Bool} {dd:Option Í} {k0 k1 k2 k3 k5:Option Ã} {B newId mP:String}
noncomputable def dQ (h:ā) (C:Í) (v:Ã):ā:=(h.push { cls:=.type "tuple",data:=.seq #[v] }).push { cls:=.ref C,data:=.fields #[.ref h.objs.size,.none,.none,.none,.bool false,.none] }
def DW (F:ExcBaseFacts B newId mP dq) (T:OwnTail h dq bm) {mN:Str->Option Ã} {v:Ã} {fo:Obj} {Q:Fin->Á->Prop}
  (hC:h.get? C=some (η nm q C N bs bm hdct sn sub ab col dd k0 k1 k2 k3 k5 newId)) (hn:h.Ns N mN) (je:mN "__init__"=some (.ref fi)) (hf:h.get? fi=some fo) (oy:fo.cls=.type "function")
  (hq:Ó (Ø prog w) A (call (.ref fi) [.ref (h.objs.size+1),v]) (fun r s'=>r=.none/\Q (.done (.ret (.ref (h.objs.size+1)))) s') E ⟨dQ h C v,g,d,t,os⟩) :
  Ó (Ø prog w) A (ο.«type.__call__» ⟨[.ref C,v],[]⟩) Q E ⟨h,g,d,t,os⟩:=by
 repeat (first|with_reducible refine Ŀ hC ?_|with_reducible refine wpAny_madeBy_exc hC ?_|wp_step)
 refine codeAny_call_builtin_code (Code.quiet_builtin _ F.quiet) (wpAny_check_new_subT F T hC ?_);refine codeAny_exc_new_subT F T hC ?_ (show 1<=Ï by decide);show Ó _ _ _ _ _ _;have Z:∀b o,h.get? b=some o->(dQ h C v).get? b=some o:=fun b o e=>Â _ (Â _ e);have Y:=Z _ _ hC;have X:(dQ h C v).Ns N mN:=hn.keeps Z;have W:(dQ h C v).get? (h.objs.size+1)=some { cls:=.ref C,data:=.fields #[.ref h.objs.size,.none,.none,.none,.bool false,.none] }:=by
  unfold dQ;exact Heap.get?_push_at (by rw [õ]) rfl
 have V:(Ė C::bm).contains (.ref C)=true:=by simp
 have U:=T.keeps Z;have S:=Z _ _ hf;show Ó _ _ _ _ _ ⟨dQ h C v,g,d,t,os⟩;unfold isInstance
 repeat (first|with_reducible refine Ŀ W ?_ | (with_reducible refine wpAny_isSubtype_exc Y ?_;rw [V])|wp_step)
 show Ó _ _ (typeLookup (.ref C) _) _ _ _;refine wpAny_typeLookup_tail Y X U F.mroIs F.init.lookup ?_;rw [je];dsimp only;refine ą (À ?_);have R:Looks (Ø prog w) (dQ h C v) (typeOf (.ref fi)) (.type "function"):=by rw [<- oy];exact (Looks.ld S).andThen .now
 unfold bindSpecial;refine À (R.at ?_);show Ó _ _ (pure (Ė fi,[Ė (h.objs.size+1)])) _ _ _;refine Ì (À (ù hq (fun r s' z=>?_) fun _ _ z=>z));obtain ⟨rfl,q⟩:=z;exact Ì (Ì q)
def DY (F:ExcBaseFacts B newId mP dq) (T:OwnTail h dq bm) {mN:Str->Option Ã} {v:Ã} {fo:Obj} {Q:Ã->Á->Prop}
  (hC:h.get? C=some (η nm q C N bs bm hdct sn sub ab col dd k0 k1 k2 k3 k5 newId)) (hn:h.Ns N mN) (je:mN "__init__"=some (.ref fi)) (hf:h.get? fi=some fo) (oy:fo.cls=.type "function")
  (hq:Ó (Ø prog w) (A.under (.builtin "type.__call__" ⟨[.ref C,v],[]⟩)) (call (.ref fi) [.ref (h.objs.size+1),v]) (fun r s'=>r=.none/\Q (.ref (h.objs.size+1)) s') E ⟨dQ h C v,g,d,t,os⟩) :
  Ó (Ø prog w) A (call (.ref C) [v]) Q E ⟨h,g,d,t,os⟩:=by
 have f1:=tc_lookup;have f2:=tc_bind (.ref C);have Z:(⟨h,g,d,t,os⟩:Á).TypeIs (.ref C) "type":=⟨_,hC,rfl⟩;refine ļ (codeAny_of_tree ?_);show Ó _ _ (callAny (.ref C) _) _ _ _
 repeat (any_goals (first|assumption|with_reducible refine Ŀ hC ?_|wp_step))
 refine ⟨rfl,?_⟩;refine codeAny_call_builtin_at (Code.quiet_builtin _ (by decide +kernel)) entry_typeCall (wpAny_check_type_call_sub hC ?_);exact DW F T hC hn je hf oy hq
def CQ {s:Á} {env:PySem.Env} (F:ExcBaseFacts B newId mP dq) {mN:Str->Option Ã} {x:Str} {np aO pos:Pos} {a0:ÿ} {fo:Obj} {Q:Flow->Á->Prop}
  (j4:bm.contains (.type "BaseException")=true) (hh:A.handled=none) (dZ:(ď aO (Æ [a0] env)).any (·.1)=false) (je:mN "__init__"=some (.ref fi)) (oy:fo.cls=.type "function")
  (hx:Ó (Ø prog w) A (Ĝ (.Name x np) env) (fun f aU=>f=.ref C/\Ó (Ø prog w) A (evalArgs (.ref C) true (ď aO (Æ [a0] env)) [])
   (fun a ek=>∃v,a=⟨[v],[]⟩/\ek.heap.get? C=some (η nm q C N bs bm hdct sn sub ab col dd k0 k1 k2 k3 k5 newId)/\ek.heap.Ns N mN/\OwnTail ek.heap dq bm/\ek.heap.get? fi=some fo /\
    Ó (Ø prog w) (A.under (.builtin "type.__call__" ⟨[.ref C,v],[]⟩)) (call (.ref fi) [.ref (ek.heap.objs.size+1),v]) (fun r s'=>r=.none/\s'.heap.get? C=some (η nm q C N bs bm hdct sn sub ab col dd k0 k1 k2 k3 k5 newId) /\
     (∃dx t,s'.heap.get? (ek.heap.objs.size+1)=some { cls:=.ref C,dict:=some dx,data:=.fields #[.ref t,.none,.none,.none,.bool false,.none] })/\E (.ref (ek.heap.objs.size+1)) s') E { ek with heap:=dQ ek.heap C v }) E aU) E s) :
  Ó (Ø prog w) A (exec (.Raise (some (.Call (.Name x np) [a0] [] aO)) none pos) env) Q E s:=by
 rw [arm_exec_Raise];simp only [evalOpt,Option.map];have V:(Ė C::bm).contains (.type "BaseException")=true:=by rw [List.contains_cons,j4,Bool.or_true]
 refine À (Ŕ ?_);unfold raiseStmt;refine À (À (ù (Q:=fun v Z=>∃e t dx,v=.ref e/\Z.heap.get? C=some (η nm q C N bs bm hdct sn sub ab col dd k0 k1 k2 k3 k5 newId)/\Z.heap.get? e=some { cls:=.ref C,dict:=some dx,data:=.fields #[.ref t,.none,.none,.none,.bool false,.none] }/\E (.ref e) Z) (wpAny_Call_ofName (ù hx (fun f aU X=>?_) fun _ _ x=>x)) (fun v Z U=>?_) fun _ _ x=>x))
 ·obtain ⟨rfl,X⟩:=X
  unfold callWith;refine À (ą (ù X (fun a ek W=>À (Ŕ ?_)) fun _ _ x=>x));obtain ⟨v,rfl,Y,S,T,R,W⟩:=W;obtain ⟨P,g,d,O,os⟩:=ek;simp only [dZ];refine À (wpAny_keeperOf_exc Y ?_);refine À (DY F T Y S je R oy (ù W (fun r s' z=>⟨z.1,À (ą (wpAny_point (Ì ?_)))⟩) fun _ _ x=>x));obtain ⟨_,M,⟨dx,t,L⟩,K⟩:=z;exact ⟨_,t,dx,rfl,M,L,K⟩
 ·obtain ⟨e,t,dx,rfl,Y,J,I⟩:=U
  obtain ⟨P,g,d,O,os⟩:=Z;refine À (Ŕ (Ì ?_))
  repeat (first|with_reducible refine Ŀ J ?_|with_reducible refine Ŀ Y ?_ | (with_reducible refine wpAny_isSubtype_exc Y ?_;rw [V])|wp_step)
  exact wpAny_raiseNew_none hh I
def CS {s:Á} {K:ð} {e:Í} {v:Ã} {o:Obj} {name qual:Str} {params:ś} {scope:Ł} {dV kV doc pm aB ct oc:Ã} {an od:Option Í} {cK:Array (Option Ã)} {p1 p2 p3 p4:Pos} {Q:Ã->Á->Prop}
  (lk:K.lookup fi=some ⟨oc,od,.func (fnOf name qual params [.Assign [.Attribute (.Name "self" p1) "many" p2] (.Name "many" p3) p4] scope dV kV doc pm an aB ct),cK⟩) (bF:codeIn K aB qual=true) (S:iQ ["self","many"] ["self","many"] scope)
  (jO:scope.names.lookup ("self":Str)=some .local) (fH:scope.names.lookup ("many":Str)=some .local) (X:K.In s.heap) (lim:s.heap.NoLimit) (uT:A.depth<ŧ)
  (hb:BindsTo s (fnOf name qual params [.Assign [.Attribute (.Name "self" p1) "many" p2] (.Name "many" p3) p4] scope dV kV doc pm an aB ct) ⟨[.ref e,v],[]⟩ (List.zip [("self":Str),"many"] [Ė e,v]))
  (he:s.heap.get? e=some o) (cH:o.cls=.ref C) (jf:o.dict=none) (vB:∀c,o.data≠.cls c) (hm:il K C=true)
  (hq:∀h' tk dx,s.heap.objs.size<=dx->h'.get? e=some { o with dict:=some dx }->h'.Ns1 dx (fun y=>if y="many" then some v else none)->(∀b p,b≠e->s.heap.get? b=some p->h'.get? b=some p)->Q .none { s with heap:=h',toks:=tk }) :
  Ó (Ø prog w) A (call (.ref fi) [.ref e,v]) Q E s:=by
 refine ļ ?_;refine ū uT (X _ _ lk) rfl S.co S.gen rfl (codeRec_of X bF) (hb _ _ _ _ ?_);refine ŀ S.kind (fun y W=>?_) fun env V J x=>?_
 ·rcases S.par y.1 (Ś W).1 with q|q
  ·exact .inl q
  ·exact .inr ⟨q,cellsFrom_some _ _ _ (.inl q)⟩
 subst V;refine ⟨lim.keeps x.toInCall.keep,codeAny_func ?_⟩;have ns:=x.toInCall.ns;obtain ⟨U,tk,rfl,Z⟩:=x.toInCall.done;have Y:[("self":Str),"many"].Nodup:=by decide
 refine ů (plainObj_wpAny_Assign_Attribute ?_ rfl);refine wpAny_Name (wpAny_loadName_local S.kind fH ns (oM (i:=1) Y rfl rfl fH) ?_) (by decide);refine wpAny_Name (wpAny_loadName_local S.kind jO ns (oM (i:=0) Y rfl rfl jO) ?_) (by decide);refine Cb (C:=C) (X.keeps Z) (Z _ _ he) cH jf vB hm fun h' T dx R P O N=>?_;refine ź ?_;obtain ⟨I,_,_,M,_⟩:=ns;have L:s.heap.objs.size<U.objs.size:=Ç M;exact hq h' T dx (by rw [R];exact Nat.le_of_lt L) P O fun b p hb e=>N b p hb (Z b p e)
end
section
variable {X:Cx} {E:XK} {π:List (Í×Obj)} {σ:St} {H:Hp} {s:Á}
def Cc (L:Lv X E) (I:Inv X π σ H s) {h1:ā} {tk:Nat} {e dx t C:Í} {od:Obj} (oz:∀b o,s.heap.get? b=some o->h1.get? b=some o) (kF:s.heap.get? e=none)
  (he:h1.get? e=some { cls:=.ref C,dict:=some dx,data:=.fields #[.ref t,.none,.none,.none,.bool false,.none] }) (me:s.heap.objs.size<=dx) (Ly:dx≠e) (ib:h1.get? dx=some od)
  (q:E (.ref C) (some dx) (upd H dx (.aI od (.own dx)))):X.xe (.ref e) { s with heap:=h1,toks:=tk }:=by
 rw [L.xe];have U:H dx=none:=I.au.fresh me;have G:h1.FunFrames X.base X.stack:=I.stack.of_keeps fun b o Z _=>⟨o,oz b o Z,rfl⟩;have R:∀b u,H b=some u->b∉bh X.stack:=fun b u e z=>by rw [I.mz b z] at e;cases e
 have ne:∀b o,s.heap.get? b=some o->b≠e:=fun b o e1 z=>by rw [z,kF] at e1;cases e1
 have P:∀b o,s.heap.get? b=some o->b≠dx:=fun b o e1 z=>absurd (Ç e1) (by rw [z];exact Ÿ.mpr me);have h:e∉bh X.stack:=fun z=>by
  obtain ⟨_,o,Y,_⟩:=I.stack.mem z;rw [kF] at Y;cases Y
 have F:dx∉bh X.stack:=fun z=>by
  obtain ⟨_,o,Y,_⟩:=I.stack.mem z;exact P dx o Y rfl
 have T:∀b o,h1.get? b=some o->b≠e->b∉bh X.stack->(hideAll h1 (e::bh X.stack)).get? b=some o:=fun b o e1 e2 S=>hideAll_get _ e1 fun z=>by
  rcases ã.mp z with z|z
  ·exact e2 z
  ·exact S z
 have O:(hideAll h1 (e::bh X.stack)).get? e=none:=hideAll_none _ Ý;have D:h1.FunFrames (hideAll h1 (e::bh X.stack)) (X.env::X.outer):=by
  rw [<- L.gj];refine funFrames_hide G fun env B a A=>Ð _ ?_;unfold bh;exact Į.mpr ⟨env,B,A⟩
 refine ù (mw (wM _ _) (wpAny_leaving_firstW (s:={ s with heap:=h1,toks:=tk }) (E:=fun _ _=>False) (Q:=fun _ N=>∃W,N={ s with heap:=W,toks:=tk }/\Heap.LeftW (hideAll h1 (e::bh X.stack)) (X.env::X.outer) e (.ref C) (.ref t) h1 W) (a0:=.ref t) (by rw [I.ok.frames,L.gj]) D L.fr he (fun b o e=>of_hideAll _ e) O rfl rfl rfl fun W y=>⟨W,rfl,y⟩)) (fun _ N z=>?_) fun _ _ z=>z.1.elim
 obtain ⟨⟨W,rfl,x,⟨_,_,w⟩,M,r⟩,p⟩:=z;have l:Dm W e (some dx):=fun f z=>by
  cases z;obtain ⟨K,_,_,_,_,e1,_⟩:=M;exact ⟨K,e1,p.2 e _ he K e1⟩
 refine ⟨e,.ref C,.ref t,upd H dx (.aI od (.own dx)),hideAll h1 (e::bh X.stack),some dx,rfl,I.os,I.bare,⟨⟨x,O,w,M⟩,fun b o e1 n Z=>?_,fun b o e1 Z=>?_,fun b o e1 Z=>?_,fun b u e1=>?_,fun b o e1 n=>?_,fun b J e1=>?_,fun b o u e1=>?_,fun b k e1=>?_⟩,l,q⟩
 ·have g:=I.base.keep b o e1 n Z (by rw [L.ex];simp)
  exact T b o (oz b o g) (ne b o g) (I.kU L e1 Z)
 ·obtain ⟨V,g⟩:=I.base.there b o e1 (by rw [L.ex];simp)
  exact ⟨V,T b V (oz b V g) (ne b V g) (I.kU L e1 Z)⟩
 ·obtain ⟨d,g⟩:=I.base.slot b o e1 (I.ok.gO b Z) Z (by rw [L.ex];simp)
  obtain ⟨_,o2,Y,j⟩:=I.stack.mem (oW L Z);rw [g] at Y;cases Y;obtain ⟨i,S⟩:=r b _ (oz b _ g) j;exact ⟨i,S⟩
 ·by_cases Z:b=dx
  ·subst Z
   rw [b9] at e1;cases e1;have g:=T b od ib Ly F;exact ⟨g,od,g⟩
  ·rw [aF Z] at e1
   refine (I.au b u e1).cu (fun c v hc z=>T c v (oz c v z) (ne c v z) ?_) (fun c z=>?_) fun c J z=>?_
   ·rcases hc with rfl|hc
    ·exact R c _ e1
    ·exact R c _ hc
   ·rw [aF (bA z U)];exact z
   ·rw [aF (bA z U)];exact z
 ·obtain ⟨V,g⟩:=I.base.there b o e1 (by rw [L.ex];simp)
  rw [aF (P b V g)];exact I.base.free b o e1 n (by rw [L.ex];simp)
 ·have g:=I.base.cN b J e1
  rw [aF (bA g U)];exact g
 ·have g:=I.base.cE b o u e1
  rw [aF (bA g U)];exact g
 ·obtain ⟨m,g⟩:=I.base.cO b k e1
  exact ⟨m,by rw [aF (bA g U)];exact g⟩
def Cd {K:ð} {h:ā} {N:Í} {mg:Str->Option Ã} {n:Str} {v:Ã} (X:K.In h) (G:h.Ns N mg) (e:nsIn K N n=some (some v)):mg n=some v:=by
 obtain ⟨o,U,T,Z,Y,_,W⟩:=G;unfold nsIn at e;split at e
 case h_2=>cases e
 rename_i q;have q:=X _ _ q;rw [Z] at q;cases q;cases Y;split at e
 ·rename_i S V
  cases e;rw [<- W];show Option.map _ (Array.find? _ _)=_;rw [<- Array.find?_toList,V];rfl
 ·split at e<;>cases e
noncomputable def qo (K:ð) (C fi:Í) (dq:List Ã) (newId:String):Bool:=match K.lookup C with
 |some ⟨.type "type",_,.cls cd,Z⟩=>(match cd.mro,Z.toList with
  | .ref Y::bm,[_,_,_,_,some (.builtin n),_]=>Y==C&&n==newId&&!cd.hasDel&&tailIn K dq bm&&nsOkIn K cd.ns&&nsIn K cd.ns "__init__"==some (some (.ref fi))
  |_,_=>false)
 |_=>false
def tI (K:ð) (C:Í):Prop:=∃(Y:Í) (R:Option Í) (Q:Array (Option Ã)) (name qual:Str) (params:ś) (scope:Ł) (X kV doc pm Z W:Ã) (an:Option Í) (V U T S:Pos),
 qo K C Y [.type "ValueError",.type "Exception",.type "BaseException",.type "object"] "ValueError.__new__"=true/\K.lookup Y=some ⟨.type "function",R,.func (fnOf name qual params [.Assign [.Attribute (.Name "self" V) "many" U] (.Name "many" T) S] scope X kV doc pm an Z W),Q⟩/\codeIn K Z qual=true /\
 Binds K (fnOf name qual params [.Assign [.Attribute (.Name "self" V) "many" U] (.Name "many" T) S] scope X kV doc pm an Z W) ["self","many"] []/\iQ ["self","many"] ["self","many"] scope/\scope.names.lookup ("self":Str)=some .local/\scope.names.lookup ("many":Str)=some .local/\il K C=true
def EU {K:ð} {h:ā} {C fi:Í} {dq:List Ã} {newId:String} (KB:K.In h) (qC:qo K C fi dq newId=true):∃(bm:List Ã) (N:Í) (nm q:Str) (bs:List Ã) (hdct:Bool) (sn:List Str) (sub:List Ã) (ab:Bool) (col:Option Bool) (dd:Option Í) (k0 k1 k2 k3 k5:Option Ã) (mN:Str->Option Ã),
  h.get? C=some (η nm q C N bs bm hdct sn sub ab col dd k0 k1 k2 k3 k5 newId)/\h.Ns N mN/\mN "__init__"=some (.ref fi)/\OwnTail h dq bm:=by
 unfold qo at qC;split at qC
 case h_2=>cases qC
 rename_i Q cd Z P;split at qC
 case h_2=>cases qC
 rename_i I bm Y a1 a2 X nw W V hs;simp only [Ä,beq_iff_eq,ľ] at qC;obtain ⟨⟨⟨⟨⟨O,M⟩,U⟩,L⟩,T⟩,S⟩:=qC;subst O M;cases cd;dsimp only at V U T S;subst V U;have J:Z=#[Y,a1,a2,X,some (.builtin nw),W]:=by cases Z;simp only at hs;rw [hs]
 subst J;have R:h.Ns _ _:=.of_isNs (isNs_of_in KB T);exact ⟨bm,_,_,_,_,_,_,_,_,_,Q,Y,a1,a2,X,W,_,KB _ _ P,R,Cd KB R S,tail_of_in KB L⟩
def CU {x:Str} {C:Í} {k:Nat} {np aO pos:Pos} {a0:ÿ} {t:TA} (L:Lv X E) (hr:bc k X.A) (eC:nsIn X.K È x=some (some (.ref C))) (hI:tI X.K C) (hc:X.calm=true) (hg:Gl X x) (ha:PA X [a0] t) (hd:(x==("__debug__":Str))=false)
  (he:Æ [a0] X.env=(false,Ĝ a0 X.env)::Æ [] X.env:=by rfl) (dZ:(ď aO (Æ [a0] X.env)).any (·.1)=false:=by rfl) :
  PS X (.Raise (some (.Call (.Name x np) [a0] [] aO)) none pos) (fun _ σ H=>t σ H fun vs H1=>∃i,vs=[.int i]/\∀dx od t0,H1 dx=none->lookIn "many" od=some (some (.int i t0))->E (.ref C) (some dx) (upd H1 dx (.aI od (.own dx)))):=by
 intro π s σ H D I h;obtain ⟨fi,od,M,name,qual,params,scope,J,kV,doc,pm,G,B,an,y,w,v,p,n,lk,m,l,S,j,g,f⟩:=hI;have KB:=I.ok.mod.gg;have FB:=PySem.F.excBase_ValueError;obtain ⟨bm,N,nm,q,bs,hdct,sn,sub,ab,col,dd,k0,k1,k2,k3,k5,mN,U,d,a,T⟩:=EU KB n;refine CQ (C:=C) (nm:=nm) (q:=q) (N:=N) (bs:=bs) (bm:=bm) (hdct:=hdct) (sn:=sn) (sub:=sub) (ab:=ab) (col:=col) (dd:=dd) (k0:=k0) (k1:=k1) (k2:=k2) (k3:=k3) (k5:=k5) (fo:=⟨.type "function",od,.func (fnOf name qual params [.Assign [.Attribute (.Name "self" y) "many" w] (.Name "many" v) p] scope J kV doc pm an G B),M⟩) FB (T.hasType FB.hasBase) (I.ok.hd hc) dZ a rfl (jU I hg (mg_of KB I.ok.mod.glob eC) ⟨rfl,?_⟩ hd);have R:=ha aO π s σ H _ I h;rw [he] at R |-;refine ű (aL R fun us Z ⟨vs,H1,Y,r,z⟩=>?_);obtain ⟨i,rfl,z⟩:=z;obtain ⟨u,rfl,ru⟩:∃u,us=[u]/\RelV (.int i) u:=by
  cases r with
  |cons r1 r2=>cases r2;exact ⟨_,rfl,r1⟩
 obtain ⟨t0,rfl⟩:∃t0,u=.int i t0:=ru;have V:∀b o,Z.heap.get? b=some o->(dQ Z.heap C (.int i t0)).get? b=some o:=fun b o e=>Â _ (Â _ e);have Q:Z.heap.get? (Z.heap.objs.size+1)=none:=by
  cases q:Z.heap.get? (Z.heap.objs.size+1) with
  |none=>rfl
  |some o=>exact absurd (Ç q) (Ÿ.mpr (Nat.le_succ _))
 have uz:(dQ Z.heap C (.int i t0)).get? (Z.heap.objs.size+1)=some { cls:=.ref C,data:=.fields #[.ref Z.heap.objs.size,.none,.none,.none,.bool false,.none] }:=by
  unfold dQ;exact Heap.get?_push_at (by rw [õ]) rfl
 refine ⟨.int i t0,rfl,Y.bk _ _ U,d.keeps Y.bk,T.keeps Y.bk,Y.bk _ _ (KB _ _ lk),?_⟩;have P:X.K.In (dQ Z.heap C (.int i t0)):=(Y.dR).keeps V
 refine CS (s:={ Z with heap:=dQ Z.heap C (.int i t0) }) lk m S j g P ?_ ?_ (l _ _ P rfl) uz rfl rfl (fun c z=>by cases z) f fun O tk dx me g1 g2 g3=>?_
 ·exact Y.nolimit.keeps V
 ·rw [BZ];have:=hr.dp;omega
 ·have k2:∀b o,Z.heap.get? b=some o->O.get? b=some o:=fun b o e=>g3 b o (fun z=>by rw [z,Q] at e;cases e) (V b o e)
  refine ⟨rfl,k2 _ _ (Y.bk _ _ U),⟨dx,_,g1⟩,?_⟩;obtain ⟨LB,e1,e2⟩:=Cw g2;have W:Z.heap.objs.size+2<=dx:=by
   have:(dQ Z.heap C (.int i t0)).objs.size=Z.heap.objs.size+2:=by unfold dQ;rw [õ,õ]
   rw [<- this];exact me
  refine Cc (s:=Z) L Y (h1:=O) k2 Q g1 (ß (Nat.le_add_right _ 2) W) (ĳ W) e1 (z dx LB t0 (Y.au.fresh (ß (Nat.le_add_right _ 2) W)) (by rw [e2,ë rfl]))
end
end L2
namespace DI
open PySem L2 PySem.W
def vD (K:ð) (mg:Str->Option Ã) (x:Str):Prop:=∃C,nsIn K È x=some (some (.ref C))/\mg x=some (.ref C)/\tI K C
def xF (c:Str) (f:MG D):MG Fl:=fun env s=>ak (f env s) fun d s=>match d with
 | .int i=>some (.error ⟨c,some i⟩,s)
 |_=>none
def DZ {X:Cx} {E:XK} {a0:ÿ} {f:MG D} {x:Str} {k:Nat} {np aO pos:Pos} (L:Lv X E) (hr:bc k X.A) (hO:vD X.K X.mg x) (ha:PE X a0 (tE X.K (eI X.mg E) f)) (hc:X.calm=true:=by rfl) (hg:Gl X x:=by rfl) (hd:(x==("__debug__":Str))=false:=by decide)
  (he:Æ [a0] X.env=(false,Ĝ a0 X.env)::Æ [] X.env:=by rfl) (dZ:(ď aO (Æ [a0] X.env)).any (·.1)=false:=by rfl) :
  PS X (.Raise (some (.Call (.Name x np) [a0] [] aO)) none pos) (tS X.K (eI X.mg E) (xF x f)) :=
 let ⟨C,eC,W,V⟩:=hO
 iU (CU L hr eC V hc hg (ig ha jY he) hd he dZ) fun O σ H U=>by
  obtain ⟨w,env,T,S,R,h⟩:=U;subst T;refine ⟨w,env,rfl,S,R,(Out.ak h).mono fun Z d N Q Y v P=>?_⟩
  cases d with
  |int i =>
   have e:v=.int i:=P;subst e;obtain ⟨M,e1,q⟩:=Y Z (Le.refl Z) Q rfl;rw [W] at e1;cases e1;exact ⟨i,rfl,q⟩
  |_=>exact Y.elim
def i7 (ds:List D) (s:aa):Res D:=match ds with
 | [.lst Z]=>(match jr Z with
  |some Y=>ok (.int Y.sum) s
  |none=>none)
 |_=>none
def CV {K:ð} {w:Wd} {ns:List Int}:∀{vs:List V} {us:List Ã},aj K w (ns.map D.int) vs->Vals vs us->∃xs:List (Int×Tok),us=xs.map (fun p=>.int p.1 p.2)/\xs.map (·.1)=ns:=by
 induction ns with
 |nil =>
  intro vs us h r;have e:vs=[]:=h;subst e;cases r;exact ⟨[],rfl,rfl⟩
 |cons n ns ih =>
  intro vs us h r;obtain ⟨v,W,rfl,Z,h⟩:=h;have e:v=.int n:=Z;subst e
  cases r with
  |cons Y X =>
   obtain ⟨t,rfl⟩:=Y;obtain ⟨xs,rfl,rfl⟩:=ih h X;exact ⟨(n,t)::xs,rfl,rfl⟩
def zq {X:Cx} {Ξ:Wd->aM->Prop} (hc:X.calm=true):cC X (.builtin "sum") (rC X.K Ξ i7):=by
 rintro J s σ H xs Y Q I r ⟨w,G,rfl,S,W,h⟩;unfold i7 at h;split at h
 ·rename_i F
  obtain ⟨v,rfl,Z⟩:=mL W;split at h
  ·rename_i E e
   have e:=wJ e;subst e;simp only [DV] at Z;obtain ⟨l,all,rfl,V,U⟩:=Z;obtain ⟨u,rfl,T⟩:∃u,Y=[u]/\RelV (.ref l) u:=by
    cases r with
    |cons R P=>cases P;exact ⟨_,rfl,R⟩
   have e:u=Ė l:=T;subst e;obtain ⟨ah,O,N,D⟩:=I.list V.sq;obtain ⟨xs,rfl,rfl⟩:=CV U O;refine sum_intListG (xs:=xs.toArray) (I.ok.hd hc) (by have:=N.isList;unfold intItems;rw [List.map_toArray];exact this) fun C B M L=>⟨.int (xs.map (fun p:Int×Tok=>p.1)).sum,w.H,I.kept L,⟨M,?_⟩,aw S h _ rfl⟩;rw [preSum_eq,List.take_of_length_le (by simp)]
  ·exact h.elim
 ·exact h.elim
noncomputable def yt:ś->Bool
 | ⟨[],[⟨a,_,_⟩,⟨b,_,_⟩],none,[],[],none,[]⟩=>decide (a="self")&&decide (b="many")
 |_=>false
noncomputable def yu:FuncBody->Bool
 | .stmts [.Assign [.Attribute (.Name a _) b _] (.Name c _) _]=>decide (a="self")&&decide (b="many")&&decide (c="many")
 |_=>false
def Am (K:ð) (fd:ô):Bool:=yt fd.params&&yu fd.body&&jz ["self","many"] ["self","many"] fd.scope&&decide (fd.scope.names.lookup ("self":Str)=some .local)&&decide (fd.scope.names.lookup ("many":Str)=some .local)&&decide (fd.globals=È)&&decide (fd.builtins=builtinsNs)&&fd.closure.isEmpty&&decide (fd.defaults=.none)&&codeIn K fd.code fd.qualname
def pL (K:ð) (C:Í):Bool:=match clsIn K C with
 |some cd=>(match nsIn K cd.ns "__init__" with
  |some (some (.ref Z))=>qo K C Z [.type "ValueError",.type "Exception",.type "BaseException",.type "object"] "ValueError.__new__"&&il K C&&(match K.lookup Z with
   |some ⟨.type "function",_,.func fd,_⟩=>Am K fd
   |_=>false)
  |_=>false)
 |_=>false
def xG {K:ð} {C:Í} (h:pL K C=true):tI K C:=by
 unfold pL at h;split at h
 case h_2=>cases h
 rename_i cd B;split at h
 case h_2=>cases h
 rename_i Q A;simp only [Ä] at h;obtain ⟨⟨P,O⟩,Z⟩:=h;split at Z
 case h_2=>cases Z
 rename_i N fd M lk;unfold Am at Z;simp only [Ä,Ô] at Z;obtain ⟨⟨⟨⟨⟨⟨⟨⟨⟨a1,a2⟩,X⟩,W⟩,V⟩,U⟩,T⟩,Y⟩,S⟩,R⟩:=Z;obtain ⟨nm,qual,params,body,scope,globals,closure,defaults,kV,doc,pm,an,L,J,bi⟩:=fd;dsimp only at a1 a2 X W V U T Y S R;have Y:closure=[]:=List.isEmpty_iff.mp Y;subst U T Y S;unfold yu at a2;split at a2
 case h_2=>cases a2
 rename_i a I b H c G F;simp only [Ä,Ô] at a2;obtain ⟨⟨rfl,rfl⟩,rfl⟩:=a2;unfold yt at a1;split at a1
 case h_2=>cases a1
 rename_i x z w y v u;simp only [Ä,Ô] at a1;obtain ⟨rfl,rfl⟩:=a1;refine ⟨Q,N,M,nm,qual,_,scope,.none,kV,doc,pm,L,J,an,I,H,G,F,P,lk,R,.all fun E D=>?_,gE X,W,V,O⟩
 match E,D with
 | [_,_],_=>rfl
def fS (K:ð) (cs fM asked:List Str) (ef:Str):Bool :=
 cs.all (fun c=>match nsIn K È c with
  |some (some (.ref C))=>(if decide (c∈fM)=true then pL K C else excIn K C [.type "ValueError",.type "Exception",.type "BaseException",.type "object"] "ValueError.__new__")&&jt K C&&(kitOne K (.ref C) (.type "ValueError")==some true) &&
   (match nsIn K È ef with|some (some (.ref Z))=>exmOne K (.ref C) (.ref Z)==some true | _=>false) &&
   asked.all (fun n=>match nsIn K È n with|some (some (.ref A))=>kitOne K (.ref C) (.ref A)==some (isNm n c) | _=>false)
  |_=>false) &&
 asked.all (fun n=>match nsIn K È n with|some (some (.ref A))=>kitOne K (.type "NoneType") (.ref A)==some false | _=>false)&&(kitOne K (.type "NoneType") (.type "ValueError")==some false) &&
 (match nsIn K È ef with|some (some (.ref _))=>true | _=>false)
section
variable {K:ð} {cs fM asked:List Str} {ef:Str} {h:ā} {mg:Str->Option Ã}
def lJ (f:fS K cs fM asked ef=true) {c:Str} (hc:c∈cs):∃C,nsIn K È c=some (some (.ref C))/\(if decide (c∈fM)=true then pL K C else excIn K C [.type "ValueError",.type "Exception",.type "BaseException",.type "object"] "ValueError.__new__")=true/\jt K C=true/\kitOne K (.ref C) (.type "ValueError")=some true /\
  (∃CM,nsIn K È ef=some (some (.ref CM))/\exmOne K (.ref C) (.ref CM)=some true)/\∀n∈asked,∃A,nsIn K È n=some (some (.ref A))/\kitOne K (.ref C) (.ref A)=some (isNm n c):=by
 unfold fS at f;simp only [Ä] at f;obtain ⟨C,e,q⟩:=mR (Đ.mp f.1.1.1 c hc);rw [Ä,Ä,Ä,Ä] at q;obtain ⟨⟨⟨⟨X,W⟩,V⟩,Z⟩,Y⟩:=q;obtain ⟨CM,U,Z⟩:=mR Z;refine ⟨C,e,X,W,beq_iff_eq.mp V,⟨CM,U,beq_iff_eq.mp Z⟩,fun n T=>?_⟩;obtain ⟨A,S,Y⟩:=mR (Đ.mp Y n T);exact ⟨A,S,beq_iff_eq.mp Y⟩
def An (X:K.In h) (G:h.Ns È mg) (f:fS K cs fM asked ef=true) {c:Str} (hc:c∈cs) (hi:c∉fM):ql K mg c:=by
 obtain ⟨C,e,q,_⟩:=lJ f hc;rw [î (by rw [Ô];exact hi)] at q;exact ⟨C,e,mg_of X G e,q⟩
def JB (X:K.In h) (G:h.Ns È mg) (f:fS K cs fM asked ef=true) {c:Str} (hc:c∈cs) (hi:c∈fM):vD K mg c:=by
 obtain ⟨C,e,q,_⟩:=lJ f hc;rw [ë (Ú hi)] at q;exact ⟨C,e,mg_of X G e,xG q⟩
def JC (f:fS K cs fM asked ef=true) {iN:List Str} (hm:∀c∈iN,c∈cs/\c∈fM):vC K iN:=fun c Z=>by
 obtain ⟨C,e,q,_⟩:=lJ f (hm c Z).1;rw [ë (Ú (hm c Z).2)] at q;obtain ⟨_,_,_,_,_,_,_,_,_,_,_,_,_,_,_,_,_,_,_,_,_,_,_,_,_,m⟩:=xG q;exact ⟨C,e,m⟩
def JD (X:K.In h) (G:h.Ns È mg) (f:fS K cs fM asked ef=true):Bc K mg cs ef:=by
 have Z:=f;unfold fS at Z;simp only [Ä] at Z;obtain ⟨Y,e,_⟩:=mR Z.2;refine ⟨Y,mg_of X G e,fun c W=>?_⟩;obtain ⟨C,e1,_,_,_,⟨V,e2,q⟩,_⟩:=lJ f W;rw [e] at e2;cases e2;exact ⟨C,e1,mg_of X G e1,q⟩
def df (X:K.In h) (G:h.Ns È mg) (f:fS K cs fM asked ef=true) {n:Str} (hn:n∈asked):cQ K mg cs n:=by
 have Z:=f;unfold fS at Z;simp only [Ä] at Z;obtain ⟨A,e,q⟩:=mR (Đ.mp Z.1.1.2 n hn);refine ⟨A,mg_of X G e,beq_iff_eq.mp q,fun c Y=>?_⟩;obtain ⟨C,e1,_,W,_,_,V⟩:=lJ f Y;obtain ⟨T,e2,U⟩:=V n hn;rw [e] at e2;cases e2;exact ⟨C,e1,W,U⟩
def Ie (f:fS K cs fM asked ef=true):kM K cs (.type "ValueError") anyS:=by
 have Z:=f;unfold fS at Z;simp only [Ä,beq_iff_eq] at Z;refine ⟨Z.1.2,fun c Y=>?_⟩;obtain ⟨C,e1,_,X,W,_⟩:=lJ f Y;exact ⟨C,e1,X,W⟩
end
end DI
namespace DI.aJ
open PySem L2 DI
noncomputable section
noncomputable def aX:List Str:=["TooMany","NoNumber","NoCount"]
noncomputable def qP:List Str:=["TooMany"]
def mv:List D->aa->Res D:=aZ 2 3 (aD (bz (aK kG (ae (af 0) (ae (af 1) ag))) (gN 2)) (aD (bt (bJ (e2 nF (af 2) (e2 j7 (eC (.int 10)) (eC (.int 18))))) (aR (eNew (ae (e2 gH (af 2) (e2 j7 (eC (.int 10)) (eC (.int 18)))) (ae (eC (.bl true)) ag)))) bC) (aR (eNew (ae (e2 c8 (af 2) (eC (.int 2147483647))) (ae (eC (.bl false)) ag))))))
def cX:List D->aa->Res D:=aZ 2 4 (aD (bt (c9 (e2 ba (af 0) (eC (.int 1)))) (aD (bz (e2 c8 (e2 ba (af 0) (eC (.int 0))) (af 1)) (gN 2)) (aD (i4 (e2 fY (e2 ba (af 0) (eC (.int 0))) (af 1)) (af 0) (eC (.int 0))) (aR (af 2)))) bC) (aD (i4 (e2 c8 (e2 cJ (e2 bS (e2 ba (af 0) (eC (.int 0))) (eC (.int 48271))) (eC (.int 29))) (eC (.int 2147483647))) (af 0) (eC (.int 0))) (aD (bz (e2 c8 (e2 cJ (e2 cJ (e2 bS (e2 ba (af 0) (eC (.int 0))) (e2 ba (af 0) (eC (.int 0)))) (e2 bS (eC (.int 39373)) (e2 ba (af 0) (eC (.int 0))))) (eC (.int 7))) (eC (.int 2147483629))) (gN 3)) (aD (bz (e2 c8 (e2 cJ (e2 bS (af 3) (af 3)) (e2 bS (eC (.int 16807)) (af 3))) (eC (.int 2147483587))) (gN 3)) (aR (e2 c8 (e2 fY (af 3) (eC (.int 8))) (af 1)))))))
def kI:List D->aa->Res D:=aZ 1 2 (aD (bz (e2 ba (cP (ae (aK cX (ae (af 0) (ae (eC (.int 3)) ag))) (ae (eC (.int 999)) (ae (aK cX (ae (af 0) (ae (eC (.int 1000)) ag))) ag)))) (aK cX (ae (af 0) (ae (eC (.int 3)) ag)))) (gN 1)) (aR (bB (ae (af 1) (ae (e2 ba (cP (ae (aK cX (ae (af 0) (ae (eC (.int 20)) ag))) (ae (eC (.int 19)) ag))) (aK cX (ae (af 0) (ae (eC (.int 2)) ag)))) (ae (e2 ba (cP (ae (aK cX (ae (af 0) (ae (eC (.int 24)) ag))) (ae (eC (.int 23)) (ae (eC (.int 0)) ag)))) (aK cX (ae (af 0) (ae (eC (.int 3)) ag)))) ag))))))
def gw:List D->aa->Res D:=aZ 1 1 (aD (bt (bJ (e2 i3 (af 0) (eC (.int (479999))))) (xF "TooMany" (af 0)) bC) (aR (bB (ae (e2 fY (af 0) (eC (.int (480)))) (ae (e2 c8 (e2 fY (af 0) (eC (.int (24)))) (eC (.int (20)))) (ae (e2 c8 (af 0) (eC (.int (24)))) ag))))))
def mj:List D->aa->Res D:=aZ 1 4 (aD (bt (gn (fc (c9 (eB bX (ae (af 0) (ae (eC (.ty "tuple")) ag))))) (bJ (e2 bW (eB dD (ae (af 0) ag)) (eC (.int 3))))) (aR (eC (.bl false))) bC) (aD (bz (af 0) (gT [(gN 1),(gN 2),(gN 3)])) (aR (fx (aK jR (ae (af 1) (ae (eC (.int (1000))) ag))) (fx (aK jR (ae (af 2) (ae (eC (.int (20))) ag))) (aK jR (ae (af 3) (ae (eC (.int (24))) ag))))))))
def mf:List D->aa->Res D:=aZ 1 1 (aR (fx (eB bX (ae (af 0) (ae (eC (.ty "list")) ag))) (fx (e2 qj (eB dD (ae (af 0) ag)) (eC (.int (20)))) (eB nG (ae (dw 1 [] (cV (af 0)) (gN 0) dU (aK mj (ae (af 0) ag))) ag)))))
def jg:List D->aa->Res D:=aZ 1 4 (aD (bz (af 0) (gT [(gN 1),(gN 2),(gN 3)])) (aR (e2 cJ (e2 cJ (e2 bS (af 1) (eC (.int (480)))) (e2 bS (af 2) (eC (.int (24))))) (af 3))))
def dW:List D->aa->Res D:=aZ 1 1 (aD (bt (fc (c9 (aK mf (ae (af 0) ag)))) (mQ "NoCount" (ae (eC (.str "counts are a list of at most twenty counts")) ag)) bC) (aR (cS gw (ae (eB i7 (ae (dw 1 [] (cV (af 0)) (gN 0) dU (aK jg (ae (af 0) ag))) ag)) ag))))
def v7:List D->aa->Res D:=aZ 1 2 (aD (bz (cP (ae (e1 (cb aX (isNm "NoMarks")) (af 0)) (ae (e1 (cb aX (isNm "NoSheet")) (af 0)) (ae (e1 (cb aX (isNm "NoPage")) (af 0)) (ae (e1 (cb aX (isNm "NoBook")) (af 0)) ag))))) (gN 1)) (aD (bz (e2 cJ (af 1) (cP (ae (e1 (cb aX (isNm "NoMould")) (af 0)) (ae (e1 (cb aX (isNm "NoDay")) (af 0)) (ae (e1 (cb aX (isNm "NoSort")) (af 0)) (ae (e1 (cb aX (isNm "NoNumber")) (af 0)) ag)))))) (gN 1)) (aD (bz (e2 cJ (af 1) (cP (ae (e1 (cb aX (isNm "NoSheets")) (af 0)) (ae (e1 (cb aX (isNm "NoRun")) (af 0)) (ae (e1 (cb aX (isNm "NoLaying")) (af 0)) (ae (e1 (cb aX (isNm "NoHeap")) (af 0)) ag)))))) (gN 1)) (aD (bz (e2 cJ (af 1) (cP (ae (e1 (cb aX (isNm "NoCount")) (af 0)) (ae (e1 (cb aX (isNm "Clash")) (af 0)) (ae (e1 (cb aX (isNm "NoDeed")) (af 0)) (ae (e1 (cb aX (isNm "NoText")) (af 0)) ag)))))) (gN 1)) (aR (e2 cJ (af 1) (cP (ae (e1 (cb aX (isNm "NoRow")) (af 0)) (ae (e1 (cb aX (isNm "TooMany")) (af 0)) (ae (e1 (cb aX (isNm "Lacking")) (af 0)) ag))))))))))
def iP:List D->aa->Res D:=aZ 1 1 (aD (bt (fc (c9 (aK jR (ae (af 0) (ae (e2 cJ (eC (.int (479999))) (eC (.int 1))) ag))))) (mQ "NoNumber" (ae (eC (.str "sheets are a whole number from 0 to 479999")) ag)) bC) (aR (cS gw (ae (af 0) ag))))
def iO:List D->aa->Res D:=aZ 1 1 (aD (bt (fc (c9 (aK mj (ae (af 0) ag)))) (mQ "NoCount" (ae (eC (.str "a count is a tuple of reams, quires and sheets")) ag)) bC) (aR (aK jg (ae (af 0) ag))))
def cA (cl:D) (th:aa->Res D):List D->aa->Res D:=aZ 1 3 (ju aX "told" (l9 cl th 0) 1 (aD (bz (aK v7 (ae (af 1) ag)) (gN 2)) (aD (bt (gn (fc (c9 (e1 (cb aX anyS) (af 1)))) (bJ (e2 tG (e1 uy (af 2)) (eC (.int 1))))) (aR (bB (ae (eC (.str "other")) (ae (eC .aq) ag)))) bC) (aD (bt (c9 (e2 ba (af 2) (eC (.int 17)))) (aR (bB (ae (eC (.str "many")) (ae (e1 (nq qP) (af 1)) ag)))) bC) (aD (bt (c9 (e2 ba (af 2) (eC (.int 18)))) (aR (bB (ae (eC (.str "lacking")) (ae (e1 (nq qP) (af 1)) ag)))) bC) (aR (bB (ae (eC (.str "refused")) (ae (e1 vu (af 2)) ag)))))))))
def dO:Nat->List D->aa->Res D
 |0=>fun _ _=>none
 |n+1=>aZ 2 2 (aD (bt (c9 (e1 lE (af 1))) (aD (bt (gn (bJ (e2 bW (eB bX (ae (af 0) (ae (eC (.ty "list")) ag))) (eB bX (ae (af 1) (ae (eC (.ty "list")) ag))))) (bJ (e2 bW (eB bX (ae (af 0) (ae (eC (.ty "tuple")) ag))) (eB bX (ae (af 1) (ae (eC (.ty "tuple")) ag)))))) (aR (eC (.bl false))) bC) (aD (bt (bJ (e2 bW (eB dD (ae (af 0) ag)) (eB dD (ae (af 1) ag)))) (aR (eC (.bl false))) bC) (aR (e2 mB (eC (.bl false)) (mO 2 [] (iX (ae (af 0) (ae (af 1) ag))) (gT [gN 0,gN 1]) dU (aK (dO n) (ae (af 0) (ae (af 1) ag)))))))) bC) (aR (fx (e2 fg (eB bX (ae (af 0) (ae (eC (.ty "bool")) ag))) (eB bX (ae (af 1) (ae (eC (.ty "bool")) ag)))) (e2 fg (af 0) (af 1)))))
def jh:List D->aa->Res D:=aZ 1 3 (aD (bz (e2 fY (af 0) (eC (.int 480))) (gN 1)) (aD (bz (e2 gH (af 0) (e2 bS (af 1) (eC (.int 480)))) (gN 2)) (aR (bB (ae (af 1) (ae (e2 fY (af 2) (eC (.int 24))) (ae (e2 gH (af 2) (e2 bS (e2 fY (af 2) (eC (.int 24))) (eC (.int 24)))) ag)))))))
def jS:List D->aa->Res D:=aZ 1 1 (aR (e2 cJ (e2 cJ (e2 bS (e2 ba (af 0) (eC (.int 0))) (eC (.int 480))) (e2 bS (e2 ba (af 0) (eC (.int 1))) (eC (.int 24)))) (e2 ba (af 0) (eC (.int 2)))))
def pM:MG Fl:=(bt (gn (fc (c9 (aK (dO 8) (ae (iB "law" [6] (cS dW (ae (af 0) ag)) cA) (ae (af 9) ag))))) (bJ (e2 bW (eB ll (ae (af 6) ag)) (af 7)))) (aR (eC (.bl false))) bC)
def sE:MG Fl:=(aD (bz (e2 ba (cP (ae (aK cX (ae (af 2) (ae (eC (.int 480000)) ag))) (ae (aK cX (ae (af 2) (ae (eC (.int 2000)) ag))) (ae (eC (.int 479999)) (ae (eC (.int 0)) ag))))) (aK cX (ae (af 2) (ae (eC (.int 4)) ag)))) (gN 4)) (aD (bz (aK kI (ae (af 2) ag)) (gN 5)) (aD (bt (gn (fc (c9 (aK (dO 8) (ae (aK iP (ae (af 4) ag)) (ae (aK jh (ae (af 4) ag)) ag))))) (fc (c9 (aK (dO 8) (ae (aK iO (ae (af 5) ag)) (ae (aK jS (ae (af 5) ag)) ag)))))) (aR (eC (.bl false))) bC) (aD (bt (gn (bJ (e2 bW (aK iP (ae (aK iO (ae (af 5) ag)) ag)) (af 5))) (bJ (e2 bW (aK iO (ae (aK iP (ae (af 4) ag)) ag)) (af 4)))) (aR (eC (.bl false))) bC) (aD (bz (dw 1 [2] (iH (ae (aK cX (ae (af 2) (ae (eC (.int 21)) ag))) ag)) (gN 0) dU (aK kI (ae (af 1) ag))) (gN 6)) (aD (bt (bJ (e2 fg (aK cX (ae (af 2) (ae (eC (.int 2)) ag))) (eC (.int 0)))) (bz (dw 1 [] (cV (af 6)) (gN 0) dU (bB (ae (e2 c8 (e2 ba (af 0) (eC (.int 0))) (eC (.int 50))) (ae (e2 ba (af 0) (eC (.int 1))) (ae (e2 ba (af 0) (eC (.int 2))) ag))))) (gN 6)) bC) (aD (bt (bJ (e2 fg (aK cX (ae (af 2) (ae (eC (.int 3)) ag))) (eC (.int 0)))) (bz (cP (ae (bB (ae (eC (.int 500)) (ae (eC (.int 7)) (ae (eC (.int 3)) ag)))) (ae (aK jh (ae (e2 cJ (e2 gH (e2 gH (eC (.int 479999)) (e2 bS (eC (.int 500)) (eC (.int 480)))) (eC (.int 171))) (aK cX (ae (af 2) (ae (eC (.int 2)) ag)))) ag)) (ae (bB (ae (eC (.int 0)) (ae (eC (.int 0)) (ae (eC (.int 0)) ag)))) ag)))) (gN 6)) bC) (aD (nH 7 8 (ae (eB ll (ae (af 6) ag)) (ae (eB i7 (ae (dw 1 [] (cV (af 6)) (gN 0) dU (aK jS (ae (af 0) ag))) ag)) ag))) (aD (bz (lU (bJ (e2 i3 (af 8) (eC (.int 479999)))) (bB (ae (eC (.str "many")) (ae (af 8) ag))) (bB (ae (eC (.str "told")) (ae (aK jh (ae (af 8) ag)) ag)))) (gN 9)) (gL (iH (ae (eC (.int 2)) ag)) (gN 10) pM))))))))))
def sF:MG Fl:=(bt (bJ (e2 bW (iB "law" [11] (cS iP (ae (af 0) ag)) cA) (bB (ae (eC (.str "refused")) (ae (eC (.int 7)) ag))))) (aR (eC (.bl false))) bC)
def sG:MG Fl:=(aD (bt (bJ (e2 bW (iB "law" [11] (cS iO (ae (af 0) ag)) cA) (bB (ae (eC (.str "refused")) (ae (eC (.int 12)) ag))))) (aR (eC (.bl false))) bC) (bt (bJ (e2 bW (iB "law" [11] (cS dW (ae (cP (ae (bB (ae (eC (.int 0)) (ae (eC (.int 0)) (ae (eC (.int 1)) ag)))) (ae (af 0) ag))) ag)) cA) (bB (ae (eC (.str "refused")) (ae (eC (.int 12)) ag))))) (aR (eC (.bl false))) bC))
def sH:MG Fl:=(bt (bJ (e2 bW (iB "law" [11] (cS dW (ae (af 0) ag)) cA) (bB (ae (eC (.str "refused")) (ae (eC (.int 12)) ag))))) (aR (eC (.bl false))) bC)
def sI:MG Fl:=(aD (bz (aK mv (ae (af 0) (ae (af 1) ag))) (gN 2)) (aD (gL (iH (ae (eC (.int 6)) ag)) (gN 3) sE) (aD (gL (cV (cP (ae (e1 za (eC (.int 1))) (ae (eC (.int 480000)) (ae (eC (.bl true)) (ae (eC .aq) (ae (eC (.str "0")) (ae (bB (ae (eC (.int 0)) (ae (eC (.int 0)) (ae (eC (.int 0)) ag)))) (ae (e2 j7 (eC (.int 10)) (eC (.int 29))) ag))))))))) (gN 11) sF) (aD (bz (eC (.lst [.tup [.int 1000,.int 0,.int 0],.tup [.int 0,.int 20,.int 0],.tup [.int 0,.int 0,.int 24],.tup [.int 0,.int 0,.int (-1)],.tup [.int (-1),.int 0,.int 0],.tup [.int 0,.int (-1),.int 0],.lst [.int 0,.int 0,.int 0],.tup [.int 0,.int 0]])) (gN 12)) (aD (gL (cV (e2 cJ (af 12) (eC (.lst [.tup [.int 0,.int 0,.int 0,.int 0],.tup [.bl true,.int 0,.int 0],.tup [.int 0,.aq,.int 0],.aq,.int 0,.str "",.tup []])))) (gN 11) sG) (aD (gL (cV (cP (ae (bB (ae (bB (ae (eC (.int 0)) (ae (eC (.int 0)) (ae (eC (.int 0)) ag)))) ag)) (ae (eC .aq) (ae (eC (.aW [])) (ae (eC (.str "")) (ae (e2 bS (cP (ae (bB (ae (eC (.int 0)) (ae (eC (.int 0)) (ae (eC (.int 0)) ag)))) ag)) (eC (.int 21))) (ae (bB ag) (ae (eC (.int 0)) ag))))))))) (gN 11) sH) (bt (bJ (e2 bW (aK dW (ae (cP ag) ag)) (bB (ae (eC (.int 0)) (ae (eC (.int 0)) (ae (eC (.int 0)) ag)))))) (aR (eC (.bl false))) bC)))))))
def p0:List D->aa->Res D:=aZ 1 13 (aD (gL (iH (ae (eB lh (ae (eC (.int 1)) (ae (eB m8 (ae (eB dD (ae (af 0) ag)) (ae (eC (.int 3)) ag))) ag))) ag)) (gN 1) sI) (aR (eC (.bl true))))
end
end DI.aJ
namespace DI
open PySem L2
def Wp {α:Type} (r:Res α) (Q:α->aa->Prop):Prop:=∃a s,r=some (.ok a,s)/\Q a s
section
variable {α β:Type} {r:Res α} {k:α->aa->Res β} {Q Q':α->aa->Prop} {R:β->aa->Prop} {env:Env} {s:aa}
theorem Wp.ok {a:α} (h:Q a s):Wp (DI.ok a s) Q:=⟨a,s,rfl,h⟩
def Wp.mono (h:Wp r Q) (i:∀a s,Q a s->Q' a s):Wp r Q':=by
 obtain ⟨a,s,e,q⟩:=h;exact ⟨a,s,e,i a s q⟩
theorem Wp.ak (h:Wp r fun a s=>Wp (k a s) R):Wp (DI.ak r k) R:=by
 obtain ⟨a,s,e,b,Z,Y,q⟩:=h;exact ⟨b,Z,by rw [e];exact Y,q⟩
theorem Wp.ne (h:Wp r Q):Wp (DI.ne r) Q:=by
 obtain ⟨a,s,e,q⟩:=h;exact ⟨a,s,by rw [e];rfl,q⟩
def MH (e:r=some (.ok a,s)) (h:Q a s):Wp r Q:=⟨a,s,e,h⟩
def Wp.seq {f g:MG Fl} {Q:Fl->aa->Prop} (h:Wp (f env s) fun fl s=>match fl with
  | .nx env=>Wp (g env s) Q
  |fl=>Q fl s):Wp (aD f g env s) Q:=by
 obtain ⟨fl,Z,e,h⟩:=h;unfold aD;rw [e]
 cases fl with
 |nx env=>exact h
 |rt d=>exact ⟨_,_,rfl,h⟩
 |bk e=>exact ⟨_,_,rfl,h⟩
 |ct e=>exact ⟨_,_,rfl,h⟩
def Wp.lK {Q:Fl->aa->Prop} (I:Nat->Env->aa->Prop) (all:List D) (h0:I 0 env s)
 (step:∀i d env s,all[i]?=some d->I i env s->∃aH,g d env=some aH/\Wp (b aH s) fun fl s=>match fl with
   | .nx e=>I (i+1) e s
   | .ct e=>I (i+1) e s
   | .bk e=>Q (.nx e) s
   | .rt d=>Q (.rt d) s) (fin:∀env s,I all.length env s->Q (.nx env) s):Wp (ip g b all env s) Q:=by
 have key:∀(Z:List D) (i:Nat) (env:Env) (s:aa),all.drop i=Z->i<=all.length->I i env s->Wp (ip g b Z env s) Q:=by
  intro Z
  induction Z with
  |nil =>
   intro i env s Y hi h;have e:i=all.length:=by
    have:=ě List.length Y;simp at this;omega
   subst e;exact Wp.ok (fin _ _ h)
  |cons d Z ih =>
   intro i env s Y hi h;have X:all[i]?=some d:=by
    have:=ě (fun l=>l[0]?) Y;simpa using this
   have W:all.drop (i+1)=Z:=by
    have:=ě (List.drop 1) Y;simpa [List.drop_drop] using this
   obtain ⟨aH,U,T⟩:=step i d env s X h;have V:=(É.mp X).1;unfold ip;rw [U];refine Wp.ak (T.mono fun fl s q=>?_)
   cases fl with
   |nx e=>exact ih (i+1) e s W V q
   |ct e=>exact ih (i+1) e s W V q
   |bk e=>exact Wp.ok q
   |rt d=>exact Wp.ok q
 exact key all 0 env s rfl (ĵ _) h0
def EV {nt:Nat} {t:MG Bool} {Q:List D->aa->Prop} (I:Nat->List D->aa->Prop) (all:List D) (h0:I 0 [] s)
 (step:∀i d acc s,all[i]?=some d->I i acc s->∃env,g d (Ê nt none++aE)=some env/\Wp (t env s) fun b s=>if b=true then Wp (f env s) fun x s=>I (i+1) (acc++[x]) s else I (i+1) acc s)
 (fin:∀acc s,I all.length acc s->Q acc s):Wp (eT nt aE g t f all s) Q:=by
 have key:∀(Z:List D) (i:Nat) (acc:List D) (s:aa),all.drop i=Z->i<=all.length->I i acc s->Wp (eT nt aE g t f Z s) fun X s=>Q (acc++X) s:=by
  intro Z
  induction Z with
  |nil =>
   intro i acc s Y hi h;have e:i=all.length:=by
    have:=ě List.length Y;simp at this;omega
   subst e;exact Wp.ok (by rw [Ć];exact fin _ _ h)
  |cons d Z ih =>
   intro i acc s Y hi h;have W:all[i]?=some d:=by
    have:=ě (fun l=>l[0]?) Y;simpa using this
   have V:all.drop (i+1)=Z:=by
    have:=ě (List.drop 1) Y;simpa [List.drop_drop] using this
   obtain ⟨R,T,S⟩:=step i d acc s W h;have U:=(É.mp W).1;unfold eT;rw [T];refine Wp.ak (Wp.ne (S.mono fun b s q=>?_))
   cases b with
   |true =>
    rw [ë rfl] at q |-;refine Wp.ak (Wp.ne (q.mono fun x s q=>?_));refine Wp.ak ((ih (i+1) (acc++[x]) s V U q).mono fun X s q=>Wp.ok ?_);rw [Ţ] at q;exact q
   |false =>
    rw [î Î] at q |-;exact ih (i+1) acc s V U q
 have:=key all 0 [] s rfl (ĵ _) h0;simpa using this
end
section
variable {α β:Type} {Q:D->aa->Prop} {QL:List D->aa->Prop} {QB:Bool->aa->Prop} {QF:Fl->aa->Prop} {QO:Option Int->aa->Prop} {env:Env} {s:aa} {f g h:MG D} {fa:MG (List D)} {c c':MG Bool} {st dG:MG Fl} {o o':D->D->aa->Res D} {u:D->aa->Res D} {bf:List D->aa->Res D}
def bj {a:α} {Q:α->aa->Prop}:Wp (ok a s) Q=Q a s:=propext ⟨fun ⟨b,Z,e,q⟩=>by cases e;exact q,fun q=>⟨a,s,rfl,q⟩⟩
def yv {Q:α->aa->Prop}:Wp (some (Except.ok a,s)) Q=Q a s:=bj
def bq {r:Res α} {k:α->aa->Res β} {R:β->aa->Prop}:Wp (ak r k) R=Wp r fun a s=>Wp (k a s) R:=propext ⟨fun ⟨b,Z,e,q⟩=>by
 obtain ⟨a,s,e1,e2⟩:=DD e;exact ⟨a,s,e1,b,Z,e2,q⟩,fun h=>Wp.ak h⟩
def tJ {Q:α->aa->Prop}:Wp (ne r) Q=Wp r Q:=propext ⟨fun ⟨b,Z,e,q⟩=>⟨b,Z,EH e,q⟩,fun h=>h.ne⟩
def dX {a:D} {r:Env}:Wp (af 0 (some a::r) s) Q=Q a s:=by rw [show af 0 (some a::r) s=ok a s from rfl,bj]
def dY {i:Nat} {a:Option D} {r:Env}:Wp (af (i+1) (a::r) s) Q=Wp (af i r s) Q:=by rw [show af (i+1) (a::r) s=af i r s from rfl]
def fB:Wp (eC d env s) Q=Q d s:=by rw [show eC d env s=ok d s from rfl,bj]
def zr:Wp (e1 u f env s) Q=Wp (f env s) fun x s=>Wp (u x s) Q:=by unfold e1;rw [bq]
def fv:Wp (e2 o f g env s) Q=Wp (f env s) fun x s=>Wp (g env s) fun y s=>Wp (o x y s) Q:=by unfold e2;simp only [bq]
def cz:Wp (ag env s) QL=QL [] s:=by unfold ag;rw [bj]
def cg:Wp (ae f fa env s) QL=Wp (f env s) fun x s=>Wp (fa env s) fun xs s=>QL (x::xs) s:=by unfold ae;simp only [bq,bj]
def nr:Wp (eB bf fa env s) Q=Wp (fa env s) fun ds s=>Wp (bf ds s) Q:=by unfold eB;rw [bq]
def wp_call:Wp (aK fn fa env s) Q=Wp (fa env s) fun ds s=>Wp (fn ds s) Q:=by unfold aK;simp only [bq,tJ]
def mx {Q:α->aa->Prop}:Wp (fq ds r) Q=(ds.length<=Ï/\Wp r Q):=propext ⟨fun ⟨b,Z,e,q⟩=>by
 unfold fq at e;split at e
 ·exact ⟨by assumption,b,Z,e,q⟩
 ·(cases e),fun ⟨Y,b,Z,e,q⟩=>⟨b,Z,by unfold fq;rw [ë Y];exact e,q⟩⟩
def jn:Wp (bB fa env s) Q=Wp (fa env s) fun ds s=>ds.length<=Ï/\Q (.tup ds) s:=by unfold bB;simp only [bq,mx,bj]
def mS:Wp (cP fa env s) Q=Wp (fa env s) fun ds s=>ds.length<=Ï/\Q (.lst ds) s:=by unfold cP;simp only [bq,mx,bj]
def yw:Wp (eNew fa env s) Q=Wp (fa env s) fun ds s=>ds.length<=Ï/\Q (.aN s.length) (s++[.lst ds]):=by unfold eNew;simp only [bq,mx,bj]
def yx:Wp (zU f env s) Q=Wp (f env s) fun d s=>Wp (aI d s) Q:=by unfold zU;rw [bq]
def gF:Wp (bJ f env s) QB=Wp (f env s) fun d s=>Wp (et d s) QB:=by unfold bJ;rw [bq]
def fO {b:Bool}:Wp (et (.bl b) s) QB=QB b s:=by rw [show et (.bl b) s=ok b s from rfl,bj]
def pN:Wp (c9 f env s) QB=Wp (f env s) fun d s=>Wp (truth d s) QB:=by unfold c9;rw [bq]
def mC {b:Bool}:Wp (truth (.bl b) s) QB=QB b s:=by rw [show truth (.bl b) s=ok b s from rfl,bj]
def xH:Wp (tW c c' env s) QB=Wp (c env s) fun b s=>if b=true then Wp (c' env s) QB else QB false s:=by
 unfold tW;rw [bq];congr 1;funext b s
 cases b<;>simp [bj]
def mT:Wp (gn c c' env s) QB=Wp (c env s) fun b s=>if b=true then QB true s else Wp (c' env s) QB:=by
 unfold gn;rw [bq];congr 1;funext b s
 cases b<;>simp [bj]
def pq:Wp (fc c env s) QB=Wp (c env s) fun b s=>QB (!b) s:=by unfold fc;simp only [bq,bj]
def xI:Wp (fx f g env s) Q=Wp (f env s) fun x s=>Wp (et x s) fun b s=>if b=true then Wp (g env s) Q else Q (.bl false) s:=by
 unfold fx;rw [bq];congr 1;funext x s;rw [bq];congr 1;funext b s
 cases b<;>simp [bj]
def yy:Wp (AN f g env s) Q=Wp (f env s) fun x s=>Wp (et x s) fun b s=>if b=true then Q (.bl true) s else Wp (g env s) Q:=by
 unfold AN;rw [bq];congr 1;funext x s;rw [bq];congr 1;funext b s
 cases b<;>simp [bj]
def xJ:Wp (qe f env s) Q=Wp (f env s) fun x s=>Wp (et x s) fun b s=>Q (.bl (!b)) s:=by unfold qe;simp only [bq,bj]
def yz:Wp (lU c f g env s) Q=Wp (c env s) fun b s=>if b=true then Wp (f env s) Q else Wp (g env s) Q:=by
 unfold lU;rw [bq];congr 1;funext b s
 cases b<;>simp
def yA:Wp (AO o o' f g h env s) Q=Wp (f env s) fun x s=>Wp (g env s) fun y s=>Wp (o x y s) fun z s=>Wp (et z s) fun b s=>if b=true then Wp (h env s) fun u s=>Wp (o' y u s) Q else Q (.bl false) s:=by
 unfold AO;simp only [bq];congr 1;funext x s;congr 1;funext y s;congr 1;funext z s;congr 1;funext b s
 cases b<;>simp [bj,bq]
def fP:Wp (bC env s) QF=QF (.nx env) s:=by unfold bC;rw [bj]
def xK:Wp (aR f env s) QF=Wp (f env s) fun d s=>QF (.rt d) s:=by unfold aR;simp only [bq,bj]
def wR:Wp (yZ f env s) QF=Wp (f env s) fun _ s=>QF (.nx env) s:=by unfold yZ;simp only [bq,bj]
def wU:Wp (y0 env s) QF=QF (.ct env) s:=by unfold y0;rw [bj]
def oA (st:MG Fl) (Q:Fl->aa->Prop):Fl->aa->Prop:=fun fl s=>match fl with
 | .nx env=>Wp (st env s) Q
 |fl=>Q fl s
def se:Wp (aD st dG env s) QF=Wp (st env s) (oA dG QF):=propext ⟨fun h=>by
 unfold aD at h;rw [bq] at h;refine h.mono fun Z s q=>?_
 cases Z with
 |nx e=>exact q
 |rt d=>have q:Wp (ok (Fl.rt d) s) QF:=q;rw [bj] at q;exact q
 |bk d=>have q:Wp (ok (Fl.bk d) s) QF:=q;rw [bj] at q;exact q
 |ct d=>have q:Wp (ok (Fl.ct d) s) QF:=q;rw [bj] at q;exact q,fun h=>Wp.seq (h.mono fun Z s q=>by cases Z<;>exact q)⟩
def MJ (h:∀R,R=dG->Wp (st env s) (oA R QF)):Wp (aD st dG env s) QF:=by rw [se];exact h _ rfl
def cT:oA st QF (.nx env) s=Wp (st env s) QF:=rfl
def yB:oA st QF (.rt d) s=QF (.rt d) s:=rfl
def yC:oA st QF (.ct env) s=QF (.ct env) s:=rfl
def fT:Wp (bt c st dG env s) QF=Wp (c env s) fun b s=>if b=true then Wp (st env s) QF else Wp (dG env s) QF:=by
 unfold bt;rw [bq];congr 1;funext b s
 cases b<;>simp
def ij {gd:D->Env->Option Env}:Wp (bz f gd env s) QF=Wp (f env s) fun d s=>∃e,gd d env=some e/\QF (.nx e) s:=by
 unfold bz;rw [bq];congr 1;funext d s
 cases h:gd d env with
 |none=>exact propext ⟨fun ⟨_,_,e,_⟩=>(by cases e),fun ⟨_,e,_⟩=>(by cases e)⟩
 |some e=>rw [bj];exact propext ⟨fun q=>⟨e,rfl,q⟩,fun ⟨Z,z,q⟩=>by cases z;exact q⟩
def iu {i:Nat} {P:Env->Prop}:(∃e,gN i d env=some e/\P e)=P (env.set i (some d)):=propext ⟨fun ⟨e,z,q⟩=>by cases z;exact q,fun q=>⟨_,rfl,q⟩⟩
def zt {P:Env->Prop}:(∃e,gT gs (.tup ds) env=some e/\P e)=∃e,ff gs ds env=some e/\P e:=rfl
def xM {P:Env->Prop}:(∃e,ff [] [] env=some e/\P e)=P env:=propext ⟨fun ⟨e,z,q⟩=>by cases z;exact q,fun q=>⟨_,rfl,q⟩⟩
def wV {i:Nat} {P:Env->Prop}:(∃e,ff (gN i::gs) (d::ds) env=some e/\P e)=∃e,ff gs ds (env.set i (some d))=some e/\P e:=rfl
def sf {i j:Nat}:Wp (nH i j fa env s) QF=Wp (fa env s) fun ds s=>∃x y,ds=[x,y]/\QF (.nx ((env.set i (some x)).set j (some y))) s:=by
 unfold nH;rw [bq];congr 1;funext ds s
 match ds with
 | [x,y] =>
  show Wp (ok (Fl.nx ((env.set i (some x)).set j (some y))) s) QF=_;rw [bj];exact propext ⟨fun q=>⟨x,y,rfl,q⟩,fun ⟨Z,Y,e,q⟩=>by cases e;exact q⟩
 | []=>exact propext ⟨fun ⟨_,_,e,_⟩=>(by cases e),fun ⟨_,_,e,_⟩=>(by cases e)⟩
 | [_]=>exact propext ⟨fun ⟨_,_,e,_⟩=>(by cases e),fun ⟨_,_,e,_⟩=>(by cases e)⟩
 |_::_::_::_=>exact propext ⟨fun ⟨_,_,e,_⟩=>(by cases e),fun ⟨_,_,e,_⟩=>(by cases e)⟩
def yD {P:D->D->Prop}:(∃x' y',[x,y]=[x',y']/\P x' y')=P x y:=propext ⟨fun ⟨_,_,e,q⟩=>by cases e;exact q,fun q=>⟨x,y,rfl,q⟩⟩
def jk:Wp (gL it gd st env s) QF=Wp (it env s) fun ds s=>Wp (ip gd st ds env s) QF:=by unfold gL;rw [bq]
def xN {fo fi:MG D}:Wp (i4 f fo fi env s) QF=Wp (f env s) fun x s=>Wp (fo env s) fun d s=>Wp (fi env s) fun n s=>∃s',gM d n x s=some s'/\QF (.nx env) s':=by
 unfold i4;simp only [bq];congr 1;funext x s;congr 1;funext d s;congr 1;funext n s
 cases h:gM d n x s with
 |none=>exact propext ⟨fun ⟨_,_,e,_⟩=>(by cases e),fun ⟨_,e,_⟩=>(by cases e)⟩
 |some e=>simp only [bj];exact propext ⟨fun q=>⟨e,rfl,q⟩,fun ⟨Z,z,q⟩=>by cases z;exact q⟩
def yE:Wp (Ad f g env s) Q=Wp (f env s) fun d s=>uo d s=true/\Wp (g env s) fun x s=>Wp (Ab d x s) Q:=by
 unfold Ad;rw [bq];congr 1;funext d s
 cases h:uo d s with
 |true=>rw [ë rfl,bq];simp
 |false=>rw [î Î];exact propext ⟨fun ⟨_,_,e,_⟩=>(by cases e),fun ⟨e,_⟩=>(by cases e)⟩
def uB (Q:D->aa->Prop):Fl->aa->Prop:=fun Z s=>match Z with
 | .rt d=>Q d s
 | .nx _=>Q .aq s
 |_=>False
def tK:Wp (aZ np ns st ds s) Q=(ds.length=np/\Wp (st (ds.map some++Ê (ns-np) none) s) (uB Q)):=by
 unfold aZ;by_cases h:ds.length=np
 ·rw [ë h,bq]
  refine propext ⟨fun q=>⟨h,q.mono fun Z s q=>?_⟩,fun ⟨_,q⟩=>q.mono fun Z s q=>?_⟩
  ·cases Z with
   |rt d=>exact (show Wp (ok d s) Q from q) |> fun z=>by rw [bj] at z;exact z
   |nx e=>exact (show Wp (ok D.aq s) Q from q) |> fun z=>by rw [bj] at z;exact z
   |bk e=>obtain ⟨_,_,e,_⟩:=q;cases e
   |ct e=>obtain ⟨_,_,e,_⟩:=q;cases e
  ·cases Z with
   |rt d=>exact Wp.ok q
   |nx e=>exact Wp.ok q
   |bk e=>exact q.elim
   |ct e=>exact q.elim
 ·rw [î h]
  exact propext ⟨fun ⟨_,_,e,_⟩=>(by cases e),fun ⟨e,_⟩=>absurd e h⟩
def yF:uB Q (.rt d) s=Q d s:=rfl
def yG:uB Q (.nx env) s=Q .aq s:=rfl
def mE:Wp (dw nt cap it gd c f env s) Q=Wp (it env s) fun ds s=>ds.length<=Ï/\Wp (eT nt (eV cap env) gd c f ds s) fun xs s=>Q (.lst xs) s:=by
 unfold dw;simp only [bq,mx,bj]
def zu:Wp (AR f l' h' env s) Q=Wp (f env s) fun d s=>Wp (l' env s) fun lo s=>Wp (h' env s) fun hi s=>Wp (ye d lo hi s) Q:=by unfold AR;simp only [bq]
def yH:Wp (AQ env s) QO=QO none s:=by unfold AQ;rw [bj]
end
open DI.aJ
def EW {cl:D} {th:aa->Res D} {r:Env} {s:aa}:l9 cl th 0 (some cl::r) s=th s:=ë rfl
def zv (b:MG Fl) (cl:D) (r:Res D) (s:aa):Res D:=ak (ju aX "told" (fun _ _=>r) 1 b [some cl,none,none] s) fun Z s=>match Z with
 | .rt d=>ok d s
 | .nx _=>ok .aq s
 |_=>none
def iR {cl:D} {th:aa->Res D} {s:aa} {b:MG Fl}:aZ 1 3 (ju aX "told" (l9 cl th 0) 1 b) [cl] s=zv b cl (th s) s:=by
 show ak (ju aX "told" (l9 cl th 0) 1 b [some cl,none,none] s) _=_;unfold ju;rw [EW];rfl
def sJ {cl d:D} {th:aa->Res D} {s s':aa} (h:th s=some (.ok d,s')):cA cl th [cl] s=ok (.tup [.str "told",d]) s':=by
 unfold cA;rw [iR,h];rfl
def rM {cl:D} {th:aa->Res D} {s s':aa} {i:Int} (h:th s=some (.error ⟨"TooMany",some i⟩,s')):cA cl th [cl] s=ok (.tup [.str "many",.int i]) s':=by
 unfold cA;rw [iR,h]
 kernel_rfl
def rb {cl:D} {th:aa->Res D} {s s':aa} {m:Option Int} (h:th s=some (.error ⟨"NoNumber",m⟩,s')):cA cl th [cl] s=ok (.tup [.str "refused",.int 7]) s':=by
 unfold cA;rw [iR,h]
 kernel_rfl
def ml {cl:D} {th:aa->Res D} {s s':aa} {m:Option Int} (h:th s=some (.error ⟨"NoCount",m⟩,s')):cA cl th [cl] s=ok (.tup [.str "refused",.int 12]) s':=by
 unfold cA;rw [iR,h]
 kernel_rfl
def yI {cl:D} {th:aa->Res D} {s s':aa} (h:th s=some (.error ⟨"TooMany",none⟩,s')):cA cl th [cl] s=none:=by
 unfold cA;rw [iR,h]
 kernel_rfl
def my (cl:D) (th:aa->Res D) (s:aa):cA cl th [cl] s=cA .aq th [.aq] s:=by
 cases h:th s with
 |none=>unfold cA;rw [iR,iR,h];rfl
 |some q =>
  obtain ⟨q,Y⟩:=q
  cases q with
  |ok d=>rw [sJ h,sJ h]
  |error x =>
   obtain ⟨c,m⟩:=x;by_cases Z:decide (c∈aX)=true
   ·rw [Ô] at Z
    have e1:c="TooMany"\/c="NoNumber"\/c="NoCount":=by simpa [aX] using Z
    rcases e1 with rfl|rfl|rfl
    ·cases m with
     |none=>rw [yI h,yI h]
     |some i=>rw [rM h,rM h]
    ·rw [rb h,rb h]
    ·rw [ml h,ml h]
   ·unfold cA
    rw [iR,iR,h];unfold zv ju;dsimp only;rw [î Z,î Z]
end DI
namespace DI.aJ
open PySem L2 DI
noncomputable def top (i:Nat):μ:=PySem.Challenge.pw_twinmoulds_k45_sheets_counted.main.body.getD i (.Pass ⟨0,0,0,0⟩)
noncomputable abbrev nN:List Str:=[MO,"_law_k"]
noncomputable abbrev Ao:List Str:=[MP,MQ]
noncomputable abbrev Ap:List Str:=[MP]
noncomputable abbrev uC:List Str:=["many"]
noncomputable abbrev jA:List Str:=["thing"]
noncomputable abbrev uD:List Str:=["thing","many"]
noncomputable abbrev nO:List Str:=["count"]
noncomputable abbrev uE:List Str:=["counts"]
noncomputable abbrev Aq:List Str:=["_law_e"]
noncomputable abbrev uF:List Str:=["sheets"]
noncomputable abbrev zw:List Str:=["_law_call"]
noncomputable abbrev Ig:List Str:=[MT,MR]
noncomputable abbrev zx:List Str:=[MQ]
noncomputable abbrev tL:List Str:=[MV]
noncomputable abbrev zy:List Str:=[MO]
structure dh (K:ð) (mg:Str->Option Ã):Prop where
 Bt:mg "ValueError"=none
 GN:mg "all"=none
 sg:mg "bool"=none
 GO:mg "int"=none
 bH:mg "isinstance"=none
 kW:mg "len"=none
 pv:mg "list"=none
 GP:mg "max"=none
 GQ:mg "min"=none
 oX:mg "range"=none
 xO:mg "repr"=none
 yJ:mg "sum"=none
 oY:mg "tuple"=none
 GR:mg "zip"=none
 Ce:cQ K mg aX "NoMarks"
 Cf:cQ K mg aX "NoSheet"
 CY:cQ K mg aX "NoPage"
 CZ:cQ K mg aX "NoBook"
 Cg:cQ K mg aX "NoMould"
 D1:cQ K mg aX "NoDay"
 C0:cQ K mg aX "NoSort"
 BM:cQ K mg aX "NoNumber"
 BN:cQ K mg aX "NoSheets"
 D2:cQ K mg aX "NoRun"
 BO:cQ K mg aX "NoLaying"
 C3:cQ K mg aX "NoHeap"
 Ci:cQ K mg aX "NoCount"
 D3:cQ K mg aX "Clash"
 C4:cQ K mg aX "NoDeed"
 C5:cQ K mg aX "NoText"
 D4:cQ K mg aX "NoRow"
 Cj:cQ K mg aX "TooMany"
 Ck:cQ K mg aX "Lacking"
 Bu:kM K aX (.type "ValueError") anyS
 Cm:vD K mg "TooMany"
 mn:vC K qP
 BP:ql K mg "NoNumber"
 v8:ql K mg "NoCount"
 Bv:Bc K mg aX "MouldError"
 kJ:∃t,mg "QUIRE"=some (.int (24) t)
 oP:∃t,mg "QUIRES"=some (.int (20) t)
 pw:∃t,mg "REAM"=some (.int (480) t)
 rN:∃t,mg "REAMS"=some (.int (1000) t)
 pz:∃t,mg "MOST"=some (.int (479999) t)
 rn:∃t,mg "COUNTS"=some (.int (20) t)
 BQ:GG K mg "_law_cell_at" (top 39) nN
 C6:GG K mg "_law_state" (top 40) nN
 eO:GG K mg "_law_take" (top 41) Ao
 wy:GG K mg "_law_count" (top 45) Ap
 vS:GG K mg "count_of" (top 37) uC
 BF:GG K mg "is_number" (top 22) jA
 oG:GG K mg "is_below" (top 23) uD
 vU:GG K mg "is_count" (top 34) jA
 Bw:GG K mg "are_counts" (top 35) jA
 vP:GG K mg "sheets_of" (top 36) nO
 oQ:GG K mg "summed" (top 33) uE
 BR:GG K mg "_law_classes" (top 42) Aq
 oJ:GG K mg "counted" (top 31) uF
 oC:GG K mg "sheets_in" (top 32) nO
 mF:GG K mg "_law_met" (top 43) zw
 D5:GG K mg "_law_same" (top 44) Ig
 qX:GG K mg "_law_counted" (top 47) zx
 v9:GG K mg "_law_sheets" (top 46) tL
section
variable {P:Ò} {w:é} {K:ð} {mg:Str->Option Ã} {base:ā}
def BS (F:dh K mg):gv P w K mg base "_law_cell_at" (top 39) nN 1 kG:=fun {_ _} G =>
 gI G nN (by kernel_rfl) fun Y _ _ _ _ _ _ Z=>(aY (cw (cZ (Ae Z) (ai 1) (cy lg rfl F.kW lp (aV (ai 0))) (cj _)) (aT (br (cW (ai 0) (ai 1)))) cq) (aT (br ar)))
def C7 (F:dh K mg):gv P w K mg base "_law_state" (top 40) nN 2 mv:=fun {_ _} G =>
 gI G [MO,"_law_k","_law_cell"] (by kernel_rfl) fun Z _ _ _ _ _ _ Y=>(aY (cU 2 Z (bD F.BQ (BS F) Y (aP (ai 0) (ai 1)))) (aY (cw (cZ Aa (ai 2) (aQ tw ar ar) (cj _)) (aT (br (yY (aP (aQ m7 (ai 2) (aQ tw ar ar)) dB)))) cq) (aT (br (yY (aP (aQ iW (ai 2) ar) dB))))))
def eQ (F:dh K mg):gv P w K mg base "_law_take" (top 41) Ao 1 cX:=fun {_ _} G =>
 gI G [MP,MQ,"_law_found","_law_mixed"] (by kernel_rfl) fun Z _ _ _ _ _ _ Y=>(aY (cw (fW (cW (ai 0) ar)) (aY (cU 2 Z (aQ iW (cW (ai 0) ar) (ai 1))) (aY (zc (aQ j8 (cW (ai 0) ar) (ai 1)) (ai 0) ar) (aT (br (ai 2))))) cq) (aY (zc (aQ iW (aQ ei (aQ fu (cW (ai 0) ar) ar) ar) ar) (ai 0) ar) (aY (cU 3 Z (aQ iW (aQ ei (aQ ei (aQ fu (cW (ai 0) ar) (cW (ai 0) ar)) (aQ fu ar (cW (ai 0) ar))) ar) ar)) (aY (cU 3 Z (aQ iW (aQ ei (aQ fu (ai 3) (ai 3)) (aQ fu ar (ai 3))) ar)) (aT (br (aQ iW (aQ j8 (ai 3) ar) (ai 1))))))))
def wz (F:dh K mg):gv P w K mg base "_law_count" (top 45) Ap 2 kI:=fun {_ _} G =>
 gI G [MP,"_law_reams"] (by kernel_rfl) fun Y _ _ _ _ _ _ Z=>(aY (cU 1 Y (cW (eh (ee (bD F.eO (eQ F) Z (aP (ai 0) ar)) ar (bD F.eO (eQ F) Z (aP (ai 0) ar)))) (bD F.eO (eQ F) Z (aP (ai 0) ar)))) (aT (br (cm (ee (ai 1) (cW (eh (aP (bD F.eO (eQ F) Z (aP (ai 0) ar)) ar)) (bD F.eO (eQ F) Z (aP (ai 0) ar))) (cW (eh (ee (bD F.eO (eQ F) Z (aP (ai 0) ar)) ar ar)) (bD F.eO (eQ F) Z (aP (ai 0) ar))))))))
def vV (F:dh K mg):md P w K mg base "count_of" (top 37) uC 1 gw:=fun {_ _} G =>
 pG G uC (by kernel_rfl) fun Y _ _ _ _ _ _ Z L=>(aY (cw (cZ z9 (ai 0) (gb F.pz rfl) (cj _)) (aT (DZ L Z F.Cm (ai 0))) cq) (aT (br (cm (ee (aQ j8 (ai 0) (gb F.pw rfl)) (aQ iW (aQ j8 (ai 0) (gb F.kJ rfl)) (gb F.oP rfl)) (aQ iW (ai 0) (gb F.kJ rfl)))))))
def BG (F:dh K mg):gv P w K mg base "is_number" (top 22) jA 1 qW:=fun {_ _} G =>
 gI G jA (by kernel_rfl) fun Z _ _ _ _ _ _ Y=>(aT (br (jq (cy iq rfl F.bH fm (aP (ai 0) (iz HB rfl F.GO))) (jq (Hz (cy iq rfl F.bH fm (aP (ai 0) (iz sv rfl F.sg)))) (mY (k8 Aa (ai 0) ar (cj _)))))))
def oH (F:dh K mg):gv P w K mg base "is_below" (top 23) uD 2 jR:=fun {_ _} G =>
 gI G uD (by kernel_rfl) fun Y _ _ _ _ _ _ Z=>(aT (br (jq (bD F.BF (BG F) Z (aV (ai 0))) (mY (k8 (Ae Z) (ai 0) (ai 1) (cj _))))))
def vW (F:dh K mg):gv P w K mg base "is_count" (top 34) jA 3 mj:=fun {_ _} G =>
 gI G ["thing","reams","quires","sheets"] (by kernel_rfl) fun Y _ _ _ _ _ _ Z=>(aY (cw (PW.pt (w_or (jo (fW (cy iq rfl F.bH fm (aP (ai 0) (iz pf rfl F.oY))))) (k9 (cZ (f9 Z) (cy lg rfl F.kW lp (aV (ai 0))) ar (cj _))))) (aT (br dB)) cq) (aY (y7 (ai 0) (y6 rfl (kL (fR 1 Y) (kL (fR 2 Y) (kL (fR 3 Y) yb))))) (aT (br (jq (bD F.oG (oH F) Z (aP (ai 1) (gb F.rN rfl))) (jq (bD F.oG (oH F) Z (aP (ai 2) (gb F.oP rfl))) (mY (bD F.oG (oH F) Z (aP (ai 3) (gb F.kJ rfl))))))))))
def Bx (F:dh K mg):gv P w K mg base "are_counts" (top 35) jA 4 mf:=fun {_ _} G =>
 gI G jA (by kernel_rfl) fun Y _ _ _ _ _ _ Z=>(aT (br (jq (cy iq rfl F.bH fm (aP (ai 0) (iz pF rfl F.pv))) (jq (k8 Jh (cy lg rfl F.kW lp (aV (ai 0))) (gb F.rn rfl) (cj _)) (mY (cy (HA rfl) rfl F.GN HC (aV (nK ["count"] (j6 (ai 0)) (fun _ _ _ _ _ _=>⟨lb,(bD F.vU (vW F) Z (aV (ai 0)))⟩)))))))))
def vQ (F:dh K mg):gv P w K mg base "sheets_of" (top 36) nO 1 jg:=fun {_ _} G =>
 gI G ["count","reams","quires","sheets"] (by kernel_rfl) fun Z _ _ _ _ _ _ Y=>(aY (y7 (ai 0) (y6 rfl (kL (fR 1 Z) (kL (fR 2 Z) (kL (fR 3 Z) yb))))) (aT (br (aQ ei (aQ ei (aQ fu (ai 1) (gb F.pw rfl)) (aQ fu (ai 2) (gb F.kJ rfl))) (ai 3)))))
def oR (F:dh K mg):md P w K mg base "summed" (top 33) uE 5 dW:=fun {_ _} G =>
 pG G uE (by kernel_rfl) fun Y _ _ _ _ _ _ Z L=>(aY (cw (jo (fW (bD F.Bw (Bx F) Z (aV (ai 0))))) (aT (sd L F.v8 (aV dP))) cq) (aT (br (j9 F.vS (vV F) (jZ L) Z (aV (cy (zq rfl) rfl F.yJ zk (aV (nK ["count"] (j6 (ai 0)) (fun _ _ _ _ _ _=>⟨lb,(bD F.vP (vQ F) Z (aV (ai 0)))⟩)))))))))
def BU (F:dh K mg):Bd P w K mg base "_law_classes" (top 42) Aq 1 v7:=fun {_ _} G =>
 H0 G ["_law_e","_law_found"] (by kernel_rfl) fun Z _ _ _ _ _ _ Y=>(aY (cU 1 Z (eh (bU (cY F.Ce (ai 0) F.bH) (bU (cY F.Cf (ai 0) F.bH) (bU (cY F.CY (ai 0) F.bH) (bU (cY F.CZ (ai 0) F.bH) fV)))))) (aY (cU 1 Z (aQ ei (ai 1) (eh (bU (cY F.Cg (ai 0) F.bH) (bU (cY F.D1 (ai 0) F.bH) (bU (cY F.C0 (ai 0) F.bH) (bU (cY F.BM (ai 0) F.bH) fV))))))) (aY (cU 1 Z (aQ ei (ai 1) (eh (bU (cY F.BN (ai 0) F.bH) (bU (cY F.D2 (ai 0) F.bH) (bU (cY F.BO (ai 0) F.bH) (bU (cY F.C3 (ai 0) F.bH) fV))))))) (aY (cU 1 Z (aQ ei (ai 1) (eh (bU (cY F.Ci (ai 0) F.bH) (bU (cY F.D3 (ai 0) F.bH) (bU (cY F.C4 (ai 0) F.bH) (bU (cY F.C5 (ai 0) F.bH) fV))))))) (aT (br (aQ ei (ai 1) (eh (ee (cY F.D4 (ai 0) F.bH) (cY F.Cj (ai 0) F.bH) (cY F.Ck (ai 0) F.bH))))))))))
def oK (F:dh K mg):md P w K mg base "counted" (top 31) uF 3 iP:=fun {_ _} G =>
 pG G uF (by kernel_rfl) fun Y _ _ _ _ _ _ Z L=>(aY (cw (jo (fW (bD F.oG (oH F) Z (aP (ai 0) (aQ ei (gb F.pz rfl) ar))))) (aT (sd L F.BP (aV dP))) cq) (aT (br (j9 F.vS (vV F) (jZ L) Z (aV (ai 0))))))
def oE (F:dh K mg):md P w K mg base "sheets_in" (top 32) nO 4 iO:=fun {_ _} G =>
 pG G nO (by kernel_rfl) fun Y _ _ _ _ _ _ Z L=>(aY (cw (jo (fW (bD F.vU (vW F) Z (aV (ai 0))))) (aT (sd L F.v8 (aV dP))) cq) (aT (br (bD F.vP (vQ F) Z (aV (ai 0))))))
def mG (F:dh K mg):A4 P w K mg "_law_met" (top 43) zw 7 6 cA:=fun {_ _ _ _ _ _} T {_ _} G =>
 HV G ["_law_call","_law_e","_law_some"] (by kernel_rfl) fun Z _ _ _ _ _ _ X Y=>(aT (GK T X (Y.mono (by decide)) F.Bv (fun _=>(aY (cU 2 Z (H9 F.BR (BU F) (Y.h.held _) (aV (ai 1)))) (aY (cw (PW.pt (w_or (jo (fW (GI F.Bu (ai 1) F.bH F.Bt))) (k9 (cZ Ia (GF (ai 2)) ar (cj _))))) (aT (br (cm (aP dP pU)))) cq) (aY (cw (fW (cW (ai 2) ar)) (aT (br (cm (aP dP (yr F.mn (ai 1)))))) cq) (aY (cw (fW (cW (ai 2) ar)) (aT (br (cm (aP dP (yr F.mn (ai 1)))))) cq) (aT (br (cm (aP dP (HX (ai 2))))))))))) Z))
def wW:iQ [MT,MR] [MT,MR] (bI (top 44)):=⟨rfl,rfl,rfl,by decide +kernel,rfl,by decide +kernel,by decide +kernel⟩
theorem oZ (F:dh K mg) {f:Í} {fd:ô} (G:Gd K mg "_law_same" (top 44) [MT,MR] f fd):∀n,bP P w K mg base bV (1+n) f fd [MT,MR] (fI K (dO n))
 |0=>HF fun _ _=>rfl
 |n+1=>by
  have Y:(["_law_one","_law_other"]:List Str).Nodup:=by decide +kernel
  have X:=wW.nd;have ih:=oZ F G n;exact y9 G.fn wW fun W A outer s H E Z=>(aY (cw (fW (ET (ai 1) rfl F.bH fm (o8 rfl F.oY pf rfl) (o8 rfl F.pv pF rfl))) (aY (cw (PW.pt (w_or (cZ (f9 Z) (cy iq rfl F.bH fm (aP (ai 0) (iz pF rfl F.pv))) (cy iq rfl F.bH fm (aP (ai 1) (iz pF rfl F.pv))) (cj _)) (k9 (cZ (f9 Z) (cy iq rfl F.bH fm (aP (ai 0) (iz pf rfl F.oY))) (cy iq rfl F.bH fm (aP (ai 1) (iz pf rfl F.oY))) (cj _))))) (aT (br dB)) cq) (aY (cw (cZ (f9 Z) (cy lg rfl F.kW lp (aV (ai 0))) (cy lg rfl F.kW lp (aV (ai 1))) (cj _)) (aT (br dB)) cq) (aT (br (k8 (EG Z) dB (DG (N:=["_law_one","_law_other"]) (nt:=2) (cap:=[]) rfl (zj (by kernel_rfl)) (F8 (wH 0 (wH 1 EC))) (Gs rfl F.GR (aP (ai 0) (ai 1))) (fun cl C s H ex V=>⟨(xU rfl (rA (o9 (i:=0) Y rfl (Or.inl rfl)) (rA (o9 (i:=1) Y rfl (Or.inl rfl)) xa))),lb,(mK ih Z rfl G.mg G.fn.kp G.b (aP (ai 0) (ai 1)))⟩)) rfl))))) cq) (aT (br (jq (k8 (qi Z) (cy iq rfl F.bH fm (aP (ai 0) (iz sv rfl F.sg))) (cy iq rfl F.bH fm (aP (ai 1) (iz sv rfl F.sg))) (cj _)) (mY (k8 (qi Z) (ai 0) (ai 1) (cj _)))))))
def qY (F:dh K mg):gv P w K mg base "_law_counted" (top 47) zx 1 jh:=fun {_ _} G =>
 gI G [MQ,"_law_reams","_law_left"] (by kernel_rfl) fun Z _ _ _ _ _ _ Y=>(aY (cU 1 Z (aQ j8 (ai 0) ar)) (aY (cU 2 Z (aQ m7 (ai 0) (aQ fu (ai 1) ar))) (aT (br (cm (ee (ai 1) (aQ j8 (ai 2) ar) (aQ m7 (ai 2) (aQ fu (aQ j8 (ai 2) ar) ar))))))))
def wa (F:dh K mg):gv P w K mg base "_law_sheets" (top 46) tL 1 jS:=fun {_ _} G =>
 gI G tL (by kernel_rfl) fun Z _ _ _ _ _ _ Y=>(aT (br (aQ ei (aQ ei (aQ fu (cW (ai 0) ar) ar) (aQ fu (cW (ai 0) ar) ar)) (cW (ai 0) ar))))
def GS (F:dh K mg) {c T:Í} (ht:ψ K "law"=some (c,T)) (hC:PySem.W.codeHdIn K c T=true) (hB:base.BuiltinsAt mg T) {f:Í} {fd:ô} (G:Gd K mg "law" (top 48) zy f fd) (hx:Ü K È "law"=some (some (.ref f))):bP P w K mg base bV 10 f fd zy (fI K p0):=by
 obtain ⟨_,_,X⟩:=F.D5;exact HY G hx ht [MO,"_law_k",MP,"_law_turn",MQ,MV,"_law_some","_law_kept","_law_sheets_here",MR,"_law_lap",MU,"_law_odd"] (by kernel_rfl) fun Y _ _ _ _ _ Z=>(aY (la ķ rfl (pD rfl F.oX (aV (cy (Gb rfl) rfl F.GP HD (aP ar (cy (Ge rfl) rfl F.GQ HE (aP (cy lg rfl F.kW lp (aV (ai 0))) ar)))))) (fR 1 Y) (aY (cU 2 Y (bD F.C6 (C7 F) Z (aP (ai 0) (ai 1)))) (aY (la ķ rfl (pD rfl F.oX (aV ar)) (fR 3 Y) (aY (cU 4 Y (cW (eh (bU (bD F.eO (eQ F) Z (aP (ai 2) ar)) (bU (bD F.eO (eQ F) Z (aP (ai 2) ar)) (bU ar (bU ar fV))))) (bD F.eO (eQ F) Z (aP (ai 2) ar)))) (aY (cU 5 Y (bD F.wy (wz F) Z (aV (ai 2)))) (aY (cw (PW.pt (w_or (jo (fW (mK (oZ F X 8) (Z.mono (by decide)) rfl X.mg X.fn.kp X.b (aP (ka F.oJ (oK F) Z (aV (ai 4))) (bD F.qX (qY F) Z (aV (ai 4))))))) (k9 (jo (fW (mK (oZ F X 8) (Z.mono (by decide)) rfl X.mg X.fn.kp X.b (aP (ka F.oC (oE F) Z (aV (ai 5))) (bD F.v9 (wa F) Z (aV (ai 5)))))))))) (aT (br dB)) cq) (aY (cw (PW.pt (w_or (cZ (f9 Z) (ka F.oJ (oK F) Z (aV (ka F.oC (oE F) Z (aV (ai 5))))) (ai 5) (cj _)) (k9 (cZ (f9 Z) (ka F.oC (oE F) Z (aV (ka F.oJ (oK F) Z (aV (ai 4))))) (ai 4) (cj _))))) (aT (br dB)) cq) (aY (cU 6 Y (nK ["_law_lap",MP] (pD rfl F.oX (aV (bD F.eO (eQ F) Z (aP (ai 2) ar)))) (fun _ _ _ _ _ _=>⟨lb,(bD F.wy (wz F) Z (aV (ai 1)))⟩))) (aY (cw (cZ (qi Z) (bD F.eO (eQ F) Z (aP (ai 2) ar)) ar (cj _)) (aT (cU 6 Y (nK ["_law_one"] (j6 (ai 6)) (fun _ _ _ _ _ _=>⟨lb,(cm (ee (aQ iW (cW (ai 0) ar) ar) (cW (ai 0) ar) (cW (ai 0) ar)))⟩)))) cq) (aY (cw (cZ (qi Z) (bD F.eO (eQ F) Z (aP (ai 2) ar)) ar (cj _)) (aT (cU 6 Y (eh (ee (cm (ee ar ar ar)) (bD F.qX (qY F) Z (aV (aQ ei (aQ m7 (aQ m7 ar (aQ fu ar ar)) ar) (bD F.eO (eQ F) Z (aP (ai 2) ar))))) (cm (ee ar ar ar)))))) cq) (aY (Gh 7 8 rfl Y (aP (cy (yf Z) rfl F.xO yg (aV (ai 6))) (cy (zq rfl) rfl F.yJ zk (aV (nK ["_law_one"] (j6 (ai 6)) (fun _ _ _ _ _ _=>⟨lb,(bD F.v9 (wa F) Z (aV (ai 0)))⟩)))))) (aY (cU 9 Y (Jf (cZ z9 (ai 8) ar (cj _)) (cm (aP dP (ai 8))) (cm (aP dP (bD F.qX (qY F) Z (aV (ai 8))))))) (aT (la ķ rfl (pD rfl F.oX (aV ar)) (fR 10 Y) (aT (cw (PW.pt (w_or (jo (fW (mK (oZ F X 8) (Z.mono (by decide)) rfl X.mg X.fn.kp X.b (aP (ni ["_law_some"] rfl rfl ht hC hB F.mF (mG F) my Z (fun _ _ _ _ _ _ _ _ _ _ Z L=>(j9 F.oQ (oR F) (jZ L) Z (aV (ai 0))))) (ai 9))))) (k9 (cZ (f9 Z) (cy (yf Z) rfl F.xO yg (aV (ai 6))) (ai 7) (cj _))))) (aT (br dB)) cq)))))))))))))) (@aY _ _ _ _ _ _ (@la _ _ _ _ _ _ _ _ _ ķ rfl (@j6 _ _ _ _ _ (@ym _ _ _ _ _ _ _ _ _ _ _ _ _ _ _ _ _ (zV zb ar) ar dB pU dP (cm (ee ar ar ar)) (@aQ _ _ _ _ _ _ _ _ _ tw ar ar) rfl rfl rfl rfl rfl rfl rfl)) (fR 11 Y) (aT (cw (cZ (f9 Z) (ni [MU] rfl rfl ht hC hB F.mF (mG F) my Z (fun _ _ _ _ _ _ _ _ _ _ Z L=>(j9 F.oJ (oK F) (jZ L) Z (aV (ai 0))))) (cm (aP dP ar)) (cj _)) (aT (br dB)) cq)) (fun _=>rfl)) (@aY _ _ _ _ _ _ (@cU _ _ _ _ _ 12 _ _ Y (@pZ _ _ 3 _ _ rfl) rfl (Or.inl rfl) rfl (Or.inl rfl)) (aY (la ķ rfl (j6 (aQ ei (ai 12) (@pZ _ _ 3 _ _ rfl))) (fR 11 Y) (aY (cw (cZ (f9 Z) (ni [MU] rfl rfl ht hC hB F.mF (mG F) my Z (fun _ _ _ _ _ _ _ _ _ _ Z L=>(j9 F.oC (oE F) (jZ L) Z (aV (ai 0))))) (cm (aP dP ar)) (cj _)) (aT (br dB)) cq) (aT (cw (cZ (f9 Z) (ni [MU] rfl rfl ht hC hB F.mF (mG F) my Z (fun _ _ _ _ _ _ _ _ _ _ Z L=>(j9 F.oQ (oR F) (jZ L) Z (aV (eh (aP (cm (ee ar ar ar)) (ai 0))))))) (cm (aP dP ar)) (cj _)) (aT (br dB)) cq)))) (@aY _ _ _ _ _ _ (@la _ _ _ _ _ _ _ _ _ ķ rfl (@j6 _ _ _ _ _ (@ym _ _ _ _ _ _ _ _ _ _ _ _ _ _ _ _ _ (cm (aV (cm (ee ar ar ar)))) pU Gu dP (@aQ _ _ _ _ _ _ _ _ _ fu (eh (aV (cm (ee ar ar ar)))) ar) (cm fV) ar rfl rfl rfl rfl rfl rfl rfl)) (fR 11 Y) (aT (cw (cZ (f9 Z) (ni [MU] rfl rfl ht hC hB F.mF (mG F) my Z (fun _ _ _ _ _ _ _ _ _ _ Z L=>(j9 F.oQ (oR F) (jZ L) Z (aV (ai 0))))) (cm (aP dP ar)) (cj _)) (aT (br dB)) cq)) (fun _=>rfl)) (aT (cw (cZ (f9 Z) (ka F.oQ (oR F) Z (aV (eh fV))) (cm (ee ar ar ar)) (cj _)) (aT (br dB)) cq))))))))) (aT (br dB)))
end
end DI.aJ
namespace DI
open PySem L2
def kl (s:aa) (k:Nat):Prop:=∃a b:Int,s[k]?=some (.lst [.int a,.int b])/\0<=a/\0<=b/\b<2147483647
structure Ex (k:Nat) (s s':aa):Prop where
 len:s.length<=s'.length
 val:∀j,j<s.length->j≠k->s'[j]?=s[j]?
def Ex.refl (k:Nat) (s:aa):Ex k s s:=⟨MK _,fun _ _ _=>rfl⟩
theorem Ex.trans (h:Ex k a b) (g:Ex k b c):Ex k a c:=⟨ß h.len g.len,fun j Z Y=>(g.val j (Å Z h.len) Y).trans (h.val j Z Y)⟩
theorem Ex.set (k:Nat) (s:aa) (c:Cell):Ex k s (s.set k c):=⟨by simp,fun j _ Z=>Þ (χ Z)⟩
def kl.lt (h:kl s k):k<s.length:=by
 obtain ⟨a,b,e,_⟩:=h;exact (É.mp e).1
theorem kl.set (h:kl s k) (hj:j≠k) (c:Cell):kl (s.set j c) k:=by
 obtain ⟨a,b,e,r⟩:=h;exact ⟨a,b,by rw [Þ hj];exact e,r⟩
def qQ (x y:D) (k:Nat) (s:aa) (h:s[k]?=some (.lst [x,y])):ba (.aN k) (.int 0) s=ok x s:=by
 simp [ba,oj,res,h,dg,eD,bR]
def vE (x y:D) (k:Nat) (s:aa) (h:s[k]?=some (.lst [x,y])):ba (.aN k) (.int 1) s=ok y s:=by
 simp [ba,oj,res,h,dg,eD,bR]
def uG (x y z:D) (k:Nat) (s:aa) (h:s[k]?=some (.lst [x,y])):gM (.aN k) (.int 0) z s=some (s.set k (.lst [z,y])):=by
 simp [gM,h,eD]
def JE (x y z:D) (k:Nat) (s:aa) (h:s[k]?=some (.lst [x,y])):gM (.aN k) (.int 1) z s=some (s.set k (.lst [x,z])):=by
 simp [gM,h,eD]
@[simp] theorem pO {a:D} {r:Env} {s:aa}:af 0 (some a::r) s=ok a s:=rfl
@[simp] theorem pP {i:Nat} {a:Option D} {r:Env} {s:aa}:af (i+1) (a::r) s=af i r s:=rfl
def ltI (i j:Int) (s:aa):lG (.int i) (.int j) s=ok (.bl (decide (i<j))) s:=rfl
def LC (i j:Int) (s:aa):i3 (.int i) (.int j) s=ok (.bl (decide (j<i))) s:=rfl
def LD (i j:Int) (s:aa):nF (.int i) (.int j) s=ok (.bl (decide (j<=i))) s:=rfl
def LG (i j:Int) (s:aa):qj (.int i) (.int j) s=ok (.bl (decide (i<=j))) s:=rfl
def uH (i j:Int) (s:aa):cJ (.int i) (.int j) s=ok (.int (i+j)) s:=rfl
def JF (i j:Int) (s:aa):gH (.int i) (.int j) s=ok (.int (i-j)) s:=rfl
def LH (i j:Int) (s:aa):fg (.int i) (.int j) s=ok (.bl (i==j)) s:=rfl
def LI (i j:Int) (s:aa):bW (.int i) (.int j) s=ok (.bl (!(i==j))) s:=rfl
def jB {i j:Int} (s:aa) (h:0<j):c8 (.int i) (.int j) s=ok (.int (i % j)) s:=by
 simp [c8,uh,h,bR]
def lL (s:aa) (h:0<j) (h2:j<1073741824):fY (.int i) (.int j) s=ok (.int (i / j)) s:=by
 simp [fY,uk,h,h2,bR]
def lM (s:aa) (h:m6 i j=true):bS (.int i) (.int j) s=ok (.int (i*j)) s:=by
 simp [bS,ug,h,bR]
def mulOk_of (h1:-(2 ^ 64)<i) (h2:i<2 ^ 64):m6 i j=true:=by
 unfold m6;rw [Ú h1,Ú h2];rfl
def le_size (h:n<=1000000):n<=Ï:=ß h (by decide)
def D6 (h1:-1000000<=j) (h2:j<=1000000):mZ j=true:=by
 unfold mZ;rw [Ú (show -(2 ^ 62)<=j by omega),Ú (show j<2 ^ 62 by omega)];rfl
def GU {α:Type} {xs:List α} {i:Int} (h0:0<=i) (h1:i<xs.length):∃x,dg xs i=some x/\xs[i.toNat]?=some x:=by
 have Z:i.toNat<xs.length:=by omega
 refine ⟨xs[i.toNat],?_,æ Z⟩;unfold dg eD;rw [ë h0,ë h1];exact æ Z
def EX {ns:List Int} {i:Int} {s:aa} (h0:0<=i):∃c:Int,kG [.bb ns,.int i] s=ok (.int c) s:=by
 by_cases h:i<(ns.length:Int)
 ·obtain ⟨x,Z,_⟩:=GU h0 h
  refine ⟨x,?_⟩;have Y:ba (.bb ns) (.int i) s=ok (.int x) s:=by simp [ba,oj,res,Z,bR]
  simp only [kG,aZ,aD,bt,bJ,e2,eB,ae,ag,dD,qk,res,bR,pO,pP,eC,iT,ñ,ŭ,đ,Ę,þ,Ě,ĭ,ltI,et,Ú h,aR,Y,Ê]
 ·refine ⟨0,?_⟩
  simp only [kG,aZ,aD,bt,bJ,e2,eB,ae,ag,dD,qk,res,bR,pO,pP,eC,iT,ñ,ŭ,đ,Ę,þ,Ě,ĭ,ltI,et,í h,Ë,ü,bC,aR,Ê]
structure ic (m:Nat) (ns:List Int):Prop where
 lo:∀x∈ns,0<=x/\x<m
 up:ns.Pairwise (· < ·)
noncomputable abbrev mD (ns:List Int):D:=.tup (ns.map D.int)
def ic.len (h:ic m ns):ns.length<=m:=by
 have key:∀(l:List Int) (b:Int),l.Pairwise (· < ·)->(∀x∈l,b<=x/\x<m)->(l.length:Int)<=m-b\/l=[]:=by
  intro l
  induction l with
  |nil=>intro b _ _;exact .inr rfl
  |cons x l ih =>
   intro b X Z;obtain ⟨W,V⟩:=List.pairwise_cons.mp X;have U:=Z x Ý;left
   rcases ih (x+1) V (fun y Y=>⟨by have:=W y Y;omega,(Z y (Ð _ Y)).2⟩) with h|h
   ·rw [þ];omega
   ·subst h
    simp;omega
 rcases key ns 0 h.up h.lo with h'|h'
 ·omega
 ·subst h';simp
def pQ (h:fa env s=ok [.int n] s1) (hn:n<=1000000):iH fa env s=ok (dF 0 n) s1:=by
 unfold iH;rw [h,iT]
 show (if mZ (n:Int)=true then ok (dF 0 (n:Int).toNat) s1 else none)=_
 rw [ë (D6 (by omega) (by omega)),Int.toNat_natCast]
def EY {n:Nat} {i:Int} (h:fa env s=ok [.int i] s1) (hi:i=n) (hn:n<=1000000):iH fa env s=ok (dF 0 n) s1:=by
 subst hi;exact pQ h hn
def yK:Wp (lG (.int i) (.int j) s) Q=Q (.bl (decide (i<j))) s:=by rw [ltI,bj]
def yL:Wp (i3 (.int i) (.int j) s) Q=Q (.bl (decide (j<i))) s:=by rw [LC,bj]
def yM:Wp (nF (.int i) (.int j) s) Q=Q (.bl (decide (j<=i))) s:=by rw [LD,bj]
def yN:Wp (qj (.int i) (.int j) s) Q=Q (.bl (decide (i<=j))) s:=by rw [LG,bj]
def xP:Wp (cJ (.int i) (.int j) s) Q=Q (.int (i+j)) s:=by rw [uH,bj]
def xQ:Wp (gH (.int i) (.int j) s) Q=Q (.int (i-j)) s:=by rw [JF,bj]
def pR:Wp (fg (.int i) (.int j) s) Q=Q (.bl (i==j)) s:=by rw [LH,bj]
def sL:Wp (bW (.int i) (.int j) s) Q=Q (.bl (!(i==j))) s:=by rw [LI,bj]
end DI
local macro_rules | `(tactic| simp only [VC])=>`(tactic| simp only [DI.bj,DI.yv,DI.tJ,DI.dX,DI.dY,DI.fB,DI.zr,DI.fv,DI.cz,DI.cg,DI.nr,DI.wp_call,DI.jn,DI.mS,DI.yw,DI.yx,DI.gF,DI.fO,DI.pN,DI.mC,DI.xH,DI.mT,DI.pq,DI.xI,DI.yy,DI.xJ,DI.yz,DI.yA,DI.fP,DI.xK,DI.wR,DI.wU,DI.se,DI.cT,DI.yB,DI.yC,DI.fT,DI.ij,DI.iu,DI.zt,DI.xM,DI.wV,DI.sf,DI.yD,DI.jk,DI.xN,DI.yE,DI.tK,DI.yF,DI.yG,DI.mE,DI.zu,DI.yH,List.map_cons,List.map_nil,List.cons_append,List.nil_append,List.length_cons,List.length_nil,List.set_cons_succ,List.set_cons_zero,List.replicate,true_and,Nat.reduceSub,Nat.reduceAdd,DI.yK,DI.yL,DI.yM,DI.yN,DI.xP,DI.xQ,DI.pR,DI.sL])
local macro_rules | `(tactic| simp only [VC,$xs,*])=>`(tactic| simp only [DI.bj,DI.yv,DI.tJ,DI.dX,DI.dY,DI.fB,DI.zr,DI.fv,DI.cz,DI.cg,DI.nr,DI.wp_call,DI.jn,DI.mS,DI.yw,DI.yx,DI.gF,DI.fO,DI.pN,DI.mC,DI.xH,DI.mT,DI.pq,DI.xI,DI.yy,DI.xJ,DI.yz,DI.yA,DI.fP,DI.xK,DI.wR,DI.wU,DI.se,DI.cT,DI.yB,DI.yC,DI.fT,DI.ij,DI.iu,DI.zt,DI.xM,DI.wV,DI.sf,DI.yD,DI.jk,DI.xN,DI.yE,DI.tK,DI.yF,DI.yG,DI.mE,DI.zu,DI.yH,List.map_cons,List.map_nil,List.cons_append,List.nil_append,List.length_cons,List.length_nil,List.set_cons_succ,List.set_cons_zero,List.replicate,true_and,Nat.reduceSub,Nat.reduceAdd,DI.yK,DI.yL,DI.yM,DI.yN,DI.xP,DI.xQ,DI.pR,DI.sL,$xs,*])
namespace DI
open PySem L2
def MI {α:Type} {r:Res α} {d:α} {s:aa} (h:Wp r fun a s'=>a=d/\s'=s):r=DI.ok d s:=by
 obtain ⟨a,s',e,rfl,rfl⟩:=h;exact e
def jT (h:f env s=ok (.lst ds) s1):cV f env s=ok ds s1:=by
 unfold cV;rw [h];rfl
noncomputable def sub (a b:List Int):Bool:=a.all fun x=>decide (x∈b)
def EZ {α:Type} (p:α->Bool) (xs:List α) (s:aa):nG [.lst (xs.map fun x=>D.bl (p x))] s=ok (.bl (xs.all p)) s:=by
 have e:gr (xs.map fun x=>D.bl (p x))=some (xs.map p):=by
  have:=EF (bs:=xs.map p);rw [List.map_map] at this;exact this
 show bR ((gr (xs.map fun x=>D.bl (p x))).map fun (bs:List Bool)=>D.bl (bs.all id)) s=_;rw [e];show ok (D.bl ((xs.map p).all id)) s=_;rw [List.all_map];rfl
def comp_map {α:Type} (d:α->D) (p:α->Bool) (h:α->D) (xs:List α) (hh:∀x∈xs,∃env,g (d x) (Ê nt none++aE)=some env/\t env s=ok (p x) s/\(p x=true->f env s=ok (h x) s)) :
  eT nt aE g t f (xs.map d) s=ok ((xs.filter p).map h) s:=by
 induction xs with
 |nil=>rfl
 |cons n T ih =>
  obtain ⟨env,Y,X,W⟩:=hh n Ý;have ih:=ih fun V U=>hh V (Ð _ U);rw [ñ];unfold eT;rw [Y];simp only [X,tu,iT]
  cases Z:p n with
  |true=>simp only [ĭ,W Z,tu,iT,ih,List.filter_cons,Z,ñ]
  |false=>simp only [Ë,ü,ih,List.filter_cons,Z]
def C8:qW [.int i] s=ok (.bl (decide (0<=i))) s:=by
 rfl
def wX:jR [.int i,.int m] s=ok (.bl (decide (0<=i)&&decide (i<m))) s:=by
 refine MI ?_;unfold jR;simp only [VC,C8];by_cases h:0<=i
 ·simp [h]
 ·simp [h]
noncomputable def rise:List Int->Bool
 | []=>true
 | [_]=>true
 |a::b::r=>decide (a<b)&&rise (b::r)
structure Md (rs:List (List Int)):Prop where
 lo:1<=rs.length
 hi:rs.length<=10
 qR:∀r∈rs,ic 8 r
def GV (rs:List (List Int)) (laid:List Int) (m:Int):Bool:=((ĸ laid.length).filter fun i=>laid.getD i 0==m).all fun i=>sub (rs.getD i []) (rs.getD laid.length [])
def step (rs:List (List Int)) (told:List (List Int)):List (List Int):=told.flatMap fun laid=>([0,1].filter fun m=>GV rs laid m).map fun m=>laid++[m]
noncomputable def brk (l:List Int):List Int:=((ĸ (l.length-1)).filter fun i=>l.getD (i+1) 0==l.getD i 0).map fun i:Nat=>1+(i:Int)
def Ex.get (h:Ex k s s') (e:s[j]?=some c) (hj:j≠k):s'[j]?=some c:=by
 rw [h.val j (É.mp e).1 hj];exact e
theorem Ex.hi (h:Ex k s s') (hj:s.length<=j) (c:Cell):Ex k s (s'.set j c):=⟨by rw [ú];exact h.len,fun i hi Z=>by rw [Þ (by omega)];exact h.val i hi Z⟩
structure RI (s0:aa) (k rh mh:Nat) (rs:List (List Int)) (s:aa):Prop where
 st:kl s k
 ex:Ex k s0 s
 run:s[rh]?=some (.lst (rs.map mD))
 mo:∃a b,s[mh]?=some (.lst [mD a,mD b])/\ic 8 a/\ic 8 b
 qR:∀r∈rs,ic 8 r
 k1:k<s0.length
 r1:s0.length<=rh
 m1:s0.length<=mh
 ne:rh≠mh
def RI.draw (h:RI s0 k rh mh rs s) (g:kl s' k) (x:Ex k s s'):RI s0 k rh mh rs s':=by
 have:=h.k1;have:=h.r1;have:=h.m1;obtain ⟨a,b,e,Z,Y⟩:=h.mo;exact ⟨g,h.ex.trans x,x.get h.run (by omega),⟨a,b,x.get e (by omega),Z,Y⟩,h.qR,h.k1,h.r1,h.m1,h.ne⟩
def RI.push (h:RI s0 k rh mh rs s) (hr:ic 8 r):RI s0 k rh mh (rs++[r]) (s.set rh (.lst (rs.map mD++[mD r]))):=by
 have:=h.k1;have:=h.r1;have:=h.m1;have:=h.ne;obtain ⟨a,b,e,Z,Y⟩:=h.mo;refine ⟨h.st.set (by omega) _,h.ex.hi (by omega) _,?_,⟨a,b,by rw [Þ (by omega)];exact e,Z,Y⟩,fun x hx=>?_,h.k1,h.r1,h.m1,h.ne⟩
 ·rw [â (É.mp h.run).1,List.map_append]
  rfl
 ·rcases ė.mp hx with hx|hx
  ·exact h.qR x hx
  ·rw [List.mem_singleton.mp hx];exact hr
def RI.put (h:RI s0 k rh mh rs s) (h0:at_=0\/at_=1):(∃a,ba (.aN mh) (.int at_) s=ok (mD a) s/\ic 8 a)/\∀c,ic 8 c->∃s',gM (.aN mh) (.int at_) (mD c) s=some s'/\RI s0 k rh mh rs s':=by
 have:=h.k1;have:=h.r1;have:=h.m1;have:=h.ne;obtain ⟨a,b,e,Z,Y⟩:=h.mo;have key:∀a b,ic 8 a->ic 8 b->RI s0 k rh mh rs (s.set mh (.lst [mD a,mD b])):=fun a b Z Y=>⟨h.st.set (by omega) _,h.ex.hi (by omega) _,by rw [Þ (by omega)];exact h.run,⟨a,b,â (É.mp e).1,Z,Y⟩,h.qR,h.k1,h.r1,h.m1,h.ne⟩
 rcases h0 with rfl|rfl
 ·exact ⟨⟨a,qQ _ _ _ _ e,Z⟩,fun c X=>⟨_,uG _ _ _ _ _ e,key _ _ X Y⟩⟩
 ·exact ⟨⟨b,vE _ _ _ _ e,Y⟩,fun c X=>⟨_,JE _ _ _ _ _ e,key _ _ Z X⟩⟩
structure Ft (n W:Nat) (d:D):Prop where
 pl:plain d=true
 sh:(py d).showable=true
 nd:(py d).hasDict=false
 dp:(py d).depth<=n
 wt:(py d).weight<=W
 lv:(py d).leavesShort 40=true
def uI (d:D):Bool:=plain d&&(py d).showable&&!(py d).hasDict&&decide ((py d).depth<=0)&&decide ((py d).weight<=110)&&(py d).leavesShort 40
def Ih (h:uI d=true):Ft 0 110 d:=by
 unfold uI at h;simp only [Ä,Ô,ľ] at h;obtain ⟨⟨⟨⟨⟨Z,Y⟩,X⟩,W⟩,V⟩,U⟩:=h;exact ⟨Z,Y,X,W,V,U⟩
theorem sM:∀{ds:List D},(∀x∈ds,Ft n W x)->iV ds=true/\PyData.showableAll (bO ds)=true/\PyData.hasDictAll (bO ds)=false/\Ş (bO ds)<=n/\Ō (bO ds)<=ds.length*(W+1)/\PyData.leavesShortAll 40 (bO ds)=true
 | [],_=>⟨rfl,rfl,rfl,ĵ _,by simp [bO,Ō],rfl⟩
 |x::Z,h=>by
  obtain ⟨z,a,b,c,d,e⟩:=sM (ds:=Z) fun y Y=>h y (Ð _ Y);have k:=h x Ý;refine ⟨?_,?_,?_,?_,?_,?_⟩
  ·simp only [iV,k.pl,z,Ľ]
  ·simp only [bO,PyData.showableAll,k.sh,a,Ľ]
  ·simp only [bO,PyData.hasDictAll,k.nd,b,Bool.or_self]
  ·simp only [bO,Ş];have:=k.dp;omega
  ·simp only [bO,Ō,þ]
   have:=k.wt;rw [Nat.add_mul];omega
  ·simp only [bO,PyData.leavesShortAll,k.lv,e,Ľ]
def GW (hl:ds.length<=c) (h:∀x∈ds,Ft n W x):Ft (n+1) (c*(W+1)) (.tup ds):=by
 obtain ⟨z,a,b,X,Z,Y⟩:=sM h;have hw:Ō (bO ds)<=c*(W+1):=ß Z (Ų _ hl);exact ⟨by simp only [plain];exact z,by simp only [py,PyData.showable];exact a,by simp only [py,PyData.hasDict];exact b,by simp only [py,PyData.depth];omega,by simp only [py,PyData.weight];exact hw,by simp only [py,PyData.leavesShort];exact Y⟩
def GX (hl:ds.length<=c) (h:∀x∈ds,Ft n W x):Ft (n+1) (c*(W+1)) (.lst ds):=by
 obtain ⟨z,a,b,X,Z,Y⟩:=sM h;have hw:Ō (bO ds)<=c*(W+1):=ß Z (Ų _ hl);exact ⟨by simp only [plain];exact z,by simp only [py,PyData.showable];exact a,by simp only [py,PyData.hasDict];exact b,by simp only [py,PyData.depth];omega,by simp only [py,PyData.weight];exact hw,by simp only [py,PyData.leavesShort];exact Y⟩
def GY (h:Ft n W d) (hn:n<=100) (hw:W<=300000):m9 d=true:=by
 have l:=PyData.shown_le 40 (by decide) _ h.lv;have w:=h.wt;have p:=h.dp;have z:Ï=16777216:=š;have Z:(py d).shown.length<=Ï:=by rw [z];omega
 unfold m9;rw [h.pl,h.sh,h.nd,Ú (show (py d).depth<=100 by omega),Ú Z];rfl
def ne_str:bW (.str x) (.str x) s=ok (.bl false) s:=by
 show (match fX (.str x) (.str x) with|some b=>ok (D.bl (!b)) s|none=>none)=_
 have e:fX (.str x) (.str x)=some true:=by
  unfold fX;rw [ë (show (iI (.str x)&&iI (.str x))=true from rfl)];simp [beq]
 rw [e];rfl
def Sf (s:aa) (k:Nat):Prop:=∃(a:Int) (b:Bool),s[k]?=some (.lst [.int a,.bl b])/\0<=a/\(b=false->a<2147483647)
def Sf.lt {s:aa} {k:Nat} (h:Sf s k):k<s.length:=by
 obtain ⟨a,b,e,_⟩:=h;exact (É.mp e).1
def eU {s:aa} {k:Nat} {m:Int} (h:Sf s k) (h1:0<m) (h2:m<1073741824):Wp (aJ.cX [.aN k,.int m] s) fun d s'=>∃r:Int,d=.int r/\0<=r/\r<m/\Sf s' k/\Ex k s s':=by
 obtain ⟨a,b,e,V,Y⟩:=h;have X:=(É.mp e).1
 cases b with
 |true =>
  have Z:(s.set k (.lst [.int (a / m),.bl true]))[k]?=some (.lst [.int (a / m),.bl true]):=â X;refine ⟨.int (a % m),s.set k (.lst [.int (a / m),.bl true]),?_,a % m,rfl,ş _ (by omega),ı _ h1,⟨a / m,true,Z,Int.ediv_nonneg V (by omega),fun z=>by cases z⟩,Ex.set _ _ _⟩;simp only [aJ.cX,aZ,aD,bt,c9,truth,e2,pO,pP,eC,iT,ñ,ŭ,đ,Ę,qQ _ _ k s e,vE _ _ k s e,þ,Ě,ĭ,bz,gN,jB s h1,i4,lL s h1 h2,uG _ _ _ k s e,aR,ö,ø,Ê]
 |false =>
  have Y:=Y rfl;have ex:0<=(a*48271+29) % 2147483647/\(a*48271+29) % 2147483647<2147483647:=⟨ş _ (by decide),ı _ (by decide)⟩;generalize U:(a*48271+29) % 2147483647=x at ex;have Z:(s.set k (.lst [.int x,.bl false]))[k]?=some (.lst [.int x,.bl false]):=â X;generalize W:(x*x+39373*x+7) % 2147483629=y;have M:0<=y/\y<2147483629:=by rw [<- W];exact ⟨ş _ (by decide),ı _ (by decide)⟩
  generalize T:(y*y+16807*y) % 2147483587=z;refine ⟨.int (z / 8 % m),s.set k (.lst [.int x,.bl false]),?_,_,rfl,ş _ (by omega),ı _ h1,⟨x,false,Z,ex.1,fun _=>ex.2⟩,Ex.set _ _ _⟩;have S:bS (.int a) (.int 48271) s=ok (.int (a*48271)) s:=lM s (mulOk_of (by omega) (by omega));have R:∀s',bS (.int x) (.int x) s'=ok (.int (x*x)) s':=fun s'=>lM s' (mulOk_of (by omega) (by omega));have Q:∀s',bS (.int 39373) (.int x) s'=ok (.int (39373*x)) s':=fun s'=>lM s' (mulOk_of (by decide) (by decide));have P:∀s',bS (.int y) (.int y) s'=ok (.int (y*y)) s':=fun s'=>lM s' (mulOk_of (by omega) (by omega));have O:∀s',bS (.int 16807) (.int y) s'=ok (.int (16807*y)) s':=fun s'=>lM s' (mulOk_of (by decide) (by decide));have N:∀n:Int,ba (.aN k) (.int 0) (s.set k (.lst [.int x,.bl false]))=ok (.int x) (s.set k (.lst [.int x,.bl false])):=fun _=>qQ _ _ k _ Z;simp only [aJ.cX,aZ,aD,bt,c9,truth,e2,pO,pP,eC,iT,ñ,ŭ,đ,Ę,qQ _ _ k s e,vE _ _ k s e,þ,Ě,Ë,ü,ĭ,bC,bz,gN,i4,uG _ _ _ k s e,aR,ö,ø,Ê,S,R,Q,P,O,uH,jB _ (show (0:Int)<2147483647 by decide),jB _ (show (0:Int)<2147483629 by decide),jB _ (show (0:Int)<2147483587 by decide),lL _ (show (0:Int)<8 by decide) (by decide),jB _ h1,U,W,T,N 0]
def E1 {ns:List Int} {i:Int} {s:aa} (h0:0<=i):Wp (aJ.mv [.bb ns,.int i] s) fun d s'=>d=.aN s.length/\Sf s' s.length/\∃c,s'=s++[c]:=by
 obtain ⟨c,Y⟩:=EX (ns:=ns) (s:=s) h0;have Z:∀s,j7 (.int 10) (.int 18) s=ok (.int (10 ^ 18)) s:=fun s=>by
  have e:um (.int 10) (.int 18)=some (.int (10 ^ 18)):=by
   show (if (decide ((0:Int)<=18)&&decide ((18:Int)<=1000000)&&decide ((10:Int).natAbs<2 ^ 64))=true then some (D.int (10 ^ (18:Int).toNat)) else none)=_
   rw [ë (by decide)];rfl
  simp only [j7,e,bR]
 unfold aJ.mv;simp only [VC,Y,Z];by_cases h:(10:Int) ^ 18<=c
 ·rw [Ú h]
  simp only [VC,Z,ĭ];exact ⟨by decide,⟨_,true,by simp;rfl,by omega,fun z=>by cases z⟩,_,rfl⟩
 ·rw [í h]
  simp only [VC,Ë,ü,jB _ (show (0:Int)<2147483647 by decide)];exact ⟨by decide,⟨_,false,by simp;rfl,ş _ (by decide),fun _=>ı _ (by decide)⟩,_,rfl⟩
structure Ct where
 r:Int
 q:Int
 h:Int
structure Ct.ok (p:Ct):Prop where
 r0:0<=p.r
 r1:p.r<1000
 q0:0<=p.q
 q1:p.q<20
 h0:0<=p.h
 h1:p.h<24
noncomputable abbrev cD (p:Ct):D:=.tup [.int p.r,.int p.q,.int p.h]
noncomputable def sh (p:Ct):Int:=p.r*480+p.q*24+p.h
noncomputable def fk (m:Int):Ct:=⟨m / 480,m / 24 % 20,m % 24⟩
def zz {p:Ct} (h:p.ok):0<=sh p:=by unfold sh;have:=h.r0;have:=h.q0;have:=h.h0;omega
def zA {p:Ct} (h:p.ok):sh p<=479999:=by unfold sh;have:=h.r1;have:=h.q1;have:=h.h1;omega
def yO {m:Int} (h0:0<=m) (h1:m<=479999):(fk m).ok:=by
 constructor<;>simp only [fk]<;>omega
def GZ {p:Ct} (h:p.ok):fk (sh p)=p:=by
 obtain ⟨a,b,c⟩:=p;obtain ⟨Z,Y,X,W,V,U⟩:=h;simp only at Z Y X W V U;unfold fk sh;dsimp only;have e1:(a*480+b*24+c) / 480=a:=by omega
 have e2:(a*480+b*24+c) / 24 % 20=b:=by omega
 have T:(a*480+b*24+c) % 24=c:=by omega
 rw [e1,e2,T]
def G0 {m:Int} (h0:0<=m):sh (fk m)=m:=by
 unfold fk sh;simp only;omega
def Bj {a b c:D} {s:aa} {r:Int} (h0:0<=r) (h1:r<3):∃x,ba (.lst [a,b,c]) (.int r) s=ok x s/\(x=a\/x=b\/x=c):=by
 rcases (show r=0\/r=1\/r=2 by omega) with rfl|rfl|rfl
 ·exact ⟨a,rfl,.inl rfl⟩
 ·exact ⟨b,rfl,.inr (.inl rfl)⟩
 ·exact ⟨c,rfl,.inr (.inr rfl)⟩
def LJ {a b:D} {s:aa} {r:Int} (h0:0<=r) (h1:r<2):∃x,ba (.lst [a,b]) (.int r) s=ok x s/\(x=a\/x=b):=by
 rcases (show r=0\/r=1 by omega) with rfl|rfl
 ·exact ⟨a,rfl,.inl rfl⟩
 ·exact ⟨b,rfl,.inr rfl⟩
def rH {s:aa} {k:Nat} (h:Sf s k):Wp (aJ.kI [.aN k] s) fun d s'=>∃p:Ct,d=cD p/\p.ok/\Sf s' k/\Ex k s s':=by
 unfold aJ.kI;simp only [VC];refine (eU h (by decide) (by decide)).mono fun d y Z=>?_;obtain ⟨a1,rfl,w,v,X,W⟩:=Z;refine (eU X (by decide) (by decide)).mono fun d u Z=>?_;obtain ⟨a2,rfl,o,m,V,U⟩:=Z;refine ⟨le_size (n:=3) (by decide),?_⟩;refine (eU V (by decide) (by decide)).mono fun d T Z=>?_;obtain ⟨i,rfl,li,S,R,Q⟩:=Z;obtain ⟨x,e,Y⟩:=Bj (a:=.int a1) (b:=.int 999) (c:=.int a2) (s:=T) li S;refine MH e ?_;obtain ⟨r,rfl,P,O⟩:∃r,x=.int r/\0<=r/\r<1000:=by
  rcases Y with rfl|rfl|rfl
  ·exact ⟨_,rfl,by omega,by omega⟩
  ·exact ⟨_,rfl,by omega,by omega⟩
  ·exact ⟨_,rfl,by omega,by omega⟩
 try simp only [VC]
 refine (eU R (by decide) (by decide)).mono fun d l Z=>?_;obtain ⟨N,rfl,g,f,M,L⟩:=Z;refine ⟨le_size (n:=2) (by decide),?_⟩;refine (eU M (by decide) (by decide)).mono fun d s5 Z=>?_;obtain ⟨j,rfl,K,J,I,H⟩:=Z;obtain ⟨x,e,Y⟩:=LJ (a:=.int N) (b:=.int 19) (s:=s5) K J;refine MH e ?_;obtain ⟨q,rfl,G,F⟩:∃r,x=.int r/\0<=r/\r<20:=by
  rcases Y with rfl|rfl
  ·exact ⟨_,rfl,by omega,by omega⟩
  ·exact ⟨_,rfl,by omega,by omega⟩
 refine (eU I (by decide) (by decide)).mono fun d s6 Z=>?_;obtain ⟨E,rfl,l6,u6,D,C⟩:=Z;refine ⟨le_size (n:=3) (by decide),?_⟩;refine (eU D (by decide) (by decide)).mono fun d B Z=>?_;obtain ⟨n,rfl,ln,un,A,z⟩:=Z;obtain ⟨x,e,Y⟩:=Bj (a:=.int E) (b:=.int 23) (c:=.int 0) (s:=B) ln un;refine MH e ?_;obtain ⟨t,rfl,t0,t1⟩:∃r,x=.int r/\0<=r/\r<24:=by
  rcases Y with rfl|rfl|rfl
  ·exact ⟨_,rfl,by omega,by omega⟩
  ·exact ⟨_,rfl,by omega,by omega⟩
  ·exact ⟨_,rfl,by omega,by omega⟩
 exact ⟨le_size (n:=3) (by decide),⟨r,q,t⟩,rfl,⟨P,O,G,F,t0,t1⟩,A,(((((W.trans U).trans Q).trans L).trans H).trans C).trans z⟩
def mulC {i j:Int} {s:aa} (h0:0<=i) (h1:i<1000000000):bS (.int i) (.int j) s=DI.ok (.int (i*j)) s:=lM s (mulOk_of (by omega) (by omega))
def vX {p:Ct} {s:aa} (h:p.ok):aJ.jg [cD p] s=DI.ok (.int (sh p)) s:=by
 refine MI ?_;unfold aJ.jg;obtain ⟨Z,X,Y,W,V,U⟩:=h;simp only [VC,mulC Z (show p.r<1000000000 by omega),mulC Y (show p.q<1000000000 by omega)];exact ⟨rfl,trivial⟩
def wb {p:Ct} {s:aa} (h:p.ok):aJ.jS [cD p] s=DI.ok (.int (sh p)) s:=by
 refine MI ?_;unfold aJ.jS;obtain ⟨Z,W,Y,V,U,T⟩:=h;have X:∀s,ba (cD p) (.int 0) s=DI.ok (.int p.r) s:=fun _=>rfl;have e1:∀s,ba (cD p) (.int 1) s=DI.ok (.int p.q) s:=fun _=>rfl;have e2:∀s,ba (cD p) (.int 2) s=DI.ok (.int p.h) s:=fun _=>rfl;simp only [VC,X,e1,e2,mulC Z (show p.r<1000000000 by omega),mulC Y (show p.q<1000000000 by omega)];exact ⟨rfl,trivial⟩
def qZ {m:Int} {s:aa} (h0:0<=m) (h1:m<=100000000):aJ.jh [.int m] s=DI.ok (cD (fk m)) s:=by
 refine MI ?_;unfold aJ.jh;simp only [VC,lL _ (show (0:Int)<480 by decide) (by decide),lL _ (show (0:Int)<24 by decide) (by decide),mulC (show 0<=m / 480 by omega) (show m / 480<1000000000 by omega),mulC (show 0<=(m-m / 480*480) / 24 by omega) (show (m-m / 480*480) / 24<1000000000 by omega)];refine ⟨le_size (n:=3) (by decide),?_,trivial⟩;unfold fk;have e1:(m-m / 480*480) / 24=m / 24 % 20:=by omega
 have e2:m-m / 480*480-(m-m / 480*480) / 24*24=m % 24:=by omega
 rw [e2,e1]
def rf {m:Int} {s:aa} (h0:0<=m) (h1:m<=479999):aJ.gw [.int m] s=DI.ok (cD (fk m)) s:=by
 refine MI ?_;unfold aJ.gw;simp only [VC,í (show ¬ 479999<m by omega),Ë,ü,lL _ (show (0:Int)<480 by decide) (by decide),lL _ (show (0:Int)<24 by decide) (by decide),jB _ (show (0:Int)<20 by decide),jB _ (show (0:Int)<24 by decide)];exact ⟨le_size (n:=3) (by decide),rfl,trivial⟩
def BH {m:Int} {s:aa} (h:479999<m):aJ.gw [.int m] s=some (.error ⟨"TooMany",some m⟩,s):=by
 have e:bJ (e2 i3 (af 0) (eC (.int 479999))) [some (.int m)] s=DI.ok true s:=by
  refine MI ?_;simp only [VC,Ú h,Ŷ]
 unfold aJ.gw aZ;show ak (aD (bt _ _ _) _ [some (.int m)] s) _=_;unfold aD bt;rw [e];rfl
def wc {p:Ct} {s:aa} (h:p.ok):aJ.mj [cD p] s=DI.ok (.bl true) s:=by
 refine MI ?_;unfold aJ.mj;obtain ⟨Z,Y,X,W,V,U⟩:=h;simp only [VC];refine MH (show bX [cD p,.ty "tuple"] s=DI.ok (.bl true) s from rfl) ?_;simp only [VC,ĉ,Ë,ü];refine MH (show dD [cD p] s=DI.ok (.int 3) s from rfl) ?_;simp only [VC,show ((3:Int)==3)=true from rfl,ĉ,Ë,ü,wX,Ú Z,Ú Y,Ú X,Ú W,Ú V,Ú U,Ľ,ĭ,Ŷ]
def BI {ps:List Ct} {s:aa} (h:∀p∈ps,p.ok) (hl:ps.length<=20):aJ.mf [.lst (ps.map cD)] s=DI.ok (.bl true) s:=by
 refine MI ?_;unfold aJ.mf;simp only [VC];refine MH (show bX [.lst (ps.map cD),.ty "list"] s=DI.ok (.bl true) s from rfl) ?_;simp only [VC,ĭ];refine MH (show dD [.lst (ps.map cD)] s=DI.ok (.int ps.length) s from by show DI.ok (D.int ((ps.map cD).length:Nat)) s=_;rw [å]) ?_;simp only [VC,Ú (show (ps.length:Int)<=20 by omega),ĭ];refine MH (jT rfl) ⟨le_size (by rw [å];omega),?_⟩;refine MH (comp_map cD (fun _=>true) (fun _=>D.bl true) ps fun p Z=>⟨[some (cD p)],rfl,rfl,fun _=>MI (by simp only [VC,wc (h p Z),Ŷ])⟩) ?_;rw [Ő.mpr (fun _ _=>rfl)];exact MH (EZ (fun _=>true) ps s) ⟨by simp,rfl⟩
def yP {ps:List Ct} {s:aa}:i7 [.lst (ps.map fun p=>D.int (sh p))] s=DI.ok (.int (ps.map sh).sum) s:=by
 show (match jr (ps.map fun p=>D.int (sh p)) with|some Z=>DI.ok (D.int Z.sum) s|none=>none)=_
 rw [show (ps.map fun p=>D.int (sh p))=(ps.map sh).map D.int by rw [List.map_map];rfl,CJ]
def wY {fn:List D->aa->Res D} {fa:MG (List D)} {env:Env} {s:aa} {Q:D->aa->Prop}:Wp (cS fn fa env s) Q=Wp (fa env s) fun ds s=>Wp (fn ds s) Q:=by unfold cS;rw [bq]
def rg {m:Int} {s:aa} (h0:0<=m) (h1:m<=479999):aJ.iP [.int m] s=ok (cD (fk m)) s:=by
 refine MI ?_;unfold aJ.iP;simp only [VC,wY,wX,Ú h0,Ú (show m<479999+1 by omega),Ľ,ĉ,Ë,ü,rf h0 h1,Ŷ]
def ra {p:Ct} {s:aa} (h:p.ok):aJ.iO [cD p] s=ok (.int (sh p)) s:=by
 refine MI ?_;unfold aJ.iO;simp only [VC,wY];refine MH (wc h) ?_;simp only [VC,ĉ,Ë,ü];exact MH (vX h) ⟨rfl,rfl⟩
section
variable {ps:List Ct} {s:aa}
def cL (ps:List Ct):Int:=(ps.map sh).sum
theorem sN:∀{ps:List Ct},(∀p∈ps,p.ok)->0<=cL ps
 | [],_=>Int.le_refl 0
 |p::ps,h=>by
  have a:=zz (h p Ý);have b:=sN fun q Z=>h q (Ð _ Z);unfold cL at b |-;rw [ñ,List.sum_cons];omega
theorem yQ:∀{ps:List Ct},(∀p∈ps,p.ok)->cL ps<=ps.length*479999
 | [],_=>Int.le_refl 0
 |p::ps,h=>by
  have a:=zA (h p Ý);have b:=yQ fun q Z=>h q (Ð _ Z);unfold cL at b |-;rw [ñ,List.sum_cons,þ];have e:((ps.length+1:Nat):Int)*479999=ps.length*479999+479999:=by omega
  omega
def D7 (h:∀p∈ps,p.ok) (hl:ps.length<=20):eB i7 (ae (dw 1 [] (cV (af 0)) (gN 0) dU (aK aJ.jg (ae (af 0) ag))) ag) [some (.lst (ps.map cD))] s=ok (.int (cL ps)) s:=by
 refine MI ?_;simp only [VC];refine MH (jT rfl) ⟨le_size (by rw [å];omega),?_⟩;refine MH (comp_map cD (fun _=>true) (fun p=>D.int (sh p)) ps fun p Z=>⟨[some (cD p)],rfl,rfl,fun _=>MI (by simp only [VC,vX (h p Z),Ŷ])⟩) ?_;rw [Ő.mpr (fun _ _=>rfl)];exact MH yP ⟨rfl,rfl⟩
def rp (h:∀p∈ps,p.ok) (hl:ps.length<=20):aJ.dW [.lst (ps.map cD)] s=aJ.gw [.int (cL ps)] s:=by
 have e1:bt (fc (c9 (aK aJ.mf (ae (af 0) ag)))) (mQ "NoCount" (ae (eC (.str "counts are a list of at most twenty counts")) ag)) bC [some (.lst (ps.map cD))] s=ok (.nx [some (.lst (ps.map cD))]) s:=by
  refine MI ?_;simp only [VC];refine MH (BI h hl) ?_;simp only [VC,ĉ,Ë,ü,Ŷ]
 unfold aJ.dW aZ;show ak (aD _ _ [some (.lst (ps.map cD))] s) _=_;unfold aD;rw [e1];show ak (aR (cS aJ.gw (ae (eB i7 (ae (dw 1 [] (cV (af 0)) (gN 0) dU (aK aJ.jg (ae (af 0) ag))) ag)) ag)) [some (.lst (ps.map cD))] s) _=_;have e2:ae (eB i7 (ae (dw 1 [] (cV (af 0)) (gN 0) dU (aK aJ.jg (ae (af 0) ag))) ag)) ag [some (.lst (ps.map cD))] s=ok [.int (cL ps)] s:=by
  refine MI ?_;rw [cg];exact MH (D7 h hl) (by rw [cz];exact ⟨rfl,rfl⟩)
 unfold aR cS;rw [e2];show ak (ak (aJ.gw [.int (cL ps)] s) _) _=_;generalize aJ.gw [.int (cL ps)] s=r
 match r with
 |none=>rfl
 |some (.ok d,Z)=>rfl
 |some (.error x,Z)=>rfl
end
def rP {n:Nat} {i:Int} {s:aa}:aJ.dO (n+1) [.int i,.int i] s=ok (.bl true) s:=by
 refine MI ?_;unfold aJ.dO;simp only [VC];refine MH (show lE (.int i) s=ok (.bl false) s from rfl) ?_;simp only [VC,Ë,ü];refine MH (show bX [.int i,.ty "bool"] s=ok (.bl false) s from rfl) ?_;refine MH (show bX [.int i,.ty "bool"] s=ok (.bl false) s from rfl) ?_;refine MH (show fg (.bl false) (.bl false) s=ok (.bl true) s from rfl) ?_;simp only [VC,ĭ,ğ,Ŷ]
def eq_str {x:Str} {s:aa}:fg (.str x) (.str x) s=ok (.bl true) s:=by
 show (match fX (.str x) (.str x) with|some b=>ok (D.bl b) s|none=>none)=_
 have e:fX (.str x) (.str x)=some true:=by
  unfold fX;rw [ë (show (iI (.str x)&&iI (.str x))=true from rfl)];simp [beq]
 rw [e]
def wZ {n:Nat} {x:Str} {s:aa}:aJ.dO (n+1) [.str x,.str x] s=ok (.bl true) s:=by
 refine MI ?_;unfold aJ.dO;simp only [VC];refine MH (show lE (.str x) s=ok (.bl false) s from rfl) ?_;simp only [VC,Ë,ü];refine MH (show bX [.str x,.ty "bool"] s=ok (.bl false) s from rfl) ?_;refine MH (show bX [.str x,.ty "bool"] s=ok (.bl false) s from rfl) ?_;refine MH (show fg (.bl false) (.bl false) s=ok (.bl true) s from rfl) ?_;simp only [VC,ĭ];exact MH eq_str ⟨rfl,rfl⟩
def D8 {α:Type} {f:α->Bool} (xs:List α):DI.cF (xs.map fun x=>D.bl (f x))=true:=by
 induction xs with
 |nil=>rfl
 |cons a r ih=>simp only [ñ,DI.cF,lay,ih,Ľ]
def E2 {α:Type} {f:α->Bool} {xs:List α} {s:aa}:mB (.bl false) (.lst (xs.map fun x=>D.bl (f x))) s=ok (.bl (xs.all f)) s:=by
 unfold mB inD;rw [show pV (.lst (xs.map fun x=>D.bl (f x))) s=some (xs.map fun x=>D.bl (f x)) from rfl];simp only [];rw [ë (by unfold tB;rw [D8];rfl)];show ok (D.bl (!(xs.map fun x=>D.bl (f x)).any fun y=>beq y (.bl false))) s=_;congr 3
 have e:∀b,beq (.bl b) (.bl false)=!b:=fun b=>by cases b<;>rfl
 rw [List.any_map];simp only [Function.comp_def,e,List.not_any_eq_all_not,Bool.not_not]
def D9 {nt:Nat} {cap:List Nat} {it:MG (List D×(aa->Prop))} {gd:D->Env->Option Env} {c:MG Bool} {f:MG D} {env:Env} {s:aa} {Q:D->aa->Prop} :
  Wp (mO nt cap it gd c f env s) Q=Wp (it env s) fun p s=>p.1.length<=Ï/\Wp (gB nt (eV cap env) gd c f p.2 p.1 s) fun xs s=>Q (.lst xs) s:=by
 unfold mO;simp only [bq,mx,bj]
def C9 {α:Type} (d:α->D) {nt:Nat} {aE:Env} {g:D->Env->Option Env} {t:MG Bool} {f:MG D} {γ:aa->Prop} {s:aa} (iK:γ s) (h:α->D) (xs:List α) (hh:∀x∈xs,∃env,g (d x) (Ê nt none++aE)=some env/\t env s=ok true s/\f env s=ok (h x) s) :
  gB nt aE g t f γ (xs.map d) s=ok (xs.map h) s:=by
 induction xs with
 |nil=>rw [ŭ];unfold gB;rw [ë iK];rfl
 |cons n U ih =>
  obtain ⟨env,Z,Y,X⟩:=hh n Ý;have ih:=ih fun W V=>hh W (Ð _ V);rw [ñ];unfold gB;rw [ë iK,Z];simp only [Y,tu,iT,ĭ,X,ih,ñ]
theorem wA:∀ds:List D,fy ds ds=ds.map fun d=>D.tup [d,d]
 | []=>rfl
 |d::ds=>by
  have:=wA ds;unfold fy at this |-;simp only [į,ñ,this]
def rQ {n:Nat} {ds:List D} {s:aa} (hl:ds.length<=1000) (h:∀d∈ds,aJ.dO n [d,d] s=ok (.bl true) s):aJ.dO (n+1) [.tup ds,.tup ds] s=ok (.bl true) s:=by
 have Z:bX [.tup ds,.ty "list"] s=ok (.bl false) s/\bX [.tup ds,.ty "tuple"] s=ok (.bl true) s:=⟨rfl,rfl⟩;have len:dD [.tup ds] s=ok (.int ds.length) s:=rfl;refine MI ?_;unfold aJ.dO;simp only [VC];refine MH (show lE (.tup ds) s=ok (.bl true) s from rfl) ?_;simp only [VC,ĭ];refine MH Z.1 (MH Z.1 ?_);refine MH (show bW (.bl false) (.bl false) s=ok (.bl false) s from rfl) ?_;simp only [VC,Ë,ü];refine MH Z.2 (MH Z.2 ?_);refine MH (show bW (.bl true) (.bl true) s=ok (.bl false) s from rfl) ?_;simp only [VC,Ë,ü];refine MH len (MH len ?_);simp only [VC,ğ,ĉ,Ë,ü,D9];refine MH (show iX (ae (af 0) (ae (af 1) ag)) [some (.tup ds),some (.tup ds)] s=ok (fy ds ds,fun _=>True) s from rfl) ⟨le_size (by rw [rF];omega),?_⟩;rw [wA];refine MH (C9 (γ:=fun _=>True) (fun d:D=>D.tup [d,d]) trivial (fun _=>.bl true) ds fun d Y=>⟨[some d,some d],rfl,rfl,?_⟩) ?_
 ·refine MI ?_
  simp only [VC,h d Y,Ŷ]
 ·exact MH (E2 (f:=fun _=>true)) ⟨by simp,rfl⟩
open DI.aJ
section
variable {s:aa} {e0 e1 fN e3 e4 e5 e6 e7 e8 e9 bw bK bZ:Option D} {d:D} {Q:Fl->aa->Prop}
def mU {aE:List Nat} {env:Env} {ds:List D} {fb:MG D} {r:D} (h0:s[0]?=some (.tb "law")) (ht:iY env aE=some ds) (h:cA .aq (fb (ds.map some)) [.aq] s=ok r s):iB "law" aE fb cA env s=ok r s:=by
 unfold iB;rw [ht];dsimp only;rw [h0];dsimp only;rw [ë (Ú rfl),h];rfl
def pS (i:Int):bW (.tup [.str "refused",.int i]) (.tup [.str "refused",.int i]) s=ok (.bl false) s:=by
 have e:PyData.strOk "refused"=true:=by decide +kernel
 unfold bW fX;simp [res,iI,beq,fz,lay,DI.cF,dep,de,e]
def zB (p:Ct):bW (cD p) (cD p) s=ok (.bl false) s:=by
 unfold bW fX;simp [res,iI,beq,fz,lay,DI.cF,dep,de]
def iC (t:Int):D:=if 479999<t then .tup [.str "many",.int t] else .tup [.str "told",cD (fk t)]
def xR {n:Nat} {p:Ct}:aJ.dO (n+2) [cD p,cD p] s=ok (.bl true) s:=rQ (show 3<=1000 by decide) fun d Z=>by
 simp only [ã,Ċ,or_false] at Z
 rcases Z with rfl|rfl|rfl<;>exact rP
def Ea {t:Int}:aJ.dO 8 [iC t,iC t] s=ok (.bl true) s:=by
 unfold iC;split
 ·refine rQ (show 2<=1000 by decide) fun d Z=>?_
  simp only [ã,Ċ,or_false] at Z
  rcases Z with rfl|rfl
  ·exact wZ
  ·exact rP
 ·refine rQ (show 2<=1000 by decide) fun d Z=>?_
  simp only [ã,Ċ,or_false] at Z
  rcases Z with rfl|rfl
  ·exact wZ
  ·exact xR
def E3 {ps:List Ct} (h:∀p∈ps,p.ok) (hl:ps.length<=20) (h0:s[0]?=some (.tb "law")) {env:Env} (he:iY env [6]=some [.lst (ps.map cD)]) :
  iB "law" [6] (cS dW (ae (af 0) ag)) cA env s=ok (iC (cL ps)) s:=by
 refine mU h0 he ?_;have lo:=sN h;unfold iC;by_cases c:479999<cL ps
 ·rw [ë c]
  exact rM (show (cS dW (ae (af 0) ag)) [some (.lst (ps.map cD))] s=_ from (rp h hl).trans (BH c))
 ·rw [î c]
  exact sJ (show (cS dW (ae (af 0) ag)) [some (.lst (ps.map cD))] s=_ from (rp h hl).trans (rf lo (by omega)))
def G1:∀n:Fin 1000,uI (.int (n.val:Int))=true:=by decide +kernel
def sO {n:Int} (h1:0<=n) (h2:n<1000):Ft 0 110 (.int n):=by
 obtain ⟨m,rfl⟩:=Int.eq_ofNat_of_zero_le h1;exact Ih (G1 ⟨m,by omega⟩)
def vY {ps:List Ct} (h:∀p∈ps,p.ok) (hl:ps.length<=20):ll [.lst (ps.map cD)] s=ok (.str (py (.lst (ps.map cD))).shown) s:=by
 show (if m9 (.lst (ps.map cD))=true then ok (D.str (py (.lst (ps.map cD))).shown) s else none)=_
 have Y:Ft 2 (20*(3*(110+1)+1)) (.lst (ps.map cD)):=?_
 ·rw [ë (GY Y (by decide) (by decide))]
 refine GX (by rw [å];exact hl) fun d X=>?_;obtain ⟨p,W,rfl⟩:=List.mem_map.mp X;obtain ⟨V,U,T,S,R,Q⟩:=h p W;refine GW (show 3<=3 by decide) fun x Z=>?_;simp only [ã,Ċ,or_false] at Z
 rcases Z with rfl|rfl|rfl
 ·exact sO (by omega) (by omega)
 ·exact sO (by omega) (by omega)
 ·exact sO (by omega) (by omega)
def Eb {ps:List Ct} {X:Str} (h:∀p∈ps,p.ok) (hl:ps.length<=20) (h0:s[0]?=some (.tb "law")) (hX:X=(py (.lst (ps.map cD))).shown) (hQ:Q (.nx [e0,e1,fN,e3,e4,e5,some (.lst (ps.map cD)),some (.str X),e8,some (iC (cL ps)),bw,bK,bZ]) s) :
  Wp (pM [e0,e1,fN,e3,e4,e5,some (.lst (ps.map cD)),some (.str X),e8,some (iC (cL ps)),bw,bK,bZ] s) Q:=by
 subst hX;unfold pM;simp only [fT,mT,pq,pN,wp_call,cg,cz,dX,dY];refine MH (E3 h hl h0 rfl) ?_;refine MH Ea ?_;simp only [mC,ĉ,Ë,ü,gF,fv,nr,cg,cz,dX,dY];refine MH (vY h hl) ?_;refine MH ne_str ?_;simp only [fO,Ë,ü,fP];exact hQ
def LK {a b:Int} {r:Int} (h0:0<=r) (h1:r<4) (a0:0<=a) (a1:a<=479999) (b0:0<=b) (b1:b<=479999):∃m:Int,ba (.lst [.int a,.int b,.int 479999,.int 0]) (.int r) s=ok (.int m) s/\0<=m/\m<=479999:=by
 rcases (show r=0\/r=1\/r=2\/r=3 by omega) with rfl|rfl|rfl|rfl
 ·exact ⟨a,rfl,a0,a1⟩
 ·exact ⟨b,rfl,b0,b1⟩
 ·exact ⟨_,rfl,by decide,by decide⟩
 ·exact ⟨_,rfl,by decide,by decide⟩
def E4 {k:Nat} {n:Nat} (h:Sf s k) (hn:n<=20):Wp (eT 1 [some (.aN k)] (gN 0) dU (aK aJ.kI (ae (af 1) ag)) (dF 0 n) s) fun xs s'=>∃ps:List Ct,xs=ps.map cD/\ps.length<=20/\(∀p∈ps,p.ok)/\Sf s' k/\Ex k s s':=by
 refine EV (fun i Z s'=>∃ps:List Ct,Z=ps.map cD/\ps.length=i/\(∀p∈ps,p.ok)/\Sf s' k/\Ex k s s') (dF 0 n) ⟨[],rfl,rfl,by simp,h,Ex.refl _ _⟩ (fun i d Z s' Y X=>?_) fun Z s' X=>?_
 ·obtain ⟨ps,rfl,W,V,U,T⟩:=X
  rw [rY] at Y;split at Y
  ·cases Y
   refine ⟨[some (.int (0+i)),some (.aN k)],rfl,?_⟩;refine MH (show dU _ s'=ok true s' from rfl) ?_;rw [ë rfl];simp only [wp_call,cg,cz,dX,dY];refine (rH U).mono fun d O Y=>?_;obtain ⟨p,rfl,S,R,Q⟩:=Y;refine ⟨ps++[p],by simp,by rw [ć,W];rfl,fun q P=>?_,R,T.trans Q⟩
   rcases ė.mp P with z|z
   ·exact V q z
   ·rw [List.mem_singleton.mp z];exact S
  ·cases Y
 ·obtain ⟨ps,rfl,W,r⟩:=X
  rw [rZ] at W;exact ⟨ps,rfl,by omega,r⟩
noncomputable def nP (p:Ct):Ct:=⟨p.r % 50,p.q,p.h⟩
def E5 {p:Ct} (h:p.ok):(nP p).ok:=by
 obtain ⟨Z,Y,X,W,V,U⟩:=h
 constructor<;>simp only [nP]<;>omega
def E6 {ps:List Ct} {env:Env} (hl:ps.length<=20) (e:af 6 env s=ok (.lst (ps.map cD)) s):dw 1 [] (cV (af 6)) (gN 0) dU (bB (ae (e2 c8 (e2 ba (af 0) (eC (.int 0))) (eC (.int 50))) (ae (e2 ba (af 0) (eC (.int 1))) (ae (e2 ba (af 0) (eC (.int 2))) ag)))) env s=ok (.lst ((ps.map nP).map cD)) s:=by
 refine MI ?_;rw [mE];refine MH (jT e) ⟨le_size (by rw [å];omega),?_⟩;refine MH (comp_map cD (fun _=>true) (fun p=>cD (nP p)) ps fun p Z=>⟨[some (cD p)],rfl,rfl,fun _=>rfl⟩) ?_;rw [Ő.mpr (fun _ _=>rfl),List.map_map];exact ⟨rfl,rfl⟩
def E7 {ps:List Ct} {env:Env} (h:∀p∈ps,p.ok) (hl:ps.length<=20) (e:af 6 env s=ok (.lst (ps.map cD)) s):dw 1 [] (cV (af 6)) (gN 0) dU (aK aJ.jS (ae (af 0) ag)) env s=ok (.lst (ps.map fun p=>D.int (sh p))) s:=by
 refine MI ?_;rw [mE];refine MH (jT e) ⟨le_size (by rw [å];omega),?_⟩;refine MH (comp_map cD (fun _=>true) (fun p=>D.int (sh p)) ps fun p Z=>⟨[some (cD p)],rfl,rfl,fun _=>MI (by simp only [VC,wb (h p Z),Ŷ])⟩) ?_;rw [Ő.mpr (fun _ _=>rfl)];exact ⟨rfl,rfl⟩
def Dc {k:Nat} {ps:List Ct} (h:∀p∈ps,p.ok) (hl:ps.length<=20) (h0:s[0]?=some (.tb "law")) (st:Sf s k) (hQ:∀e7 e8 e9 bw,Q (.nx [e0,e1,fN,e3,e4,e5,some (.lst (ps.map cD)),e7,e8,e9,bw,bK,bZ]) s) :
  Wp ((aD (nH 7 8 (ae (eB ll (ae (af 6) ag)) (ae (eB i7 (ae (dw 1 [] (cV (af 6)) (gN 0) dU (aK jS (ae (af 0) ag))) ag)) ag))) (aD (bz (lU (bJ (e2 i3 (af 8) (eC (.int 479999)))) (bB (ae (eC (.str "many")) (ae (af 8) ag))) (bB (ae (eC (.str "told")) (ae (aK jh (ae (af 8) ag)) ag)))) (gN 9)) (gL (iH (ae (eC (.int 2)) ag)) (gN 10) pM))) [e0,e1,fN,e3,e4,e5,some (.lst (ps.map cD)),e7,e8,e9,bw,bK,bZ] s) Q:=by
 have lo:=sN h;have hi:=yQ h;refine MJ fun R Z=>?_;rw [sf,cg,nr,cg];simp only [dX,dY,cz];refine MH (vY h hl) ?_;simp only [cg,nr,cz];refine MH (E7 h hl rfl) ?_;refine MH yP ?_;refine ⟨_,_,rfl,?_⟩;simp only [ö,ø];rw [cT];subst Z;refine MJ fun R Z=>?_;have W:∀e7,lU (bJ (e2 i3 (af 8) (eC (.int 479999)))) (bB (ae (eC (.str "many")) (ae (af 8) ag))) (bB (ae (eC (.str "told")) (ae (aK jh (ae (af 8) ag)) ag))) [e0,e1,fN,e3,e4,e5,some (.lst (ps.map cD)),e7,some (.int (cL ps)),e9,bw,bK,bZ] s=ok (iC (cL ps)) s:=fun e7=>by
  refine MI ?_;unfold iC;simp only [VC];by_cases c:479999<cL ps
  ·rw [Ú c,ë rfl,ë c]
   exact ⟨le_size (n:=2) (by decide),rfl,trivial⟩
  ·rw [í c,î Î,î c]
   refine MH (qZ lo (by omega)) ?_;exact ⟨le_size (n:=2) (by decide),rfl,rfl⟩
 rw [ij];refine MH (W _) ?_;rw [iu];simp only [ö,ø];rw [cT];subst Z;rw [jk];refine MH (pQ (n:=2) rfl (by decide)) ?_;refine Wp.lK (fun t env Y=>Y=s/\∃bw,env=[e0,e1,fN,e3,e4,e5,some (.lst (ps.map cD)),some (.str (py (.lst (ps.map cD))).shown),some (.int (cL ps)),some (iC (cL ps)),bw,bK,bZ]) _ ⟨rfl,_,rfl⟩ (fun t d env Y V X=>?_) (fun env Y X=>?_)
 ·obtain ⟨rfl,bw,rfl⟩:=X
  refine ⟨_,rfl,?_⟩;exact Eb h hl h0 rfl ⟨rfl,_,rfl⟩
 obtain ⟨rfl,bw,rfl⟩:=X;exact hQ _ _ _ _
def Ec {k:Nat} (h0:s[0]?=some (.tb "law")) (k0:(0:Nat)≠k) (st:Sf s k) (hQ:∀e4 e5 e6 e7 e8 e9 bw s',s'[0]?=some (.tb "law")->Sf s' k->Q (.nx [e0,e1,some (.aN k),e3,e4,e5,e6,e7,e8,e9,bw,bK,bZ]) s') :
  Wp (sE [e0,e1,some (.aN k),e3,e4,e5,e6,e7,e8,e9,bw,bK,bZ] s) Q:=by
 unfold sE;refine MJ fun R Z=>?_;simp only [ij,iu,fv,mS,wp_call,cg,cz,dX,dY,fB,ö,ø];refine (eU st (by decide) (by decide)).mono fun d s1 Y=>?_;obtain ⟨a,rfl,G,a1,F,E⟩:=Y;refine (eU F (by decide) (by decide)).mono fun d s2 Y=>?_;obtain ⟨b,rfl,D,b1,C,B⟩:=Y;refine ⟨le_size (n:=4) (by decide),?_⟩;refine (eU C (by decide) (by decide)).mono fun d A Y=>?_;obtain ⟨r,rfl,z,y,w,v⟩:=Y;obtain ⟨m,em,m0,M⟩:=LK (s:=A) z y G (by omega) D (by omega);refine MH em ?_;have g3:=v.get (B.get (E.get h0 k0) k0) k0;rw [cT];subst Z;refine MJ fun R Z=>?_;simp only [ij,iu,wp_call,cg,cz,dX,dY,ö,ø];refine (rH w).mono fun d s4 Y=>?_;obtain ⟨p,rfl,O,u,t⟩:=Y;have o:=t.get g3 k0;rw [cT];subst Z;refine MJ fun R Z=>?_;simp only [fT,mT,pq,pN,wp_call,cg,cz,dX,dY];refine MH (rg m0 M) ?_;refine MH (qZ m0 (by omega)) ?_;refine MH xR ?_;simp only [mC,ĉ,Ë,ü];refine MH (ra O) ?_;refine MH (wb O) ?_;refine MH rP ?_;simp only [mC,ĉ,Ë,ü,fP,cT];subst Z;refine MJ fun R Z=>?_;simp only [fT,mT,gF,fv,wp_call,cg,cz,dX,dY];refine MH (ra O) ?_;refine MH (rg (zz O) (zA O)) ?_;rw [GZ O];refine MH (zB p) ?_;simp only [fO,Ë,ü];refine MH (rg m0 M) ?_;refine MH (ra (yO m0 M)) ?_;rw [G0 m0];simp only [sL,ğ,ĉ,fO,Ë,ü,fP,cT];subst Z;refine MJ fun R Z=>?_;simp only [ij,mE];obtain ⟨d,s5,l,n,rfl,n0,n1,j,h⟩:=eU u (m:=21) (by decide) (by decide);have g:=h.get o k0;refine MH (EY (n:=n.toNat) (s1:=s5) (i:=n) (MI (by simp only [cg,wp_call,cz,dX,dY,fB];exact MH l ⟨rfl,rfl⟩)) (by omega) (by omega)) ⟨le_size (by rw [rZ];omega),?_⟩;refine (E4 j (n:=n.toNat) (by omega)).mono fun xs s6 N=>?_;obtain ⟨X,rfl,V,U,L,K⟩:=N;have J:=K.get g k0;rw [iu];simp only [ö,ø];rw [cT];subst Z;refine MJ fun R Z=>?_;have go:∀(X:List Ct) (W:aa),X.length<=20->(∀p∈X,p.ok)->Sf W k->W[0]?=some (.tb "law")->Wp (R [e0,e1,some (.aN k),e3,some (.int m),some (cD p),some (.lst (X.map cD)),e7,e8,e9,bw,bK,bZ] W) Q:=?_
 ·simp only [fT,gF,fv,wp_call,cg,cz,dX,dY,fB]
  refine (eU L (by decide) (by decide)).mono fun d W Y=>?_;obtain ⟨r,rfl,_,_,T,f⟩:=Y;have S:=f.get J k0;simp only [pR,fO];split
  ·rw [ij]
   refine MH (E6 V rfl) ?_;rw [iu];simp only [ö,ø];rw [cT];exact go (X.map nP) W (by rw [å];exact V) (fun q e=>by obtain ⟨c,h1,rfl⟩:=List.mem_map.mp e;exact E5 (U c h1)) T S
  ·rw [fP,cT]
   exact go X W V U T S
 clear V U L K J;intro X W V U T S;subst Z;refine MJ fun R Z=>?_;have go:∀(X:List Ct) (W:aa),X.length<=20->(∀p∈X,p.ok)->Sf W k->W[0]?=some (.tb "law")->Wp (R [e0,e1,some (.aN k),e3,some (.int m),some (cD p),some (.lst (X.map cD)),e7,e8,e9,bw,bK,bZ] W) Q:=?_
 ·simp only [fT,gF,fv,wp_call,cg,cz,dX,dY,fB]
  refine (eU T (by decide) (by decide)).mono fun d P Y=>?_;obtain ⟨r,rfl,_,_,I,x8⟩:=Y;have H:=x8.get S k0;simp only [pR,fO];split
  ·simp only [ij,iu,mS,jn,fv,wp_call,cg,cz,dX,dY,fB,ö,ø]
   refine ⟨le_size (n:=3) (by decide),?_⟩;refine MH (show bS (.int 500) (.int 480) P=ok (.int 240000) P from rfl) ?_;refine MH (show gH (.int 479999) (.int 240000) P=ok (.int 239999) P from rfl) ?_;refine MH (show gH (.int 239999) (.int 171) P=ok (.int 239828) P from rfl) ?_;refine (eU I (by decide) (by decide)).mono fun d s9 Y=>?_;obtain ⟨q,rfl,q0,q1,LO,x9⟩:=Y;have g9:=x9.get H k0;refine MH (uH _ _ _) ?_;refine MH (qZ (by omega) (by omega)) ?_;refine ⟨le_size (n:=3) (by decide),le_size (n:=3) (by decide),?_⟩;rw [cT];refine go [⟨500,7,3⟩,fk (239828+q),⟨0,0,0⟩] s9 (show 3<=20 by decide) (fun x N=>?_) LO g9;simp only [ã,Ċ,or_false] at N
   rcases N with rfl|rfl|rfl
   ·exact ⟨by decide,by decide,by decide,by decide,by decide,by decide⟩
   ·exact yO (by omega) (by omega)
   ·exact ⟨by decide,by decide,by decide,by decide,by decide,by decide⟩
  ·rw [fP,cT]
   exact go X P V U I H
 clear V U T S;intro X W V U T S;subst Z;exact Dc U V S T fun _ _ _ _=>hQ _ _ _ _ _ _ _ _ S T
noncomputable def qp:List D:=[.int (-1),.int 480000,.bl true,.aq,.str "0",.tup [.int 0,.int 0,.int 0],.int (10 ^ 29)]
def E8 (hd:d∈qp) (s:aa):iP [d] s=some (.error ⟨"NoNumber",none⟩,s):=by
 simp only [qp,ã,Ċ,or_false] at hd
 rcases hd with rfl|rfl|rfl|rfl|rfl|rfl|rfl<;>kernel_rfl
noncomputable def lN:List D:=[.tup [.int 1000,.int 0,.int 0],.tup [.int 0,.int 20,.int 0],.tup [.int 0,.int 0,.int 24],.tup [.int 0,.int 0,.int (-1)],.tup [.int (-1),.int 0,.int 0],.tup [.int 0,.int (-1),.int 0],.lst [.int 0,.int 0,.int 0],.tup [.int 0,.int 0]]
noncomputable def qq:List D:=[.tup [.int 0,.int 0,.int 0,.int 0],.tup [.bl true,.int 0,.int 0],.tup [.int 0,.aq,.int 0],.aq,.int 0,.str "",.tup []]
def xS (hd:d∈lN++qq) (s:aa):iO [d] s=some (.error ⟨"NoCount",none⟩,s)/\dW [.lst [.tup [.int 0,.int 0,.int 1],d]] s=some (.error ⟨"NoCount",none⟩,s):=by
 simp only [lN,qq,đ,Ę,ã,Ċ,or_false] at hd
 rcases hd with rfl|rfl|rfl|rfl|rfl|rfl|rfl|rfl|rfl|rfl|rfl|rfl|rfl|rfl|rfl<;>exact ⟨by kernel_rfl,by kernel_rfl⟩
noncomputable def qr:List D:=[.tup [.tup [.int 0,.int 0,.int 0]],.aq,.aW [],.str "",.lst (Ê 21 (.tup [.int 0,.int 0,.int 0])),.tup [],.int 0]
def E9 (hd:d∈qr) (s:aa):dW [d] s=some (.error ⟨"NoCount",none⟩,s):=by
 simp only [qr,ã,Ċ,or_false] at hd
 rcases hd with rfl|rfl|rfl|rfl|rfl|rfl|rfl<;>kernel_rfl
def JG (h0:s[0]?=some (.tb "law")) (hd:d∈qp) (hQ:Q (.nx [e0,e1,fN,e3,e4,e5,e6,e7,e8,e9,bw,some d,bZ]) s):Wp (sF [e0,e1,fN,e3,e4,e5,e6,e7,e8,e9,bw,some d,bZ] s) Q:=by
 unfold sF;rw [fT,gF,fv];refine MH (mU h0 (ds:=[d]) rfl (rb (show (cS iP (ae (af 0) ag)) [some d] s=_ from E8 hd s))) ?_;simp only [jn,cg,cz,fB];refine ⟨le_size (n:=2) (by decide),?_⟩;refine MH (pS 7) ?_;simp only [fO,Ë,ü,fP];exact hQ
def JH (h0:s[0]?=some (.tb "law")) (hd:d∈lN++qq) (hQ:Q (.nx [e0,e1,fN,e3,e4,e5,e6,e7,e8,e9,bw,some d,bZ]) s):Wp (sG [e0,e1,fN,e3,e4,e5,e6,e7,e8,e9,bw,some d,bZ] s) Q:=by
 unfold sG;refine MJ fun R Z=>?_;rw [fT,gF,fv];refine MH (mU h0 (ds:=[d]) rfl (ml (show (cS iO (ae (af 0) ag)) [some d] s=_ from (xS hd s).1))) ?_;simp only [jn,cg,cz,fB];refine ⟨le_size (n:=2) (by decide),?_⟩;refine MH (pS 12) ?_;simp only [fO,Ë,ü,fP,cT];subst Z;rw [fT,gF,fv];refine MH (mU h0 (ds:=[d]) rfl (ml (show (cS dW (ae (cP (ae (bB (ae (eC (.int 0)) (ae (eC (.int 0)) (ae (eC (.int 1)) ag)))) (ae (af 0) ag))) ag)) [some d] s=_ from (xS hd s).2))) ?_;simp only [jn,cg,cz,fB];refine ⟨le_size (n:=2) (by decide),?_⟩;refine MH (pS 12) ?_;simp only [fO,Ë,ü,fP];exact hQ
def JI (h0:s[0]?=some (.tb "law")) (hd:d∈qr) (hQ:Q (.nx [e0,e1,fN,e3,e4,e5,e6,e7,e8,e9,bw,some d,bZ]) s):Wp (sH [e0,e1,fN,e3,e4,e5,e6,e7,e8,e9,bw,some d,bZ] s) Q:=by
 unfold sH;rw [fT,gF,fv];refine MH (mU h0 (ds:=[d]) rfl (ml (show (cS dW (ae (af 0) ag)) [some d] s=_ from E9 hd s))) ?_;simp only [jn,cg,cz,fB];refine ⟨le_size (n:=2) (by decide),?_⟩;refine MH (pS 12) ?_;simp only [fO,Ë,ü,fP];exact hQ
def G2 {ns:List Int} {i:Int} (hi:0<=i) (h0:s[0]?=some (.tb "law")) (hQ:∀e2 e3 e4 e5 e6 e7 e8 e9 bw bK bZ s',s'[0]?=some (.tb "law")->Q (.nx [some (.bb ns),some (.int i),e2,e3,e4,e5,e6,e7,e8,e9,bw,bK,bZ]) s') :
  Wp (sI [some (.bb ns),some (.int i),fN,e3,e4,e5,e6,e7,e8,e9,bw,bK,bZ] s) Q:=by
 have P:0<s.length:=(É.mp h0).1;unfold sI;refine MJ fun R Y=>?_;simp only [ij,iu,wp_call,cg,cz,dX,dY,ö,ø];refine (E1 hi).mono fun d V W=>?_;obtain ⟨rfl,U,T,rfl⟩:=W;have S:(0:Nat)≠s.length:=by omega
 have g1:(s++[T])[0]?=some (.tb "law"):=by rw [Õ P];exact h0
 generalize s++[T]=L at U g1;generalize s.length=k at U S;rw [cT];subst Y;refine MJ fun R Y=>?_;rw [jk];refine MH (pQ (n:=6) rfl (by decide)) ?_;refine Wp.lK (fun _ env s'=>s'[0]?=some (.tb "law")/\Sf s' k/\∃e3 e4 e5 e6 e7 e8 e9 bw,env=[some (.bb ns),some (.int i),some (.aN k),e3,e4,e5,e6,e7,e8,e9,bw,bK,bZ]) _ ⟨g1,U,_,_,_,_,_,_,_,_,rfl⟩ (fun t d env s' W Z=>?_) (fun env X Z=>?_)
 ·obtain ⟨g,O,e3,e4,e5,e6,e7,e8,e9,bw,rfl⟩:=Z
  refine ⟨_,rfl,?_⟩;exact Ec g S O fun _ _ _ _ _ _ _ s' N M=>⟨N,M,_,_,_,_,_,_,_,_,rfl⟩
 obtain ⟨g2,K,e3,e4,e5,e6,e7,e8,e9,bw,rfl⟩:=Z;subst Y;rw [cT];refine MJ fun R Y=>?_;rw [jk];refine MH (show cV _ _ X=ok qp X from jT rfl) ?_;refine Wp.lK (fun _ env s'=>s'=X/\∃bK,env=[some (.bb ns),some (.int i),some (.aN k),e3,e4,e5,e6,e7,e8,e9,bw,bK,bZ]) _ ⟨rfl,_,rfl⟩ (fun t d env s' W Z=>?_) (fun env s' Z=>?_)
 ·obtain ⟨rfl,bK,rfl⟩:=Z
  refine ⟨_,rfl,?_⟩;exact JG g2 (ģ W) ⟨rfl,_,rfl⟩
 obtain ⟨rfl,bK,rfl⟩:=Z;subst Y;rw [cT];refine MJ fun R Y=>?_;simp only [ij,iu,fB,ö,ø];rw [cT];subst Y;refine MJ fun R Y=>?_;rw [jk];refine MH (show cV _ _ s'=ok (lN++qq) s' from jT rfl) ?_;refine Wp.lK (fun _ env V=>V=s'/\∃bK,env=[some (.bb ns),some (.int i),some (.aN k),e3,e4,e5,e6,e7,e8,e9,bw,bK,some (.lst lN)]) _ ⟨rfl,_,rfl⟩ (fun t d env V W Z=>?_) (fun env V Z=>?_)
 ·obtain ⟨rfl,bK,rfl⟩:=Z
  refine ⟨_,rfl,?_⟩;exact JH g2 (ģ W) ⟨rfl,_,rfl⟩
 obtain ⟨rfl,bK,rfl⟩:=Z;subst Y;rw [cT];refine MJ fun R Y=>?_;rw [jk];refine MH (show cV _ _ V=ok qr V from jT rfl) ?_;refine Wp.lK (fun _ env X=>X=V/\∃bK,env=[some (.bb ns),some (.int i),some (.aN k),e3,e4,e5,e6,e7,e8,e9,bw,bK,some (.lst lN)]) _ ⟨rfl,_,rfl⟩ (fun t d env X W Z=>?_) (fun env X Z=>?_)
 ·obtain ⟨rfl,bK,rfl⟩:=Z
  refine ⟨_,rfl,?_⟩;exact JI g2 (ģ W) ⟨rfl,_,rfl⟩
 obtain ⟨rfl,bK,rfl⟩:=Z;subst Y;rw [cT,fT,gF,fv,wp_call,cg,mS];simp only [cz];refine ⟨le_size (n:=0) (by decide),?_⟩;refine MH (show dW [.lst []] X=ok (cD (fk 0)) X from (rp (ps:=[]) (by simp) (by decide)).trans (rf (by decide) (by decide))) ?_;simp only [jn,cg,cz,fB];refine ⟨le_size (n:=3) (by decide),?_⟩;refine MH (show bW (cD (fk 0)) (.tup [.int 0,.int 0,.int 0]) X=ok (.bl false) X from zB ⟨0,0,0⟩) ?_;simp only [fO,Ë,ü,fP];exact hQ _ _ _ _ _ _ _ _ _ _ _ _ g2
end
def Ed (ns:List Int) (hn:ns.length<=63):∃s,aJ.p0 [.bb ns] [.tb "law"]=some (.ok (.bl true),s):=by
 suffices h:Wp (aJ.p0 [.bb ns] [.tb "law"]) fun d _=>d=.bl true by
  obtain ⟨d,s,e,rfl⟩:=h;exact ⟨s,e⟩
 unfold aJ.p0;refine tK.symm ▸ ⟨rfl,MJ fun R L=>?_⟩;rw [jk];have N:∃n:Nat,iH (ae (eB lh (ae (eC (.int 1)) (ae (eB m8 (ae (eB dD (ae (af 0) ag)) (ae (eC (.int 3)) ag))) ag))) ag) [some (.bb ns),none,none,none,none,none,none,none,none,none,none,none,none] [.tb "law"]=ok (dF 0 n) [.tb "law"]:=by
  have e:∃n:Nat,n<=1000/\(ae (eB lh (ae (eC (.int 1)) (ae (eB m8 (ae (eB dD (ae (af 0) ag)) (ae (eC (.int 3)) ag))) ag))) ag) [some (.bb ns),none,none,none,none,none,none,none,none,none,none,none,none] [.tb "law"]=ok [.int n] [.tb "law"]:=by
   refine ⟨(if (if (3:Int)<ns.length then (3:Int) else ns.length) > 1 then (if (3:Int)<ns.length then (3:Int) else ns.length) else 1).toNat,by split<;>split<;>omega,?_⟩
   rw [Int.toNat_of_nonneg (by split<;>split<;>omega)]
   rfl
  obtain ⟨n,I,K⟩:=e;exact ⟨n,pQ K (by omega)⟩
 obtain ⟨n,N⟩:=N;refine MH N ?_;refine Wp.lK (fun i env s=>s[0]?=some (.tb "law")/\∃e1 e2 Z Y X W V U T S Q P,env=[some (.bb ns),e1,e2,Z,Y,X,W,V,U,T,S,Q,P]) _ ⟨rfl,_,_,_,_,_,_,_,_,_,_,_,_,rfl⟩ (fun i d env s O M=>?_) (fun env s M=>?_)
 ·obtain ⟨g,e1,e2,Z,Y,X,W,V,U,T,S,Q,P,rfl⟩:=M
  rw [rY] at O;split at O
  ·cases O
   refine ⟨_,rfl,?_⟩;rw [Int.zero_add];exact G2 (by omega) g fun e2 Z Y X W V U T S Q P H J=>⟨J,_,_,_,_,_,_,_,_,_,_,_,_,rfl⟩
  ·cases O
 ·obtain ⟨g,e1,e2,Z,Y,X,W,V,U,T,S,Q,P,rfl⟩:=M
  subst L;simp only [VC]
end DI
end
namespace DI.aJ
open PySem L2 DI
noncomputable def Ii:List Str:=["NoMarks","NoSheet","NoPage","NoBook","NoMould","NoDay","NoSort","NoNumber","NoSheets","NoRun","NoLaying","NoHeap","NoCount","Clash","NoDeed","NoText","NoRow","TooMany","Lacking"]
def Df (K:ð) (x:Str) (st:μ):Prop:=∃(f:Í) (Z:Ã) (Y:Option Í) (X:Array (Option Ã)) (kV W pm:Ã) (an:Option Í) (cd V:Ã),Ü K È x=some (some (.ref f))/\K.lookup f=some ⟨Z,Y,.func (Ĕ x x (jV st) (eR st) (bI st) .none kV W pm an cd V),X⟩/\Ņ K cd x=true/\Ą K (.ref f)=true
def Ij {K:ð} {x:Str} {st:μ} {f:Í} {oc:Ã} {od:Option Í} {sl:Array (Option Ã)} {kV dc pm:Ã} {an:Option Í} {cd ct:Ã} (a:Ü K È x=some (some (.ref f))) (l:K.lookup f=some ⟨oc,od,.func (Ĕ x x (jV st) (eR st) (bI st) .none kV dc pm an cd ct),sl⟩) (c:Ņ K cd x=true) (k:Ą K (.ref f)=true):Df K x st:=⟨f,oc,od,sl,kV,dc,pm,an,cd,ct,a,l,c,k⟩
def lq {K:ð} {x:Str} {i:Int} {t:Tok} (e:Ü K È x=some (some (.int i t))):∃t,Ü K È x=some (some (.int i t)):=⟨t,e⟩
def di {K:ð} {h:ā} {mg:Str->Option Ã} {x:Str} {st:μ} {ps:List Str} (X:K.In h) (G:h.Ns È mg) (D:Df K x st) (hb:∀(kV doc pm:Ã) (an:Option Í) (aB ct:Ã) (us:List Ã),us.length=ps.length->bindArgs (Ĕ x x (jV st) (eR st) (bI st) .none kV doc pm an aB ct) ⟨us,[]⟩=pure (ps.zip us)):∃f fd,Gd K mg x st ps f fd:=by
 obtain ⟨f,Z,Y,W,kV,V,pm,an,cd,ct,a,l,c,k⟩:=D;have F:=xY (st:=st) l c k;exact ⟨f,_,ē X G a,F,F.binds hb⟩
def eY {P:List Ã->Prop} (h:∀a0:Ã,P [a0]) (us:List Ã) (hl:us.length=1):P us:=by
 cases us with
 |nil=>simp at hl
 |cons a0 Z =>
 cases Z with
 |cons _ _=>simp at hl
 |nil =>
 exact h a0
def nu {P:List Ã->Prop} (h:∀a0 a1:Ã,P [a0,a1]) (us:List Ã) (hl:us.length=2):P us:=by
 cases us with
 |nil=>simp at hl
 |cons a0 Z =>
 cases Z with
 |nil=>simp at hl
 |cons a1 Y =>
 cases Y with
 |cons _ _=>simp at hl
 |nil =>
 exact h a0 a1
def all_mk {P:Ò} {w:é} {K:ð} {h:ā} {mg:Str->Option Ã} {fa:Í} (X:K.In h) (G:h.Ns È mg) (LR:mg "law"=some (.ref fa))
  (d0:Df K "_law_cell_at" (top 39))
  (d1:Df K "_law_state" (top 40))
  (d2:Df K "_law_take" (top 41))
  (d3:Df K "_law_count" (top 45))
  (d4:Df K "count_of" (top 37))
  (d5:Df K "is_number" (top 22))
  (d6:Df K "is_below" (top 23))
  (d7:Df K "is_count" (top 34))
  (d8:Df K "are_counts" (top 35))
  (d9:Df K "sheets_of" (top 36))
  (vG:Df K "summed" (top 33))
  (vH:Df K "_law_classes" (top 42))
  (vI:Df K "counted" (top 31))
  (vJ:Df K "sheets_in" (top 32))
  (vK:Df K "_law_met" (top 43))
  (vL:Df K "_law_same" (top 44))
  (vM:Df K "_law_counted" (top 47))
  (vN:Df K "_law_sheets" (top 46))
  (dl:Df K "law" (top 48))
  (si:∃t,Ü K È "QUIRE"=some (some (.int (24) t)))
  (rR:∃t,Ü K È "QUIRES"=some (some (.int (20) t)))
  (sP:∃t,Ü K È "REAM"=some (some (.int (480) t)))
  (sj:∃t,Ü K È "REAMS"=some (some (.int (1000) t)))
  (sQ:∃t,Ü K È "MOST"=some (some (.int (479999) t)))
  (rS:∃t,Ü K È "COUNTS"=some (some (.int (20) t)))
  (qU:Ü K È "ValueError"=some none)
  (tM:Ü K È "all"=some none)
  (sR:Ü K È "bool"=some none)
  (tN:Ü K È "int"=some none)
  (qV:Ü K È "isinstance"=some none)
  (tO:Ü K È "len"=some none)
  (sS:Ü K È "list"=some none)
  (tP:Ü K È "max"=some none)
  (tQ:Ü K È "min"=some none)
  (sk:Ü K È "range"=some none)
  (sT:Ü K È "repr"=some none)
  (tR:Ü K È "sum"=some none)
  (sm:Ü K È "tuple"=some none)
  (tU:Ü K È "zip"=some none)
  (xf:fS K aX qP Ii "MouldError"=true) (tf:sD K "law"=true)
  : ∃(c T:Í) (fd:ô),ψ K "law"=some (c,T)/\K.lookup T=none/\(∀(s:Á) (v:Ã),BindsTo s fd ⟨[v],[]⟩ [(MO,v)])/\∀base:ā,K.In base->base.Ns È mg->base.BuiltinsAt mg T->bP P w K mg base bV 10 fa fd [MO] (pK K T):=by
 have Y:=di (ps:=[MO,"_law_k"]) X G d0 fun _ _ _ _ _ _=>nu fun _ _=>rfl;have g1:=di (ps:=[MO,"_law_k"]) X G d1 fun _ _ _ _ _ _=>nu fun _ _=>rfl;have g2:=di (ps:=[MP,MQ]) X G d2 fun _ _ _ _ _ _=>nu fun _ _=>rfl;have g3:=di (ps:=[MP]) X G d3 fun _ _ _ _ _ _=>eY fun _=>rfl;have W:=di (ps:=["many"]) X G d4 fun _ _ _ _ _ _=>eY fun _=>rfl;have V:=di (ps:=["thing"]) X G d5 fun _ _ _ _ _ _=>eY fun _=>rfl;have U:=di (ps:=["thing","many"]) X G d6 fun _ _ _ _ _ _=>nu fun _ _=>rfl;have S:=di (ps:=["thing"]) X G d7 fun _ _ _ _ _ _=>eY fun _=>rfl;have R:=di (ps:=["thing"]) X G d8 fun _ _ _ _ _ _=>eY fun _=>rfl;have Q:=di (ps:=["count"]) X G d9 fun _ _ _ _ _ _=>eY fun _=>rfl;have O:=di (ps:=["counts"]) X G vG fun _ _ _ _ _ _=>eY fun _=>rfl;have N:=di (ps:=["_law_e"]) X G vH fun _ _ _ _ _ _=>eY fun _=>rfl;have M:=di (ps:=["sheets"]) X G vI fun _ _ _ _ _ _=>eY fun _=>rfl;have L:=di (ps:=["count"]) X G vJ fun _ _ _ _ _ _=>eY fun _=>rfl;have J:=di (ps:=["_law_call"]) X G vK fun _ _ _ _ _ _=>eY fun _=>rfl;have I:=di (ps:=[MT,MR]) X G vL fun _ _ _ _ _ _=>nu fun _ _=>rfl;have H:=di (ps:=[MQ]) X G vM fun _ _ _ _ _ _=>eY fun _=>rfl;have E:=di (ps:=[MV]) X G vN fun _ _ _ _ _ _=>eY fun _=>rfl;have D:∃t,mg "QUIRE"=some (.int (24) t):=by obtain ⟨t,e⟩:=si;exact ⟨t,ē X G e⟩
 have C:∃t,mg "QUIRES"=some (.int (20) t):=by obtain ⟨t,e⟩:=rR;exact ⟨t,ē X G e⟩
 have B:∃t,mg "REAM"=some (.int (480) t):=by obtain ⟨t,e⟩:=sP;exact ⟨t,ē X G e⟩
 have A:∃t,mg "REAMS"=some (.int (1000) t):=by obtain ⟨t,e⟩:=sj;exact ⟨t,ē X G e⟩
 have z:∃t,mg "MOST"=some (.int (479999) t):=by obtain ⟨t,e⟩:=sQ;exact ⟨t,ē X G e⟩
 have y:∃t,mg "COUNTS"=some (.int (20) t):=by obtain ⟨t,e⟩:=rS;exact ⟨t,ē X G e⟩
 have x:=ç X G qU;have u:=ç X G tM;have r:=ç X G sR;have q:=ç X G tN;have p:=ç X G qV;have o:=ç X G tO;have n:=ç X G sS;have m:=ç X G tP;have j:=ç X G tQ;have i:=ç X G sk;have g:=ç X G sT;have d:=ç X G tR;have b:=ç X G sm;have Ir:=ç X G tU;obtain ⟨f,oc,od,sl,kV,dc,pm,an,cd,ct,a,l,c,k⟩:=dl;have e:=LR.symm.trans (ē X G a);cases e;have F:=xY (st:=(top 48)) l c k;have GL:Gd K mg "law" (top 48) [MO] _ _:=⟨ē X G a,F,F.binds fun _ _ _ _ _ _=>eY fun _=>rfl⟩;obtain ⟨c0,T0,Z,hC,hT⟩:=ES tf;exact ⟨c0,T0,_,Z,hT,fun s v=>.of_eq rfl,fun base _ _ hB=>ER (GS ⟨x,u,r,q,p,o,n,m,j,i,g,d,b,Ir,df X G xf (by decide +kernel),df X G xf (by decide +kernel),df X G xf (by decide +kernel),df X G xf (by decide +kernel),df X G xf (by decide +kernel),df X G xf (by decide +kernel),df X G xf (by decide +kernel),df X G xf (by decide +kernel),df X G xf (by decide +kernel),df X G xf (by decide +kernel),df X G xf (by decide +kernel),df X G xf (by decide +kernel),df X G xf (by decide +kernel),df X G xf (by decide +kernel),df X G xf (by decide +kernel),df X G xf (by decide +kernel),df X G xf (by decide +kernel),df X G xf (by decide +kernel),df X G xf (by decide +kernel),Ie xf,JB X G xf (by decide +kernel) (by decide +kernel),JC xf (by decide +kernel),An X G xf (by decide +kernel) (by decide +kernel),An X G xf (by decide +kernel) (by decide +kernel),JD X G xf,D,C,B,A,z,y,Y,g1,g2,g3,W,V,U,S,R,Q,O,N,M,L,J,I,H,E⟩ Z hC hB GL a) Z Ed⟩
def walk {l:PySem.W.OpenLaw} {q:Ò} {loose:List Str} {XP:(Str->Option Ã)->ā->Prop} {YP:é->ā->Prop} {d:DefRec} {K:Params->ð} (hn:l.most=some 63) (nZ:d.params.defaults=[]) (hd:(PyProof.Rows.recsOf q).find? (fun e=>e.name==d.name)=some d)
  (hY:∀(w:é) (h:ā),YP w h->(K w.params).In h)
  (F:∀(w:é) (mg:Str->Option Ã) (fa:Í) (h:ā),(K w.params).In h->h.Ns È mg->mg d.name=some (.ref fa) ->
   ∃(c T:Í) (fd:ô),ψ (K w.params) d.name=some (c,T)/\(K w.params).lookup T=none/\(∀(s:Á) (u:Ã),BindsTo s fd ⟨[u],[]⟩ [(MO,u)])/\∀base:ā,(K w.params).In base->base.Ns È mg->base.BuiltinsAt mg T->bP l.prog w (K w.params) mg base bV 10 fa fd [MO] (pK (K w.params) T)) :
  PySem.W.WalkO q loose XP YP l.row.toRowW d [] (fun f vs=>PySem.call f vs) :=
 L2.GH (n:=63) (k:=10) (x:= MO) (CX:=fun _=>bV) (sp:=fun w=>pK (K w.params)) hn (by decide) nZ ⟨rfl,by decide,by decide,rfl⟩ hY hd F (fun _ _ _ a Z Y X V=>⟨a,Z,rfl,V,Y,X,fun _=>rfl⟩) fun _ _ _ _ _ z=>z
end DI.aJ
open PySem PySem.W PyProof.Rows
namespace PySem.W.Fast
def te9846036261483754583:=trivial
def te11720210742887313492:=trivial
def te2069119109402102364:=trivial
def te8403559534865787773:=trivial
def te15500001179271910561:=trivial
def te4678103353419205127:=trivial
end PySem.W.Fast
set_option maxRecDepth 100000 in
set_option maxHeartbeats 0 in
theorem PySem.Challenge.cw_twinmoulds_k45_sheets_counted_holds : PySem.Challenge.rw_twinmoulds_k45_sheets_counted.Holds := by
 w_on;o_law;k_head;(case hw=>w_witness2)
 k_fill
 refine DI.aJ.walk (l:=PySem.Challenge.rw_twinmoulds_k45_sheets_counted) rfl rfl rfl (fun w h Y=>PySem.W.km_in_of Y) ?F
 case F =>
  intro w V U h Z G X;refine' DI.aJ.all_mk Z G X ?d0 ?d1 ?d2 ?d3 ?d4 ?d5 ?d6 ?d7 ?d8 ?d9 ?vG ?vH ?vI ?vJ ?vK ?vL ?vM ?vN ?dl ?si ?rR ?sP ?sj ?sQ ?rS ?qU ?tM ?sR ?tN ?qV ?tO ?sS ?tP ?tQ ?sk ?sT ?tR ?sm ?tU ?xf ?tf
  (case d0|d1|d2|d3|d4|d5|d6|d7|d8|d9|vG|vH|vI|vJ|vK|vL|vM|vN|dl=>refine' DI.aJ.Ij ?a ?l ?c ?k;(case a=>k_is);(case l=>k_is);(case c=>k_is);(case k=>k_is))
  (case si=>refine' DI.aJ.lq ?e;(case e=>k_is))
  (case rR=>refine' DI.aJ.lq ?e;(case e=>k_is))
  (case sP=>refine' DI.aJ.lq ?e;(case e=>k_is))
  (case sj=>refine' DI.aJ.lq ?e;(case e=>k_is))
  (case sQ=>refine' DI.aJ.lq ?e;(case e=>k_is))
  (case rS=>refine' DI.aJ.lq ?e;(case e=>k_is))
  (case qU|tM|sR|tN|qV|tO|sS|tP|tQ|sk|sT|tR|sm|tU=>k_is)
  (case xf=>kernel_rfl)
  (case tf=>kernel_rfl)
