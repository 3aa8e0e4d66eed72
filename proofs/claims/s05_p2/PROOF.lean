import PyProof.Rows.All
import Wide.All
import OpenK.AllK
import Wide.FinOn
import PyProof.EqAt
import PyProof.EqKinds
import PyProof.TupleCall
import KE.BitLaws
import Open.SpecLaws
import KE.OsHead
import KE.OsGo
import KE.KLam
import KE.KNestM
import PyProof.AutoSeq1
import PyProof.Rows.FactsT3
import PyProof.Rows.FStr
import PyProof.Draws
import PyProof.EnumIter
import PyProof.StationsW
import PyProof.ExcInit
import PyProof.InstStoreFacts
import PyProof.RulesAs
import PyProof.ExcBaseAll.Exception
import PyProof.ExcArgsOwn
import PyProof.ExcAttrAll.Exception
import KE.KSortKeySt
import PyProof.Rows.CallKwBuiltin
import KE.KSortTupG
import PyProof.EnumFor
import PyProof.StrOps2
import PySem.Challenge.RW_lutesettings_s05_of
set_option bootstrap.genMatcherCode false
set_option compiler.postponeCompile true
set_option genSizeOf false
set_option linter.all false
set_option maxRecDepth 100000
set_option Elab.async false
set_option maxHeartbeats 2000000
open PySem renaming Value->FO,Addr->FP,wpAny_bind->FQ,Shared->FS,sizeLine->FT,Program->FU,wpAny_pure->FV,wpAny->FW,mainGlobals->FX,starEach->FY,FuncData->FZ,World->F0,Expr->F3,Around->F4,wpAny_field->F5,Stmt->F6,NameKind->F7,wpAny_setField_rec->F8,wpAny_mono->F9,cellsFrom->Ga,DictEntry->Gb,wpAny_Call_Name_kw->Gc,sysModules->Gd,wpAny_newObj_type->Ge,bootBuiltins->Gf,wpAny_truthy_bool->Gg
open PySem.W renaming Frag->Gh,nsIn->As,keepIn->AG,findIn->AV,fnOf->A5,mg_none_of->A8,codeIn->Bf,tabIn->Bl,mg_of->Bs,emptyDict->Bt,instObj->BL,isFn->BR,codeHdIn->Ca,callWith_K->Ck,plainGet->Cr,hasDictIn->CU,cellsFrom_some->Dc,makesIn->Df,tabObj->Dl,lookIn->Dm,plainGet_of->Dx,plainOver->DY,methodObj->DZ,takerIn->D4,length_le_weightAllW->D5,kla_obj->D6,methodCall_KW->Es,callWith_K0->EG,codeRec_of->EL,specialIn->ER,handedIn->EZ,noTabs->Fn,kla_fn->Fo
open List renaming length_map->Aa,length_append->Ac,length_cons->Ad,getElem?_eq_getElem->Ae,getElem?_eq_some_iff->Ai,mem_singleton->Aj,getElem?_map->Al,map_append->An,mem_cons->Ao,size_toArray->Aq,mem_cons_of_mem->Aw,length_take->Ax,getElem?_append_right->Ay,length_drop->Az,mem_cons_self->AE,getElem?_append_left->AF,all_eq_true->AI,mem_append->AK,map_cons->AM,mem_of_getElem?->AO,lookup->AQ,filter_cons->AS,append_assoc->AT,take_length->AU,append_nil->AX,mem_map->AZ,map_map->A0,mem_append_right->A7,replicate->Ba,lookup_cons->Bb,length_singleton->Be,take_succ->Bh,length_nil->Bj,mem_append_left->Bp,pairwise_cons->By,getElem_mem->Bz,drop_drop->BD,range->BG,drop_succ_cons->BI,find?_cons->BO,take_of_length_le->BX,mem_filterMap->BY,length_mapIdx->BZ,eq_nil_or_concat->B6,concat_eq_append->B7,take_add_one->B8,getElem?_zip_eq_some->Cf,getElem?_eq_none_iff->Cg,findIdx?_eq_some_iff_findIdx_eq->Ci,of_mem_zip->Cn,length_zipIdx->Co,length_eq_zero_iff->Cp,pairwise_map->Cq,getElem?_eq_none->Cw,any_cons->Cz,all_cons->CA,getLast?_append->CC,getElem?_zipIdx->CF,nodup_cons->CH,mem_map_of_mem->CJ,map_congr_left->CK,filterMap_cons->CM,zip_cons_cons->CV,getD_eq_getElem?_getD->CW,drop_zero->CY,drop_eq_getElem_cons->C0,pairwise_singleton->Dh,getElem?_set_self->Dk,mem_filter->Dq,filter_map->Dr,all_append->Ds,pairwise_reverse->Dv,getElem?_set_ne->DE,forIn_nil->DH,length_reverse->DM,getElem_of_mem->DO,not_mem_nil->Eb,mem_reverse->Ec,map_fst_zip->Ed,length->Eh,length_zip->El,forIn_cons->Em,pairwise_iff_getElem->Ep,getElem?_take_of_lt->Ev,findIdx?->Ew,getElem?_replicate->EC,map_nil->EJ,drop_eq_nil_of_le->EK,length_replicate->EN,getElem?_reverse->EO,pairwise_append->EV,idxOf?->EW,toList_toArray->E7,takeWhile_cons->E8,replicate_succ->E9,map_inj_right->Fj,getElem?_drop->Fk,take_sublist->Ft,find?_isSome->Fu,zipIdx_cons->Fy,drop_length->Fz,cons_append->FA,zip_append->FC,zipIdx_nil->FD,length_set->FE,foldl_cons->FF,mem_range->FI,map->FJ,find?_map->FK,sum_cons->FM
open PySem.Heap renaming get?_push_of_some->Ab,lt_size->Am,get?_push_size->Au,size_push->AL,get?_update_other->Bu,get?_update_self->Bx,get?_none_of_le->DJ,get?_update_ne->DQ
open LuteTab renaming want->Af,lengths->AJ,lengthSign->AR,lengthAt->A6,slashes->BE,germanStops->BF,again->BW,bassesAt->Cv,read->CG,numberAt->C5,linesAt->Dg,sixAt->Dz,germanAt->D3,fretAt->Eg,frenchBassAt->EB,crossings->EU,capitals->E6,stopsAt->Fi,kindAt->Fs,ascii->Fx
open Bool renaming false_ne_true->Ag,and_eq_true->Av,noConfusion->AY,or_eq_true->Bn,eq_iff_iff->BH,not_eq_true->BJ,true_and->CB,not_eq_true'->C6,and_true->Ex,or_eq_false_iff->EX,and_eq_true_iff->EY,false_eq_true->Fm,or_false->FN
open Nat renaming le_refl->Ah,le_trans->Ak,lt_of_lt_of_le->Ap,lt_of_le_of_lt->Ar,zero_le->AD,ne_of_lt->AH,gcd->AN,dvd_trans->AW,min_le_right->Bc,mul_le_mul_right->Bi,lt_irrefl->Bk,gcd_dvd_right->Bm,pow_add->Bq,mul_div_cancel_left->Br,lcm->Bw,gcd_dvd_left->BA,le_of_lt->BB,add_right_comm->BK,not_lt_zero->BP,gcd_mul_left->BS,dvd_lcm_left->BU,sub_self->B4,le_add_right->Ce,le_of_mul_le_mul_left->Ch,ne_of_gt->Cs,mul_succ->Ct,mul_le_mul->Cu,toDigits->CO,pow_succ->CP,le_of_eq->CQ,le_of_succ_le->C7,lcm_one_right->C8,dvd_lcm_right->C9,dvd_gcd->Da,lt_succ_self->Di,lcm_one_left->Dj,zero_add->Dn,mul_comm->Do,min_le_left->Dt,min_eq_left->Du,mul_one->DK,mul_le_mul_left->D1,lt_succ_of_lt->D8,succ_ne_zero->Ee,mod_eq_of_lt->Ef,pow_mul->Ej,lcm_pos->Ek,eq_of_mul_eq_mul_left->Eu,le_of_dvd->Ey,gcd_pos_of_pos_right->Ez,digitChar->EA,toDigits_of_lt_base->EH,gcd_pos_of_pos_left->EI,le_mul_of_pos_left->EM,pos_of_dvd_of_pos->ET,pow_le_pow_right->E3,mul_pos->E4,le_succ->E5,pow_le_pow_left->Fg,lt_mul_div_succ->Fh,pos_of_ne_zero->Fp,lt_of_le_of_ne->Fq,succ_le_succ->FB,lt_succ_iff->FH,mul_div_le->FL
open PySem.F renaming type_list_append->AA,slot_list_append->AB,plainAttrs_list->AC,slot_dict_getitem->CN,args_tuple_add_2->CZ,entry_tuple_add->C4,slot_tuple_add->Dd,slot_dict_setdefault->D7
open UInt8 renaming toNat_inj->A9,ofNat->Bg,le_iff_toNat_le->Bv,toNat_ofNat'->DX,ofNat_toNat->Fe
open Int renaming natAbs_natCast->Bo,natCast_ediv->BV,natCast_mul->B5,gcd->B9,natAbs_mul->Cc,mul_ediv_cancel'->Cd,lt_of_mul_lt_mul_left->Cj,natAbs_dvd_natAbs->Cy,toNat_natCast->Db,mul_ediv_cancel_left->De,zero_add->D9,le_of_lt->Ea,mul_one->Fa,ofNat_dvd_left->Fv
open PyProof.Rows renaming callWith_type1->BC,slot_tuple_getitem->Cm,lexLt->En
open Option renaming isSome_map->BN,map_map->Ei,isSome_iff_exists->Eo,map_eq_none_iff->Et,isSome_some->ES,getD_none->Ff
open Array renaming length_toList->BQ,getElem?_eq_some_iff->Cb,getElem_mem_toList->Er,toList->EE,getElem?_eq_none->EF,getElem_toList->EQ,find?_toList->Fc,append_assoc->Fd,all_toList->Fw,size_zip->FG
open PySem.Calls renaming evalArgs_plain->Dy,callWith_builtin->ED,spliced_cons->Fb,spliced_nil->Fl
theorem Gi.{u}{c:Prop}{h:Decidable c}(n:¬c){α:Sort u}{t e:α}:ite c t e=e:=if_neg n
theorem Gj.{u}{c:Prop}{h:Decidable c}(n:c){α:Sort u}{t e:α}:ite c t e=t:=if_pos n
theorem len_1{α:Type}{P:List α->Prop}(h:∀ a,P [a]):∀us:List α,us.length=1->P us
|[a],_=>h a
theorem len_2{α:Type}{P:List α->Prop}(h:∀ a b,P [a,b]):∀us:List α,us.length=2->P us
|[a,b],_=>h a b
theorem len_3{α:Type}{P:List α->Prop}(h:∀ a b c,P [a,b,c]):∀us:List α,us.length=3->P us
|[a,b,c],_=>h a b c
theorem len_4{α:Type}{P:List α->Prop}(h:∀ a b c d,P [a,b,c,d]):∀us:List α,us.length=4->P us
|[a,b,c,d],_=>h a b c d
theorem len_5{α:Type}{P:List α->Prop}(h:∀ a b c d e,P [a,b,c,d,e]):∀us:List α,us.length=5->P us
|[a,b,c,d,e],_=>h a b c d e
namespace L2
open PySem PySem.Spec PyProof.Rows
abbrev Key:=Sum Int Str
def OR:Key->FO->Bool
 |.inl k,v=>FO.isInt k v
 |.inr x,v=>FO.isStrOf x v
def AaK(w:F0):Key->Int
 |.inl k=>hashInt k
 |.inr x=>hashStr w x
theorem Ht:∀{k:Key} {v:FO},OR k v=true->(∃i t,k=Sum.inl i/\v=FO.int i t)\/(∃x t,k=Sum.inr x/\v=FO.str x t)
 |.inl i,v,h=>by obtain⟨t,e⟩:=FO.isInt_shape (k:=i) (v:=v) h;exact .inl ⟨i,t,rfl,e⟩
 |.inr x,v,h=>by obtain⟨t,e⟩:=FO.isStrOf_shape (x:=x) (v:=v) h;exact .inr ⟨x,t,rfl,e⟩
theorem SX(i:Int)(t:Tok):OR (.inl i) (.int i t)=true:=by simp[OR,FO.isInt]
theorem TW(x:Str)(t:Tok):OR (.inr x) (.str x t)=true:=by simp[OR,FO.isStrOf]
theorem YN(a b:Int):decide ((Sum.inl a:Key)=Sum.inl b)=(a==b):=by
 by_cases e:a=b
 ·subst e;simp
 ·have h:¬(Sum.inl a:Key)=Sum.inl b:=fun q=>e (Sum.inl.inj q);rw[decide_eq_false h];exact(beq_eq_false_iff_ne.mpr e).symm
theorem X1(a b:Str):decide ((Sum.inr a:Key)=Sum.inr b)=decide (a=b):=by
 by_cases e:a=b
 ·subst e;simp
 ·have h:¬(Sum.inr a:Key)=Sum.inr b:=fun q=>e (Sum.inr.inj q);rw[decide_eq_false h,decide_eq_false e]
theorem Za(a:Int)(b:Str):decide ((Sum.inl a:Key)=Sum.inr b)=false:=decide_eq_false (fun q=>nomatch q)
theorem Yh(a:Str)(b:Int):decide ((Sum.inr a:Key)=Sum.inl b)=false:=decide_eq_false (fun q=>nomatch q)
def G0(prog:FU)(w:F0):PySem.KeyKind prog w Key where
 is:=OR
 hash:=AaK w
 inj:=fun v a b ha hb=>by
  rcases Ht ha with ⟨i,t,rfl,rfl⟩ | ⟨x,t,rfl,rfl⟩
  ·rcases Ht hb with ⟨j,u,rfl,e⟩ | ⟨y,u,rfl,e⟩
   ·injection e with e1 _;rw[e1]
   ·exact nomatch e
  ·rcases Ht hb with ⟨j,u,rfl,e⟩ | ⟨y,u,rfl,e⟩
   ·exact nomatch e
   ·injection e with e1 _;rw[e1]
 byValue:=fun k v h=>by rcases Ht h with ⟨i,t,rfl,rfl⟩ | ⟨x,t,rfl,rfl⟩ <;> rfl
 pyHash:=fun hv h=>by
  rcases Ht hv with ⟨i,t,rfl,rfl⟩ | ⟨x,t,rfl,rfl⟩
  ·exact wpAny_pyHash_int h
  ·exact wpAny_pyHash_str h
 eqBool:=fun hu hv h=>by
  rcases Ht hu with ⟨i,t,rfl,rfl⟩ | ⟨x,t,rfl,rfl⟩
  ·rcases Ht hv with ⟨j,u,rfl,rfl⟩ | ⟨y,u,rfl,rfl⟩
   ·rw[YN] at h;exact wpAny_eqBool_int h
   ·rw[Za] at h;exact SeqAt.EqAt.int_str i t y u _ _ _ _ h
  ·rcases Ht hv with ⟨j,u,rfl,rfl⟩ | ⟨y,u,rfl,rfl⟩
   ·rw[Yh] at h;exact SeqAt.EqAt.str_int x t j u _ _ _ _ h
   ·rw[X1] at h;exact wpAny_eqBool_str h
 «strs»:=fun k x t v h=>by
  rcases Ht h with ⟨i,u,rfl,e⟩ | ⟨y,u,rfl,e⟩
  ·exact nomatch e
  ·injection e with e1 _;subst e1;cases v <;> rfl
theorem IM(prog:FU)(w:F0)(i:Int)(t:Tok):(G0 prog w).is (.inl i) (.int i t)=true:=SX i t
theorem QN(prog:FU)(w:F0)(x:Str)(t:Tok):(G0 prog w).is (.inr x) (.str x t)=true:=TW x t
inductive V where
 |non | bl (b:Bool) | int (i:Int) | str (x:Str) | byt (b:Array UInt8) | flt (b:UInt64) | ref (a:FP) | ty (n:String)
 deriving DecidableEq
local macro_rules|`(command|def $n:declId $s:optDeclSig $v:declVal)=>`(command|noncomputable def $n:declId $s:optDeclSig $v:declVal)
local macro_rules|`(command|abbrev $n:declId $s:optDeclSig $v:declVal)=>`(command|noncomputable abbrev $n:declId $s:optDeclSig $v:declVal)
def RelV:V->FO->Prop
 |.non,u=>u=FO.none
 |.bl b,u=>u=FO.bool b
 |.int i,u=>∃t,u=FO.int i t
 |.str x,u=>∃t,u=FO.str x t
 |.byt b,u=>∃t,u=FO.bytes b t
 |.flt b,u=>∃t,u=FO.float b t
 |.ref a,u=>u=FO.ref a
 |.ty n,u=>u=FO.type n
abbrev Vals:List V->List FO->Prop:=Paired RelV
theorem Vals.length{xs:List V}{us:List FO}(r:Vals xs us):xs.length=us.length:=Paired.length r
theorem Vals.get:∀{xs:List V} {us:List FO} {i:Nat} {x:V},Vals xs us->xs[i]?=some x->∃u,us[i]?=some u/\RelV x u
 |_,_,_,_,.nil,e=>by simp at e
 |_,_,0,_,.cons r _,e=>by simp at e;subst e;exact⟨_,rfl,r⟩
 |_,_,i+1,x,.cons _ t,e=>by obtain⟨u,h1,h2⟩:=Vals.get (i:=i) (x:=x) t (by simpa using e);exact⟨u,by simpa using h1,h2⟩
theorem Vals.set{x:V}{u:FO}(r:RelV x u):∀{xs:List V} {us:List FO} (i:Nat),Vals xs us->Vals (xs.set i x) (us.set i u)
 |_,_,_,.nil=>.nil
 |_,_,0,.cons _ t=>.cons r t
 |_,_,i+1,.cons q t=>.cons q (Vals.set r i t)
theorem Vals.append:∀{xs ys:List V} {us ws:List FO},Vals xs us->Vals ys ws->Vals (xs++ys) (us++ws)
 |_,_,_,_,.nil,s=>s
 |_,_,_,_,.cons r t,s=>.cons r (Vals.append t s)
theorem Vals.take:∀{xs:List V} {us:List FO} (n:Nat),Vals xs us->Vals (xs.take n) (us.take n)
 |_,_,0,_=>.nil
 |_,_,_+1,.nil=>.nil
 |_,_,n+1,.cons r t=>.cons r (Vals.take n t)
theorem Vals.drop:∀{xs:List V} {us:List FO} (n:Nat),Vals xs us->Vals (xs.drop n) (us.drop n)
 |_,_,0,r=>r
 |_,_,_+1,.nil=>.nil
 |_,_,n+1,.cons _ t=>Vals.drop n t
def RelO:Option V->Option FO->Prop
 |some v,some u=>RelV v u
 |none,none=>True
 |_,_=>False
def KV{κ:Type}:List (κ×V)->List (κ×FO)->Prop:=Paired fun(p:κ×V) (q:κ×FO)=>p.1=q.1/\RelV p.2 q.2
def kV:Key->V
 |.inl i=>.int i
 |.inr x=>.str x
inductive HO where
 |lst (xs:List V)
 |tup (xs:List V)
 |dK (kvs:List (Key×V)) | dT (kvs:List (List Key×V))
 |set (S:Int->Bool) (n:Nat)
 |ins (C dx:FP) (fs:List (Str×V))
 |own (x:FP)
 |xd (fs:List (Str×V))
 |met (f x:FP)
 |rng (lo hi:Int)
 |frz (o:Obj) (u:HO)
 |tbl (ps:Array FO)
 |ext (φ:Heap->Prop)
abbrev Hp:=FP->Option HO
def upd(H:Hp)(a:FP)(o:HO):Hp:=fun b=>if b=a then some o else H b
theorem Gn{H:Hp}{a:FP}{o:HO}:upd H a o a=some o:=by unfold upd;rw[Gj rfl]
theorem Gr{H:Hp}{a b:FP}{o:HO}(h:b≠a):upd H a o b=H b:=by unfold upd;rw[Gi h]
theorem Se{H:Hp}{a:FP}{o u:HO}:upd (upd H a o) a u=upd H a u:=by funext b;unfold upd;split <;> rfl
theorem GE{H:Hp}{a b:FP}{o u:HO}(h:H a=some o)(h':H b=some u)(d:o≠u):a≠b:=by intro e;subst e;rw[h] at h';exact d (Option.some.inj h')
theorem Gs{H:Hp}{a b:FP}{o:HO}(h:H a=some o)(h':H b=none):a≠b:=by intro e;subst e;rw[h] at h';cases h'
section
variable(P:FU)(w:F0)
def ObjOk(H:Hp)(h:Heap)(a:FP):HO->Prop
 |.lst xs=>xs.length<=FT/\∃(its:List FO) (n:Nat),Vals xs its/\h.get? a=some { cls:=.type "list",data:=.seq its.toArray n }
 |.tup xs=>xs.length<=FT/\∃its:List FO,Vals xs its/\IsTup h a its.toArray
 |.dK kvs=>kvs.length<=FT/\(a==Gd)=false/\∃vs,KV kvs vs/\h.DictOf (G0 P w) a vs
 |.dT kvs=>kvs.length<=FT/\(a==Gd)=false/\∃xs:List (List Key×FP×FO),
   Paired (fun(p:List Key×V) (q:List Key×FP×FO)=>p.1=q.1/\H q.2.1=some (.tup (p.1.map kV))/\RelV p.2 q.2.2) kvs xs ∧
   ∃o es ep,h.get? a=some o/\o.ExactDict/\o.data=.dict es ep/\es.toList=xs.map (entryOfKey (tupleKind (G0 P w)))/\(xs.map (·.1)).Nodup
 |.set S n=>h.SetOf (intKind P w) a S n
 |.ins C dx fs=>H dx=some (.own a)/\fs.length<=1000/\dx≠a/\h.get? a=some (BL C dx) ∧
   ∃mA,h.Ns1 dx mA/\(∀f,RelO (fs.lookup f) (mA f))/\PySem.Within mA (fs.map (·.1))
 |.own _=>∃o,h.get? a=some o
 |.xd fs=>∃mA,h.Ns1 a mA/\∀f,RelO (fs.lookup f) (mA f)
 |.rng lo hi=>∃t u v,h.get? a=some { cls:=.type "range",data:=.fields #[.int lo t,.int hi u,.int 1 v] }
 |.frz o u=>h.get? a=some o/\ObjOk H h a u
 |.tbl ps=>h.get? a=some { cls:=.none,data:=.fields ps }
 |.met f x=>h.get? a=some (DZ (.ref f) (.ref x))
 |.ext φ=>φ h/\(∃o,h.get? a=some o)/\∀h1 h2:Heap,φ h1->(∀o,h1.get? a=some o->h2.get? a=some o)->φ h2
def HOk(H:Hp)(h:Heap):Prop:=∀a o,H a=some o->ObjOk P w H h a o
end
section
variable{P:FU}{w:F0}{H H':Hp}{h h':Heap}{a:FP}{o:HO}
theorem ObjOk.lt(x:ObjOk P w H h a o):a<h.objs.size:=by
 cases o with
 |lst xs=>obtain⟨_,_,_,_,e⟩:=x;exact Am e
 |tup xs=>obtain⟨_,_,_,p⟩:=x;exact p.lt
 |dK kvs=>obtain⟨_,_,_,_,o,_,_,e,_⟩:=x;exact Am e
 |dT kvs=>obtain⟨_,_,_,_,o,_,_,e,_⟩:=x;exact Am e
 |set S n=>obtain⟨o,_,_,_,e,_⟩:=x;exact Am e
 |ins C dx fs=>obtain⟨_,_,_,e,_⟩:=x;exact Am e
 |own y=>obtain⟨_,e⟩:=x;exact Am e
 |xd fs=>obtain⟨_,⟨_,_,_,e,_⟩,_⟩:=x;exact Am e
 |rng lo hi=>obtain⟨_,_,_,e⟩:=x;exact Am e
 |frz ob u=>obtain⟨e,_⟩:=x;exact Am e
 |tbl ps=>exact Am (show h.get? a=some _ from x)
 |met f y=>exact Am (show h.get? a=some _ from x)
 |ext φ=>obtain⟨_,⟨_,e⟩,_⟩:=x;exact Am e
theorem Paired.mapP{α β:Type}{F G:α->β->Prop}:∀{l₁:List α} {l₂:List β},Paired F l₁ l₂->(∀a b,F a b->G a b)->Paired G l₁ l₂
 |_,_,.nil,_=>.nil
 |_,_,.cons r t,f=>.cons (f _ _ r) (Paired.mapP t f)
theorem ObjOk.stay(x:ObjOk P w H h a o)(k:∀b u,(b=a\/H b=some (.own a))->h.get? b=some u->h'.get? b=some u)
  (ho:∀b,H b=some (.own a)->H' b=some (.own a)) (ht:∀b xs,H b=some (.tup xs)->H' b=some (.tup xs)):ObjOk P w H' h' a o:=by
 induction o with
 |lst xs=>obtain⟨z,its,n,r,e⟩:=x;exact⟨z,its,n,r,k _ _ (.inl rfl) e⟩
 |tup xs=>obtain⟨z,its,r,ob,e,c⟩:=x;exact⟨z,its,r,ob,k _ _ (.inl rfl) e,c⟩
 |dK kvs=>obtain⟨z,y,vs,r,ob,es,ep,e,c⟩:=x;exact⟨z,y,vs,r,ob,es,ep,k _ _ (.inl rfl) e,c⟩
 |dT kvs=>obtain⟨z,y,xs,r,ob,es,ep,e,c⟩:=x;exact⟨z,y,xs,Paired.mapP r fun p q z=>⟨z.1,ht _ _ z.2.1,z.2.2⟩,ob,es,ep,k _ _ (.inl rfl) e,c⟩
 |set S n=>obtain⟨ob,es,ep,t,e,c⟩:=x;exact⟨ob,es,ep,t,k _ _ (.inl rfl) e,c⟩
 |ins C dx fs=>obtain⟨d,z,ne,e,mA,⟨od,es,ep,e2,c⟩,r⟩:=x;exact⟨ho _ d,z,ne,k _ _ (.inl rfl) e,mA,⟨od,es,ep,k _ _ (.inr d) e2,c⟩,r⟩
 |own y=>obtain⟨ob,e⟩:=x;exact⟨ob,k _ _ (.inl rfl) e⟩
 |xd fs=>obtain⟨mA,⟨od,es,ep,e,c⟩,r⟩:=x;exact⟨mA,⟨od,es,ep,k _ _ (.inl rfl) e,c⟩,r⟩
 |rng lo hi=>obtain⟨t,u,v,e⟩:=x;exact⟨t,u,v,k _ _ (.inl rfl) e⟩
 |frz ob u ih=>obtain⟨e,q⟩:=x;exact⟨k _ _ (.inl rfl) e,ih q⟩
 |tbl ps=>have e:h.get? a=some { cls:=.none,data:=.fields ps }:=x;show h'.get? a=some { cls:=.none,data:=.fields ps };exact k a _ (.inl rfl) e
 |met f y=>have e:h.get? a=some (DZ (.ref f) (.ref y)):=x;show h'.get? a=some (DZ (.ref f) (.ref y));exact k a _ (.inl rfl) e
 |ext φ=>obtain⟨p,⟨o,e⟩,st⟩:=x;exact⟨st _ _ p fun o q=>k _ _ (.inl rfl) q,⟨o,k _ _ (.inl rfl) e⟩,st⟩
theorem HOk.lt(x:HOk P w H h)(e:H a=some o):a<h.objs.size:=(x a o e).lt
theorem HOk.fresh(x:HOk P w H h)(e:h.objs.size<=a):H a=none:=by
 cases q:H a with
 |none=>rfl
 |some u=>exact absurd (Ap (x.lt q) e) (Bk _)
theorem HOk.kept(x:HOk P w H h)(k:∀b u,h.get? b=some u->h'.get? b=some u):HOk P w H h':=fun a o e=>(x a o e).stay (fun b u _ q=>k b u q) (fun _ q=>q) fun _ _ q=>q
theorem HOk.laid(x:HOk P w H h)(k:∀b u,h.get? b=some u->h'.get? b=some u)(hp:h.objs.size<=a)(new:ObjOk P w (upd H a o) h' a o):HOk P w (upd H a o) h':=fun b u e=>by
 have hn:=x.fresh hp;by_cases hb:b=a
 ·subst hb;rw[Gn] at e;cases e;exact new
 ·rw[Gr hb] at e;exact(x b u e).stay (fun c v _ q=>k c v q) (fun c q=>by rw[Gr (Gs q hn)];exact q) fun c xs q=>by rw[Gr (Gs q hn)];exact q
end
def Rd(H:Hp)(a:FP)(u:HO):Prop:=H a=some u\/∃o,H a=some (.frz o u)
theorem Rd.ok{P:FU}{w:F0}{H:Hp}{h:Heap}{a:FP}{u:HO}(r:Rd H a u)(x:HOk P w H h):ObjOk P w H h a u:=by
 rcases r with r | ⟨o,r⟩
 ·exact x a u r
 ·obtain⟨_,q⟩:=x a _ r;exact q
def Mut:Option HO->Prop
 |some (.lst _)=>True
 |some (.dK _)=>True
 |some (.dT _)=>True
 |some (.set _ _)=>True
 |some (.ins _ _ _)=>True
 |some (.ext _)=>True
 |_=>False
section
variable{P:FU}{w:F0}{H:Hp}{h h':Heap}{x e:FP}{o':HO}
theorem HOk.write(ok:HOk P w H h)(mu:Mut (H x))(he:e=x\/H e=some (.own x))(k:∀b u,b≠e->h.get? b=some u->h'.get? b=some u)(heo:∃u,h'.get? e=some u)
  (new:ObjOk P w (upd H x o') h' x o'):HOk P w (upd H x o') h':=fun b u q=>by
 have nown:∀c y,H c=some (.own y)->c≠x:=fun c y r z=>by subst z;rw[r] at mu;exact mu
 have ntup:∀c xs,H c=some (.tup xs)->c≠x:=fun c xs r z=>by subst z;rw[r] at mu;exact mu
 by_cases hb:b=x
 ·subst hb;rw[Gn] at q;cases q;exact new
 ·rw[Gr hb] at q;by_cases hbe:b=e
  ·have q':H b=some (.own x):=by
    rcases he with z | z
    ·exact absurd (hbe.trans z) hb
    ·rw[hbe];exact z
   rw[q] at q';cases q';obtain⟨v,hv⟩:=heo;exact⟨v,by rw[hbe];exact hv⟩
  ·refine(ok b u q).stay (fun c v hc r=>k c v ?_ r) (fun c r=>by rw[Gr (nown c b r)];exact r) fun c xs r=>by rw[Gr (ntup c xs r)];exact r
   rcases hc with rfl | hc
   ·exact hbe
   ·rintro rfl;rcases he with z | z
    ·exact nown c b hc z
    ·rw[hc] at z;cases z;exact hb rfl
end
structure Un(fs ex:List FP)(H H':Hp)(h h':Heap):Prop where
 keep:∀b o,h.get? b=some o->H b=none->b∉fs->b∉ex->h'.get? b=some o
 slot:∀b o,h.get? b=some o->H b=none->b∈fs->b∉ex->∃sl,h'.get? b=some { o with slots:=sl }
 free:∀b o,h.get? b=some o->H b=none->b∉ex->H' b=none
 there:∀b o,h.get? b=some o->b∉ex->∃o',h'.get? b=some o'
 tups:∀b xs,H b=some (.tup xs)->H' b=some (.tup xs)
 frzs:∀b o u,H b=some (.frz o u)->H' b=some (.frz o u)
 tbls:∀b ps,H b=some (.tbl ps)->∃more,H' b=some (.tbl (ps++more))
section
variable{fs fs' ex ex':List FP}{H H1 H2:Hp}{h h1 h2 h':Heap}{a x e:FP}{o:HO}
theorem Un.any(u:Un fs ex H H1 h h1){b:FP}{ob:Obj}(q:h.get? b=some ob)(n:H b=none)(hx:b∉ex):∃sl,h1.get? b=some { ob with slots:=sl }:=by
 by_cases hb:b∈fs
 ·exact u.slot b ob q n hb hx
 ·exact⟨ob.slots,u.keep b ob q n hb hx⟩
theorem Un.kept(k:∀b u,h.get? b=some u->h'.get? b=some u):Un fs ex H H h h':=⟨fun b ob q _ _ _=>k b ob q,fun b ob q _ _ _=>⟨ob.slots,k b ob q⟩,fun _ _ _ n _=>n,fun b ob q _=>⟨ob,k b ob q⟩,fun _ _ q=>q,fun _ _ _ q=>q,fun _ ps q=>⟨#[],by rw[q];simp⟩⟩
theorem Un.refl:Un fs ex H H h h:=Un.kept fun _ _ q=>q
theorem Un.laid(k:∀b u,h.get? b=some u->h'.get? b=some u)(hp:h.objs.size<=a)(hn:H a=none):Un fs ex H (upd H a o) h h' where
 keep:=fun b u q _ _ _=>k b u q
 slot:=fun b u q _ _ _=>⟨u.slots,k b u q⟩
 free:=fun b u q n _=>by rw[Gr (AH (Ap (Am q) hp))];exact n
 there:=fun b u q _=>⟨u,k b u q⟩
 tups:=fun b xs q=>by rw[Gr (Gs q hn)];exact q
 frzs:=fun b u xs q=>by rw[Gr (Gs q hn)];exact q
 tbls:=fun b ps q=>⟨#[],by rw[Gr (Gs q hn),q];simp⟩
theorem Un.write(mu:Mut (H x))(he:e=x\/H e=some (.own x))(k:∀b u,b≠e->h.get? b=some u->h'.get? b=some u)(heo:∃u,h'.get? e=some u):Un fs ex H (upd H x o) h h':=by
 have hx:∀b,H b=none->b≠x:=fun b n z=>by subst z;rw[n] at mu;exact mu
 have hb:∀b,H b=none->b≠e:=fun b n z=>by
  subst z;rcases he with r | r
  ·exact hx b n r
  ·rw[n] at r;cases r
 have hm:∀b u,H b=some u->¬Mut (some u)->b≠x:=fun b u q nm z=>by subst z;rw[q] at mu;exact nm mu
 refine⟨fun b u q n _ _=>k b u (hb b n) q,fun b u q n _ _=>⟨u.slots,k b u (hb b n) q⟩,fun b u q n _=>by rw[Gr (hx b n)];exact n,fun b u q _=>?_,
  fun b xs q=>by rw[Gr (hm b _ q fun z=>z)];exact q,fun b u xs q=>by rw[Gr (hm b _ q fun z=>z)];exact q,fun b ps q=>⟨#[],by rw[Gr (hm b _ q fun z=>z),q];simp⟩⟩
 by_cases hbe:b=e
 ·subst hbe;exact heo
 ·exact⟨u,k b u hbe q⟩
end
def trk(h:Heap)(H:Hp):List FP:=(BG h.objs.size).filter fun a=>(H a).isSome
def N6(h:Heap)(H:Hp):Heap:=PySem.W.hideAll h (trk h H)
theorem TM(h:Heap)(H:Hp):(N6 h H).objs.size=h.objs.size:=PySem.W.hideAll_size _ _
theorem VS{h:Heap}{H:Hp}{b:FP}{o:Obj}(e:h.get? b=some o)(n:H b=none):(N6 h H).get? b=some o:=PySem.W.hideAll_get _ e fun hm=>by have q:(H b).isSome=true:=(Dq.mp hm).2;rw[n] at q;simp at q
theorem V8{h:Heap}{H:Hp}{b:FP}{o:Obj}(e:(N6 h H).get? b=some o):h.get? b=some o/\H b=none:=by
 have e':h.get? b=some o:=PySem.W.of_hideAll (trk h H) e;refine⟨e',?_⟩;cases q:H b with
 |none=>rfl
 |some x=>have hm:b∈trk h H:=Dq.mpr ⟨FI.mpr (Am e'),by simp[q]⟩;have z:(N6 h H).get? b=none:=PySem.W.hideAll_none (trk h H) hm;rw[z] at e;cases e
structure Mod(K:Gh)(mg:Str->Option FO)(base:Heap):Prop where
 kin:K.In base
 glob:base.Ns FX mg
 blt:∃mb,base.Ns builtinsNs mb/\∀x:Str,x≠"__name__"->mb x=Gf x
 nolimit:base.NoLimit
structure Cx where
 prog:FU
 w:F0
 K:Gh
 mg:Str->Option FO
 base:Heap
 A:F4
 N:List Str
 s_0:FS
 H_0:Hp
 env:Env
 outer:List Env
 stack:List Env
 ex:List FP
 fn:Str->Bool
 calm:Bool
 pn:List (FP×Obj)
 xe:FO->FS->Prop
def frs(l:List Env):List FP:=l.filterMap (·.frame)
abbrev Cx.fs(X:Cx):List FP:=frs X.outer
def Vis(sc:Scope)(x:Str):Prop:=sc.names.lookup x=some .local\/sc.names.lookup x=some .cell\/sc.names.lookup x=some .free
def Loc(sc:Scope)(x:Str):Prop:=sc.names.lookup x=some .local\/sc.names.lookup x=some .cell
def AaV(env:Env)(h:Heap)(m:Str->Option FO)(x:Str)(u:FO):Prop:=(env.kindOf x=some .local/\m x=some u)\/((env.kindOf x=some .cell\/env.kindOf x=some .free)/\∃c,env.cells.lookup x=some c/\h.IsCell c (some u))
structure Cx.Ok(X:Cx):Prop where
 mod:Mod X.K X.mg X.base
 kind:X.env.scope.kind=.function
 glob:X.env.globals=FX
 blt:X.env.builtins=builtinsNs
 above:X.s_0.heap.objs.size<=X.env.locals
 inj:∀x y c,X.env.cells.lookup x=some c->X.env.cells.lookup y=some c->x=y
 has:∀x,(X.env.kindOf x=some .cell\/X.env.kindOf x=some .free)->∃c,X.env.cells.lookup x=some c
 cab:∀x c,X.fn x=true->X.env.cells.lookup x=some c->X.s_0.heap.objs.size<=c
 hd:X.calm=true->X.A.handled=none
 frames:X.A.frames=some X.stack
 stk:X.stack=X.outer\/(X.stack=X.env::X.outer/\X.env.frame=some X.env.locals)
 exf:∀b∈X.ex,b≠X.env.locals/\∀x c,X.env.cells.lookup x=some c->c≠b
 bs:∀b o,X.base.get? b=some o->X.s_0.heap.get? b=some o/\X.H_0 b=none
 bsz:X.base.objs.size<=X.s_0.heap.objs.size
 noex:∀b o,X.base.get? b=some o->b∉X.ex
 exfs:∀b∈X.ex,b∉X.fs
 funs:X.s_0.heap.FunFrames X.base X.outer
 frf:∀b∈X.fs,X.H_0 b=none
structure Inv(X:Cx)(pins:List (FP×Obj))(σ:List (Option V))(H:Hp)(s:FS):Prop where
 ok:X.Ok
 os:s.os=X.s_0.os
 bare:AllBare s.gens
 base:Un X.fs X.ex X.H_0 H X.s_0.heap s.heap
 loc:∃m,s.heap.Ns X.env.locals m/\∀(i:Nat) (x:Str) (v:V),X.N[i]?=some x->σ[i]?=some (some v)->Vis X.env.scope x->∃u,RelV v u/\AaV X.env s.heap m x u
 cell:∀x c,X.env.cells.lookup x=some c->∃v,s.heap.IsCell c v
 free:H X.env.locals=none
 freeC:∀x c,X.env.cells.lookup x=some c->H c=none
 pin:∀p∈X.pn++pins,s.heap.get? p.1=some p.2/\H p.1=none/\p.1≠X.env.locals/\p.1∉X.fs/\∀v,p.2.data≠.cell v
 hok:HOk X.prog X.w H s.heap
 len:σ.length=X.N.length
section
variable{X:Cx}{pins:List (FP×Obj)}{σ:List (Option V)}{H H':Hp}{s:FS}{h':Heap}
theorem Cx.Ok.nofr(ok:X.Ok){b:FP}{o:Obj}(e:X.base.get? b=some o):b∉X.fs:=fun hb=>by have:=(ok.funs.mem hb).1;rw[e] at this;cases this
theorem Inv.bs(I:Inv X pins σ H s):∀b o,X.base.get? b=some o->s.heap.get? b=some o/\H b=none:=fun b o e=>⟨I.base.keep b o (I.ok.bs b o e).1 (I.ok.bs b o e).2 (I.ok.nofr e) (I.ok.noex b o e),I.base.free b o (I.ok.bs b o e).1 (I.ok.bs b o e).2 (I.ok.noex b o e)⟩
theorem Inv.bk(I:Inv X pins σ H s):∀b o,X.base.get? b=some o->s.heap.get? b=some o:=fun b o e=>(I.bs b o e).1
theorem Inv.mod(I:Inv X pins σ H s):Mod X.K X.mg X.base:=I.ok.mod
theorem Inv.kIn(I:Inv X pins σ H s):X.K.In s.heap:=I.ok.mod.kin.keeps I.bk
theorem Inv.lt(I:Inv X pins σ H s):X.env.locals<s.heap.objs.size:=let ⟨_,hn,_⟩:=I.loc;hn.lt
theorem Inv.sz(I:Inv X pins σ H s):X.s_0.heap.objs.size<=s.heap.objs.size:=Ak I.ok.above (BB I.lt)
theorem Inv.nofs(I:Inv X pins σ H s){a:FP}(h:s.heap.objs.size<=a):a∉X.fs:=fun hb=>by obtain⟨_,o,ho,_⟩:=I.ok.funs.mem hb;exact absurd (Ap (Am ho) (Ak I.sz h)) (Bk _)
theorem Inv.cne(I:Inv X pins σ H s):∀x c,X.env.cells.lookup x=some c->c≠X.env.locals:=fun x c e z=>by obtain⟨v,o,ho,hd⟩:=I.cell x c e;obtain⟨m,⟨o',es,ep,ho',hd',_⟩,_⟩:=I.loc;rw[z,ho'] at ho;cases ho;rw[hd'] at hd;cases hd
theorem Inv.funs(I:Inv X pins σ H s):s.heap.FunFrames X.base X.outer:=by
 have all:∀(l:List Env),(∀b∈frs l,b∈X.fs)->X.s_0.heap.FunFrames X.base l->s.heap.FunFrames X.base l:=by
  intro l
  induction l with
  |nil=>intro _ _;trivial
  |cons env r ih=>intro hs hl;obtain⟨hk,⟨L,o,hf,hn,ho,hd⟩,hr⟩:=hl;have hL:L∈X.fs:=hs L (by unfold frs;rw[CM,hf];exact AE);obtain⟨sl,e⟩:=I.base.slot L o ho (I.ok.frf L hL) hL fun z=>I.ok.exfs L z hL;exact⟨hk,⟨L,_,hf,hn,e,hd⟩,ih (fun b hb=>hs b (by unfold frs;rw[CM,hf];exact Aw _ hb)) hr⟩
 exact all X.outer (fun _ hb=>hb) I.ok.funs
theorem Inv.stack(I:Inv X pins σ H s):s.heap.FunFrames X.base X.stack:=by
 rcases I.ok.stk with e | ⟨e,hf⟩
 ·rw[e];exact I.funs
 ·rw[e];obtain⟨m,hn,_⟩:=I.loc;refine .cons (by rw[I.ok.kind];decide) hf hn ?_ I.funs;exact DJ (Ak I.ok.bsz I.ok.above)
theorem Inv.stkSub(I:Inv X pins σ H s):∀b∈frs X.stack,b∈X.env.locals::X.fs:=fun b hb=>by
 rcases I.ok.stk with e | ⟨e,hf⟩
 ·rw[e] at hb;exact Aw _ hb
 ·rw[e] at hb;unfold frs at hb;rw[CM,hf] at hb;exact hb
theorem Inv.stkFree(I:Inv X pins σ H s):∀b∈frs X.stack,H b=none:=fun b hb=>by
 rcases Ao.mp (I.stkSub b hb) with e | hb
 ·rw[e];exact I.free
 ·obtain⟨_,o,ho,_⟩:=I.ok.funs.mem hb;exact I.base.free b o ho (I.ok.frf b hb) fun z=>I.ok.exfs b z hb
theorem Inv.step{g':Array GenState}{t':Nat}{d':Drawn}{ch:List FP}(I:Inv X pins σ H s)
  (hch:∀b∈ch,(b∈X.ex\/X.s_0.heap.objs.size<=b)/\b≠X.env.locals/\(∀x c,X.env.cells.lookup x=some c->c≠b)/\∀p∈X.pn++pins,p.1≠b)
  (keep:∀b o,b≠X.env.locals->b∉X.fs->b∉ch->s.heap.get? b=some o->H b=none->h'.get? b=some o)
  (slot:∀b o,b≠X.env.locals->b∈X.fs->b∉ch->s.heap.get? b=some o->H b=none->∃sl,h'.get? b=some { o with slots:=sl }) (free:∀b o,b∉ch->s.heap.get? b=some o->H b=none->H' b=none)
  (there:∀b o,b∉ch->s.heap.get? b=some o->∃o',h'.get? b=some o')
  (tups:∀b xs,H b=some (.tup xs)->H' b=some (.tup xs)) (frzs:∀b o u,H b=some (.frz o u)->H' b=some (.frz o u)) (tbls:∀b ps,H b=some (.tbl ps)->∃more,H' b=some (.tbl (ps++more)))
  (ns:∀m,s.heap.Ns X.env.locals m->h'.Ns X.env.locals m) (hok:HOk X.prog X.w H' h') (hg:AllBare g'):
  Inv X pins σ H' { s with heap:=h',gens:=g',drawn:=d',toks:=t' }:=by
 have neL:∀b o,X.s_0.heap.get? b=some o->b≠X.env.locals:=fun b o e=>AH (Ap (Am e) I.ok.above);have neC:∀b o,X.s_0.heap.get? b=some o->b∉X.ex->b∉ch:=fun b o e hx hb=>by
  rcases(hch b hb).1 with z | z
  ·exact hx z
  ·exact absurd (Ap (Am e) z) (Bk _)
 have cellK:∀x c,X.env.cells.lookup x=some c->∀v,s.heap.IsCell c v->h'.IsCell c v:=fun x c e v ⟨o,ho,hd⟩=>by
  have nch:c∉ch:=fun z=>(hch c z).2.2.1 x c e rfl;by_cases hc:c∈X.fs
  ·obtain⟨sl,q⟩:=slot c o (I.cne x c e) hc nch ho (I.freeC x c e);exact⟨_,q,hd⟩
  ·exact⟨o,keep c o (I.cne x c e) hc nch ho (I.freeC x c e),hd⟩
 refine⟨I.ok,I.os,hg,⟨fun b o e n hb hx=>?_,fun b o e n hb hx=>?_,fun b o e n hx=>?_,fun b o e hx=>?_,fun b xs e=>tups b xs (I.base.tups b xs e),fun b o xs e=>frzs b o xs (I.base.frzs b o xs e),fun b ps e=>?_⟩,?_,fun x c e=>?_,?_,fun x c e=>?_,fun p hp=>?_,hok,I.len⟩
 ·exact keep b o (neL b o e) hb (neC b o e hx) (I.base.keep b o e n hb hx) (I.base.free b o e n hx)
 ·obtain⟨sl,e1⟩:=I.base.slot b o e n hb hx;obtain⟨sl',e2⟩:=slot b _ (neL b o e) hb (neC b o e hx) e1 (I.base.free b o e n hx);exact⟨sl',e2⟩
 ·obtain⟨o',e1⟩:=I.base.there b o e hx;exact free b o' (neC b o e hx) e1 (I.base.free b o e n hx)
 ·obtain⟨o',e1⟩:=I.base.there b o e hx;exact there b o' (neC b o e hx) e1
 ·obtain⟨m1,e1⟩:=I.base.tbls b ps e;obtain⟨m2,e2⟩:=tbls b _ e1;exact⟨m1++m2,by rw[e2,Fd]⟩
 ·obtain⟨m,hn,hl⟩:=I.loc;refine⟨m,ns m hn,fun i x v e1 e2 e3=>?_⟩;obtain⟨u,r,l⟩:=hl i x v e1 e2 e3;refine⟨u,r,?_⟩;rcases l with l | ⟨k,c,e,z⟩
  ·exact .inl l
  ·exact .inr ⟨k,c,e,cellK x c e _ z⟩
 ·obtain⟨v,z⟩:=I.cell x c e;exact⟨v,cellK x c e v z⟩
 ·obtain⟨m,⟨o,_,_,ho,_⟩,_⟩:=I.loc;exact free _ o (fun z=>(hch _ z).2.1 rfl) ho I.free
 ·obtain⟨v,o,ho,hd⟩:=I.cell x c e;exact free c o (fun z=>(hch c z).2.2.1 x c e rfl) ho (I.freeC x c e)
 ·obtain⟨e,n,ne,nf,d⟩:=I.pin p hp;have nch:p.1∉ch:=fun z=>(hch p.1 z).2.2.2 p hp rfl;exact⟨keep p.1 p.2 ne nf nch e n,free p.1 p.2 nch e n,ne,nf,d⟩
theorem Inv.un{t':Nat}(I:Inv X pins σ H s)(u:Un X.fs [] H H' s.heap h')(hok:HOk X.prog X.w H' h'):Inv X pins σ H' { s with heap:=h',toks:=t' }:=by obtain⟨m,⟨o,es,ep,ho,r⟩,_⟩:=id I.loc;obtain⟨sl,hL⟩:=u.any ho I.free (by simp);exact I.step (g':=s.gens) (d':=s.drawn) (ch:=[]) (fun _ z=>nomatch z) (fun b o _ hb _ e n=>u.keep b o e n hb (by simp)) (fun b o _ hb _ e n=>u.slot b o e n hb (by simp)) (fun b o _ e n=>u.free b o e n (by simp)) (fun b o _ e=>u.there b o e (by simp)) u.tups u.frzs u.tbls (fun m' hm=>by obtain⟨o',es',ep',ho',r'⟩:=hm;rw[ho] at ho';cases ho';exact⟨_,es',ep',hL,r'⟩) hok I.bare
theorem Inv.call{g':Array GenState}{t':Nat}{d':Drawn}{ch:List FP}(I:Inv X pins σ H s)(u:Un (frs X.stack) ch H H' s.heap h')(hok:HOk X.prog X.w H' h')(hg:AllBare g')
  (hch:∀b∈ch,(b∈X.ex\/X.s_0.heap.objs.size<=b)/\b≠X.env.locals/\(∀x c,X.env.cells.lookup x=some c->c≠b)/\∀p∈X.pn++pins,p.1≠b):
  Inv X pins σ H' { s with heap:=h',gens:=g',drawn:=d',toks:=t' }:=by
 obtain⟨m,⟨o,es,ep,ho,r⟩,_⟩:=id I.loc;obtain⟨sl,hL⟩:=u.any ho I.free fun z=>(hch _ z).2.1 rfl;exact I.step (ch:=ch) hch (fun b o hL hb hc e n=>u.keep b o e n (fun z=>(Ao.mp (I.stkSub b z)).elim hL hb) hc) (fun b o _ _ hc e n=>u.any e n hc) (fun b o hc e n=>u.free b o e n hc) (fun b o hc e=>u.there b o e hc) u.tups u.frzs u.tbls (fun m' hm=>by obtain⟨o',es',ep',ho',r'⟩:=hm;rw[ho] at ho';cases ho';exact⟨_,es',ep',hL,r'⟩) hok hg
theorem Inv.turned{t':Nat}{it:FP}(I:Inv X pins σ H s)(k:∀b o,b≠it->s.heap.get? b=some o->h'.get? b=some o)(hn:H it=none)(hL:it≠X.env.locals)
  (h1:it∈X.ex\/X.s_0.heap.objs.size<=it) (h2:∀x c,X.env.cells.lookup x=some c->c≠it) (h3:∀p∈X.pn++pins,p.1≠it):Inv X pins σ H { s with heap:=h',toks:=t' }:=by
 have nit:∀b u,H b=some u->b≠it:=fun b u e z=>by rw[z,hn] at e;cases e
 refine I.step (g':=s.gens) (d':=s.drawn) (ch:=[it]) (fun b hb=>?_) (fun b o _ _ hc e _=>k b o (fun z=>hc (by simp[z])) e) (fun b o _ _ hc e _=>⟨o.slots,k b o (fun z=>hc (by simp[z])) e⟩) (fun _ _ _ _ n=>n)
  (fun b o hc e=>⟨o,k b o (fun z=>hc (by simp[z])) e⟩) (fun _ _ e=>e) (fun _ _ _ e=>e) (fun b ps e=>⟨#[],by rw[e];simp⟩) (fun m hm=>?_) (fun b u e=>?_) I.bare
 ·have e:b=it:=by simpa using hb
  subst e;exact⟨h1,hL,h2,h3⟩
 ·obtain⟨o,es,ep,ho,r⟩:=hm;exact⟨o,es,ep,k _ o (Ne.symm hL) ho,r⟩
 ·refine(I.hok b u e).stay (fun c v hc q=>k c v ?_ q) (fun _ q=>q) fun _ _ q=>q;rcases hc with z | z
  ·rw[z];exact nit b u e
  ·exact nit c _ z
theorem Inv.tok(I:Inv X pins σ H s)(t:Nat):Inv X pins σ H { s with toks:=t }:=I.un (h':=s.heap) (t':=t) Un.refl I.hok
theorem Inv.kept{t':Nat}(I:Inv X pins σ H s)(k:∀b u,s.heap.get? b=some u->h'.get? b=some u):Inv X pins σ H { s with heap:=h',toks:=t' }:=I.un (Un.kept k) (I.hok.kept k)
theorem Inv.laid{a:FP}{o:HO}{t':Nat}(I:Inv X pins σ H s)(k:∀b u,s.heap.get? b=some u->h'.get? b=some u)(hp:s.heap.objs.size<=a)(new:ObjOk X.prog X.w (upd H a o) h' a o):
  Inv X pins σ (upd H a o) { s with heap:=h',toks:=t' }:=I.un (Un.laid k hp (I.hok.fresh hp)) (I.hok.laid k hp new)
theorem Inv.write{x e:FP}{o:HO}{t':Nat}(I:Inv X pins σ H s)(mu:Mut (H x))(he:e=x\/H e=some (.own x))(k:∀b u,b≠e->s.heap.get? b=some u->h'.get? b=some u)(heo:∃u,h'.get? e=some u)
  (new:ObjOk X.prog X.w (upd H x o) h' x o):Inv X pins σ (upd H x o) { s with heap:=h',toks:=t' }:=I.un (Un.write mu he k heo) (I.hok.write mu he k heo new)
theorem Inv.weak{σ':List (Option V)}(I:Inv X pins σ H s)(hl:σ'.length=σ.length)(w:∀(i:Nat) v,σ'[i]?=some (some v)->σ[i]?=some (some v)):Inv X pins σ' H s:=⟨I.ok,I.os,I.bare,I.base,let ⟨m,hn,hl'⟩:=I.loc;⟨m,hn,fun i x v e1 e2 e3=>hl' i x v e1 (w i v e2) e3⟩,I.cell,I.free,I.freeC,I.pin,I.hok,hl.trans I.len⟩
theorem Inv.pins_of{pins':List (FP×Obj)}(I:Inv X pins σ H s)(h:∀p∈pins',s.heap.get? p.1=some p.2/\H p.1=none/\p.1≠X.env.locals/\p.1∉X.fs/\∀v,p.2.data≠.cell v):Inv X pins' σ H s:=⟨I.ok,I.os,I.bare,I.base,I.loc,I.cell,I.free,I.freeC,fun p hp=>(AK.mp hp).elim (fun z=>I.pin p (Bp _ z)) (h p),I.hok,I.len⟩
theorem NW{N:List Str}(hN:N.Nodup){i j:Nat}{x:Str}(a:N[i]?=some x)(b:N[j]?=some x):i=j:=by obtain⟨h1,e1⟩:=Ai.mp a;obtain⟨h2,e2⟩:=Ai.mp b;exact(List.getElem_inj hN).mp (e1.trans e2.symm)
theorem Ot{M:Model}{A:F4}{E:FO->FS->Prop}{i:Nat}{x:Str}{v:V}{u:FO}{Q:Unit->FS->Prop}(I:Inv X pins σ H s)(hN:X.N.Nodup)(hi:X.N[i]?=some x)(hx:Loc X.env.scope x)(r:RelV v u)
  (h:∀s',Inv X pins (σ.set i (some v)) H s'->(∃a,Heap.SameBut a s.heap s'.heap/\(a=X.env.locals\/X.env.cells.lookup x=some a))->Q () s') (hf:X.fn x=true\/X.env.scope.names.lookup x=some .local:=by first | exact .inl rfl | exact .inr rfl | assumption):FW M A (storeName X.env x u) Q E s:=by
 obtain⟨m,hn,hl⟩:=id I.loc;have hcls:(X.env.scope.kind==.class || (X.env.scope.kind==.module&&X.env.locals != X.env.globals))=false:=by rw[I.ok.kind];rfl
 have hiσ:i<σ.length:=by rw[I.len];exact(Ai.mp hi).1
 have cne:=I.cne;have tracked:∀{a:FP} {h':Heap},(∃o,s.heap.get? a=some o/\H a=none)->Heap.SameBut a s.heap h'->HOk X.prog X.w H h':=fun{a h'} ha hs b ob e=>by
  obtain⟨_,_,hfree⟩:=ha;refine(I.hok b ob e).stay (fun c w' hc q=>(hs.2 c ?_).trans q) (fun _ q=>q) fun _ _ q=>q;rintro rfl;rcases hc with rfl | hc
  ·rw[hfree] at e;cases e
  ·rw[hfree] at hc;cases hc
 rcases hx with hk | hk
 ·refine wpAny_storeName_local hk hn (fun h' hn' hs=>?_) hcls;obtain⟨oL,_,_,hoL,_⟩:=id hn;refine h _ ⟨I.ok,I.os,I.bare,⟨fun b o e n hb hx=>?_,fun b o e n hb hx=>?_,I.base.free,fun b o e hx=>?_,I.base.tups,I.base.frzs,I.base.tbls⟩,⟨_,hn',fun j y v' e1 e2 e3=>?_⟩,fun y c e=>?_,I.free,I.freeC,fun p hp=>?_,tracked ⟨oL,hoL,I.free⟩ hs,by simpa using I.len⟩ ⟨_,hs,.inl rfl⟩
  ·exact(hs.2 b (AH (Ap (Am e) I.ok.above))).trans (I.base.keep b o e n hb hx)
  ·obtain⟨sl,e1⟩:=I.base.slot b o e n hb hx;exact⟨sl,(hs.2 b (AH (Ap (Am e) I.ok.above))).trans e1⟩
  ·obtain⟨o',e1⟩:=I.base.there b o e hx;exact⟨o',(hs.2 b (AH (Ap (Am e) I.ok.above))).trans e1⟩
  ·by_cases hj:j=i
   ·subst hj;rw[hi] at e1;cases e1;rw[Dk hiσ] at e2;cases e2;exact⟨u,r,.inl ⟨hk,by simp⟩⟩
   ·rw[DE (Ne.symm hj)] at e2;obtain⟨u',r',q⟩:=hl j y v' e1 e2 e3;refine⟨u',r',?_⟩;rcases q with ⟨k,e⟩ | ⟨k,c,e,z⟩
    ·refine .inl ⟨k,?_⟩;have:y≠x:=fun e=>hj (NW hN e1 (e ▸ hi));simp[this,e]
    ·exact .inr ⟨k,c,e,z.sameBut hs (cne y c e)⟩
  ·obtain⟨w',z⟩:=I.cell y c e;exact⟨w',z.sameBut hs (cne y c e)⟩
  ·obtain⟨e,n,ne,nf,d⟩:=I.pin p hp;exact⟨(hs.2 p.1 ne).trans e,n,ne,nf,d⟩
 ·have hfn:X.fn x=true:=by
   rcases hf with z | z
   ·exact z
   ·rw[z] at hk;cases hk
  obtain⟨c,hc⟩:=I.ok.has x (.inl hk);obtain⟨w',z⟩:=I.cell x c hc;refine wpAny_storeName_cell I.ok.kind hk hc z (fun h' hc' hs=>?_);obtain⟨oc,hoc,hocd⟩:=id z;refine h { s with heap:=h' } ⟨I.ok,I.os,I.bare,⟨fun b o e n hb hx=>?_,fun b o e n hb hx=>?_,I.base.free,fun b o e hx=>?_,I.base.tups,I.base.frzs,I.base.tbls⟩,⟨m,hn.sameBut hs (Ne.symm (cne x c hc)),fun j y v' e1 e2 e3=>?_⟩,fun y c' e=>?_,I.free,I.freeC,fun p hp=>?_,tracked ⟨oc,hoc,I.freeC x c hc⟩ hs,by simpa using I.len⟩ ⟨c,hs,.inr hc⟩
  ·exact(hs.2 b (AH (Ap (Am e) (I.ok.cab x c hfn hc)))).trans (I.base.keep b o e n hb hx)
  ·obtain⟨sl,e1⟩:=I.base.slot b o e n hb hx;exact⟨sl,(hs.2 b (AH (Ap (Am e) (I.ok.cab x c hfn hc)))).trans e1⟩
  ·obtain⟨o',e1⟩:=I.base.there b o e hx;exact⟨o',(hs.2 b (AH (Ap (Am e) (I.ok.cab x c hfn hc)))).trans e1⟩
  ·by_cases hj:j=i
   ·subst hj;rw[hi] at e1;cases e1;rw[Dk hiσ] at e2;cases e2;exact⟨u,r,.inr ⟨.inl hk,c,hc,hc'⟩⟩
   ·rw[DE (Ne.symm hj)] at e2;obtain⟨u',r',q⟩:=hl j y v' e1 e2 e3;refine⟨u',r',?_⟩;rcases q with q | ⟨k,c',e,z'⟩
    ·exact .inl q
    ·refine .inr ⟨k,c',e,z'.sameBut hs ?_⟩;rintro rfl;exact hj (NW hN e1 (I.ok.inj _ _ _ e hc ▸ hi))
  ·by_cases hcc:c'=c
   ·subst hcc;exact⟨_,hc'⟩
   ·obtain⟨w2,z2⟩:=I.cell y c' e;exact⟨w2,z2.sameBut hs hcc⟩
  ·obtain⟨e,n,ne,nf,d⟩:=I.pin p hp;refine⟨(hs.2 p.1 ?_).trans e,n,ne,nf,d⟩;intro q;rw[q,hoc] at e;have q':oc=p.2:=Option.some.inj e;exact d w' (by rw[<-q'];exact hocd)
theorem QK{M:Model}{A:F4}{E:FO->FS->Prop}{i:Nat}{x:Str}{v:V}{u:FO}{Q:Unit->FS->Prop}(I:Inv X pins σ H s)(hN:X.N.Nodup)(hi:X.N[i]?=some x)(hx:Loc X.env.scope x)(r:RelV v u)
  (h:∀s',Inv X pins (σ.set i (some v)) H s'->Q () s') (hf:X.fn x=true\/X.env.scope.names.lookup x=some .local:=by first | exact .inl rfl | exact .inr rfl | assumption):FW M A (storeName X.env x u) Q E s:=
 Ot I hN hi hx r (fun s' I' _=>h s' I') hf
theorem Inv.call'{s':FS}{ch:List FP}(I:Inv X pins σ H s)(ho:s'.os=s.os)(u:Un (frs X.stack) ch H H' s.heap s'.heap)(hok:HOk X.prog X.w H' s'.heap)(hg:AllBare s'.gens)
  (hch:∀b∈ch,(b∈X.ex\/X.s_0.heap.objs.size<=b)/\b≠X.env.locals/\(∀x c,X.env.cells.lookup x=some c->c≠b)/\∀p∈X.pn++pins,p.1≠b):Inv X pins σ H' s':=by
 obtain⟨h',g',d',t',o'⟩:=s';have e:o'=s.os:=ho;subst e;exact I.call (g':=g') (t':=t') (d':=d') u hok hg hch
end
abbrev XK:=FO->Option FP->Hp->Prop
abbrev St:=List (Option V)
abbrev VK:=V->Hp->Prop
abbrev TE:=St->Hp->VK->Prop
abbrev TT:=St->Hp->(Bool->Hp->Prop)->Prop
abbrev TA:=St->Hp->(List V->Hp->Prop)->Prop
structure Ends where
 nx:St->Hp->Prop
 rt:VK
 bk:St->Hp->Prop:=fun _ _=>False
 ct:St->Hp->Prop:=fun _ _=>False
abbrev TS:=Ends->St->Hp->Prop
def EP(X:Cx)(pins:List (FP×Obj))(σ:St)(Q:VK)(u:FO)(s':FS):Prop:=∃v H',Inv X pins σ H' s'/\RelV v u/\Q v H'
def TP(X:Cx)(pins:List (FP×Obj))(σ:St)(Q:Bool->Hp->Prop)(b:Bool)(s':FS):Prop:=∃H',Inv X pins σ H' s'/\Q b H'
def AP(X:Cx)(pins:List (FP×Obj))(σ:St)(Q:List V->Hp->Prop)(us:List FO)(s':FS):Prop:=∃vs H',Inv X pins σ H' s'/\Vals vs us/\Q vs H'
def SP(X:Cx)(pins:List (FP×Obj))(D:Ends)(f:Flow)(s':FS):Prop:=
 match f with
 |.next=>∃σ' H',Inv X pins σ' H' s'/\D.nx σ' H'
 |.brk=>∃σ' H',Inv X pins σ' H' s'/\D.bk σ' H'
 |.cont=>∃σ' H',Inv X pins σ' H' s'/\D.ct σ' H'
 |.ret u=>∃v σ' H',Inv X pins σ' H' s'/\RelV v u/\D.rt v H'
def PE(X:Cx)(e:F3)(t:TE):Prop:=∀(pins:List (FP×Obj)) (s:FS) (σ:St) (H:Hp) (Q:VK),Inv X pins σ H s->t σ H Q->FW (model X.prog X.w) X.A (eval e X.env) (EP X pins σ Q) X.xe s
def PT(X:Cx)(e:F3)(t:TT):Prop:=∀(pins:List (FP×Obj)) (s:FS) (σ:St) (H:Hp) (Q:Bool->Hp->Prop),Inv X pins σ H s->t σ H Q->FW (model X.prog X.w) X.A (isTrue e X.env (eval e X.env)) (TP X pins σ Q) X.xe s
def PW(X:Cx)(e:F3)(t:TT):Prop:=∀(whole:Sem FO) (pins:List (FP×Obj)) (s:FS) (σ:St) (H:Hp) (Q:Bool->Hp->Prop),Inv X pins σ H s->t σ H Q->FW (model X.prog X.w) X.A (isTrue e X.env whole) (TP X pins σ Q) X.xe s
theorem PW.pt{X:Cx}{e:F3}{t:TT}(h:PW X e t):PT X e t:=h _
def PA(X:Cx)(es:List F3)(t:TA):Prop:=∀(pos:Pos) (pins:List (FP×Obj)) (s:FS) (σ:St) (H:Hp) (Q:List V->Hp->Prop),Inv X pins σ H s->t σ H Q->FW (model X.prog X.w) X.A (spliced (backTo pos (FY es X.env))) (AP X pins σ Q) X.xe s
def PS(X:Cx)(st:F6)(t:TS):Prop:=∀(pins:List (FP×Obj)) (s:FS) (σ:St) (H:Hp) (D:Ends),Inv X pins σ H s->t D σ H->FW (model X.prog X.w) X.A (exec st X.env) (SP X pins D) X.xe s
def PSs(X:Cx)(st:List F6)(t:TS):Prop:=∀(pins:List (FP×Obj)) (s:FS) (σ:St) (H:Hp) (D:Ends),Inv X pins σ H s->t D σ H->FW (model X.prog X.w) X.A (execs st X.env) (SP X pins D) X.xe s
theorem thn{α:Type}{t:Sem α}{Q Q':α->FS->Prop}{M:Model}{A:F4}{E:FO->FS->Prop}{s:FS}(h:FW M A t Q E s)(hQ:∀a s,Q a s->Q' a s):FW M A t Q' E s:=F9 h hQ fun _ _ x=>x
section
variable{X:Cx}
def Hw(i:Nat):TE:=fun σ H Q=>∃v,σ[i]?=some (some v)/\Q v H
def tC(v:V):TE:=fun _ H Q=>Q v H
theorem VA{i:Nat}{x:Str}{pos:Pos}(hN:X.N[i]?=some x)(hv:Vis X.env.scope x)(hd:(x==("__debug__":Str))=false:=by decide)(hcd:(x==("__classdict__":Str))=false:=by decide):PE X (.Name x pos) (Hw i):=by
 intro pins s σ H Q I h;obtain⟨v,e,h⟩:=h;obtain⟨m,hn,hl⟩:=I.loc;obtain⟨u,r,l⟩:=hl i x v hN e hv;have fin:EP X pins σ Q u s:=⟨v,H,I,r,h⟩;rcases l with ⟨hk,hm⟩ | ⟨hk,c,hc,hcell⟩
 ·exact wpAny_Name (wpAny_loadName_local I.ok.kind hk hn hm fin) hd
 ·rcases hk with hk | hk
  ·exact wpAny_Name (wpAny_loadName_cell I.ok.kind hk hc hcell fin) hd
  ·exact wpAny_Name (wpAny_loadName_free I.ok.kind hk hc hcell fin hcd) hd
theorem Gv{i j pos}:PE X (.Constant (.int i) j pos) (tC (.int i)):=fun _ _ _ H _ I h=>wpAny_Constant_int ⟨.int i,H,I.tok _,⟨_,rfl⟩,h⟩
theorem Xy{b j pos}:PE X (.Constant (.bool b) j pos) (tC (.bl b)):=fun _ _ _ H _ I h=>Constant_bool ⟨.bl b,H,I,rfl,h⟩
theorem Lb{j pos}:PE X (.Constant .none j pos) (tC .non):=fun _ _ _ H _ I h=>Constant_none ⟨.non,H,I,rfl,h⟩
theorem HH{x j pos}:PE X (.Constant (.str x) j pos) (tC (.str x)):=fun _ _ _ H _ I h=>Calls.Constant_str ⟨.str x,H,I.tok _,⟨_,rfl⟩,h⟩
def Gl(X:Cx)(x:Str):Prop:=X.env.kindOf x=some .globalImplicit
theorem JU{E:FO->FS->Prop}{pins:List (FP×Obj)}{s:FS}{σ:St}{H:Hp}{x:Str}{u:FO}{pos:Pos}{Q:FO->FS->Prop}(I:Inv X pins σ H s)(hg:Gl X x)(hm:X.mg x=some u)(h:Q u s)
  (hd:(x==("__debug__":Str))=false:=by decide):FW (model X.prog X.w) X.A (eval (.Name x pos) X.env) Q E s:=
 Calls.Name_function_global I.ok.kind hg (Calls.loadGlobal_global (by rw[I.ok.glob];exact I.mod.glob.keeps I.bk) hm h) hd
theorem K7{E:FO->FS->Prop}{pins:List (FP×Obj)}{s:FS}{σ:St}{H:Hp}{x:Str}{u:FO}{pos:Pos}{Q:FO->FS->Prop}(I:Inv X pins σ H s)(hg:Gl X x)(hm:X.mg x=none)(hv:Gf x=some u)(h:Q u s)
  (hn:x≠"__name__":=by decide) (hd:(x==("__debug__":Str))=false:=by decide):FW (model X.prog X.w) X.A (eval (.Name x pos) X.env) Q E s:=by
 obtain⟨mb,h1,h2⟩:=I.mod.blt;exact Calls.Name_function_global I.ok.kind hg (Calls.loadGlobal_builtin (by rw[I.ok.glob];exact I.mod.glob.keeps I.bk) hm (by rw[I.ok.blt];exact h1.keeps I.bk) ((h2 x hn).trans hv) h) hd
theorem OU{x:Str}{v:V}{u:FO}{pos:Pos}(hg:Gl X x)(hm:X.mg x=some u)(r:RelV v u)(hd:(x==("__debug__":Str))=false:=by decide):PE X (.Name x pos) (tC v):=fun _ _ _ H _ I h=>JU I hg hm ⟨v,H,I,r,h⟩ hd
variable{a b:F3}{ta tb:TE}{pos:Pos}
def PC(X:Cx)(op:CmpOp)(a b:F3)(t:TE):Prop:=
 ∀(pins:List (FP×Obj)) (s:FS) (σ:St) (H:Hp) (Q:VK),Inv X pins σ H s->t σ H Q->
  FW (model X.prog X.w) X.A (eval a X.env) (fun v s₁=>FW (model X.prog X.w) X.A (eval b X.env) (fun u s₂=>FW (model X.prog X.w) X.A (compareOp op v u) (EP X pins σ Q) X.xe s₂) X.xe s₁) X.xe s
def tB(t:TE):TT:=fun σ H Q=>t σ H fun x H1=>∃c,x=.bl c/\Q c H1
theorem RH{op:CmpOp}{t:TE}(h:PC X op a b t)(h1:behindInMarks op b=false:=by first | exact nobehind _ (by decide) (by decide) | rfl):PT X (.Compare a [op] [b] pos) (tB t):=by intro pins s σ H Q I hw;refine wpAny_isTrue_Compare1 (thn (h pins s σ H _ I hw) fun v s1 h1=>thn h1 fun u s2 h2=>thn h2 fun c s3 ⟨x,H1,I1,r1,q1⟩=>?_) h1;obtain⟨d,rfl,q⟩:=q1;cases r1;exact Gg ⟨H1,I1,q⟩
theorem MR{e:F3}{t:TE}(h:PE X e t)(he:∀whole,isTrue e X.env whole=(do let v ← whole;standAt e.pos;holding [v] (truthy v)):=by intro _;rfl):PT X e (tB t):=by intro pins s σ H Q I hw;refine isTrue_plain (thn (h pins s σ H _ I hw) fun v s1 ⟨x,H1,I1,r1,q1⟩=>?_) (he _);obtain⟨d,rfl,q⟩:=q1;cases r1;exact Gg ⟨H1,I1,q⟩
variable{tA tB':TT}{rest:List F3}
def AaJ(t u:TT):TT:=fun σ H Q=>t σ H fun c H1=>if c=true then u σ H1 Q else Q false H1
def tOr(t u:TT):TT:=fun σ H Q=>t σ H fun c H1=>if c=true then Q true H1 else u σ H1 Q
def Z9(t:TT):TT:=fun σ H Q=>t σ H fun c H1=>Q (!c) H1
theorem RY(ha:PT X a tA):PW X (.BoolOp .And [a] pos) tA:=by
 intro wh pins s σ H Q I h;refine isTrue_and (thn (ha pins s σ H Q I h) fun c s1 e=>?_);cases c with
 |true=>exact isTrue_and_nil e
 |false=>exact e
theorem LP(ha:PT X a tA):PW X (.BoolOp .Or [a] pos) tA:=by
 intro wh pins s σ H Q I h;refine isTrue_or (thn (ha pins s σ H Q I h) fun c s1 e=>?_);cases c with
 |false=>exact isTrue_or_nil e
 |true=>exact e
theorem UG(ha:PT X a tA)(hb:PW X (.BoolOp .And (b::rest) pos) tB'):PW X (.BoolOp .And (a::b::rest) pos) (AaJ tA tB'):=by
 intro wh pins s σ H Q I h;refine isTrue_and (thn (ha pins s σ H _ I h) fun c s1 ⟨H1,I1,q1⟩=>?_);cases c with
 |true=>exact hb wh pins s1 σ H1 Q I1 q1
 |false=>exact⟨H1,I1,q1⟩
theorem OH(ha:PT X a tA)(hb:PW X (.BoolOp .Or (b::rest) pos) tB'):PW X (.BoolOp .Or (a::b::rest) pos) (tOr tA tB'):=by
 intro wh pins s σ H Q I h;refine isTrue_or (thn (ha pins s σ H _ I h) fun c s1 ⟨H1,I1,q1⟩=>?_);cases c with
 |true=>exact⟨H1,I1,q1⟩
 |false=>exact hb wh pins s1 σ H1 Q I1 q1
theorem NI(ha:PT X a tA):PT X (.UnaryOp .Not a pos) (Z9 tA):=by intro pins s σ H Q I h;exact isTrue_not (ha pins s σ H (fun c H1=>Q (!c) H1) I h)
def Aac(ta tb:TE):TE:=fun σ H Q=>ta σ H fun x H1=>∃c,x=.bl c/\if c=true then tb σ H1 Q else Q (.bl false) H1
theorem Yr{op}{t:TE}(h:PE X a t):PE X (.BoolOp op [a] pos) t:=fun pins s σ H Q I hw=>BoolOp_one (h pins s σ H Q I hw)
theorem Zb(ha:PE X a ta)(hb:PE X (.BoolOp .And (b::rest) pos) tb):PE X (.BoolOp .And (a::b::rest) pos) (Aac ta tb):=by
 intro pins s σ H Q I h;refine BoolOp_and (thn (ha pins s σ H _ I h) fun v s1 ⟨x,H1,I1,r1,q1⟩=>?_);obtain⟨c,rfl,q1⟩:=q1;cases r1;refine Gg ?_;cases c with
 |true=>exact hb pins s1 σ H1 Q I1 q1
 |false=>exact⟨.bl false,H1,I1,rfl,q1⟩
def tIf(t:TT)(ta tb:TE):TE:=fun σ H Q=>t σ H fun c H1=>if c=true then ta σ H1 Q else tb σ H1 Q
theorem QG{c:F3}(hc:PT X c tA)(ha:PE X a ta)(hb:PE X b tb):PE X (.IfExp c a b pos) (tIf tA ta tb):=by
 intro pins s σ H Q I h;refine wpAny_IfExp (thn (hc pins s σ H _ I h) fun d s1 ⟨H1,I1,q1⟩=>?_);cases d with
 |true=>exact ha pins s1 σ H1 Q I1 q1
 |false=>exact hb pins s1 σ H1 Q I1 q1
end
def SqL(K:Gh)(H:Hp)(a:FP)(xs:List V):Prop:=
 Rd H a (.lst xs) ∨
  ∃(o:Obj) (its:Array FO) (n:Nat),K.lookup a=some o/\o.cls=.type "list"/\o.dict=none/\o.data=.seq its n/\its.size<=FT/\Vals xs its.toList
def SqT(K:Gh)(H:Hp)(a:FP)(xs:List V):Prop:=
 Rd H a (.tup xs) ∨
  ∃(o:Obj) (its:Array FO) (n:Nat),K.lookup a=some o/\o.cls=.type "tuple"/\o.data=.seq its n/\its.size<=FT/\Vals xs its.toList
def TC:FO->Option V
 |.none=>some .non
 |.bool b=>some (.bl b)
 |.int i _=>some (.int i)
 |.str x _=>some (.str x)
 |.bytes b _=>some (.byt b)
 |.float b _=>some (.flt b)
 |.ref a=>some (.ref a)
 |.type n=>some (.ty n)
 |_=>none
theorem RelV.abs{x:V}{u:FO}(r:RelV x u):TC u=some x:=by
 cases x with
 |non=>cases r;rfl
 |bl _=>cases r;rfl
 |int _=>obtain⟨t,rfl⟩:=r;rfl
 |str _=>obtain⟨t,rfl⟩:=r;rfl
 |byt _=>obtain⟨t,rfl⟩:=r;rfl
 |flt _=>obtain⟨t,rfl⟩:=r;rfl
 |ref _=>cases r;rfl
 |ty _=>cases r;rfl
theorem RelV.inj{x y:V}{u:FO}(r:RelV x u)(q:RelV y u):x=y:=Option.some.inj (r.abs.symm.trans q.abs)
theorem Vals.inj:∀{xs ys:List V} {us:List FO},Vals xs us->Vals ys us->xs=ys
 |_,_,_,.nil,.nil=>rfl
 |_,_,_,.cons r t,.cons r' t'=>by rw[r.inj r',Vals.inj t t']
section
variable{X:Cx}{pins:List (FP×Obj)}{σ:St}{H:Hp}{s:FS}{a:FP}{xs ys:List V}
theorem SqL.of{K:Gh}(h:H a=some (.lst xs)):SqL K H a xs:=.inl (.inl h)
theorem SqT.of{K:Gh}(h:H a=some (.tup xs)):SqT K H a xs:=.inl (.inl h)
theorem Inv.list(I:Inv X pins σ H s)(h:SqL X.K H a xs):∃its:List FO,Vals xs its/\PlainL s.heap a its.toArray/\xs.length<=FT:=by
 rcases h with h | ⟨o,its,n,hk,hc,hd,hs,hz,r⟩
 ·obtain⟨z,its,n,r,e⟩:=h.ok I.hok;exact⟨its,r,⟨_,n,e,rfl,rfl,rfl⟩,z⟩
 ·refine⟨its.toList,r,⟨o,n,I.kIn a o hk,hc,hd,by simpa using hs⟩,?_⟩;have e:=r.length;simp only[BQ] at e
  lia
theorem Inv.tuple(I:Inv X pins σ H s)(h:SqT X.K H a xs):∃its:List FO,Vals xs its/\IsTup s.heap a its.toArray/\xs.length<=FT:=by
 rcases h with h | ⟨o,its,n,hk,hc,hs,hz,r⟩
 ·obtain⟨z,its,r,p⟩:=h.ok I.hok;exact⟨its,r,p,z⟩
 ·refine⟨its.toList,r,⟨o,I.kIn a o hk,hc,n,by simpa using hs⟩,?_⟩;have e:=r.length;simp only[BQ] at e
  lia
theorem Inv.list_inj(I:Inv X pins σ H s)(h:SqL X.K H a xs)(h':SqL X.K H a ys):xs=ys:=by
 obtain⟨its,r,⟨o,n,e,_,_,d⟩,_⟩:=I.list h;obtain⟨its',r',⟨o',n',e',_,_,d'⟩,_⟩:=I.list h';rw[e] at e';cases e';rw[d] at d';injection d' with d1 _;have:its=its':=by simpa using congrArg EE d1
 subst this;exact r.inj r'
theorem Inv.tuple_inj(I:Inv X pins σ H s)(h:SqT X.K H a xs)(h':SqT X.K H a ys):xs=ys:=by
 obtain⟨its,r,⟨o,e,_,n,d⟩,_⟩:=I.tuple h;obtain⟨its',r',⟨o',e',_,n',d'⟩,_⟩:=I.tuple h';rw[e] at e';cases e';rw[d] at d';injection d' with d1 _;have:its=its':=by simpa using congrArg EE d1
 subst this;exact r.inj r'
end
abbrev Cx.wish(X:Cx)(E:FO->FS->Prop):Cx:={ X with xe:=E }
abbrev Cx.nox(X:Cx):Cx:=X.wish fun _ _=>False
theorem Cx.Ok.wish{X:Cx}(ok:X.Ok)(E:FO->FS->Prop):(X.wish E).Ok:=⟨ok.mod,ok.kind,ok.glob,ok.blt,ok.above,ok.inj,ok.has,ok.cab,ok.hd,ok.frames,ok.stk,ok.exf,ok.bs,ok.bsz,ok.noex,ok.exfs,ok.funs,ok.frf⟩
theorem Cx.Ok.unwish{X:Cx}{E:FO->FS->Prop}(ok:(X.wish E).Ok):X.Ok:=⟨ok.mod,ok.kind,ok.glob,ok.blt,ok.above,ok.inj,ok.has,ok.cab,ok.hd,ok.frames,ok.stk,ok.exf,ok.bs,ok.bsz,ok.noex,ok.exfs,ok.funs,ok.frf⟩
section
variable{X:Cx}{pins:List (FP×Obj)}{σ:St}{H:Hp}{s:FS}{E:FO->FS->Prop}
theorem Inv.wish(I:Inv X pins σ H s)(E:FO->FS->Prop):Inv (X.wish E) pins σ H s:=⟨I.ok.wish E,I.os,I.bare,I.base,I.loc,I.cell,I.free,I.freeC,I.pin,I.hok,I.len⟩
theorem Inv.unwish(I:Inv (X.wish E) pins σ H s):Inv X pins σ H s:=⟨I.ok.unwish,I.os,I.bare,I.base,I.loc,I.cell,I.free,I.freeC,I.pin,I.hok,I.len⟩
theorem SP.unwish{D:Ends}{f:Flow}{s':FS}(h:SP (X.wish E) pins D f s'):SP X pins D f s':=by
 cases f with
 |next=>obtain⟨σ',H',I,q⟩:=h;exact⟨σ',H',I.unwish,q⟩
 |brk=>obtain⟨σ',H',I,q⟩:=h;exact⟨σ',H',I.unwish,q⟩
 |cont=>obtain⟨σ',H',I,q⟩:=h;exact⟨σ',H',I.unwish,q⟩
 |ret u=>obtain⟨v,σ',H',I,r,q⟩:=h;exact⟨v,σ',H',I.unwish,r,q⟩
theorem PSs.nox{st:List F6}{t:TS}(h:PSs X.nox st t):PSs X st t:=fun pins s σ H D I hw=>F9 (h pins s σ H D (I.wish _) hw) (fun _ _ q=>q.unwish) fun _ _ z=>False.elim z
end
section
variable{X:Cx}{st:F6}{rest:List F6}{t u:TS}{e:F3}{te:TE}{pos:Pos}
def Qy:TS:=fun D σ H=>D.nx σ H
def P8(t u:TS):TS:=fun D σ H=>t { D with nx:=u D } σ H
theorem GD:PSs X [] Qy:=fun _ _ σ H _ I h=>wpAny_execs_nil ⟨σ,H,I,h⟩
theorem Gm(h1:PS X st t)(h2:PSs X rest u):PSs X (st::rest) (P8 t u):=by
 intro pins s σ H D I h;refine wpAny_execs_cons (thn (h1 pins s σ H { D with nx:=u D } I h) fun f s1 q=>?_);cases f with
 |next=>obtain⟨σ',H',I',q⟩:=q;exact h2 pins s1 σ' H' D I' q
 |ret v=>exact q
 |brk=>exact q
 |cont=>exact q
theorem Gp(h1:PS X st t):PSs X [st] t:=by
 intro pins s σ H D I h;refine wpAny_execs_cons (thn (h1 pins s σ H D I h) fun f s1 q=>?_);cases f with
 |next=>exact wpAny_execs_nil q
 |ret v=>exact q
 |brk=>exact q
 |cont=>exact q
theorem Inv.quiet{pins:List (FP×Obj)}{σ:St}{H:Hp}{s:FS}(I:Inv X pins σ H s):interactive X.env=false:=by simp[interactive,I.ok.kind]
def XN(te:TE):TS:=fun D σ H=>te σ H fun _ H1=>D.nx σ H1
theorem GB(he:PE X e te)(hs:swapsWith e none pos.line X.env=pure false:=by rfl):PS X (.Expr e pos) (XN te):=by intro pins s σ H D I h;exact wpAny_Expr_any (thn (he pins s σ H _ I h) fun v s1 ⟨x,H1,I1,r1,q1⟩=>⟨σ,H1,I1,q1⟩) I.quiet hs
def W9(te:TE):TS:=fun D σ H=>te σ H D.rt
theorem Gz(he:PE X e te):PS X (.Return (some e) pos) (W9 te):=by intro pins s σ H D I h;exact wpAny_Return_some (thn (he pins s σ H _ I h) fun v s1 ⟨x,H1,I1,r1,q1⟩=>⟨x,σ,H1,I1,r1,q1⟩)
def Vv(c:TT)(t u:TS):TS:=fun D σ H=>c σ H fun b H1=>if b=true then t D σ H1 else u D σ H1
theorem GS{c:F3}{a b:List F6}{tc:TT}(hc:PT X c tc)(ha:PSs X a t)(hb:PSs X b u):PS X (.If c a b pos) (Vv tc t u):=by
 intro pins s σ H D I h;refine wpAny_If (thn (hc pins s σ H _ I h) fun d s1 ⟨H1,I1,q1⟩=>?_);cases d with
 |true=>exact ha pins s1 σ H1 D I1 q1
 |false=>exact hb pins s1 σ H1 D I1 q1
end
abbrev TG:=V->St->Hp->(St->Hp->Prop)->Prop
abbrev TGs:=List V->St->Hp->(St->Hp->Prop)->Prop
def PG(X:Cx)(target:F3)(t:TG):Prop:=
 ∀(pins:List (FP×Obj)) (s:FS) (σ:St) (H:Hp) (v:V) (u:FO) (Q:St->Hp->Prop),Inv X pins σ H s->RelV v u->t v σ H Q->
  FW (model X.prog X.w) X.A (assign target X.env u) (fun _ s'=>∃σ' H',Inv X pins σ' H' s'/\Q σ' H') X.xe s
def PGs(X:Cx)(ts:List F3)(t:TGs):Prop:=
 ∀(pins:List (FP×Obj)) (s:FS) (σ:St) (H:Hp) (vs:List V) (us:List FO) (Q:St->Hp->Prop),Inv X pins σ H s->Vals vs us->t vs σ H Q->
  FW (model X.prog X.w) X.A (assignInOrder ((assignEach ts X.env).map (·.2)) us) (fun _ s'=>∃σ' H',Inv X pins σ' H' s'/\Q σ' H') X.xe s
abbrev YR:=V->V->V->Hp->(Hp->Prop)->Prop
def Aag(X:Cx)(t:YR):Prop:=
 ∀(pins:List (FP×Obj)) (s:FS) (σ:St) (H:Hp) (o i v:V) (ov iv u:FO) (Q:Hp->Prop),Inv X pins σ H s->RelV o ov->RelV i iv->RelV v u->t o i v H Q->
  FW (model X.prog X.w) X.A (setItem ov iv u) (fun _ s'=>∃H',Inv X pins σ H' s'/\Q H') X.xe s
section
variable{X:Cx}{pos:Pos}
def HY(i:Nat):TG:=fun v σ H Q=>Q (σ.set i (some v)) H
theorem GJ{i:Nat}{x:Str}(hN:X.N.Nodup)(hi:X.N[i]?=some x)(hx:Loc X.env.scope x)(hf:X.fn x=true\/X.env.scope.names.lookup x=some .local:=by first | exact .inl rfl | exact .inr rfl | assumption):PG X (.Name x pos) (HY i):=by intro pins s σ H v u Q I r h;exact wpAny_assign_Name (QK I hN hi hx r (fun s' I'=>⟨_,H,I',h⟩) hf)
def Rb:TGs:=fun vs σ H Q=>vs=[]/\Q σ H
def JH(t:TG)(u:TGs):TGs:=fun vs σ H Q=>∃v r,vs=v::r/\t v σ H fun σ' H'=>u r σ' H' Q
theorem Il:PGs X [] Rb:=by intro pins s σ H vs us Q I r h;obtain⟨e,h⟩:=h;subst e;cases r;exact assignInOrder_nil ⟨σ,H,I,h⟩
theorem GX{e:F3}{es:List F3}{t:TG}{u:TGs}(h1:PG X e t)(h2:PGs X es u)
  (hs:(assignEach (e::es) X.env).map (·.2)=assign e X.env::(assignEach es X.env).map (·.2):=by rfl):PGs X (e::es) (JH t u):=by
 intro pins s σ H vs us Q I r h;obtain⟨v,vr,e1,h⟩:=h;subst e1;cases r with
 |cons r rr=>rw[hs];refine assignInOrder_cons (thn (h1 pins s σ H _ _ _ I r h) fun _ s1 ⟨σ1,H1,I1,q1⟩=>?_);exact h2 pins s1 σ1 H1 _ _ Q I1 rr q1
def RF(K:Gh)(n:Nat)(t:TGs):TG:=fun v σ H Q=>∃a xs,v=.ref a/\SqT K H a xs/\xs.length=n/\t xs σ H Q
theorem Jm{es:List F3}{k:Nat}{t:TGs}{n:Nat}(hc:X.calm=true)(h:PGs X es t)
  (hn:(assignEach es X.env).length=n:=by rfl) (hst:(assignEach es X.env).findIdx? (·.1)=none:=by rfl):PG X (.Tuple es k pos) (RF X.K n t):=by
 intro pins s σ H v u Q I r hw;obtain⟨a,xs,e1,hq,hl,hw⟩:=hw;subst e1;cases r;obtain⟨its,rv,ht,hz⟩:=I.tuple hq;refine assign_Tuple_tuple (I.ok.hd hc) ht (by simp[hn,<-hl,rv.length]) hst fun h' hx=>?_;have I1:Inv X pins σ H { s with heap:=h' }:=I.kept (t':=s.toks) fun b o e=>hx b o (AH (Am e)) e;exact h pins _ σ H xs _ Q I1 (by simpa using rv) hw
def AaM(to ti:TE)(t:YR):TG:=fun v σ H Q=>to σ H fun o H1=>ti σ H1 fun i H2=>t o i v H2 fun H3=>Q σ H3
theorem YQ{o i:F3}{to ti:TE}{t:YR}(ho:PE X o to)(hi:PE X i ti)(hs:Aag X t)
  (ha:∀v,assign (.Subscript o i pos) X.env v=(do
   let ov ← holding [v] (eval o X.env)
   let iv ← holding [v,ov] (eval i X.env)
   standAt pos
   holding [v,ov,iv] (setItem ov iv v)
   release [v,ov,iv] []):=by intro _;rfl):PG X (.Subscript o i pos) (AaM to ti t):=by
 intro pins s σ H v u Q I r h;rw[ha];refine FQ (wpAny_holding (thn (ho pins s σ H _ I h) fun ov s1 ⟨x,H1,I1,r1,q1⟩=>?_));refine FQ (wpAny_holding (thn (hi pins s1 σ H1 _ I1 q1) fun iv s2 ⟨y,H2,I2,r2,q2⟩=>?_));refine FQ (wpAny_standAt (FQ (wpAny_holding (thn (hs pins s2 σ H2 x y v ov iv u _ I2 r1 r2 r q2) fun _ s3 ⟨H3,I3,q3⟩=>?_))));exact wpAny_release ⟨σ,H3,I3,q3⟩
def Vo(te:TE)(g:TG):TS:=fun D σ H=>te σ H fun x H1=>g x σ H1 D.nx
theorem Yb{tg e:F3}{te:TE}{g:TG}(he:PE X e te)(hg:PG X tg g)(hs:swapsWithSole [tg] e pos.line X.env=pure false:=by rfl)(hw:swappedStores [tg] e X.env=pure none:=by rfl)
  (h1:(assignEach [tg] X.env).map (·.2)=[assign tg X.env]:=by rfl):PS X (.Assign [tg] e pos) (Vo te g):=by
 intro pins s σ H D I h;refine wpAny_Assign_stores (thn (he pins s σ H _ I h) fun v s1 ⟨x,H1,I1,r1,q1⟩=>?_) hs hw;rw[h1];exact thn (hg pins s1 σ H1 x v _ I1 r1 q1) fun _ s2 q=>q
theorem Gw{i:Nat}{x:Str}{e:F3}{te:TE}{pos':Pos}(hN:X.N.Nodup)(hi:X.N[i]?=some x)(hx:Loc X.env.scope x)(he:PE X e te)(hs:swapsWith e (some (.Name x pos')) pos.line X.env=pure false:=by rfl)(hf:X.fn x=true\/X.env.scope.names.lookup x=some .local:=by first | exact .inl rfl | exact .inr rfl | assumption):
  PS X (.Assign [.Name x pos'] e pos) (Vo te (HY i)):=by
 intro pins s σ H D I h;refine wpAny_Assign_Name (thn (he pins s σ H _ I h) fun v s1 ⟨y,H1,I1,r1,q1⟩=>?_) hs;exact QK I1 hN hi hx r1 (fun s2 I2=>⟨_,H1,I2,q1⟩) hf
def X2(c:TT)(tb:TS):TS:=fun D σ H=>∃W:Nat->St->Hp->Prop,(∃m,W m σ H)/\∀m σ H,W m σ H->
 c σ H fun b H1=>if b=true then ∃N:St->Hp->Prop,(∀σ' H',N σ' H'->∃m',m'<m/\W m' σ' H')/\tb { D with nx:=N,ct:=N,bk:=D.nx } σ H1 else D.nx σ H1
theorem HN{c:F3}{body:List F6}{tc:TT}{tb:TS}(hp:PassesOwn (model X.prog X.w) X.A X.env X.xe)(hc:PT X c tc)(hb:PSs X body tb):PS X (.While c body [] pos) (X2 tc tb):=by
 intro pins s σ H D I h;obtain⟨W,⟨m0,w0⟩,turn⟩:=h;refine wpAny_While (codeAny_whileLoop (fun n s'=>∃σ' H',Inv X pins σ' H' s'/\W n σ' H') ?_ m0 ⟨σ,H,I,w0⟩);rintro n s1 ⟨σ1,H1,I1,w1⟩;refine wpAny_passesOwn hp (thn (hc pins s1 σ1 H1 _ I1 (turn n σ1 H1 w1)) fun b s2 ⟨H2,I2,q2⟩=>?_);cases b with
 |true=>
  obtain⟨N,hN,q2⟩:=q2;rw[Gj rfl];refine wpAny_passesOwn hp (thn (hb pins s2 σ1 H2 _ I2 q2) fun f s3 q3=>?_);cases f with
  |next=>obtain⟨σ3,H3,I3,n3⟩:=q3;obtain⟨m',hm,w3⟩:=hN σ3 H3 n3;exact⟨m',hm,σ3,H3,I3,w3⟩
  |cont=>obtain⟨σ3,H3,I3,n3⟩:=q3;obtain⟨m',hm,w3⟩:=hN σ3 H3 n3;exact⟨m',hm,σ3,H3,I3,w3⟩
  |brk=>exact q3
  |ret v=>exact q3
 |false=>rw[Gi Ag];exact wpAny_execs_nil ⟨σ1,H2,I2,q2⟩
end
structure It where
 go:Nat->Hp->Prop
 yld:Nat->Hp->V->Hp->Prop
 stop:Nat->Hp->Prop
def MC(X:Cx)(pins:List (FP×Obj))(H:Hp)(b:FP):Prop:=H b=none/\b≠X.env.locals/\b∉X.fs/\(b∈X.ex\/X.s_0.heap.objs.size<=b)/\(∀x c,X.env.cells.lookup x=some c->c≠b)/\∀p∈X.pn++pins,p.1≠b
theorem Inv.fpOk{X:Cx}{pins:List (FP×Obj)}{σ:St}{H H':Hp}{s:FS}{b:FP}(I:Inv X pins σ H s)(hb:s.heap.objs.size<=b)(hn:H' b=none):MC X pins H' b:=by
 refine⟨hn,Cs (Ap I.lt hb),I.nofs hb,.inr (Ak I.sz hb),fun x c e z=>?_,fun p hp z=>?_⟩
 ·obtain⟨v,q⟩:=I.cell x c e;exact absurd (Ap q.lt (by rw[z];exact hb)) (Bk _)
 ·exact absurd (Ap (Am (I.pin p hp).1) (by rw[z];exact hb)) (Bk _)
structure Turn(P:FU)(w:F0)(K:Gh)(tg:F3)(J:It)(fp:List FP)(it:FP)(tn:Nat->Heap->Prop):Prop where
 mem:it∈fp
 obj:∀i h,tn i h->∀b∈fp,∃o,h.get? b=some o/\∀v,o.data≠.cell v
 keep:∀i h h',tn i h->(∀b∈fp,∀o,h.get? b=some o->h'.get? b=some o)->tn i h'
 item:∀(X:Cx),X.prog=P->X.w=w->X.K=K->X.calm=true->∀(i:Nat) (pins:List (FP×Obj)) (s:FS) (σ:St) (H:Hp) (E:FO->FS->Prop),Inv X pins σ H s->(∀b∈fp,MC X pins H b)->tn i s.heap->J.go i H->
  FW (model P w) X.A (pyNext (.ref it)) (fun r s1=>∃u,r=some u ∧
   FW (model P w) X.A (letOwnedTupleGo tg (.ref it) u) (fun _ s2=>∃x H',Inv X pins σ H' s2/\RelV x u/\J.yld i H x H'/\tn (i+1) s2.heap/\∀b∈fp,H' b=none) E s1) E s
 done:∀(X:Cx),X.prog=P->X.w=w->X.K=K->X.calm=true->∀(i:Nat) (pins:List (FP×Obj)) (s:FS) (σ:St) (H:Hp) (E:FO->FS->Prop),Inv X pins σ H s->(∀b∈fp,MC X pins H b)->tn i s.heap->J.stop i H->
  FW (model P w) X.A (pyNext (.ref it)) (fun r s1=>r=none/\Inv X pins σ H s1) E s
 self:∀(A:F4) (i:Nat) (s:FS) (Q:FO->FS->Prop) (E:FO->FS->Prop),tn i s.heap->Q (.ref it) s->FW (model P w) A (pyIter (.ref it)) Q E s
abbrev TI:=St->Hp->(It->Hp->Prop)->Prop
def PIE(X:Cx)(pins:List (FP×Obj))(σ:St)(tg:F3)(R:It->Hp->Prop)(itv:FO)(s2:FS):Prop:=∃(it:FP) (fp:List FP) (tn:Nat->Heap->Prop) (J:It) (H':Hp),itv=.ref it/\Inv X pins σ H' s2/\Turn X.prog X.w X.K tg J fp it tn/\tn 0 s2.heap/\(∀b∈fp,MC X pins H' b)/\R J H'
def PI(X:Cx)(tg iter:F3)(wi:TI):Prop:=
 ∀(pins:List (FP×Obj)) (s:FS) (σ:St) (H:Hp) (R:It->Hp->Prop),Inv X pins σ H s->wi σ H R->
  FW (model X.prog X.w) X.A (eval iter X.env) (fun v s1=>FW (model X.prog X.w) X.A (pyIter v) (PIE X pins σ tg R) X.xe s1) X.xe s
theorem Sa{M:Model}{A:F4}{E:FO->FS->Prop}{s:FS}{tg:F3}{it:FP}{u:FO}{o:Obj}{n:String}{vs:Array FO}{Q:Unit->FS->Prop}(ho:s.heap.get? it=some o)(hc:o.cls=.type n)(hd:o.data=.fields vs)
  (hn:["enumerate","zip","dict_itemiterator","dict_reverseitemiterator","odict_iterator","itertools.zip_longest","itertools.pairwise"].contains n=false) (hQ:Q () s):FW M A (letOwnedTupleGo tg (.ref it) u) Q E s:=by
 unfold letOwnedTupleGo;cases tg <;> first
  |exact FV hQ
  |(cases u <;> first
    |exact FV hQ
    |(refine FQ (wpAny_load ho ?_)
      rw[hc,hd];show FW M A (if (["enumerate","zip","dict_itemiterator","dict_reverseitemiterator","odict_iterator","itertools.zip_longest","itertools.pairwise"].contains n&&vs[0]?==some (rawInt _))=true then _ else _) Q E s;rw[Gi (by intro h;rw[hn,Bool.false_and] at h;cases h)];exact FV hQ))
def Itl(K:Gh)(a:FP):It:=⟨fun i H=>∃xs x,SqL K H a xs/\xs[i]?=some x,fun i H x H'=>H'=H/\∀xs,SqL K H a xs->xs[i]?=some x,fun i H=>∃xs,SqL K H a xs/\xs.length<=i⟩
def Itt(K:Gh)(a:FP):It:=⟨fun i H=>∃xs x,SqT K H a xs/\xs[i]?=some x,fun i H x H'=>H'=H/\∀xs,SqT K H a xs->xs[i]?=some x,fun i H=>∃xs,SqT K H a xs/\xs.length<=i⟩
def Itr(lo:Int)(n:Nat):It:=⟨fun i _=>i<n,fun i H x H'=>H'=H/\x=.int (lo+i),fun i _=>n<=i⟩
theorem SI{P:FU}{w:F0}{K:Gh}{tg:F3}(a it:FP):Turn P w K tg (Itl K a) [it] it (fun i h=>h.IsListIter it a i) where
 mem:=by simp
 obj:=fun i h st b hb=>by
  have e:b=it:=by simpa using hb
  subst e;obtain⟨o,e,c,d⟩:=st;exact⟨o,e,fun v z=>by rw[d] at z;cases z⟩
 keep:=fun i h h' st k=>st.at fun o e=>k it (by simp) o e
 item:=by intro X hP hw hK hc i pins s σ H E I hf st hg;subst hP hw hK;obtain⟨xs,x,hq,hx⟩:=hg;obtain⟨its,rv,p,hz⟩:=I.list hq;obtain⟨u,hu,ru⟩:=rv.get hx;obtain⟨f0,f1,f2,f3,f4,f5⟩:=hf it (by simp);refine wpAny_pyNext_list_item st p.isList (x:=u) (by simpa using hu) fun h' st' sb=>?_;have I1:Inv X pins σ H { s with heap:=h' }:=I.turned (t':=s.toks) (fun b o hb e=>(sb.2 b hb).trans e) f0 f1 f3 f4 f5;obtain⟨o,e,c,d⟩:=id st';exact⟨u,rfl,Sa (s:={ s with heap:=h' }) e c d (by decide) ⟨x,H,I1,ru,⟨rfl,fun ys hy=>by rw[I.list_inj hy hq];exact hx⟩,st',fun b hb=>(hf b hb).1⟩⟩
 done:=by intro X hP hw hK hc i pins s σ H E I hf st hg;subst hP hw hK;obtain⟨xs,hq,hx⟩:=hg;obtain⟨its,rv,p,hz⟩:=I.list hq;obtain⟨f0,f1,f2,f3,f4,f5⟩:=hf it (by simp);have hl:=rv.length;exact wpAny_pyNext_list_end (I.ok.hd hc) st p.isList (by simp;lia) fun h' eb=>⟨rfl,I.turned (t':=s.toks) (fun b o hb e=>eb b o hb e) f0 f1 f3 f4 f5⟩
 self:=fun _ _ _ _ _ st h=>wpAny_pyIter_listiter st h
theorem RM{P:FU}{w:F0}{K:Gh}{tg:F3}(a it:FP):Turn P w K tg (Itt K a) [it] it (fun i h=>h.IsTupleIter it a i) where
 mem:=by simp
 obj:=fun i h st b hb=>by
  have e:b=it:=by simpa using hb
  subst e;obtain⟨o,e,c,d⟩:=st;exact⟨o,e,fun v z=>by rw[d] at z;cases z⟩
 keep:=fun i h h' st k=>st.at fun o e=>k it (by simp) o e
 item:=by intro X hP hw hK hc i pins s σ H E I hf st hg;subst hP hw hK;obtain⟨xs,x,hq,hx⟩:=hg;obtain⟨its,rv,p,hz⟩:=I.tuple hq;obtain⟨u,hu,ru⟩:=rv.get hx;obtain⟨f0,f1,f2,f3,f4,f5⟩:=hf it (by simp);refine wpAny_pyNext_tuple_item st (show s.heap.IsTuple a its.toArray from p) (x:=u) (by simpa using hu) fun h' st' sb=>?_;have I1:Inv X pins σ H { s with heap:=h' }:=I.turned (t':=s.toks) (fun b o hb e=>(sb.2 b hb).trans e) f0 f1 f3 f4 f5;obtain⟨o,e,c,d⟩:=id st';exact⟨u,rfl,Sa (s:={ s with heap:=h' }) e c d (by decide) ⟨x,H,I1,ru,⟨rfl,fun ys hy=>by rw[I.tuple_inj hy hq];exact hx⟩,st',fun b hb=>(hf b hb).1⟩⟩
 done:=by intro X hP hw hK hc i pins s σ H E I hf st hg;subst hP hw hK;obtain⟨xs,hq,hx⟩:=hg;obtain⟨its,rv,p,hz⟩:=I.tuple hq;obtain⟨f0,f1,f2,f3,f4,f5⟩:=hf it (by simp);have hl:=rv.length;exact wpAny_pyNext_tuple_end (I.ok.hd hc) st (show s.heap.IsTuple a its.toArray from p) (by simp;lia) fun h' eb=>⟨rfl,I.turned (t':=s.toks) (fun b o hb e=>eb b o hb e) f0 f1 f3 f4 f5⟩
 self:=fun _ _ _ _ _ st h=>wpAny_pyIter_tupleiter st h
theorem Q7{P:FU}{w:F0}{K:Gh}{tg:F3}(it:FP)(lo:Int)(n:Nat):Turn P w K tg (Itr lo n) [it] it (fun i h=>IsRangeIter h it (lo+(i:Nat)*1) ((n:Int)-(i:Nat)) 1) where
 mem:=by simp
 obj:=fun i h st b hb=>by
  have e:b=it:=by simpa using hb
  subst e;exact⟨_,st,fun v z=>by have z':Data.fields _=Data.cell v:=z;cases z'⟩
 keep:=fun i h h' st k=>k it (by simp) _ st
 item:=by intro X hP hw hK hc i pins s σ H E I hf st hg;subst hP hw hK;obtain⟨f0,f1,f2,f3,f4,f5⟩:=hf it (by simp);have W:=Walks.range (prog:=X.prog) (w:=X.w) (I.ok.hd hc) it lo 1 n;refine W.item i s _ _ hg st fun v h' tk hv st' kk=>?_;obtain⟨t,rfl⟩:=hv;have I1:Inv X pins σ H { s with heap:=h',toks:=tk }:=I.turned (fun b o hb e=>kk b o (by simpa using hb) e) f0 f1 f3 f4 f5;refine⟨_,rfl,Sa (s:={ s with heap:=h',toks:=tk }) (n:="range_iterator") st' rfl rfl (by decide) ⟨.int (lo+i),H,I1,⟨t,?_⟩,⟨rfl,rfl⟩,st',fun b hb=>(hf b hb).1⟩⟩;rw[Fa]
 done:=by intro X hP hw hK hc i pins s σ H E I hf st hg;subst hP hw hK;obtain⟨f0,f1,f2,f3,f4,f5⟩:=hf it (by simp);exact wpAny_pyNext_range_end (I.ok.hd hc) st (by have:n<=i:=hg;lia) fun h' eb=>⟨rfl,I.turned (t':=s.toks) (fun b o hb e=>eb b o hb e) f0 f1 f3 f4 f5⟩
 self:=fun _ _ _ _ _ st h=>wpAny_pyIter_rangeiter st h
section
variable{X:Cx}{tg:F3}
def ZS(K:Gh)(tl:TE):TI:=fun σ H R=>tl σ H fun x H1=>∃a,x=.ref a/\(∃xs,SqL K H1 a xs)/\R (Itl K a) H1
def AaI(K:Gh)(tl:TE):TI:=fun σ H R=>tl σ H fun x H1=>∃a,x=.ref a/\(∃xs,SqT K H1 a xs)/\R (Itt K a) H1
theorem Ik{l:F3}{tl:TE}(hl:PE X l tl):PI X tg l (ZS X.K tl):=by
 intro pins s σ H R I h;refine thn (hl pins s σ H _ I h) fun v s1 ⟨x,H1,I1,r1,q1⟩=>?_;obtain⟨a,e,⟨xs,hq⟩,q⟩:=q1;subst e;cases r1;obtain⟨its,rv,p,hz⟩:=I1.list hq;refine wpAny_pyIter_list p.isList ?_;refine⟨s1.heap.objs.size,[s1.heap.objs.size],_,_,H1,rfl,I1.kept (t':=s1.toks) fun b o e=>Ab _ e,SI a _,⟨_,Au _ rfl,rfl,rfl⟩,fun b hb=>?_,q⟩;have e:b=s1.heap.objs.size:=by simpa using hb
 subst e;exact I1.fpOk (Ah _) (I1.hok.fresh (Ah _))
theorem Vw{l:F3}{tl:TE}(hl:PE X l tl):PI X tg l (AaI X.K tl):=by
 intro pins s σ H R I h;refine thn (hl pins s σ H _ I h) fun v s1 ⟨x,H1,I1,r1,q1⟩=>?_;obtain⟨a,e,⟨xs,hq⟩,q⟩:=q1;subst e;cases r1;obtain⟨its,rv,p,hz⟩:=I1.tuple hq;refine wpAny_pyIter_tuple (show s1.heap.IsTuple a its.toArray from p) ?_;refine⟨s1.heap.objs.size,[s1.heap.objs.size],_,_,H1,rfl,I1.kept (t':=s1.toks) fun b o e=>Ab _ e,RM a _,⟨_,Au _ rfl,rfl,rfl⟩,fun b hb=>?_,q⟩;have e:b=s1.heap.objs.size:=by simpa using hb
 subst e;exact I1.fpOk (Ah _) (I1.hok.fresh (Ah _))
theorem QU{pins:List (FP×Obj)}{σ:St}{H:Hp}{s:FS}{R:It->Hp->Prop}{E:FO->FS->Prop}{lo hi:Int}{t u v:Tok}{tk:Nat}(I:Inv X pins σ H s)(h1:-(2 ^ 62)<=lo)(h2:lo<2 ^ 62)(h3:-(2 ^ 62)<=hi)(h4:hi<2 ^ 62)
  (q:R (Itr lo (hi-lo).toNat) H):FW (model X.prog X.w) X.A (pyIter (.ref s.heap.objs.size)) (PIE X pins σ tg R) E { s with heap:=s.heap.push { cls:=.type "range",data:=.fields #[.int lo t,.int hi u,.int 1 v] },toks:=tk }:=by
 refine wpAny_pyIter_range (IsRange.new ..) (small_one h1 h2 h3 h4) ?_;have I1:Inv X pins σ H { s with heap:=s.heap.push { cls:=.type "range",data:=.fields #[.int lo t,.int hi u,.int 1 v] },toks:=tk }:=I.kept fun b o e=>Ab _ e;refine⟨(s.heap.push { cls:=.type "range",data:=.fields #[.int lo t,.int hi u,.int 1 v] }).objs.size,[(s.heap.push { cls:=.type "range",data:=.fields #[.int lo t,.int hi u,.int 1 v] }).objs.size],_,_,H,rfl,
  I1.kept (t':=tk) fun b o e=>Ab _ e,Q7 _ lo (hi-lo).toNat,?_,fun b hb=>?_,q⟩
 ·have e1:lo+((0:Nat):Int)*1=lo:=by simp
  have e2:(((hi-lo).toNat:Nat):Int)-((0:Nat):Int)=Builtin.Range.rangeSize lo hi 1:=by rw[rangeSize_one];split <;> lia
  show IsRangeIter _ _ (lo+((0:Nat):Int)*1) ((((hi-lo).toNat:Nat):Int)-((0:Nat):Int)) 1;rw[e1,e2];exact Au _ rfl
 ·have e:b=(s.heap.push { cls:=.type "range",data:=.fields #[.int lo t,.int hi u,.int 1 v] }).objs.size:=by simpa using hb
  subst e;exact I1.fpOk (Ah _) (I1.hok.fresh (Ah _))
def Zz(ta:TA):TI:=fun σ H R=>ta σ H fun vs H1=>∃j:Int,vs=[.int j]/\-(2 ^ 62)<=j/\j<2 ^ 62/\R (Itr 0 j.toNat) H1
def Zn(ta:TA):TI:=fun σ H R=>ta σ H fun vs H1=>∃i j:Int,vs=[.int i,.int j]/\(-(2 ^ 62)<=i/\i<2 ^ 62/\-(2 ^ 62)<=j/\j<2 ^ 62)/\R (Itr i (j-i).toNat) H1
theorem OC{a:F3}{ta:TA}{p pos:Pos}(hg:Gl X "range")(hm:X.mg "range"=none)(ha:PA X [a] ta)(hs:FY [a] X.env=[(false,eval a X.env)]:=by rfl):PI X tg (.Call (.Name "range" p) [a] [] pos) (Zz ta):=by
 intro pins s σ H R I h;refine Call_ (K7 I hg hm boot_range (BC (thn (ha pos pins s σ H _ I h) fun us s1 ⟨vs,H1,I1,r1,q1⟩=>?_) hs rfl));obtain⟨j,e,q1,q2,q⟩:=q1;subst e;cases r1 with
 |cons r rr=>cases rr;obtain⟨t,rfl⟩:=r;exact call_range_1 (QU I1 (by lia) (by lia) q1 q2 (by simpa using q))
theorem OG{a b:F3}{ta:TA}{p pos:Pos}(hg:Gl X "range")(hm:X.mg "range"=none)(ha:PA X [a,b] ta)(hs:FY [a,b] X.env=[(false,eval a X.env),(false,eval b X.env)]:=by rfl)(hs2:FY [b] X.env=[(false,eval b X.env)]:=by rfl):
  PI X tg (.Call (.Name "range" p) [a,b] [] pos) (Zn ta):=by
 intro pins s σ H R I h;refine Call_ (K7 I hg hm boot_range (BC (thn (ha pos pins s σ H _ I h) fun us s1 ⟨vs,H1,I1,r1,q1⟩=>?_) (by rw[hs,hs2]) (by rw[hs2];rfl)));obtain⟨i,j,e,⟨q1,q2,q3,q4⟩,q⟩:=q1;subst e;cases r1 with
 |cons r rr=>
  cases rr with
  |cons r' rr=>cases rr;obtain⟨t,rfl⟩:=r;obtain⟨t',rfl⟩:=r';exact call_range_2 (QU I1 q1 q2 q3 q4 q)
def AaO(wi:TI)(g:TG)(tb:TS):TS:=fun D σ H=>wi σ H fun J H1=>∃W:Nat->Nat->St->Hp->Prop,(∃m,W 0 m σ H1)/\∀i m σ H,W i m σ H->
 (J.stop i H/\D.nx σ H)\/(J.go i H/\∃N:St->Hp->Prop,(∀σ' H',N σ' H'->∃m',m'<m/\W (i+1) m' σ' H')/\∀x H',J.yld i H x H'->g x σ H' fun σ2 H2=>tb { D with nx:=N,ct:=N,bk:=D.nx } σ2 H2)
def MX(fp:List FP)(h:Heap):List (FP×Obj):=fp.filterMap fun b=>(h.get? b).map fun o=>(b,o)
theorem K0{fp:List FP}{h:Heap}{b:FP}{o:Obj}(hb:b∈fp)(e:h.get? b=some o):(b,o)∈MX fp h:=BY.mpr ⟨b,hb,by rw[e];rfl⟩
theorem TQ{fp:List FP}{h:Heap}{p:FP×Obj}(hp:p∈MX fp h):p.1∈fp/\h.get? p.1=some p.2:=by
 obtain⟨b,hb,e⟩:=BY.mp hp;cases q:h.get? b with
 |none=>rw[q] at e;cases e
 |some o=>rw[q] at e;have e':(b,o)=p:=Option.some.inj e;subst e';exact⟨hb,q⟩
theorem Inv.pinned{pins:List (FP×Obj)}{σ:St}{H:Hp}{s:FS}{fp:List FP}(I:Inv X pins σ H s)(hf:∀b∈fp,MC X pins H b)(ho:∀b∈fp,∃o,s.heap.get? b=some o/\∀v,o.data≠.cell v):Inv X (pins++MX fp s.heap) σ H s:=I.pins_of fun p hp=>(AK.mp hp).elim (fun z=>I.pin p (A7 _ z)) fun z=>by obtain⟨hb,e⟩:=TQ z;obtain⟨f0,f1,f2,_⟩:=hf p.1 hb;obtain⟨o,e',d⟩:=ho p.1 hb;rw[e] at e';cases e';exact⟨e,f0,f1,f2,d⟩
theorem Inv.unpinned{pins pl:List (FP×Obj)}{σ:St}{H:Hp}{s:FS}(I:Inv X (pins++pl) σ H s):Inv X pins σ H s:=I.pins_of fun p hp=>I.pin p (A7 _ (Bp _ hp))
theorem Ic{iter:F3}{body:List F6}{wi:TI}{g:TG}{tb:TS}{pos:Pos}(hp:PassesOwn (model X.prog X.w) X.A X.env X.xe)(hc:X.calm=true)(hi:PI X tg iter wi)(hg:PG X tg g)(hb:PSs X body tb)
  (hs:∀x,foldedSetIterable iter X.env x=pure x:=by intro _;rfl):PS X (.For tg iter body [] pos) (AaO wi g tb):=by
 intro pins s σ H D I h;refine wpAny_For (thn (hi pins s σ H _ I h) fun v s1 h1=>thn h1 fun itv s2 h2=>?_) hs;obtain⟨it,fp,tn,J,H2,e,I2,T,st2,f2,W,⟨m0,w0⟩,turn⟩:=h2;subst e;have stat:∀{H':Hp},(∀b∈fp,H' b=none)->∀b∈fp,MC X pins H' b:=fun hn b hb=>⟨hn b hb,(f2 b hb).2⟩;refine codeAny_forLoop_any (fun n s'=>∃i σ' H',Inv X pins σ' H' s'/\tn i s'.heap/\(∀b∈fp,H' b=none)/\W i n σ' H') ?_ m0 ⟨0,σ,H2,I2,st2,fun b hb=>(f2 b hb).1,w0⟩;rintro n s3 ⟨i,σ3,H3,I3,st3,fr3,w3⟩;rcases turn i n σ3 H3 w3 with ⟨stop,qn⟩ | ⟨go,N,hN,step⟩
 ·refine wpAny_passesOwn hp (thn (T.done X rfl rfl rfl hc i pins s3 σ3 H3 X.xe I3 (stat fr3) st3 stop) fun r s4 ⟨hr,I4⟩=>?_);subst hr;exact wpAny_execs_nil ⟨σ3,H3,I4,qn⟩
 ·refine wpAny_passesOwn hp (thn (T.item X rfl rfl rfl hc i pins s3 σ3 H3 X.xe I3 (stat fr3) st3 go) fun r s4 ⟨u,hr,h4⟩=>?_);subst hr;refine wpAny_passesOwn hp (thn h4 fun _ s5 ⟨x,H5,I5,r5,y5,st5,fr5⟩=>?_);have I5':=I5.pinned (stat fr5) (T.obj _ _ st5);refine wpAny_passesOwn hp (thn (hg _ s5 σ3 H5 x u _ I5' r5 (step x H5 y5)) fun _ s6 ⟨σ6,H6,I6,q6⟩=>?_);refine wpAny_passesOwn hp (thn (hb _ s6 σ6 H6 _ I6 q6) fun f s7 q7=>?_);have again:∀{σ7:St} {H7:Hp},Inv X (pins++MX fp s5.heap) σ7 H7 s7->N σ7 H7->∃m,m<n/\∃i σ' H',Inv X pins σ' H' s7/\tn i s7.heap/\(∀b∈fp,H' b=none)/\W i m σ' H':=fun{σ7 H7} I7 n7=>by obtain⟨m',hm,w7⟩:=hN σ7 H7 n7;refine⟨m',hm,i+1,σ7,H7,I7.unpinned,T.keep _ _ _ st5 fun b hb o e=>(I7.pin (b,o) (A7 _ (A7 _ (K0 hb e)))).1,fun b hb=>?_,w7⟩;obtain⟨o,e,d⟩:=T.obj _ _ st5 b hb;exact(I7.pin (b,o) (A7 _ (A7 _ (K0 hb e)))).2.1
  cases f with
  |next=>obtain⟨σ7,H7,I7,n7⟩:=q7;exact again I7 n7
  |cont=>obtain⟨σ7,H7,I7,n7⟩:=q7;exact again I7 n7
  |brk=>obtain⟨σ7,H7,I7,q7⟩:=q7;exact⟨σ7,H7,I7.unpinned,q7⟩
  |ret v=>obtain⟨x7,σ7,H7,I7,r7,q7⟩:=q7;exact⟨x7,σ7,H7,I7.unpinned,r7,q7⟩
end
theorem Jn{K:Gh}{a:FP}{xs:List V}{g:TG}{tb:TS}{D:Ends}{σ:St}{H:Hp}(Pv:Nat->St->Hp->Prop)(h0:Pv 0 σ H)(hl:∀i σ H,i<=xs.length->Pv i σ H->SqL K H a xs)
  (hs:∀i x σ H,xs[i]?=some x->Pv i σ H->g x σ H fun σ2 H2=>tb { D with nx:=Pv (i+1),ct:=Pv (i+1),bk:=D.nx } σ2 H2) (hd:∀σ H,Pv xs.length σ H->D.nx σ H):
  ∃W:Nat->Nat->St->Hp->Prop,(∃m,W 0 m σ H)/\∀i m σ H,W i m σ H->
   ((Itl K a).stop i H/\D.nx σ H)\/((Itl K a).go i H/\∃N:St->Hp->Prop,(∀σ' H',N σ' H'->∃m',m'<m/\W (i+1) m' σ' H')/\∀x H',(Itl K a).yld i H x H'->g x σ H' fun σ2 H2=>tb { D with nx:=N,ct:=N,bk:=D.nx } σ2 H2):=by
 refine⟨fun i m σ H=>m=xs.length-i/\i<=xs.length/\Pv i σ H,⟨xs.length,by simp,AD _,h0⟩,?_⟩;rintro i m σ H ⟨rfl,hi,p⟩;have q:=hl i σ H hi p;by_cases hlt:i<xs.length
 ·refine .inr ⟨⟨xs,xs[i],q,by simp[hlt]⟩,Pv (i+1),fun σ' H' p'=>⟨xs.length-(i+1),by lia,rfl,hlt,p'⟩,fun x H' y=>?_⟩;obtain⟨e,y⟩:=y;subst e;exact hs i x σ _ (y xs q) p
 ·have e:i=xs.length:=by lia
  subst e;exact .inl ⟨⟨xs,q,Ah _⟩,hd σ H p⟩
theorem R0{K:Gh}{a:FP}{xs:List V}{g:TG}{tb:TS}{D:Ends}{σ:St}{H:Hp}(Pv:Nat->St->Hp->Prop)(h0:Pv 0 σ H)(hl:∀i σ H,i<=xs.length->Pv i σ H->SqT K H a xs)
  (hs:∀i x σ H,xs[i]?=some x->Pv i σ H->g x σ H fun σ2 H2=>tb { D with nx:=Pv (i+1),ct:=Pv (i+1),bk:=D.nx } σ2 H2) (hd:∀σ H,Pv xs.length σ H->D.nx σ H):
  ∃W:Nat->Nat->St->Hp->Prop,(∃m,W 0 m σ H)/\∀i m σ H,W i m σ H->
   ((Itt K a).stop i H/\D.nx σ H)\/((Itt K a).go i H/\∃N:St->Hp->Prop,(∀σ' H',N σ' H'->∃m',m'<m/\W (i+1) m' σ' H')/\∀x H',(Itt K a).yld i H x H'->g x σ H' fun σ2 H2=>tb { D with nx:=N,ct:=N,bk:=D.nx } σ2 H2):=by
 refine⟨fun i m σ H=>m=xs.length-i/\i<=xs.length/\Pv i σ H,⟨xs.length,by simp,AD _,h0⟩,?_⟩;rintro i m σ H ⟨rfl,hi,p⟩;have q:=hl i σ H hi p;by_cases hlt:i<xs.length
 ·refine .inr ⟨⟨xs,xs[i],q,by simp[hlt]⟩,Pv (i+1),fun σ' H' p'=>⟨xs.length-(i+1),by lia,rfl,hlt,p'⟩,fun x H' y=>?_⟩;obtain⟨e,y⟩:=y;subst e;exact hs i x σ _ (y xs q) p
 ·have e:i=xs.length:=by lia
  subst e;exact .inl ⟨⟨xs,q,Ah _⟩,hd σ H p⟩
theorem KE{lo:Int}{n:Nat}{g:TG}{tb:TS}{D:Ends}{σ:St}{H:Hp}(Pv:Nat->St->Hp->Prop)(h0:Pv 0 σ H)
  (hs:∀i σ H,i<n->Pv i σ H->g (.int (lo+i)) σ H fun σ2 H2=>tb { D with nx:=Pv (i+1),ct:=Pv (i+1),bk:=D.nx } σ2 H2) (hd:∀σ H,Pv n σ H->D.nx σ H):
  ∃W:Nat->Nat->St->Hp->Prop,(∃m,W 0 m σ H)/\∀i m σ H,W i m σ H->
   ((Itr lo n).stop i H/\D.nx σ H)\/((Itr lo n).go i H/\∃N:St->Hp->Prop,(∀σ' H',N σ' H'->∃m',m'<m/\W (i+1) m' σ' H')/\∀x H',(Itr lo n).yld i H x H'->g x σ H' fun σ2 H2=>tb { D with nx:=N,ct:=N,bk:=D.nx } σ2 H2):=by
 refine⟨fun i m σ H=>m=n-i/\i<=n/\Pv i σ H,⟨n,by simp,AD _,h0⟩,?_⟩;rintro i m σ H ⟨rfl,hi,p⟩;by_cases hlt:i<n
 ·refine .inr ⟨hlt,Pv (i+1),fun σ' H' p'=>⟨n-(i+1),by lia,rfl,hlt,p'⟩,fun x H' y=>?_⟩;obtain⟨e,y⟩:=y;subst e y;exact hs i σ _ hlt p
 ·have e:i=n:=by lia
  subst e;exact .inl ⟨Ah _,hd σ H p⟩
abbrev R2:=V->V->Hp->VK->Prop
def OpR(X:Cx)(f:FO->FO->Sem FO)(r:R2):Prop:=
 ∀(pins:List (FP×Obj)) (s:FS) (σ:St) (H:Hp) (x y:V) (v u:FO) (Q:VK),Inv X pins σ H s->RelV x v->RelV y u->r x y H Q->
  FW (model X.prog X.w) X.A (f v u) (EP X pins σ Q) X.xe s
def UnR(X:Cx)(f:FO->Sem FO)(r:V->Hp->VK->Prop):Prop:=
 ∀(pins:List (FP×Obj)) (s:FS) (σ:St) (H:Hp) (x:V) (v:FO) (Q:VK),Inv X pins σ H s->RelV x v->r x H Q->
  FW (model X.prog X.w) X.A (f v) (EP X pins σ Q) X.xe s
def Lk(X:Cx)(f:FO)(r:List V->Hp->VK->Prop):Prop:=
 ∀(pins:List (FP×Obj)) (s:FS) (σ:St) (H:Hp) (xs:List V) (us:List FO) (Q:VK),Inv X pins σ H s->Vals xs us->r xs H Q->
  FW (model X.prog X.w) X.A (call f us) (EP X pins σ Q) X.xe s
def Aax(X:Cx)(r:V->Hp->(Bool->Hp->Prop)->Prop):Prop:=
 ∀(pins:List (FP×Obj)) (s:FS) (σ:St) (H:Hp) (x:V) (v:FO) (Q:Bool->Hp->Prop),Inv X pins σ H s->RelV x v->r x H Q->
  FW (model X.prog X.w) X.A (truthy v) (TP X pins σ Q) X.xe s
def tOp(r:R2)(ta tb:TE):TE:=fun σ H Q=>ta σ H fun x H1=>tb σ H1 fun y H2=>r x y H2 Q
def tUn(r:V->Hp->VK->Prop)(ta:TE):TE:=fun σ H Q=>ta σ H fun x H1=>r x H1 Q
def rI(C:Int->Int->Prop)(g:Int->Int->V):R2:=fun x y H Q=>∃i j,x=.int i/\y=.int j/\C i j/\Q (g i j) H
def rI0(g:Int->Int->V):R2:=fun x y H Q=>∃i j,x=.int i/\y=.int j/\Q (g i j) H
def rU(g:Int->V):V->Hp->VK->Prop:=fun x H Q=>∃i,x=.int i/\Q (g i) H
section
variable{X:Cx}{a b c:F3}{ta tb tc:TE}{pos:Pos}
theorem YU(ha:PE X a ta)(hb:PE X b tb){pins:List (FP×Obj)}{s:FS}{σ:St}{H:Hp}{R:V->V->Hp->Prop}(I:Inv X pins σ H s)
  (h:ta σ H fun x H1=>tb σ H1 fun y H2=>R x y H2) {Q:FO->FS->Prop} {f:FO->FO->Sem FO}
  (hf:∀v u s2 x y H2,Inv X pins σ H2 s2->RelV x v->RelV y u->R x y H2->FW (model X.prog X.w) X.A (f v u) Q X.xe s2):
  FW (model X.prog X.w) X.A (eval a X.env) (fun v s₁=>FW (model X.prog X.w) X.A (eval b X.env) (fun u s₂=>FW (model X.prog X.w) X.A (f v u) Q X.xe s₂) X.xe s₁) X.xe s:=by
 refine thn (ha pins s σ H _ I h) fun v s1 ⟨x,H1,I1,r1,q1⟩=>?_;refine thn (hb pins s1 σ H1 _ I1 q1) fun u s2 ⟨y,H2,I2,r2,q2⟩=>?_;exact hf v u s2 x y H2 I2 r1 r2 q2
theorem GU{op:Operator}{r:R2}(ho:OpR X (binaryOp op) r)(ha:PE X a ta)(hb:PE X b tb):PE X (.BinOp a op b pos) (tOp r ta tb):=by intro pins s σ H Q I h;exact wpAny_BinOp (YU ha hb I h fun v u s2 x y H2 I2 rx ry q=>ho pins s2 σ H2 x y v u Q I2 rx ry q)
theorem Sb{op:UnaryOp}{r:V->Hp->VK->Prop}(ho:UnR X (unaryOp op) r)(ha:PE X a ta):PE X (.UnaryOp op a pos) (tUn r ta):=by intro pins s σ H Q I h;exact UnaryOp_ (thn (ha pins s σ H _ I h) fun v s1 ⟨x,H1,I1,r1,q1⟩=>ho pins s1 σ H1 x v Q I1 r1 q1)
theorem opI{f:FO->FO->Sem FO}{C:Int->Int->Prop}{g:Int->Int->Int}
  (rule:∀(i j:Int) (t u:Tok) (s:FS) (Q:FO->FS->Prop) (E:FO->FS->Prop),C i j->Q (.int (g i j) s.toks) { s with toks:=s.toks+1 }->FW (model X.prog X.w) X.A (f (.int i t) (.int j u)) Q E s):
  OpR X f (rI C fun i j=>.int (g i j)):=by
 intro pins s σ H x y v u Q I rx ry h;obtain⟨i,j,rfl,rfl,hc,q⟩:=h;obtain⟨t,rfl⟩:=rx;obtain⟨t',rfl⟩:=ry;exact rule i j t t' s _ _ hc ⟨.int (g i j),H,I.tok _,⟨_,rfl⟩,q⟩
theorem Ze{f:FO->FO->Sem FO}{g:Int->Int->Int}
  (rule:∀(i j:Int) (t u:Tok) (s:FS) (Q:FO->FS->Prop) (E:FO->FS->Prop),Q (.int (g i j) s.toks) { s with toks:=s.toks+1 }->FW (model X.prog X.w) X.A (f (.int i t) (.int j u)) Q E s):
  OpR X f (rI0 fun i j=>.int (g i j)):=by
 intro pins s σ H x y v u Q I rx ry h;obtain⟨i,j,rfl,rfl,q⟩:=h;obtain⟨t,rfl⟩:=rx;obtain⟨t',rfl⟩:=ry;exact rule i j t t' s _ _ ⟨.int (g i j),H,I.tok _,⟨_,rfl⟩,q⟩
theorem WP{f:FO->FO->Sem FO}{g:Int->Int->Bool}
  (rule:∀(i j:Int) (t u:Tok) (s:FS) (Q:FO->FS->Prop) (E:FO->FS->Prop),Q (.bool (g i j)) s->FW (model X.prog X.w) X.A (f (.int i t) (.int j u)) Q E s):
  OpR X f (rI0 fun i j=>.bl (g i j)):=by
 intro pins s σ H x y v u Q I rx ry h;obtain⟨i,j,rfl,rfl,q⟩:=h;obtain⟨t,rfl⟩:=rx;obtain⟨t',rfl⟩:=ry;exact rule i j t t' s _ _ ⟨.bl (g i j),H,I,rfl,q⟩
def YS(i j:Int):Prop:=0<j/\j<1073741824
def CMul(i j:Int):Prop:=(-(2 ^ 64)<i/\i<2 ^ 64)\/(-(2 ^ 64)<j/\j<2 ^ 64)
theorem CMul.ok{i j:Int}(h:CMul i j):IntMulOk i j:=by
 rcases h with ⟨h1,h2⟩ | ⟨h1,h2⟩
 ·exact .of_left (intBits_le_64 h1 h2)
 ·exact .of_right (intBits_le_64 h1 h2)
theorem Kl:OpR X (binaryOp .Add) (rI0 fun i j=>.int (i+j)):=Ze fun _ _ _ _ _ _ _ q=>add_int q
theorem JC:OpR X (binaryOp .Sub) (rI0 fun i j=>.int (i-j)):=Ze fun _ _ _ _ _ _ _ q=>sub_int q
theorem JB:OpR X (binaryOp .Mult) (rI CMul fun i j=>.int (i*j)):=opI fun _ _ _ _ _ _ _ hc q=>mul_int q hc.ok
theorem Jt:OpR X (binaryOp .FloorDiv) (rI YS fun i j=>.int (i / j)):=opI fun i j _ _ _ _ _ hc q=>by have h1:(0:Int)<j:=hc.1;have h2:j<1073741824:=hc.2;exact floordiv_int (by lia) (by rw[Int.fdiv_eq_ediv_of_nonneg i (by lia)];exact q) (.inl (PyProof.noPylong_small (by lia)))
theorem Yu:OpR X (binaryOp .Mod) (rI (fun _ j=>0<j) fun i j=>.int (i % j)):=opI fun i j _ _ _ _ _ hc q=>by have h1:(0:Int)<j:=hc;exact mod_int' (by lia) (by rw[Int.fmod_eq_emod_of_nonneg i (by lia)];exact q)
theorem VT:OpR X (binaryOp .Mod) (rI (fun _ j=>j≠0) fun i j=>.int (i.fmod j)):=opI fun _ _ _ _ _ _ _ hc q=>mod_int' hc q
theorem unI{f:FO->Sem FO}{g:Int->Int}
  (rule:∀(i:Int) (t:Tok) (s:FS) (Q:FO->FS->Prop) (E:FO->FS->Prop),Q (.int (g i) s.toks) { s with toks:=s.toks+1 }->FW (model X.prog X.w) X.A (f (.int i t)) Q E s):
  UnR X f (rU fun i=>.int (g i)):=by
 intro pins s σ H x v Q I rx h;obtain⟨i,rfl,q⟩:=h;obtain⟨t,rfl⟩:=rx;exact rule i t s _ _ ⟨.int (g i),H,I.tok _,⟨_,rfl⟩,q⟩
theorem Pr:UnR X (unaryOp .USub) (rU fun i=>.int (-i)):=unI fun _ _ _ _ _ q=>neg_int q
end
def Zv:V->V->Bool
 |.non,.non=>true | .non,.int _=>true | .int _,.non=>true | .non,.bl _=>true | .bl _,.non=>true | .non,.str _=>true | .str _,.non=>true
 |.int _,.int _=>true | .bl _,.bl _=>true | .str _,.str _=>true | .byt _,.byt _=>true
 |.int _,.str _=>true | .str _,.int _=>true | .bl _,.str _=>true | .str _,.bl _=>true
 |_,_=>false
def rEq:R2:=fun x y H Q=>Zv x y=true/\Q (.bl (decide (x=y))) H
def rNe:R2:=fun x y H Q=>Zv x y=true/\Q (.bl (!decide (x=y))) H
theorem RX{i j:Int}:decide (V.int i=V.int j)=(i==j):=by rw[BH];simp
theorem Vt{i j:Bool}:decide (V.bl i=V.bl j)=(i==j):=by rw[BH];simp
theorem RU{i j:Str}:decide (V.str i=V.str j)=(i==j):=by rw[BH];simp
theorem Sn{i j:Array UInt8}:decide (V.byt i=V.byt j)=(i.toList==j.toList):=by rw[BH];cases i;cases j;simp
section
variable{X:Cx}{a b c:F3}{ta tb tc:TE}{pos:Pos}
theorem GZ{pins:List (FP×Obj)}{σ:St}{H:Hp}{s:FS}{Q:VK}{k k':Bool}(I:Inv X pins σ H s)(q:Q (.bl k) H)(e:k=k'):EP X pins σ Q (.bool k') s:=by subst e;exact⟨.bl k,H,I,rfl,q⟩
theorem Ho:OpR X (compareOp .Eq) rEq:=by
 intro pins s σ H x y v u Q I rx ry h;obtain⟨hs,q⟩:=h;cases x with
 |non=>
  cases rx;cases y with
  |non=>cases ry;exact PySem.EqNone.eq_none_none (GZ I q (by simp))
  |bl j=>cases ry;exact PySem.EqNone.eq_none_bool (GZ I q (by simp))
  |int j=>obtain⟨t',rfl⟩:=ry;exact PySem.EqNone.eq_none_int (GZ I q (by simp))
  |str j=>obtain⟨t',rfl⟩:=ry;exact PySem.EqNone.eq_none_str (GZ I q (by simp))
  |_=>exact absurd (show false=true from hs) Ag
 |bl i=>
  cases rx;cases y with
  |non=>cases ry;exact PySem.EqNone.eq_bool_none (GZ I q (by simp))
  |bl j=>cases ry;exact eq_bool (GZ I q Vt)
  |str j=>obtain⟨t',rfl⟩:=ry;exact PySem.EqMixed.eq_bool_str (GZ I q (by simp))
  |_=>exact absurd (show false=true from hs) Ag
 |int i=>
  obtain⟨t,rfl⟩:=rx;cases y with
  |non=>cases ry;exact PySem.EqNone.eq_int_none (GZ I q (by simp))
  |int j=>obtain⟨t',rfl⟩:=ry;exact eq_int (GZ I q RX)
  |str j=>obtain⟨t',rfl⟩:=ry;exact PySem.EqMixed.eq_int_str (GZ I q (by simp))
  |_=>exact absurd (show false=true from hs) Ag
 |str i=>
  obtain⟨t,rfl⟩:=rx;cases y with
  |non=>cases ry;exact PySem.EqNone.eq_str_none (GZ I q (by simp))
  |bl j=>cases ry;exact PySem.EqMixed.eq_str_bool (GZ I q (by simp))
  |int j=>obtain⟨t',rfl⟩:=ry;exact PySem.EqMixed.eq_str_int (GZ I q (by simp))
  |str j=>obtain⟨t',rfl⟩:=ry;exact eq_str (GZ I q RU)
  |_=>exact absurd (show false=true from hs) Ag
 |byt i=>
  obtain⟨t,rfl⟩:=rx;cases y with
  |byt j=>obtain⟨t',rfl⟩:=ry;exact PySem.W.eq_bytes (GZ I q Sn)
  |_=>exact absurd (show false=true from hs) Ag
 |_=>cases y <;> exact absurd (show false=true from hs) Ag
theorem JP:OpR X (compareOp .NotEq) rNe:=by
 intro pins s σ H x y v u Q I rx ry h;obtain⟨hs,q⟩:=h;cases x with
 |non=>
  cases rx;cases y with
  |non=>cases ry;exact PySem.EqNone.ne_none_none (GZ I q (by simp))
  |bl j=>cases ry;exact PySem.EqNone.ne_none_bool (GZ I q (by simp))
  |int j=>obtain⟨t',rfl⟩:=ry;exact PySem.EqNone.ne_none_int (GZ I q (by simp))
  |str j=>obtain⟨t',rfl⟩:=ry;exact PySem.EqNone.ne_none_str (GZ I q (by simp))
  |_=>exact absurd (show false=true from hs) Ag
 |bl i=>
  cases rx;cases y with
  |non=>cases ry;exact PySem.EqNone.ne_bool_none (GZ I q (by simp))
  |bl j=>cases ry;exact ne_bool (GZ I q (congrArg not Vt))
  |str j=>obtain⟨t',rfl⟩:=ry;exact PySem.EqMixed.ne_bool_str (GZ I q (by simp))
  |_=>exact absurd (show false=true from hs) Ag
 |int i=>
  obtain⟨t,rfl⟩:=rx;cases y with
  |non=>cases ry;exact PySem.EqNone.ne_int_none (GZ I q (by simp))
  |int j=>obtain⟨t',rfl⟩:=ry;exact ne_int (GZ I q (congrArg not RX))
  |str j=>obtain⟨t',rfl⟩:=ry;exact PySem.EqMixed.ne_int_str (GZ I q (by simp))
  |_=>exact absurd (show false=true from hs) Ag
 |str i=>
  obtain⟨t,rfl⟩:=rx;cases y with
  |non=>cases ry;exact PySem.EqNone.ne_str_none (GZ I q (by simp))
  |bl j=>cases ry;exact PySem.EqMixed.ne_str_bool (GZ I q (by simp))
  |int j=>obtain⟨t',rfl⟩:=ry;exact PySem.EqMixed.ne_str_int (GZ I q (by simp))
  |str j=>obtain⟨t',rfl⟩:=ry;exact ne_str (GZ I q (congrArg not RU))
  |_=>exact absurd (show false=true from hs) Ag
 |byt i=>
  obtain⟨t,rfl⟩:=rx;cases y with
  |byt j=>obtain⟨t',rfl⟩:=ry;exact PySem.W.ne_bytes (GZ I q (congrArg not Sn))
  |_=>exact absurd (show false=true from hs) Ag
 |_=>cases y <;> exact absurd (show false=true from hs) Ag
theorem XV:OpR X (compareOp .Lt) (rI0 fun i j=>.bl (decide (i<j))):=WP fun _ _ _ _ _ _ _ q=>lt_int q
theorem KO:OpR X (compareOp .LtE) (rI0 fun i j=>.bl (decide (i<=j))):=WP fun _ _ _ _ _ _ _ q=>le_int q
theorem Oz:OpR X (compareOp .Gt) (rI0 fun i j=>.bl (decide (j<i))):=WP fun _ _ _ _ _ _ _ q=>gt_int q
theorem XG:OpR X (compareOp .GtE) (rI0 fun i j=>.bl (decide (j<=i))):=WP fun _ _ _ _ _ _ _ q=>ge_int q
theorem PD:OpR X (compareOp .Is) (fun x y H Q=>y=.non/\Q (.bl (decide (x=.non))) H):=by
 intro pins s σ H x y v u Q I rx ry h;obtain⟨rfl,q⟩:=h;cases ry;refine is_none_gen (GZ I q ?_);cases x <;> first
  |(cases rx;rfl)
  |(obtain⟨t,rfl⟩:=rx;rfl)
theorem GC(b:F3){op:CmpOp}(h:op≠.In:=by decide)(h2:op≠.NotIn:=by decide):behindInMarks op b=false:=by
 have e1:(op==CmpOp.In)=false:=by cases op <;> first | rfl | exact absurd rfl h
 have e2:(op==CmpOp.NotIn)=false:=by cases op <;> first | rfl | exact absurd rfl h2
 cases b <;> simp[behindInMarks,e1,e2]
theorem MJ{op:CmpOp}{r:R2}(ho:OpR X (compareOp op) r)(ha:PE X a ta)(hb:PE X b tb)(hm:behindInMarks op b=false):PE X (.Compare a [op] [b] pos) (tOp r ta tb):=by intro pins s σ H Q I h;exact wpAny_Compare1 (YU ha hb I h fun v u s2 x y H2 I2 rx ry q=>ho pins s2 σ H2 x y v u Q I2 rx ry q) hm
def QE(t:TE):TT:=fun σ H Q=>t σ H fun x H'=>∃k,x=.bl k/\Q k H'
theorem Gy{op:CmpOp}{r:R2}(ho:OpR X (compareOp op) r)(ha:PE X a ta)(hb:PE X b tb)(hm:behindInMarks op b=false):PT X (.Compare a [op] [b] pos) (QE (tOp r ta tb)):=by
 intro pins s σ H Q I h;refine wpAny_isTrue_Compare1 (thn (ha pins s σ H _ I h) fun v s1 ⟨x,H1,I1,r1,q1⟩=>thn (hb pins s1 σ H1 _ I1 q1) fun u s2 ⟨y,H2,I2,r2,q2⟩=>thn (ho pins s2 σ H2 x y v u _ I2 r1 r2 q2) fun c s3 ⟨z,H3,I3,r3,k,e,q3⟩=>?_) hm
 subst e;cases r3;exact Gg ⟨H3,I3,q3⟩
def Yj(r r':R2)(ta tb tc:TE):TE:=fun σ H Q=>ta σ H fun x H1=>tb σ H1 fun y H2=>r x y H2 fun z H3=>∃k,z=.bl k ∧
 (if k=true then tc σ H3 fun w' H4=>r' y w' H4 Q else Q (.bl false) H3)
theorem Ni{op op':CmpOp}{r r':R2}(ho:OpR X (compareOp op) r)(ho':OpR X (compareOp op') r')(ha:PE X a ta)(hb:PE X b tb)(hc:PE X c tc)
  (hm:lastMarks [op,op'] [b,c]=false:=by with_unfolding_all rfl):PT X (.Compare a [op,op'] [b,c] pos) (QE (Yj r r' ta tb tc)):=by
 intro pins s σ H Q I h;refine isTrue_chain (thn (ha pins s σ H _ I h) fun v s1 ⟨x,H1,I1,r1,q1⟩=>test_link (thn (hb pins s1 σ H1 _ I1 q1) fun u s2 ⟨y,H2,I2,r2,q2⟩=>thn (ho pins s2 σ H2 x y v u _ I2 r1 r2 q2) fun d s3 ⟨z,H3,I3,r3,k,e,q3⟩=>?_)) hm
 subst e;cases r3;refine Gg ?_;cases k with
 |false=>obtain⟨k',e',q'⟩:=q3;cases e';exact ite_ff ⟨H3,I3,q'⟩
 |true=>refine ite_tt (test_last (thn (hc pins s3 σ H3 _ I3 q3) fun w' s4 ⟨z',H4,I4,r4,q4⟩=>thn (ho' pins s4 σ H4 y z' u w' _ I4 r2 r4 q4) fun d' s5 ⟨z2,H5,I5,r5,k2,e2,q5⟩=>?_));subst e2;cases r5;exact Gg ⟨H5,I5,q5⟩
def Zt(K:Gh)(x:V)(H:Hp)(k:Bool):Prop:=
 match x with
 |.non=>k=false
 |.bl b=>k=b
 |.int i=>k=(i != 0)
 |.str y=>y.length<=FT/\k=((y.length:Int) != 0)
 |.byt y=>y.size<=FT/\k=((y.size:Int) != 0)
 |.ref p=>(∃xs,SqL K H p xs/\k=!xs.isEmpty)\/(∃xs,SqT K H p xs/\k=!xs.isEmpty)\/∃kvs,H p=some (.dK kvs)/\k=!kvs.isEmpty
 |_=>False
theorem Q6{κ:Type}{kvs:List (κ×V)}{vs:List (κ×FO)}(r:KV kvs vs):(!vs.isEmpty)=!kvs.isEmpty:=by cases r <;> rfl
theorem M7{xs:List V}{its:List FO}(r:Vals xs its):(!its.toArray.isEmpty)=!xs.isEmpty:=by cases r <;> simp
theorem LU:(FT:Nat)<2 ^ 63:=by rw[sizeLine_eq];decide
theorem Yn:Aax X (fun x H Q=>∃k,Zt X.K x H k/\Q k H):=by
 intro pins s σ H x v Q I rx h;obtain⟨k,e,q⟩:=h;have hl:=LU;have hs:FT=16777216:=sizeLine_eq;cases x with
 |non=>cases rx;have e':k=false:=e;subst e';exact truthy_none ⟨H,I,q⟩
 |bl b=>cases rx;have e':k=b:=e;subst e';exact Gg ⟨H,I,q⟩
 |int i=>obtain⟨t,rfl⟩:=rx;have e':k=(i != 0):=e;subst e';exact PySem.P.truthy_int ⟨H,I,q⟩
 |str y=>obtain⟨t,rfl⟩:=rx;obtain⟨hy,e'⟩:y.length<=FT/\k=((y.length:Int) != 0):=e;subst e';exact PySem.P.truthy_str (by lia) ⟨H,I.tok _,q⟩
 |byt y=>obtain⟨t,rfl⟩:=rx;obtain⟨hy,e'⟩:y.size<=FT/\k=((y.size:Int) != 0):=e;subst e';exact PySem.W.truthy_bytes (by lia) ⟨H,I.tok _,q⟩
 |ref p=>
  cases rx;have e':(∃xs,SqL X.K H p xs/\k=!xs.isEmpty)\/(∃xs,SqT X.K H p xs/\k=!xs.isEmpty)\/∃kvs,H p=some (.dK kvs)/\k=!kvs.isEmpty:=e;rcases e' with ⟨xs,hx,e'⟩ | ⟨xs,hx,e'⟩ | ⟨kvs,hx,e'⟩
  ·subst e';obtain⟨its,r,pl,hz⟩:=I.list hx;have hlen:=r.length;exact wpAny_truthy_list pl.isList (by simp only[Aq];lia) ⟨H,I.tok _,by rw[M7 r];exact q⟩
  ·subst e';obtain⟨its,r,pl,hz⟩:=I.tuple hx;have hlen:=r.length;exact truthy_tuple pl (by simp only[Aq];lia) ⟨H,I.tok _,by rw[M7 r];exact q⟩
  ·subst e';obtain⟨hz,hS,vs,r,m⟩:kvs.length<=FT/\(p==Gd)=false/\∃vs,KV kvs vs/\s.heap.DictOf (G0 X.prog X.w) p vs:=I.hok p _ hx;have hlen:kvs.length=vs.length:=Paired.length r;exact wpAny_truthy_dict hS m (by lia) ⟨H,I.tok _,by rw[Q6 r];exact q⟩
 |_=>exact(show False from e).elim
theorem Li(ha:PE X a ta)(he:∀whole,isTrue a X.env whole=(do let v ← whole;standAt a.pos;holding [v] (truthy v))):
  PT X a (fun σ H Q=>ta σ H fun x H'=>∃k,Zt X.K x H' k/\Q k H'):=by
 intro pins s σ H Q I h;exact isTrue_plain (thn (ha pins s σ H _ I h) fun v s1 ⟨x,H1,I1,r1,q1⟩=>Yn pins s1 σ H1 x v Q I1 r1 q1) (he _)
theorem JT:OpR X (binaryOp .Add) (fun x y H Q=>∃i j,x=.str i/\y=.str j/\i.length+j.length<=FT/\Q (.str (i++j)) H):=by intro pins s σ H x y v u Q I rx ry h;obtain⟨i,j,rfl,rfl,hz,q⟩:=h;obtain⟨t,rfl⟩:=rx;obtain⟨t',rfl⟩:=ry;exact add_str (fun t' tk=>⟨.str (i++j),H,I.tok _,⟨_,rfl⟩,q⟩) hz
theorem QS{x:V}{us:List FO}(r:Vals [x] us):∃u,us=[u]/\RelV x u:=by
 cases r with
 |cons r1 r2=>cases r2;exact⟨_,rfl,r1⟩
theorem Q1:Lk X (.builtin "abs") (fun xs H Q=>∃i,xs=[.int i]/\Q (.int (if i<0 then -i else i)) H):=by intro pins s σ H xs us Q I r h;obtain⟨i,rfl,q⟩:=h;obtain⟨u,rfl,t,rfl⟩:=QS r;exact call_abs_int fun u tk=>⟨.int (if i<0 then -i else i),H,I.tok _,⟨_,rfl⟩,q⟩
theorem Pd:Lk X (.type "str") (fun xs H Q=>∃i,xs=[.int i]/\i.natAbs.log2<1920/\Q (.str (toString i)) H):=by intro pins s σ H xs us Q I r h;obtain⟨i,rfl,hz,q⟩:=h;obtain⟨u,rfl,t,rfl⟩:=QS r;exact PySem.P.str_of_int hz ⟨.str _,H,I.tok _,⟨_,rfl⟩,q⟩
theorem NP:Lk X (.builtin "ord") (fun xs H Q=>∃x,xs=[.str x]/\x.length=1/\Q (.int (x.cps.getD 0 0:Nat)) H):=by intro pins s σ H xs us Q I r h;obtain⟨x,rfl,hz,q⟩:=h;obtain⟨u,rfl,t,rfl⟩:=QS r;exact ord_of_one hz ⟨.int _,H,I.tok _,⟨_,rfl⟩,q⟩
end
structure ObjM(h:Heap)(x dx C:FP)(mA:Str->Option FO):Prop where
 obj:h.get? x=some (BL C dx)
 ns:h.Ns1 dx mA
 ne:dx≠x
theorem S1{h:Heap}{dx:FP}{mA:Str->Option FO}(n:h.Ns1 dx mA):∃od,h.get? dx=some od/\∀name,Dm name od=some (mA name):=by
 obtain⟨o,es,ep,ho,hd,hk,_,hm⟩:=n;refine⟨o,ho,fun name=>?_⟩;have e:=hm name;unfold nsFind findBy at e;rw[<-Fc] at e;unfold Dm;rw[hd];dsimp only;split
 ·rename_i y q;rw[q] at e;exact congrArg some e
 ·rename_i q;rw[q] at e;have a:es.toList.any (·.refKey)=false:=by rw[List.any_eq_false];intro y hy;obtain⟨z,t,hkey⟩:=hk y (Array.mem_toList_iff.mp hy);simp[Gb.refKey,hkey]
  have a':¬es.toList.any (·.refKey)=true:=by rw[a];exact Ag
  rw[Gi a'];exact congrArg some e
theorem ObjM.look{h:Heap}{x dx C:FP}{mA:Str->Option FO}(I:ObjM h x dx C mA):∃od,PySem.W.InstAt h x (BL C dx) C (some od)/\∀name,Dm name od=some (mA name):=
 let ⟨od,ho,hl⟩:=S1 I.ns
 ⟨od,⟨I.obj,rfl,rfl,ho⟩,hl⟩
section
variable{prog:FU}{w:F0}{A:F4}{E:FO->FS->Prop}{s:FS}{K:Gh}{x dx C f:FP}{mA:Str->Option FO}{name:Str}{v:FO}
theorem Wi{expr:Bool}{Q:FO->FS->Prop}(X:K.In s.heap)(I:ObjM s.heap x dx C mA)(hg:Cr K C name=true)(hh:CU K C=true)
  (ha:AV K (.ref C) name=some none) (hv:mA name=some v) (hv':EZ v=true) (h:Q v { s with toks:=s.toks+1 }):
  FW (model prog w) A (getAttr (.ref x) name expr) Q E s:=by
 obtain⟨od,J,hl⟩:=I.look;exact PySem.W.get_value X J (Dx hg).1 (PySem.W.findObj_own hh ha rfl (by rw[hl,hv])) hv' h
theorem UE{pl:Sem Bool}{Q:FO×List FO->FS->Prop}(X:K.In s.heap)(I:ObjM s.heap x dx C mA)(hg:Cr K C name=true)
  (hf:AV K (.ref C) name=some (some (.ref f))) (ht:BR K (.ref f)=true) (hv:mA name=none) (h:Q (.ref f,[.ref x]) s):
  FW (model prog w) A (getMethod (.ref x) name pl) Q E s:=by
 obtain⟨od,J,hl⟩:=I.look;exact PySem.W.method_fn X J (Dx hg).1 (Dx hg).2 hf (beq_iff_eq.mp ht) (by show(Dm name od).map (·.isSome)=some false;rw[hl,hv];rfl) h
theorem Wy{ns:List Str}{Q:Unit->FS->Prop}(X:K.In s.heap)(I:ObjM s.heap x dx C mA)
  (hs:AV K (.ref C) "__setattr__"=some (some (.builtin "object.__setattr__"))) (hp:DY K C=true) (ht:D4 K C name=some none) (hh:CU K C=true)
  (hw:PySem.Within mA ns) (hsz:ns.length<=FT)
  (h:∀h',ObjM h' x dx C (fun y=>if y=name then some v else mA y)->Heap.SameBut dx s.heap h'->Q () { s with heap:=h',toks:=s.toks+2 }):
  FW (model prog w) A (setAttr (.ref x) name v) Q E s:=by
 obtain⟨od,J,hl⟩:=I.look;refine PySem.W.set_plain X J hs (PySem.W.osa_open (s:={ s with toks:=s.toks+1 }) (r:=none) X J hp ht fun b=>?_);obtain⟨cd,hc,hd'⟩:=PySem.W.any_some hh;have hx:s.heap.get? x=some ⟨.ref C,some dx,.plain,#[]⟩:=I.obj;refine FQ (FV (FQ (FQ (wpAny_loadPart hx (FQ (PySem.W.Looks.here (s:={ s with toks:=s.toks+1 }) (PySem.W.looks_clsIn X hc) ?_))))));rw[hd'];refine FV (a:=some dx) (FQ (FV (FQ ?_)));refine wpAny_nsSet1 (s:={ s with toks:=s.toks+1 }) I.ns fun h' hn2 hs2=>?_;obtain⟨oD,esD,epD,hoD,hdD,hcD⟩:=hn2.count (PySem.Within.cons name v hw);refine FQ (wpAny_lookBehind hoD (by rw[hdD];exact pastItsLine_dict (Ak hcD (by rw[Ad];lia))) ?_);exact FV (h _ ⟨(hs2.2 _ (Ne.symm I.ne)).trans I.obj,hn2,I.ne⟩ hs2)
theorem UT{R:Result->FS->Prop}{vs:List FO}{kw:List (Str×FO)}(X:K.In s.heap)(hm:Df K C=true)
  (hi:AV K (.ref C) "__init__"=some (some (.ref f))) (hf:PySem.W.typeIn K (.ref f)=some (.type "function"))
  (h:codeAny (model prog w) (A.under (.builtin "type.__call__" ⟨.ref C::vs,kw⟩)) (.call (.ref f) ⟨.ref (s.heap.objs.size+1)::vs,kw⟩) (PySem.W.InitBack (s.heap.objs.size+1) R)
   { s with heap:=(s.heap.push Bt).push (BL C s.heap.objs.size) }):
  codeAny (model prog w) A (.call (.ref C) ⟨vs,kw⟩) R s:=by
 obtain⟨hh,g,d,t,os⟩:=s;exact PySem.W.make_core (PySem.W.makes_of X hm) (PySem.W.looks_findIn X hi) (fun self=>PySem.W.bind_fn X self hf) (.inl rfl) h
end
def Jp(f:Str)(v:V):List (Str×V)->List (Str×V)
 |[]=>[(f,v)]
 |(g,x)::r=>if g=f then (g,v)::r else (g,x)::Jp f v r
theorem Hd(f g:Str)(v:V):∀fs:List (Str×V),(Jp f v fs).lookup g=if g=f then some v else fs.lookup g
 |[]=>by
  show AQ g [(f,v)]=_;by_cases h:g=f
  ·have hb:(g==f)=true:=beq_iff_eq.mpr h;simp only[AQ,hb,Gj h]
  ·have hb:(g==f)=false:=beq_eq_false_iff_ne.mpr h;simp only[AQ,hb,Gi h]
 |(k,x)::r=>by
  have ih:=Hd f g v r;rw[show Jp f v ((k,x)::r)=(if k=f then (k,v)::r else (k,x)::Jp f v r) from rfl];by_cases hk:k=f
  ·rw[Gj hk];by_cases h:g=k
   ·have hb:(g==k)=true:=beq_iff_eq.mpr h;simp only[AQ,hb,Gj (h.trans hk)]
   ·have hb:(g==k)=false:=beq_eq_false_iff_ne.mpr h;simp only[AQ,hb,Gi (fun e:g=f=>h (e.trans hk.symm))]
  ·rw[Gi hk];by_cases h:g=k
   ·have hb:(g==k)=true:=beq_iff_eq.mpr h;simp only[AQ,hb,Gi (fun e:g=f=>hk (h.symm.trans e))]
   ·have hb:(g==k)=false:=beq_eq_false_iff_ne.mpr h;simp only[AQ,hb];exact ih
theorem Mc(f:Str)(v:V):∀fs:List (Str×V),f∈(Jp f v fs).map (·.1)/\∀g,g∈fs.map (·.1)->g∈(Jp f v fs).map (·.1)
 |[]=>⟨by simp[Jp],fun g h=>by simp at h⟩
 |(k,x)::r=>by
  obtain⟨i1,i2⟩:=Mc f v r;rw[show Jp f v ((k,x)::r)=(if k=f then (k,v)::r else (k,x)::Jp f v r) from rfl];by_cases hk:k=f
  ·rw[Gj hk];subst hk;exact⟨by simp,fun g h=>by simpa using h⟩
  ·rw[Gi hk];refine⟨?_,fun g h=>?_⟩
   ·rw[AM];exact Aw _ i1
   ·rw[AM] at h ⊢;rcases Ao.mp h with e | e
    ·exact Ao.mpr (.inl e)
    ·exact Aw _ (i2 g e)
theorem Mr(f:Str)(v:V):∀fs:List (Str×V),(Jp f v fs).length<=fs.length+1
 |[]=>by simp[Jp]
 |(k,x)::r=>by
  have ih:=Mr f v r;rw[show Jp f v ((k,x)::r)=(if k=f then (k,v)::r else (k,x)::Jp f v r) from rfl];by_cases hk:k=f
  ·rw[Gj hk,Ad,Ad];lia
  ·rw[Gi hk,Ad,Ad];lia
theorem RelO.some_of{v:V}{o:Option FO}(r:RelO (some v) o):∃u,o=some u/\RelV v u:=by
 cases o with
 |none=>exact(show False from r).elim
 |some u=>exact⟨u,rfl,r⟩
theorem RelO.none_of{o:Option FO}(r:RelO none o):o=none:=by
 cases o with
 |none=>rfl
 |some u=>exact(show False from r).elim
theorem Tz{v:V}{u:FO}(r:RelV v u):EZ u=true:=by
 cases v with
 |non=>cases(show u=FO.none from r);rfl
 |bl b=>cases(show u=FO.bool b from r);rfl
 |int i=>obtain⟨t,e⟩:=(show ∃t,u=FO.int i t from r);cases e;rfl
 |str x=>obtain⟨t,e⟩:=(show ∃t,u=FO.str x t from r);cases e;rfl
 |byt b=>obtain⟨t,e⟩:=(show ∃t,u=FO.bytes b t from r);cases e;rfl
 |flt b=>obtain⟨t,e⟩:=(show ∃t,u=FO.float b t from r);cases e;rfl
 |ref a=>cases(show u=FO.ref a from r);rfl
 |ty n=>cases(show u=FO.type n from r);rfl
section
variable{P:FU}{w:F0}{H H':Hp}{h h':Heap}{a C dx:FP}{fs fs':List (Str×V)}
theorem O4(hok:HOk P w H h)(e:H a=some (.ins C dx fs)):∃mA,ObjM h a dx C mA/\(∀f,RelO (fs.lookup f) (mA f))/\PySem.Within mA (fs.map (·.1))/\fs.length<=1000/\H dx=some (.own a):=by obtain⟨d,z,ne,ob,mA,n,r,q⟩:=(show ObjOk P w H h a (.ins C dx fs) from hok a _ e);exact⟨mA,⟨ob,n,ne⟩,r,q,z,d⟩
end
structure Cls(K:Gh)(C:FP):Prop where
 pg:Cr K C Str.empty=true
 hd:CU K C=true
 po:DY K C=true
 sa:AV K (.ref C) "__setattr__"=some (some (.builtin "object.__setattr__"))
theorem Cls.get{K:Gh}{C:FP}(c:Cls K C)(f:Str):Cr K C f=true:=c.pg
def NoAttr(K:Gh)(C:FP)(f:Str):Prop:=AV K (.ref C) f=some none
theorem NoAttr.taker{K:Gh}{C:FP}{f:Str}(n:NoAttr K C f):D4 K C f=some none:=by unfold D4;rw[show AV K (.ref C) f=some none from n];rfl
structure Con(K:Gh)(C:FP)(f:Str)(v:V)(u:FO):Prop where
 at_:AV K (.ref C) f=some (some u)
 rel:RelV v u
 get:ER K u "__get__"=some none
 cp:PySem.W.copiedNames.contains f=false
structure Meth(K:Gh)(C:FP)(m:Str)(f:FP):Prop where
 at_:AV K (.ref C) m=some (some (.ref f))
 fn:BR K (.ref f)=true
 kp:AG K (.ref f)=true
section
variable{X:Cx}{pins:List (FP×Obj)}{σ:St}{H:Hp}{s:FS}{a C dx:FP}{fs:List (Str×V)}{f:Str}{v:V}{A:F4}{E:FO->FS->Prop}
theorem NM{b:Bool}{Q:FO->FS->Prop}(I:Inv X pins σ H s)(e:H a=some (.ins C dx fs))(c:Cls X.K C)(n:NoAttr X.K C f)(l:fs.lookup f=some v)
  (h:∀u s',Inv X pins σ H s'->RelV v u->Q u s'):FW (model X.prog X.w) A (getAttr (.ref a) f b) Q E s:=by
 obtain⟨mA,O,r,_,_,_⟩:=O4 I.hok e;obtain⟨u,hu,ru⟩:=RelO.some_of (v:=v) (o:=mA f) (by rw[<-l];exact r f);exact Wi I.kIn O (c.get f) c.hd n hu (Tz ru) (h u _ (I.tok _) ru)
theorem NY{m:Str}{g:FP}{pl:Sem Bool}{Q:FO×List FO->FS->Prop}(I:Inv X pins σ H s)(e:H a=some (.ins C dx fs))(c:Cls X.K C)(k:Meth X.K C m g)(l:fs.lookup m=none)
  (h:Q (.ref g,[.ref a]) s):FW (model X.prog X.w) A (getMethod (.ref a) m pl) Q E s:=by
 obtain⟨mA,O,r,_,_,_⟩:=O4 I.hok e;have hn:mA m=none:=RelO.none_of (by rw[<-l];exact r m);exact UE I.kIn O (c.get m) k.at_ k.fn hn h
theorem NG{y:V}{u:FO}{Q:Unit->FS->Prop}(I:Inv X pins σ H s)(e:H a=some (.ins C dx fs))(c:Cls X.K C)(n:NoAttr X.K C f)(hl:fs.length<1000)(ry:RelV y u)
  (h:∀s',Inv X pins σ (upd H a (.ins C dx (Jp f y fs))) s'->Q () s'):FW (model X.prog X.w) A (setAttr (.ref a) f u) Q E s:=by
 obtain⟨mA,O,r,wi,_,ho⟩:=O4 I.hok e;have hz:(fs.map (·.1)).length<=FT:=by rw[Aa,sizeLine_eq];lia
 refine Wy I.kIn O c.sa c.po n.taker c.hd wi hz fun h' O' sb=>h _ ?_;have hd:∃o,h'.get? dx=some o:=let ⟨o,_,_,e',_⟩:=O'.ns;⟨o,e'⟩;refine I.write (x:=a) (e:=dx) (by rw[e];exact True.intro) (.inr ho) (fun b q hb z=>(sb.2 b hb).trans z) hd ?_;refine⟨by rw[Gr O.ne];exact ho,?_,O.ne,O'.obj,_,O'.ns,fun g=>?_,fun g hg=>?_⟩
 ·have:=Mr f y fs;lia
 ·show RelO ((Jp f y fs).lookup g) (if g=f then some u else mA g);rw[Hd];by_cases q:g=f
  ·rw[Gj q,Gj q];exact ry
  ·rw[Gi q,Gi q];exact r g
 ·by_cases q:g=f
  ·rw[q];exact(Mc f y fs).1
  ·refine(Mc f y fs).2 g (wi g fun z=>hg ?_);show(if g=f then some u else mA g)=none;rw[Gi q];exact z
theorem Inv.made(I:Inv X pins σ H s):Inv X pins σ (upd (upd H s.heap.objs.size (.own (s.heap.objs.size+1))) (s.heap.objs.size+1) (.ins C s.heap.objs.size []))
  { s with heap:=(s.heap.push Bt).push (BL C s.heap.objs.size) }:=by
 have e1:(s.heap.push Bt).get? s.heap.objs.size=some Bt:=Au s.heap rfl;have e2:((s.heap.push Bt).push (BL C s.heap.objs.size)).get? (s.heap.objs.size+1)=some (BL C s.heap.objs.size):=by
  have:=Au (s.heap.push Bt) (o:=BL C s.heap.objs.size) rfl
  rwa [AL] at this
 have e3:(s.heap.push Bt).Ns s.heap.objs.size (fun _=>none):=⟨Bt,#[],_,e1,rfl,(fun e he=>absurd he (by simp)),fun _=>rfl⟩;have I1:=I.laid (a:=s.heap.objs.size) (o:=.own (s.heap.objs.size+1)) (h':=s.heap.push Bt) (t':=s.toks) (fun b u q=>Ab _ q) (Ah _) ⟨_,e1⟩;refine I1.laid (a:=s.heap.objs.size+1) (o:=.ins C s.heap.objs.size []) (t':=s.toks) (fun b u q=>Ab _ q) (CQ (AL _ _)) ?_;have ne:s.heap.objs.size≠s.heap.objs.size+1:=AH (Di _);refine⟨by rw[Gr ne,Gn],AD _,ne,e2,fun _=>none,(Heap.Ns1.of_empty e3).at fun o q=>Ab _ q,fun _=>True.intro,fun y hy=>absurd rfl hy⟩
theorem Xp{prog:FU}{w:F0}{env:Env}{e:F3}{f:Str}{pos:Pos}{s:FS}{Q:FO->FS->Prop}(hb:attributeBase e f env (eval e env)=eval e env)
  (h:FW (model prog w) A (eval e env) (fun o s₁=>FW (model prog w) A (getAttr o f true) Q E s₁) E s):FW (model prog w) A (eval (.Attribute e f pos) env) Q E s:=
 Attribute_any_ h (by rw[arm_eval_Attribute,hb])
end
def Ys(K:Gh)(ta:TE)(f:Str):TE:=fun σ H Q=>ta σ H fun x H1=>∃a C dx fs v,x=.ref a/\H1 a=some (.ins C dx fs)/\Cls K C/\NoAttr K C f/\fs.lookup f=some v/\Q v H1
def AaQ(K:Gh)(ta tv:TE)(f:Str):TS:=fun D σ H=>tv σ H fun y H1=>ta σ H1 fun x H2=>∃a C dx fs,x=.ref a/\H2 a=some (.ins C dx fs)/\Cls K C/\NoAttr K C f/\fs.length<1000 ∧
 D.nx σ (upd H2 a (.ins C dx (Jp f y fs)))
def Zl(X:Cx)(op:Operator)(rd:V->V->Hp->VK->Prop):Prop:=∀(pins:List (FP×Obj)) (s:FS) (σ:St) (H:Hp) (x y:V) (u v:FO) (Q:VK),Inv X pins σ H s->RelV x u->RelV y v->rd x y H Q->FW (model X.prog X.w) X.A (inplaceOp op u v) (EP X pins σ Q) X.xe s
def Xr(K:Gh)(ta tv:TE)(rd:V->V->Hp->VK->Prop)(f:Str):TS:=fun D σ H=>ta σ H fun x H1=>∃a C dx fs v,x=.ref a/\H1 a=some (.ins C dx fs)/\Cls K C/\NoAttr K C f/\fs.lookup f=some v ∧
 tv σ H1 fun y H2=>rd v y H2 fun z H3=>∃dx' fs',H3 a=some (.ins C dx' fs')/\fs'.length<1000/\D.nx σ (upd H3 a (.ins C dx' (Jp f z fs')))
section
variable{X:Cx}{o e value:F3}{f:Str}{pos pos' tpos:Pos}{ta tv:TE}
theorem G2(he:PE X e ta)(hb:attributeBase e f X.env (eval e X.env)=eval e X.env):PE X (.Attribute e f pos) (Ys X.K ta f):=by intro pins s σ H Q I h;refine Xp hb (thn (he pins s σ H _ I h) fun u s1 ⟨x,H1,I1,rx,a,C,dx,fs,v,ex,ea,c,n,l,q⟩=>?_);subst ex;obtain rfl:u=FO.ref a:=rx;exact NM I1 ea c n l fun u' s2 I2 ru=>⟨v,H1,I2,ru,q⟩
theorem RC(ha:PE X o ta)(hv:PE X value tv)(hs:swapsWith value (some (.Attribute o f pos')) pos.line X.env=pure false):PS X (.Assign [.Attribute o f pos'] value pos) (AaQ X.K ta tv f):=by intro pins s σ H D I h;refine plainObj_wpAny_Assign_Attribute (thn (hv pins s σ H _ I h) fun u s1 ⟨y,H1,I1,ry,q⟩=>thn (ha pins s1 σ H1 _ I1 q) fun ov s2 ⟨x,H2,I2,rx,a,C,dx,fs,ex,ea,c,n,l,q2⟩=>?_) hs;subst ex;obtain rfl:ov=FO.ref a:=rx;exact NG I2 ea c n l ry fun s3 I3=>⟨σ,_,I3,q2⟩
theorem Tn{op:Operator}{rd:V->V->Hp->VK->Prop}(ha:PE X o ta)(hv:PE X value tv)(hop:Zl X op rd):PS X (.AugAssign (.Attribute o f tpos) op value pos) (Xr X.K ta tv rd f):=by intro pins s σ H D I h;refine wpAny_AugAssign_AttributeAny (thn (ha pins s σ H _ I h) fun ov s1 ⟨x,H1,I1,rx,a,C,dx,fs,v,ex,ea,c,n,l,q⟩=>?_);subst ex;obtain rfl:ov=FO.ref a:=rx;refine NM I1 ea c n l fun u s2 I2 ru=>thn (hv pins s2 σ H1 _ I2 q) fun w3 s3 ⟨y,H2,I3,ry,q3⟩=>thn (hop pins s3 σ H2 v y u w3 _ I3 ru ry q3) fun w4 s4 ⟨z,H3,I4,rz,dx',fs',ea',l',q4⟩=>?_;exact NG I4 ea' c n l' rz fun s5 I5=>⟨σ,_,I5,q4⟩
def AaA:V->V->Hp->VK->Prop:=fun x y H Q=>∃i j,x=.int i/\y=.int j/\Q (.int (i+j)) H
theorem Ye:Zl X .Add AaA:=by rintro pins s σ H x y u v Q I rx ry ⟨i,j,rfl,rfl,q⟩;obtain⟨t,rfl⟩:=(show ∃t,u=FO.int i t from rx);obtain⟨t',rfl⟩:=(show ∃t',v=FO.int j t' from ry);exact PyProof.Rows.iadd_int ⟨.int (i+j),H,I.tok _,⟨_,rfl⟩,q⟩
end
section
variable{X:Cx}{pins:List (FP×Obj)}{σ:St}{H:Hp}{s:FS}{A:F4}{E:FO->FS->Prop}{Q:FO->FS->Prop}{c:FO}{b:Bool}
inductive TyOf(K:Gh)(H:Hp):V->FO->Prop where
 |non:TyOf K H .non (.type "NoneType")
 |bl (x:Bool):TyOf K H (.bl x) (.type "bool")
 |int (i:Int):TyOf K H (.int i) (.type "int")
 |str (x:Str):TyOf K H (.str x) (.type "str")
 |flt (x:UInt64):TyOf K H (.flt x) (.type "float")
 |lst {a:FP} {xs:List V} (e:H a=some (.lst xs)):TyOf K H (.ref a) (.type "list")
 |frz {a:FP} {o:Obj} {xs:List V} (e:H a=some (.frz o (.lst xs))):TyOf K H (.ref a) (.type "list")
 |tup {a:FP} {xs:List V} (e:H a=some (.tup xs)):TyOf K H (.ref a) (.type "tuple")
 |dK {a:FP} {kvs:List (Key×V)} (e:H a=some (.dK kvs)):TyOf K H (.ref a) (.type "dict")
 |dT {a:FP} {kvs:List (List Key×V)} (e:H a=some (.dT kvs)):TyOf K H (.ref a) (.type "dict")
 |ins {a C dx:FP} {fs:List (Str×V)} (e:H a=some (.ins C dx fs)) (cl:Cls K C) (ha:AV K (.ref C) "__class__"=some (some (.builtin "object.__class__")))
   (hn:ER K (.builtin "object.__class__") "__get__"=some (some (.builtin "getset_descriptor.__get__"))) (htk:PySem.W.takesIn K (.builtin "object.__class__")=some true)
   (hm:PySem.W.mroIn K C (.type "object")=some true):TyOf K H (.ref a) (.ref C)
end
structure Room(k:Nat)(A:F4):Prop where
 hd:A.handled=none
 dp:A.depth+3*k+5<recursionLimit
 un:A.units+16*k+200<cLine
theorem Room.mono{j k:Nat}{A:F4}(r:Room k A)(h:j<=k):Room j A:=⟨r.hd,by have:=r.dp;lia,by have:=r.un;lia⟩
theorem Room.deeper{k:Nat}{A:F4}(r:Room (k+1) A)(env:Env):Room k (A.deeper env):=⟨r.hd,by have:=r.dp;show A.depth+1+3*k+5<_;lia,by have:=r.un;show A.units+3+16*k+200<_;lia⟩
theorem Room.in1{k:Nat}{A:F4}(r:Room (k+1) A):Room k A.in1:=⟨r.hd,by have:=r.dp;show A.depth+3*k+5<_;lia,by have:=r.un;show A.units+1+16*k+200<_;lia⟩
theorem Rh{A:F4}{C:FP}{us:List FO}{kw:List (Str×FO)}:(A.under (.builtin "type.__call__" ⟨.ref C::us,kw⟩)).depth=A.depth+1:=by first | rfl | simp[F4.under,Code.weight,Code.isCreation,Code.isGuard,Code.isCaller,Code.frames,Code.isFrame,guardIds]
theorem RE{A:F4}{C:FP}{us:List FO}{kw:List (Str×FO)}:(A.under (.builtin "type.__call__" ⟨.ref C::us,kw⟩)).units=A.units+1:=by first | rfl | simp[F4.under,Code.cUnits,Code.frames,Code.isFrame]
theorem Room.make{k:Nat}{A:F4}(r:Room (k+1) A)(C:FP)(us:List FO)(kw:List (Str×FO)):Room k (A.under (.builtin "type.__call__" ⟨.ref C::us,kw⟩)):=⟨r.hd,by have:=r.dp;rw[Rh];lia,by have:=r.un;rw[RE];lia⟩
theorem Room.depth{k:Nat}{A:F4}(r:Room k A):A.depth<recursionLimit:=by have:=r.dp;lia
theorem Room.units{k:Nat}{A:F4}(r:Room k A):A.units+64<cLine:=by have:=r.un;lia
def IR:TA:=fun _ H Q=>Q [] H
def Hm(ta:TE)(tr:TA):TA:=fun σ H Q=>ta σ H fun x H1=>tr σ H1 fun xs H2=>Q (x::xs) H2
section
variable{X:Cx}{e:F3}{es:List F3}{te:TE}{t:TA}{pos:Pos}
theorem Go:PA X [] IR:=fun _ _ _ _ H Q I h=>Fl ⟨[],H,I,.nil,h⟩
theorem Gk(ha:PE X e te)(hr:PA X es t)(hs:FY (e::es) X.env=(false,eval e X.env)::FY es X.env:=by rfl):PA X (e::es) (Hm te t):=by intro pos pins s σ H Q I h;rw[hs];show FW _ _ (spliced ((false,eval e X.env)::backTo pos (FY es X.env))) _ _ s;refine Fb (thn (ha pins s σ H _ I h) fun u s1 ⟨x,H1,I1,r1,q1⟩=>?_);exact thn (hr pos pins s1 σ H1 _ I1 q1) fun us s2 ⟨xs,H2,I2,r2,q2⟩=>⟨x::xs,H2,I2,.cons r1 r2,q2⟩
def P2(t:TA):TE:=fun σ H Q=>t σ H fun xs H1=>xs.length<=FT/\∀p,H1 p=none->Q (.ref p) (upd H1 p (.tup xs))
def YO(t:TA):TE:=fun σ H Q=>t σ H fun xs H1=>xs.length<=FT/\∀p,H1 p=none->Q (.ref p) (upd H1 p (.lst xs))
theorem Hn{x1}(h:PA X es t):PE X (.Tuple es x1 pos) (P2 t):=by intro pins s σ H Q I hq;refine wpAny_Tuple_spliced (thn (h pos pins s σ H _ I hq) fun us s1 ⟨xs,H1,I1,r,z,q⟩=>⟨by rw[<-r.length];exact z,?_⟩);have hf:H1 s1.heap.objs.size=none:=I1.hok.fresh (Ah _);refine⟨.ref s1.heap.objs.size,upd H1 s1.heap.objs.size (.tup xs),I1.laid (t':=s1.toks) (fun b u e=>Ab _ e) (Ah _) ?_,rfl,q _ hf⟩;exact⟨z,us,r,⟨_,Au _ rfl,rfl,_,rfl⟩⟩
theorem Hx(h:PA X es t):PE X (.List es pos) (YO t):=by intro pins s σ H Q I hq;refine wpAny_List_spliced (thn (h pos pins s σ H _ I hq) fun us s1 ⟨xs,H1,I1,r,z,q⟩=>⟨by rw[<-r.length];exact z,?_⟩);have hf:H1 s1.heap.objs.size=none:=I1.hok.fresh (Ah _);refine⟨.ref s1.heap.objs.size,upd H1 s1.heap.objs.size (.lst xs),I1.laid (t':=s1.toks) (fun b u e=>Ab _ e) (Ah _) ?_,rfl,q _ hf⟩;exact⟨z,us,0,r,Au _ rfl⟩
end
abbrev Sp:=List V->Hp->VK->XK->Prop
abbrev CXT:=List Env->Hp->FS->XK->FO->FS->Prop
structure Env0(P:FU)(w:F0)(K:Gh)(mg:Str->Option FO)(base:Heap)(A:F4)(outer:List Env)(s:FS)(H:Hp):Prop where
 frames:A.frames=some outer
 mod:Mod K mg base
 bs:∀b o,base.get? b=some o->s.heap.get? b=some o/\H b=none
 bsz:base.objs.size<=s.heap.objs.size
 funs:s.heap.FunFrames base outer
 frf:∀b∈frs outer,H b=none
 hok:HOk P w H s.heap
 bare:AllBare s.gens
def CE(outer:List Env)(P:FU)(w:F0)(H:Hp)(s:FS)(Q:VK)(u:FO)(s':FS):Prop:=∃v H',s'.os=s.os/\AllBare s'.gens/\Un (frs outer) [] H H' s.heap s'.heap/\HOk P w H' s'.heap/\RelV v u/\Q v H'
def CR(CX:CXT)(outer:List Env)(P:FU)(w:F0)(H:Hp)(s:FS)(Q:VK)(E:XK)(r:Result)(s':FS):Prop:=
 match r with
 |.ok (.ret u)=>CE outer P w H s Q u s'
 |.ok _=>False
 |.error e=>CX outer H s E e s'
structure FnOk(P:FU)(w:F0)(K:Gh)(mg:Str->Option FO)(base:Heap)(CX:CXT)(k:Nat)(f:FP)(fd:FZ)(ps:List Str)(sp:Sp):Prop where
 len:∀vs H Q E,sp vs H Q E->vs.length=ps.length
 run:∀(A:F4) (outer:List Env) (s:FS) (H:Hp) (args:Args) (us:List FO) (vs:List V) (Q:VK) (E:XK),Room k A->Env0 P w K mg base A outer s H->BindsTo s fd args (ps.zip us)->Vals vs us->sp vs H Q E->
  codeAny (model P w) A (.call (.ref f) args) (CR CX outer P w H s Q E) s
theorem FnOk.imp{P:FU}{w:F0}{K:Gh}{mg:Str->Option FO}{base:Heap}{CX:CXT}{k:Nat}{f:FP}{fd:FZ}{ps:List Str}{sp sp':Sp}(F:FnOk P w K mg base CX k f fd ps sp)
  (h:∀vs H Q E,sp' vs H Q E->sp vs H Q E):FnOk P w K mg base CX k f fd ps sp':=
 ⟨fun vs H Q E q=>F.len vs H Q E (h _ _ _ _ q),fun A outer s H args us vs Q E hr he hb hv hs=>F.run A outer s H args us vs Q E hr he hb hv (h _ _ _ _ hs)⟩
theorem Env0.make{P:FU}{w:F0}{K:Gh}{mg:Str->Option FO}{base:Heap}{A:F4}{outer:List Env}{s:FS}{H:Hp}(e:Env0 P w K mg base A outer s H)(C:FP)(us:List FO)(kw:List (Str×FO)):
  Env0 P w K mg base (A.under (.builtin "type.__call__" ⟨.ref C::us,kw⟩)) outer s H:=⟨by first | exact e.frames | (simpa [F4.under,Code.envs,Code.isFrame,pushEnvs] using e.frames),e.mod,e.bs,e.bsz,e.funs,e.frf,e.hok,e.bare⟩
theorem Env0.in1{P:FU}{w:F0}{K:Gh}{mg:Str->Option FO}{base:Heap}{A:F4}{outer:List Env}{s:FS}{H:Hp}(e:Env0 P w K mg base A outer s H):
  Env0 P w K mg base A.in1 outer s H:=⟨e.frames,e.mod,e.bs,e.bsz,e.funs,e.frf,e.hok,e.bare⟩
section
variable{X:Cx}{pins:List (FP×Obj)}{σ:St}{H:Hp}{s s':FS}
theorem Inv.env0(I:Inv X pins σ H s):Env0 X.prog X.w X.K X.mg X.base X.A X.stack s H:=⟨I.ok.frames,I.ok.mod,I.bs,Ak I.ok.bsz I.sz,I.stack,I.stkFree,I.hok,I.bare⟩
theorem Inv.after{Q:VK}{u:FO}(I:Inv X pins σ H s)(h:CE X.stack X.prog X.w H s Q u s'):EP X pins σ Q u s':=by obtain⟨v,H',os,bare,un,hok,r,q⟩:=h;obtain⟨hh,g,d,t,os'⟩:=s';obtain rfl:os'=s.os:=os;exact⟨v,H',I.call (h':=hh) (g':=g) (d':=d) (t':=t) (ch:=[]) un hok bare (fun b z=>absurd z (by simp)),r,q⟩
end
def Lv(sp:Sp)(dvs:List V)(E:XK)(t:TA):TE:=fun σ H Q=>t σ H fun vs H1=>sp (vs++dvs) H1 Q E
def Mj(C:FP)(m:Str)(sp:Sp)(dvs:List V)(E:XK)(ta:TE)(t:TA):TE:=fun σ H Q=>ta σ H fun x H1=>∃a dx fs,x=.ref a/\H1 a=some (.ins C dx fs)/\fs.lookup m=none ∧
 t σ H1 fun vs H2=>sp (x::(vs++dvs)) H2 Q E
def XO(C:FP)(sp:Sp)(dvs:List V)(E:XK)(t:TA):TE:=fun σ H Q=>t σ H fun vs H1=>∀x dx,H1 x=none->H1 dx=none->dx≠x->
 sp (.ref x::(vs++dvs)) (upd (upd H1 dx (.own x)) x (.ins C dx [])) (fun v H2=>v=.non/\Q (.ref x) H2) E
def Binds(K:Gh)(fd:FZ)(ps:List Str)(ds:List FO):Prop:=∀(s:FS) (us:List FO),K.In s.heap->(us++ds).length=ps.length->BindsTo s fd ⟨us,[]⟩ (ps.zip (us++ds))
theorem Binds.all{K:Gh}{fd:FZ}{ps:List Str}(h:∀us:List FO,us.length=ps.length->bindArgs fd ⟨us,[]⟩=pure (ps.zip us)):Binds K fd ps []:=fun s us _ hl=>by rw[AX] at hl ⊢;exact .of_eq (h us hl)
def Ix(CX:CXT)(X:Cx)(E:XK):Prop:=∀(pins:List (FP×Obj)) (σ:St) (H:Hp) (s:FS) (e:FO) (s':FS),Inv X pins σ H s->CX X.stack H s E e s'->X.xe e s'
section
variable{X:Cx}{CX:CXT}{k:Nat}{f C:FP}{fd:FZ}{ps:List Str}{sp:Sp}{dvs:List V}{ds:List FO}{E:XK}{x m:Str}{p pos apos:Pos}{e o:F3}{es:List F3}{ta:TE}{t:TA}
theorem O6{pins:List (FP×Obj)}{σ:St}{H:Hp}{s:FS}{Q:VK}{us:List FO}{vs:List V}(F:FnOk X.prog X.w X.K X.mg X.base CX k f fd ps sp)(hr:Room k X.A)(hb:Binds X.K fd ps ds)(hd:Vals dvs ds)(hx:Ix CX X E)
  (I:Inv X pins σ H s) (r:Vals vs us) (h:sp (vs++dvs) H Q E):FW (model X.prog X.w) X.A (call (.ref f) us) (EP X pins σ Q) X.xe s:=by
 have r2:Vals (vs++dvs) (us++ds):=r.append hd;have hl:(us++ds).length=ps.length:=by rw[<-r2.length];exact F.len _ _ _ _ h
 refine wpAny_call (codeAny_mono (F.run X.A X.stack s H ⟨us,[]⟩ (us++ds) (vs++dvs) Q E hr I.env0 (hb s us I.kIn hl) r2 h) fun r s' hq=>?_);cases r with
 |error e=>exact hx pins σ H s e s' I hq
 |ok fl=>
  cases fl with
  |ret u=>exact I.after hq
  |next=>exact False.elim hq
  |brk=>exact False.elim hq
  |cont=>exact False.elim hq
theorem LI(F:FnOk X.prog X.w X.K X.mg X.base CX k f fd ps sp)(hr:Room k X.A)(hg:Gl X x)(hm:X.mg x=some (.ref f))(hk:AG X.K (.ref f)=true)(hb:Binds X.K fd ps ds)(hd:Vals dvs ds)(hx:Ix CX X E)
  (ha:PA X (e::es) t) (hdb:(x==("__debug__":Str))=false:=by decide) (he:FY (e::es) X.env=(false,eval e X.env)::FY es X.env:=by rfl) (hpl:(backTo pos (FY es X.env)).any (·.1)=false:=by rfl):
  PE X (.Call (.Name x p) (e::es) [] pos) (Lv sp dvs E t):=by
 intro pins s σ H Q I h;refine Gc (JU I hg hm ?_ hdb);refine Ck (h₀:=X.base) I.ok.mod.kin hk (thn (ha pos pins s σ H _ I h) fun us s1 ⟨vs,H1,I1,r,q⟩=>⟨I1.kIn,?_⟩) he hpl;exact O6 F hr hb hd hx I1 r q
theorem T5(F:FnOk X.prog X.w X.K X.mg X.base CX k f fd ps sp)(hr:Room k X.A)(hg:Gl X x)(hm:X.mg x=some (.ref f))(hk:AG X.K (.ref f)=true)(hb:Binds X.K fd ps ds)(hd:Vals dvs ds)(hx:Ix CX X E)
  (hdb:(x==("__debug__":Str))=false:=by decide):PE X (.Call (.Name x p) [] [] pos) (Lv sp dvs E IR):=by
 intro pins s σ H Q I h;refine Gc (JU I hg hm ?_ hdb);exact EG I.kIn hk (O6 (us:=[]) F hr hb hd hx I .nil h)
theorem W4{pl:Sem Bool}(he:PE X o ta)(c:Cls X.K C)(hm:Meth X.K C m f)(F:FnOk X.prog X.w X.K X.mg X.base CX k f fd ps sp)(hr:Room k X.A)(hb:Binds X.K fd ps ds)(hd:Vals dvs ds)(hx:Ix CX X E)(ha:PA X (e::es) t)
  (hst:FY (e::es) X.env=(false,eval e X.env)::FY es X.env:=by rfl) (hpl:(backTo pos (FY es X.env)).any (·.1)=false:=by rfl)
  (ht:eval (.Call (.Attribute o m apos) (e::es) [] pos) X.env=(do
   let ov ← eval o X.env
   standAt apos.atName
   let (f,first) ← holding [ov] (getMethod ov m pl)
   callWith pos f first (backTo pos (FY (e::es) X.env)) (backToKw pos (keywordEach [] X.env))):=by rfl):
  PE X (.Call (.Attribute o m apos) (e::es) [] pos) (Mj C m sp dvs E ta t):=by
 intro pins s σ H Q I h;refine Es (pl:=pl) (thn (he pins s σ H _ I h) fun u s1 ⟨x,H1,I1,rx,a,dx,fs,ex,ea,l,q⟩=>?_) ht;subst ex;obtain rfl:u=FO.ref a:=rx;refine NY I1 ea c hm l ?_;refine Ck (first:=[.ref a]) (h₀:=X.base) I.ok.mod.kin hm.kp (thn (ha pos pins s1 σ H1 _ I1 q) fun us s2 ⟨vs,H2,I2,r,q2⟩=>⟨I2.kIn,?_⟩) hst hpl
 exact O6 (us:=.ref a::us) (vs:=.ref a::vs) F hr hb hd hx I2 (.cons rfl r) q2
theorem UC{pl:Sem Bool}(he:PE X o ta)(c:Cls X.K C)(hm:Meth X.K C m f)(F:FnOk X.prog X.w X.K X.mg X.base CX k f fd ps sp)(hr:Room k X.A)(hb:Binds X.K fd ps ds)(hd:Vals dvs ds)(hx:Ix CX X E)
  (ht:eval (.Call (.Attribute o m apos) [] [] pos) X.env=(do
   let ov ← eval o X.env
   standAt apos.atName
   let (f,first) ← holding [ov] (getMethod ov m pl)
   callWith pos f first (backTo pos (FY [] X.env)) (backToKw pos (keywordEach [] X.env))):=by rfl):
  PE X (.Call (.Attribute o m apos) [] [] pos) (Mj C m sp dvs E ta IR):=by
 intro pins s σ H Q I h;refine Es (pl:=pl) (thn (he pins s σ H _ I h) fun u s1 ⟨x,H1,I1,rx,a,dx,fs,ex,ea,l,q⟩=>?_) ht;subst ex;obtain rfl:u=FO.ref a:=rx;refine NY I1 ea c hm l ?_;exact EG (first:=[.ref a]) I1.kIn hm.kp (O6 (us:=[.ref a]) (vs:=[.ref a]) F hr hb hd hx I1 (.cons rfl .nil) q)
structure Mk(K:Gh)(C f:FP):Prop where
 makes:Df K C=true
 init:AV K (.ref C) "__init__"=some (some (.ref f))
 fn:BR K (.ref f)=true
 kp:AG K (.ref C)=true
theorem Uk{pins:List (FP×Obj)}{σ:St}{H:Hp}{s:FS}{Q:VK}{us:List FO}{vs:List V}(M:Mk X.K C f)(F:FnOk X.prog X.w X.K X.mg X.base CX k f fd ps sp)(hr:Room (k+1) X.A)(hb:Binds X.K fd ps ds)(hd:Vals dvs ds)
  (hx:Ix CX X E) (I:Inv X pins σ H s) (r:Vals vs us)
  (h:∀x dx,H x=none->H dx=none->dx≠x->sp (.ref x::(vs++dvs)) (upd (upd H dx (.own x)) x (.ins C dx [])) (fun v H2=>v=.non/\Q (.ref x) H2) E):
  FW (model X.prog X.w) X.A (call (.ref C) us) (EP X pins σ Q) X.xe s:=by
 have hq:=h (s.heap.objs.size+1) s.heap.objs.size (I.hok.fresh (E5 _)) (I.hok.fresh (Ah _)) (AH (Di _));have I2:=Inv.made (C:=C) I;have r2:Vals (V.ref (s.heap.objs.size+1)::(vs++dvs)) (FO.ref (s.heap.objs.size+1)::(us++ds)):=.cons rfl (r.append hd);have hl:(FO.ref (s.heap.objs.size+1)::us++ds).length=ps.length:=by have e:=r2.length;rw[F.len _ _ _ _ hq] at e;exact e.symm
 refine wpAny_call (UT (f:=f) I.kIn M.makes M.init (beq_iff_eq.mp M.fn) (codeAny_mono (F.run _ X.stack _ _ ⟨FO.ref (s.heap.objs.size+1)::us,[]⟩ (FO.ref (s.heap.objs.size+1)::(us++ds)) _ _ E (hr.make C us [])
  (I2.env0.make C us []) (hb _ (FO.ref (s.heap.objs.size+1)::us) I2.kIn hl) r2 hq) fun r s' hq'=>?_))
 cases r with
 |error e=>exact hx pins σ _ _ e s' I2 hq'
 |ok fl=>
  cases fl with
  |ret u=>obtain⟨v,H',I3,rv,ev,q3⟩:=I2.after hq';subst ev;exact⟨rv,⟨V.ref (s.heap.objs.size+1),H',I3,rfl,q3⟩⟩
  |next=>exact False.elim hq'
  |brk=>exact False.elim hq'
  |cont=>exact False.elim hq'
theorem WK(M:Mk X.K C f)(F:FnOk X.prog X.w X.K X.mg X.base CX k f fd ps sp)(hr:Room (k+1) X.A)(hg:Gl X x)(hm:X.mg x=some (.ref C))(hb:Binds X.K fd ps ds)(hd:Vals dvs ds)(hx:Ix CX X E)
  (ha:PA X (e::es) t) (hdb:(x==("__debug__":Str))=false:=by decide) (he:FY (e::es) X.env=(false,eval e X.env)::FY es X.env:=by rfl) (hpl:(backTo pos (FY es X.env)).any (·.1)=false:=by rfl):
  PE X (.Call (.Name x p) (e::es) [] pos) (XO C sp dvs E t):=by
 intro pins s σ H Q I h;refine Gc (JU I hg hm ?_ hdb);refine Ck (h₀:=X.base) I.ok.mod.kin M.kp (thn (ha pos pins s σ H _ I h) fun us s1 ⟨vs,H1,I1,r,q⟩=>⟨I1.kIn,?_⟩) he hpl;exact Uk M F hr hb hd hx I1 r q
end
section
variable{X:Cx}{CX:CXT}{k:Nat}{f C:FP}{fd:FZ}{ps ks:List Str}{sp:Sp}{E:XK}{x m:Str}{p pos apos kpos:Pos}{e o:F3}{es:List F3}{kws:List Keyword}{te ta:TE}{t tk:TA}{nm:Option Str}
structure KBinds(K:Gh)(fd:FZ)(ps ks:List Str)(g:List FO->List FO->List FO)(gV:List V->List V->List V):Prop where
 to:∀(s:FS) (us ws:List FO),K.In s.heap->(g us ws).length=ps.length->BindsTo s fd ⟨us,ks.zip ws⟩ (ps.zip (g us ws))
 rel:∀{vs:List V} {us:List FO} {zs:List V} {ws:List FO},Vals vs us->Vals zs ws->Vals (gV vs zs) (g us ws)
variable{g:List FO->List FO->List FO}{gV:List V->List V->List V}
end
structure FnScope(N P:List Str)(sc:Scope):Prop where
 kind:sc.kind=.function
 co:sc.isCoroutine=false
 gen:sc.isGenerator=false
 nd:N.Nodup
 pre:N.take P.length=P
 par:∀x∈P,sc.names.lookup x=some .local\/sc.names.lookup x=some .cell
 nofree:∀y∈sc.names,y.2≠.free
theorem OF{kindOf:Str->Option F7}{x:Str}:∀{binds:List (Str×FO)} {m:Str->Option FO},(∀v,(x,v)∉binds)->bindL kindOf binds m x=m x
 |[],_,_=>rfl
 |(n,v)::r,m,h=>by
  unfold bindL;rw[OF fun w hw=>h w (Aw _ hw)];split
  ·have:x≠n:=by rintro rfl;exact h v AE
   simp[this]
  ·rfl
theorem OM{kindOf:Str->Option F7}{x:Str}:∀{binds:List (Str×FO)} {m:Str->Option FO},(∀v,(x,v)∉binds)->bindC kindOf binds m x=m x
 |[],_,_=>rfl
 |(n,v)::r,m,h=>by
  unfold bindC;rw[OM fun w hw=>h w (Aw _ hw)];split
  ·rfl
  ·have:x≠n:=by rintro rfl;exact h v AE
   simp[this]
theorem OO{kindOf:Str->Option F7}{x:Str}{v:FO}:∀{P:List Str} {vs:List FO} {i:Nat} {m:Str->Option FO},P.Nodup->P[i]?=some x->vs[i]?=some v->kindOf x=some .local->
  bindL kindOf (P.zip vs) m x=some v
 |[],_,_,_,_,h,_,_=>by simp at h
 |_::_,[],_,_,_,_,h,_=>by simp at h
 |p::P,w::vs,0,m,nd,h1,h2,hk=>by simp at h1 h2;subst h1;subst h2;show bindL kindOf ((p,w)::P.zip vs) m p=_;unfold bindL;rw[OF fun v hv=>(CH.mp nd).1 (Cn hv).1,Gj hk];simp
 |p::P,w::vs,i+1,m,nd,h1,h2,hk=>by show bindL kindOf ((p,w)::P.zip vs) m x=_;unfold bindL;exact OO (i:=i) (CH.mp nd).2 (by simpa using h1) (by simpa using h2) hk
theorem OJ{kindOf:Str->Option F7}{x:Str}{v:FO}:∀{P:List Str} {vs:List FO} {i:Nat} {m:Str->Option FO},P.Nodup->P[i]?=some x->vs[i]?=some v->kindOf x≠some .local->
  bindC kindOf (P.zip vs) m x=some v
 |[],_,_,_,_,h,_,_=>by simp at h
 |_::_,[],_,_,_,_,h,_=>by simp at h
 |p::P,w::vs,0,m,nd,h1,h2,hk=>by simp at h1 h2;subst h1;subst h2;show bindC kindOf ((p,w)::P.zip vs) m p=_;unfold bindC;rw[OM fun v hv=>(CH.mp nd).1 (Cn hv).1,Gi hk];simp
 |p::P,w::vs,i+1,m,nd,h1,h2,hk=>by show bindC kindOf ((p,w)::P.zip vs) m x=_;unfold bindC;exact OJ (i:=i) (CH.mp nd).2 (by simpa using h1) (by simpa using h2) hk
def start(N:List Str)(vs:List V):St:=vs.map some++Ba (N.length-vs.length) none
def G7(CX:CXT)(P:FU)(w:F0)(K:Gh)(mg:Str->Option FO)(base:Heap)(N:List Str)(qual:Str)(scope:Scope)(f:FP)(cd:FO)(A:F4)(outer:List Env)(s:FS)(H:Hp)(E:XK):Cx where
 prog:=P
 w:=w
 K:=K
 mg:=mg
 base:=base
 A:=A.deeper (envOfC qual scope s.heap.objs.size f cd)
 N:=N
 s_0:=s
 H_0:=H
 env:=envOfC qual scope s.heap.objs.size f cd
 outer:=outer
 stack:=envOfC qual scope s.heap.objs.size f cd::outer
 ex:=[]
 calm:=true
 fn:=fun _=>true
 pn:=[]
 xe:=fun e s'=>FW (model P w) (A.deeper (envOfC qual scope s.heap.objs.size f cd)) (leaving (envOfC qual scope s.heap.objs.size f cd) e) (fun _ s''=>CX outer H s E e s'') (fun e' s''=>CX outer H s E e' s'') s'
theorem LC{sc:Scope}{n:Nat}{x:Str}(h:sc.names.lookup x=some .cell):∃c,(Ga n sc.names []).lookup x=some c:=by have q:=Dc sc.names n [] (.inl h);exact Eo.mp q
theorem OT{CX:CXT}{P:FU}{w:F0}{K:Gh}{mg:Str->Option FO}{base:Heap}{N ps:List Str}{qual:Str}{scope:Scope}{f:FP}{cd:FO}{A:F4}{outer:List Env}{s s1:FS}{H:Hp}{E:XK}{us:List FO}{vs:List V}
  (S:FnScope N ps scope) (hd:A.handled=none) (e0:Env0 P w K mg base A outer s H) (hl:vs.length=ps.length) (r:Vals vs us)
  (x:InCallC s s.heap.objs.size (bindL (envOfC qual scope s.heap.objs.size f cd).kindOf (ps.zip us) fun _=>none) (Ga (s.heap.objs.size+1) scope.names []) (bindC (envOfC qual scope s.heap.objs.size f cd).kindOf (ps.zip us) fun _=>none) s1):
  Inv (G7 CX P w K mg base N qual scope f cd A outer s H E) [] (start N vs) H s1:=by
 have hpl:ps.length<=N.length:=by have:=congrArg Eh S.pre;rw[Ax] at this;lia
 obtain⟨h1,tk,rfl,hk⟩:=x.done;have noA:∀b:FP,b∉(G7 CX P w K mg base N qual scope f cd A outer s H E).ex:=fun b z=>absurd (show b∈([]:List FP) from z) (by simp);refine⟨⟨e0.mod,S.kind,rfl,rfl,Ah _,fun y z c h1 h2=>?_,fun y hy=>?_,fun y c _ h=>?_,fun _=>hd,F4.frames_deeper e0.frames,.inr ⟨rfl,rfl⟩,fun b z=>absurd z (noA b),e0.bs,e0.bsz,fun b _ _=>noA b,fun b z=>absurd z (noA b),e0.funs,e0.frf⟩,
  rfl,e0.bare,Un.kept hk,⟨_,x.toInCall.ns,fun i y v h1 h2 h3=>?_⟩,fun y c h=>⟨_,x.cell y c h⟩,e0.hok.fresh (Ah _),fun y c h=>?_,fun p hp=>absurd (show p∈([]:List (FP×Obj)) from hp) (by simp),e0.hok.kept hk,?_⟩
 ·exact name_of_addr x.apart (PySem.mem_of_lookup h1) (PySem.mem_of_lookup h2)
 ·have hy:scope.names.lookup y=some .cell\/scope.names.lookup y=some .free:=hy;rcases hy with hy | hy
  ·exact LC hy
  ·exact absurd rfl (S.nofree _ (PySem.mem_of_lookup hy))
 ·exact BB (x.above y c (PySem.mem_of_lookup h))
 ·have hi:i<vs.length:=by
   unfold start at h2;by_cases hi:i<vs.length
   ·exact hi
   ·rw[Ay (by simpa using hi)] at h2;rw[EC] at h2;split at h2 <;> cases h2
  have ha:vs[i]?=some v:=by
   unfold start at h2;rw[AF (by simpa using hi),Al] at h2;cases e:vs[i]? with
   |none=>rw[e] at h2;cases h2
   |some a=>rw[e] at h2;cases h2;rfl
  obtain⟨u,hu,rv⟩:=r.get ha;have hp:ps[i]?=some y:=by rw[<-S.pre,Ev (by lia)];exact h1
  have ndP:ps.Nodup:=by rw[<-S.pre];exact S.nd.sublist (Ft _ _)
  refine⟨u,rv,?_⟩;rcases S.par y (AO hp) with k | k
  ·exact .inl ⟨k,OO ndP hp hu k⟩
  ·obtain⟨c,e⟩:=LC (n:=s.heap.objs.size+1) k;refine .inr ⟨.inl k,c,e,?_⟩;have q:=x.cell y c e;rw[OJ ndP hp hu (by show scope.names.lookup y≠_;rw[k];decide)] at q;exact q
 ·exact e0.hok.fresh (BB (x.above y c (PySem.mem_of_lookup h)))
 ·unfold start;show _=N.length;rw[Ac,Aa,EN]
  lia
theorem Ul{CX:CXT}{P:FU}{w:F0}{K:Gh}{mg:Str->Option FO}{base:Heap}{k:Nat}{f:FP}{name qual:Str}{params:Arguments}{body:List F6}{scope:Scope}{dV kV doc pm cdv ct oc:FO}{an od:Option FP}
  {osl:Array (Option FO)} {N ps:List Str} {sp:Sp} (lk:K.lookup f=some ⟨oc,od,.func (A5 name qual params body scope dV kV doc pm an cdv ct),osl⟩) (hcd:Bf K cdv qual=true) (S:FnScope N ps scope)
  (len:∀vs H Q E,sp vs H Q E->vs.length=ps.length)
  (hbody:∀(A:F4) (outer:List Env) (s:FS) (H:Hp) (vs:List V) (Q:VK) (E:XK),Room k (A.deeper (envOfC qual scope s.heap.objs.size f cdv))->sp vs H Q E->
   ∃t,PSs (G7 CX P w K mg base N qual scope f cdv A outer s H E) body t/\t { nx:=fun _ H'=>Q .non H',rt:=Q } (start N vs) H):
  FnOk P w K mg base CX (k+1) f (A5 name qual params body scope dV kV doc pm an cdv ct) ps sp:=by
 refine⟨len,fun A outer s H args us vs Q E hr e0 hb r hsp=>?_⟩;have hl:=len _ _ _ _ hsp;have KX:K.In s.heap:=e0.mod.kin.keeps fun b o e=>(e0.bs b o e).1;have lim:s.heap.NoLimit:=e0.mod.nolimit.keeps fun b o e=>(e0.bs b o e).1;have hkind:∀y∈ps.zip us,scope.names.lookup y.1=some .local\/(scope.names.lookup y.1=some .cell/\((Ga (s.heap.objs.size+1) scope.names []).lookup y.1).isSome=true):=fun⟨n,v⟩ hy=>by
  rcases S.par n (Cn hy).1 with q | q
  ·exact .inl q
  ·exact .inr ⟨q,Dc _ _ _ (.inl q)⟩
 refine codeAny_call_function hr.depth (KX _ _ lk) rfl S.co S.gen rfl (EL KX hcd) (hb _ _ _ _ ?_);refine wpAny_newFunctionEnv_cells S.kind hkind fun env he s1 x=>?_;subst he;refine⟨lim.keeps x.toInCall.keep,codeAny_func ?_⟩;obtain⟨t,ht,hq⟩:=hbody A outer s H vs Q E (hr.deeper _) hsp;have I:Inv (G7 CX P w K mg base N qual scope f cdv A outer s H E) [] (start N vs) H s1:=OT S hr.hd e0 hl r x;refine F9 (ht [] s1 (start N vs) H _ I hq) (fun fl s' hs=>?_) fun e s' hs=>hs;have fin:∀{σ':St} {H':Hp} {v:V} {u:FO},Inv (G7 CX P w K mg base N qual scope f cdv A outer s H E) [] σ' H' s'->RelV v u->Q v H'->CE outer P w H s Q u s':=fun{σ' H' v u} J rv q=>⟨v,H',J.os,J.bare,J.base,J.hok,rv,q⟩
 cases fl with
 |ret u=>obtain⟨v,σ',H',J,rv,q⟩:=hs;exact fin J rv q
 |next=>obtain⟨σ',H',J,q⟩:=hs;exact fin (v:=V.non) (u:=FO.none) J rfl q
 |brk=>obtain⟨_,_,_,q⟩:=hs;exact False.elim q
 |cont=>obtain⟨_,_,_,q⟩:=hs;exact False.elim q
section
variable{X:Cx}{x:Str}{p pos:Pos}{e:F3}{es:List F3}{t:TA}{id T:String}{r:List V->Hp->VK->Prop}
def tCB(r:List V->Hp->VK->Prop)(t:TA):TE:=fun σ H Q=>t σ H fun vs H1=>r vs H1 Q
theorem G1(hc:Lk X (.builtin id) r)(hg:Gl X x)(hm:X.mg x=none)(hv:Gf x=some (.builtin id))(ha:PA X (e::es) t)(hn:x≠"__name__":=by decide)(hdb:(x==("__debug__":Str))=false:=by decide)
  (he:FY (e::es) X.env=(false,eval e X.env)::FY es X.env:=by rfl) (hpl:(backTo pos (FY es X.env)).any (·.1)=false:=by rfl):PE X (.Call (.Name x p) (e::es) [] pos) (tCB r t):=by
 intro pins s σ H Q I h;refine Gc (K7 I hg hm hv ?_ hn hdb);exact PyProof.Rows.callWith_builtin1 (thn (ha pos pins s σ H _ I h) fun us s1 ⟨vs,H1,I1,r1,q1⟩=>hc pins s1 σ H1 vs us Q I1 r1 q1) he hpl
theorem LY(hc:Lk X (.type T) r)(hg:Gl X x)(hm:X.mg x=none)(hv:Gf x=some (.type T))(ha:PA X (e::es) t)(hn:x≠"__name__":=by decide)(hdb:(x==("__debug__":Str))=false:=by decide)
  (he:FY (e::es) X.env=(false,eval e X.env)::FY es X.env:=by rfl) (hpl:(backTo pos (FY es X.env)).any (·.1)=false:=by rfl):PE X (.Call (.Name x p) (e::es) [] pos) (tCB r t):=by
 intro pins s σ H Q I h;refine Gc (K7 I hg hm hv ?_ hn hdb);exact BC (thn (ha pos pins s σ H _ I h) fun us s1 ⟨vs,H1,I1,r1,q1⟩=>hc pins s1 σ H1 vs us Q I1 r1 q1) he hpl
end
end L2
local macro_rules|`(command|def $n:declId $s:optDeclSig $v:declVal)=>`(command|noncomputable def $n:declId $s:optDeclSig $v:declVal)
local macro_rules|`(command|abbrev $n:declId $s:optDeclSig $v:declVal)=>`(command|noncomputable abbrev $n:declId $s:optDeclSig $v:declVal)
namespace HT
open PySem PyProof.Rows
section
open PySem.SeqAt
open PySem.AutoSeq1 (wpAny_loadPart')
open PySem.MeetsSeq PySem.MeetsSeq2 PySem.MeetsSeq3
end
section
variable{prog:FU}{w:F0}{A:F4}{E:FO->FS->Prop}{s:FS}
theorem cat_tup{t b:FP}{vs ws:List FO}{Q:FO->FS->Prop}(ht:IsTup s.heap t vs.toArray)(hb:IsTup s.heap b ws.toArray)(hv:vs≠[])
  (h1:ws=[]->Q (.ref t) s) (h2:ws≠[]->Q (.ref s.heap.objs.size) { s with heap:=s.heap.push { cls:=.type "tuple",data:=.seq (vs++ws).toArray } })
  (hsz:vs.length+ws.length<=FT):FW (model prog w) A (binaryOp .Add (.ref t) (.ref b)) Q E s:=by
 obtain⟨⟨cls,dd,data,sl⟩,ho,hc,n,hd⟩:=id ht;obtain⟨⟨cls2,dd2,data2,sl2⟩,ho2,hc2,n2,hd2⟩:=id hb;simp only at hc hd hc2 hd2;subst hc hd hc2 hd2;have e:vs.toArray++ws.toArray=(vs++ws).toArray:=by simp
 by_cases hw:ws=[]
 ·exact concat_meets ⟨_,ho,rfl⟩ ⟨_,ho2,rfl⟩ noFill_tuple_add seq_tuple_add Dd C4 (CZ _ _)
   (tuple_addW1 t b vs.toArray ws.toArray n n2 dd dd2 sl sl2 (by simpa using hv) (by simp[hw])) ⟨ho,ho2,h1 hw⟩
 ·refine concat_meets ⟨_,ho,rfl⟩ ⟨_,ho2,rfl⟩ noFill_tuple_add seq_tuple_add Dd C4 (CZ _ _)
   (tuple_addW2 t b vs.toArray ws.toArray n n2 dd dd2 sl sl2 (by simpa using hv) (by simpa using hw) (by rw[Aq,Aq];exact hsz)) ⟨ho,ho2,?_⟩
  rw[e];exact h2 hw
def sIx(n d:Nat):Option Int->Nat
 |none=>d
 |some v=>if v<0 then (v+(n:Int)).toNat else min v.toNat n
theorem sIx_none(n d:Nat):sIx n d none=d:=rfl
theorem sIx_nat(n d k:Nat):sIx n d (some (k:Int))=min k n:=by show(if (k:Int)<0 then ((k:Int)+(n:Int)).toNat else min (k:Int).toNat n)=min k n;rw[Gi (by lia),Db]
theorem Y2(n d:Nat)(hd:d<=n)(o:Option Int):sIx n d o<=n:=by
 cases o with
 |none=>exact hd
 |some v=>
  show(if v<0 then (v+(n:Int)).toNat else min v.toNat n)<=n;by_cases hv:v<0
  ·rw[Gj hv];lia
  ·rw[Gi hv];exact Bc _ _
theorem Sv(v:Int)(n d:Nat):(if v<0 then max (v+(n:Int)) 0 else min v (n:Int))=((sIx n d (some v):Nat):Int):=by
 show(if v<0 then max (v+(n:Int)) 0 else min v (n:Int))=(((if v<0 then (v+(n:Int)).toNat else min v.toNat n):Nat):Int);by_cases hv:v<0
 ·simp only[Gj hv];lia
 ·simp only[Gi hv];lia
theorem Q4(lo hi:Option Int)(n:Nat):Builtin.Slice.sliceAdjust lo hi 1 (n:Int)=(((sIx n 0 lo:Nat):Int),((sIx n n hi:Nat):Int)):=by
 have h1:¬((1:Int)<0):=by lia
 unfold Builtin.Slice.sliceAdjust;simp only[h1,if_false];refine Prod.ext ?_ ?_
 ·cases lo with
  |none=>rfl
  |some v=>exact Sv v n 0
 ·cases hi with
  |none=>rfl
  |some v=>exact Sv v n n
theorem Rr(i j:Nat):Builtin.Slice.slicePlaces (i:Int) (j:Int) 1=j-i:=by
 unfold Builtin.Slice.slicePlaces;have h1:(1:Int) > 0:=by lia
 simp only[h1,if_true,Int.ediv_one];split <;> lia
theorem Na{v:FO}{o:Option Int}{Q:Option Int->FS->Prop}(p:IsPart v o)(h:Q o s):FW (model prog w) A (Builtin.Slice.slicePartIndex v) Q E s:=by
 cases p with
 |none=>exact slicePart_none h
 |int i t=>exact slicePart_int h
theorem LM{sl:FP}{vl vu:FO}{lo hi:Option Int}{n:Nat}{Q:Int×Int×Nat->FS->Prop}(hs:s.heap.IsSliceOf sl vl vu .none)(pl:IsPart vl lo)(pu:IsPart vu hi)
  (h:Q (((sIx n 0 lo:Nat):Int),1,sIx n n hi-sIx n 0 lo) s):FW (model prog w) A (Builtin.Slice.sliceApplied (.ref sl) (pure (n:Int))) Q E s:=by
 obtain⟨os,hos,hcs,hds⟩:=id hs;unfold Builtin.Slice.sliceApplied Builtin.Slice.sliceFields;refine FQ (FQ (F5 hos hds (x:=vl) rfl (FQ (F5 hos hds (x:=vu) rfl (FQ (F5 hos hds (x:=.none) rfl (FV ?_)))))));refine FQ (slicePart_none ?_);show FW _ _ (if ((1:Int)==0)=true then _ else _) _ _ s;rw[Gi (by decide)];refine FQ (Na pl (FQ (Na pu (FQ (FV ?_)))));show FW _ _ (match Builtin.Slice.sliceAdjust lo hi 1 (n:Int) with | (lo,hi)=>pure (lo,(1:Int),Builtin.Slice.slicePlaces lo hi 1)) _ _ s;rw[Q4 lo hi n];show FW _ _ (pure (((sIx n 0 lo:Nat):Int),(1:Int),Builtin.Slice.slicePlaces ((sIx n 0 lo:Nat):Int) ((sIx n n hi:Nat):Int) 1)) _ _ s;rw[Rr];exact FV h
theorem Vb(xs:Array FO)(i k:Nat):((BG k).filterMap fun(m:Nat)=>xs[((i:Int)+(m:Int)*1).toNat]?).toArray=((xs.toList.drop i).take k).toArray:=by
 have e:(fun(m:Nat)=>xs[((i:Int)+(m:Int)*1).toNat]?)=fun m=>xs[i+m]?:=by
  funext m;have:((i:Int)+(m:Int)*1).toNat=i+m:=by lia
  rw[this]
 rw[e];have:=pick_run xs i k;rw[List.filterMap_map] at this;have e2:((fun x=>xs[x]?) ∘ fun x=>i+x)=fun m=>xs[i+m]?:=rfl;rw[e2] at this;rw[this]
theorem getItem_tuple_cut{t sl:FP}{items:Array FO}{vl vu:FO}{lo hi:Option Int}{Q:FO->FS->Prop}(ht:IsTup s.heap t items)(hs:s.heap.IsSliceOf sl vl vu .none)(pl:IsPart vl lo)(pu:IsPart vu hi)
  (hw:¬(sIx items.size 0 lo=0/\sIx items.size items.size hi=items.size))
  (h:Q (.ref s.heap.objs.size) { s with heap:=s.heap.push { cls:=.type "tuple",data:=.seq ((items.toList.drop (sIx items.size 0 lo)).take (sIx items.size items.size hi-sIx items.size 0 lo)).toArray } })
  (hsz:items.size<=FT):FW (model prog w) A (getItem (.ref t) (.ref sl)) Q E s:=by
 have htake:sizeOk (.seq ((items.toList.drop (sIx items.size 0 lo)).take (sIx items.size items.size hi-sIx items.size 0 lo)).toArray):=by
  show((items.toList.drop (sIx items.size 0 lo)).take (sIx items.size items.size hi-sIx items.size 0 lo)).toArray.size<=FT;rw[Aq,Ax,Az,BQ]
  lia
 have hj:sIx items.size items.size hi<=items.size:=Y2 _ _ (Ah _) hi;obtain⟨os,hos,hcs,hds⟩:=id hs;have hTs:s.TypeIs (.ref sl) "slice":=⟨os,hos,hcs⟩;unfold getItem
 try with_reducible refine wpAny_holding ?_
 first | refine FQ (FV ?_) | skip
 refine FQ (wpAny_sequenceKey ht.typeIs (by decide) ?_);refine FQ (wpAny_callSpecial?_slot (name:=Str.ofString "__getitem__") ht.typeIs Cm
  (wpAny_call_entry Cm ht.typeIs entry_tuple_getitem ?_ (args_tuple_getitem _ _)))
 show FW _ _ (Builtin.Tuple.tupleItemsOf (.ref t) >>= _) _ _ s;refine FQ (tupleItemsOf_ ht ?_);refine FQ (wpAny_typeOf hTs ?_);rw[Gj (by decide)];refine FQ (LM hs pl pu ?_);have hno:¬((((sIx items.size 0 lo:Nat):Int)==0&&(1:Int)==1&&(sIx items.size items.size hi-sIx items.size 0 lo)==items.size)=true):=by intro q;rw[Av,Av] at q;have q1:((sIx items.size 0 lo:Nat):Int)=0:=eq_of_beq q.1.1;have q2:sIx items.size items.size hi-sIx items.size 0 lo=items.size:=eq_of_beq q.2;exact hw ⟨by lia,by lia⟩
 show FW _ _ (if (((sIx items.size 0 lo:Nat):Int)==0&&(1:Int)==1&&(sIx items.size items.size hi-sIx items.size 0 lo)==items.size)=true then _ else _) _ _ s;rw[Gi hno,Vb]
 first
  |exact FQ (m:=Builtin.Tuple.tupleExact _) (Ge (FV ⟨_,rfl,FV h⟩) htake)
  |exact FQ (m:=Builtin.Tuple.tupleExact _) (Ge (FQ (FV (FV ⟨_,rfl,FV h⟩))) htake)
  |exact FQ (FQ (m:=Builtin.Tuple.tupleExact _) (Ge (FV (FV ⟨_,rfl,FV h⟩)) htake))
  |exact FQ (FQ (m:=Builtin.Tuple.tupleExact _) (Ge (FV ⟨_,rfl,FV h⟩) htake))
end
end HT
namespace L2
open PySem PySem.Spec PyProof.Rows
abbrev TO:=St->Hp->(Option Int->Hp->Prop)->Prop
def PO(X:Cx)(e:Option F3)(t:TO):Prop:=
 ∀(pins:List (FP×Obj)) (s:FS) (σ:St) (H:Hp) (Q:Option Int->Hp->Prop),Inv X pins σ H s->t σ H Q->
  FW (model X.prog X.w) X.A (evalPart e X.env) (fun u s'=>∃o H',Inv X pins σ H' s'/\IsPart u o/\Q o H') X.xe s
def Xb:TO:=fun _ H Q=>Q none H
def ZL(t:TE):TO:=fun σ H Q=>t σ H fun x H1=>∃i,x=.int i/\Q (some i) H1
section
variable{X:Cx}{e:F3}{te:TE}{lo hi:Option F3}{tl th:TO}{pos p2:Pos}
theorem KC:PO X none Xb:=by intro pins s σ H Q I h;rw[evalPart_none];exact FV ⟨none,H,I,.none,h⟩
theorem KB(h:PE X e te):PO X (some e) (ZL te):=by intro pins s σ H Q I hw;rw[evalPart_some];refine thn (h pins s σ H _ I hw) fun u s1 ⟨x,H1,I1,r1,q1⟩=>?_;obtain⟨i,rfl,q⟩:=q1;obtain⟨t,rfl⟩:=r1;exact⟨some i,H1,I1,.int i t,q⟩
def SlR(X:Cx)(r:V->Option Int->Option Int->Hp->VK->Prop):Prop:=
 ∀(pins:List (FP×Obj)) (s:FS) (σ:St) (H:Hp) (x:V) (v vl vu:FO) (lo hi:Option Int) (sl:FP) (Q:VK),Inv X pins σ H s->RelV x v->s.heap.IsSliceOf sl vl vu .none->IsPart vl lo->IsPart vu hi->r x lo hi H Q->
  ∃T id,typeLookup (.type T) "__getitem__"=pure (some (.builtin id))/\s.TypeIs v T/\FW (model X.prog X.w) X.A (getItem v (.ref sl)) (EP X pins σ Q) X.xe s
theorem SlR.or{r r':V->Option Int->Option Int->Hp->VK->Prop}(h:SlR X r)(h':SlR X r'):SlR X (fun x lo hi H Q=>r x lo hi H Q\/r' x lo hi H Q):=by
 intro pins s σ H x v vl vu lo hi sl Q I rx hs pl pu q;rcases q with q | q
 ·exact h pins s σ H x v vl vu lo hi sl Q I rx hs pl pu q
 ·exact h' pins s σ H x v vl vu lo hi sl Q I rx hs pl pu q
def tSl(r:V->Option Int->Option Int->Hp->VK->Prop)(te:TE)(tl th:TO):TE:=fun σ H Q=>te σ H fun x H1=>tl σ H1 fun l H2=>th σ H2 fun u H3=>r x l u H3 Q
theorem JN{r:V->Option Int->Option Int->Hp->VK->Prop}(hr:SlR X r)(he:PE X e te)(hl:PO X lo tl)(hu:PO X hi th):PE X (.Subscript e (.Slice lo hi none p2) pos) (tSl r te tl th):=by intro pins s σ H Q I h;refine Subscript_ (thn (he pins s σ H _ I h) fun v s1 ⟨x,H1,I1,r1,q1⟩=>?_);refine wpAny_Slice (thn (hl pins s1 σ H1 _ I1 q1) fun vl s2 ⟨l,H2,I2,pl,q2⟩=>thn (hu pins s2 σ H2 _ I2 q2) fun vu s3 ⟨u,H3,I3,pu,q3⟩=>?_);rw[evalPart_none];refine FV ?_;have I4:Inv X pins σ H3 { s3 with heap:=s3.heap.push { cls:=.type "slice",data:=.fields #[vl,vu,.none] } }:=I3.kept (t':=s3.toks) fun b ob q=>Ab _ q;obtain⟨T,id,hT,ht,hg⟩:=hr pins { s3 with heap:=s3.heap.push { cls:=.type "slice",data:=.fields #[vl,vu,.none] } } σ H3 x v vl vu l u s3.heap.objs.size Q I4 r1 (Heap.IsSliceOf.new ..) pl pu q3;show FW (model X.prog X.w) X.A (subscriptTail e (.Slice lo hi none p2) v (.ref s3.heap.objs.size)) (EP X pins σ Q) X.xe { s3 with heap:=s3.heap.push { cls:=.type "slice",data:=.fields #[vl,vu,.none] } };exact tail_any (ops:=[.ref s3.heap.objs.size,v]) ht hT hg (by with_unfolding_all rfl)
def Nv(xs:List V)(lo hi:Option Int):List V:=(xs.drop (HT.sIx xs.length 0 lo)).take (HT.sIx xs.length xs.length hi-HT.sIx xs.length 0 lo)
theorem Mg(xs:List V)(lo hi:Option Int):(Nv xs lo hi).length<=xs.length:=by
 unfold Nv;rw[Ax,Az]
 lia
def ZU(K:Gh):V->Option Int->Option Int->Hp->VK->Prop:=fun x lo hi H Q=>∃a xs,x=.ref a/\SqT K H a xs ∧
 ¬(HT.sIx xs.length 0 lo=0/\HT.sIx xs.length xs.length hi=xs.length)/\∀p,H p=none->Q (.ref p) (upd H p (.tup (Nv xs lo hi)))
theorem LS:SlR X (ZU X.K):=by
 intro pins s σ H x v vl vu lo hi sl Q I rx hs pl pu h;obtain⟨a,xs,rfl,hx,hw,q⟩:=h;cases rx;obtain⟨its,r,ht,hz⟩:=I.tuple hx;have hlen:its.toArray.size=xs.length:=by rw[Aq];exact r.length.symm
 refine⟨"tuple",_,Cm.lookup,ht.typeIs,?_⟩;refine HT.getItem_tuple_cut ht hs pl pu (by rw[hlen];exact hw) ?_ (by rw[hlen];exact hz);rw[hlen];refine⟨.ref s.heap.objs.size,_,I.laid (t':=s.toks) (o:=.tup (Nv xs lo hi)) (fun b ob q=>Ab _ q) (Ah _) ?_,rfl,q _ (I.hok.fresh (Ah _))⟩;exact⟨Ak (Mg xs lo hi) hz,_,(r.drop (HT.sIx xs.length 0 lo)).take (HT.sIx xs.length xs.length hi-HT.sIx xs.length 0 lo),IsTup.new _ _⟩
def Aau(K:Gh):R2:=fun x y H Q=>∃a b xs ys,x=.ref a/\y=.ref b/\SqT K H a xs/\SqT K H b ys/\xs≠[]/\xs.length+ys.length<=FT ∧
 (ys=[]->Q (.ref a) H)/\(ys≠[]->∀p,H p=none->Q (.ref p) (upd H p (.tup (xs++ys))))
theorem Vals.nil_iff{xs:List V}{us:List FO}(r:Vals xs us):us=[]↔xs=[]:=by
 cases r with
 |nil=>simp
 |cons _ _=>simp
theorem WT:OpR X (binaryOp .Add) (Aau X.K):=by intro pins s σ H x y v u Q I rx ry h;obtain⟨a,b,xs,ys,rfl,rfl,ha,hb,hx,hz,q1,q2⟩:=h;cases rx;cases ry;obtain⟨its,r1,p1,_⟩:=I.tuple ha;obtain⟨its2,r2,p2,_⟩:=I.tuple hb;refine HT.cat_tup p1 p2 (fun z=>hx (r1.nil_iff.mp z)) (fun z=>⟨.ref a,H,I,rfl,q1 (r2.nil_iff.mp z)⟩) (fun z=>?_) (by rw[<-r1.length,<-r2.length];exact hz);refine⟨.ref s.heap.objs.size,_,I.laid (t':=s.toks) (o:=.tup (xs++ys)) (fun b ob q=>Ab _ q) (Ah _) ?_,rfl,q2 (fun w=>z (r2.nil_iff.mpr w)) _ (I.hok.fresh (Ah _))⟩;exact⟨by rw[Ac];exact hz,_,r1.append r2,IsTup.new _ _⟩
end
def ixN(n:Nat)(i:Int):Option Nat:=if 0<=i then (if i<n then some i.toNat else none) else if -(n:Int)<=i then some (i+n).toNat else none
def atI{α:Type}(xs:List α)(i:Int):Option α:=(ixN xs.length i).bind fun j=>xs[j]?
theorem Si{n:Nat}{i:Int}{j:Nat}(h:ixN n i=some j):seqIndex? i n=some j/\j<n/\-(n:Int)<=i/\i<n:=by
 unfold ixN at h;by_cases h0:0<=i
 ·rw[Gj h0] at h;by_cases h1:i<n
  ·rw[Gj h1] at h;have e:i.toNat=j:=Option.some.inj h;exact⟨by rw[seqIndex_of h0 h1,e],by lia,by lia,h1⟩
  ·rw[Gi h1] at h;cases h
 ·rw[Gi h0] at h;by_cases h1:-(n:Int)<=i
  ·rw[Gj h1] at h;have e:(i+n).toNat=j:=Option.some.inj h;exact⟨by rw[seqIndex_neg (by lia) h1,e],by lia,h1,by lia⟩
  ·rw[Gi h1] at h;cases h
theorem O5{α:Type}{xs:List α}{i:Int}{v:α}(h:atI xs i=some v):∃j,seqIndex? i xs.length=some j/\xs[j]?=some v/\j<xs.length/\-(xs.length:Int)<=i/\i<xs.length:=by
 unfold atI at h;cases e:ixN xs.length i with
 |none=>rw[e] at h;cases h
 |some j=>rw[e] at h;obtain⟨h1,h2,h3,h4⟩:=Si e;exact⟨j,h1,h,h2,h3,h4⟩
theorem ML{α:Type}{xs:List α}{j:Nat}{v:α}(h:xs[j]?=some v):atI xs (j:Int)=some v:=by
 have hj:j<xs.length:=(Ai.mp h).1;have e:ixN xs.length (j:Int)=some j:=by unfold ixN;rw[Gj (by lia),Gj (by lia)];simp
 unfold atI;rw[e];exact h
theorem PX{α:Type}(xs:List α)(v:α):atI (xs++[v]) (-1)=some v:=by
 have hl:(xs++[v]).length=xs.length+1:=by simp
 have e:ixN (xs++[v]).length (-1)=some xs.length:=by
  unfold ixN;rw[hl,Gi (by decide),Gj (by lia)];congr 1
  lia
 unfold atI;rw[e];show(xs++[v])[xs.length]?=some v;simp
def Xm(b:F3):Prop:=∀o i,subscripted b false o i=operate [o,i] (getItem o i)
def IxR(X:Cx)(r:R2):Prop:=
 ∀(value slice:F3) (pins:List (FP×Obj)) (s:FS) (σ:St) (H:Hp) (x y:V) (v u:FO) (Q:VK),Inv X pins σ H s->RelV x v->RelV y u->r x y H Q->
  subscripted slice false v u=operate [v,u] (getItem v u)->FW (model X.prog X.w) X.A (subscriptTail value slice v u) (EP X pins σ Q) X.xe s
def MtR(X:Cx)(id:String)(r:V->List V->Hp->VK->Prop):Prop:=
 ∀(pins:List (FP×Obj)) (s:FS) (σ:St) (H:Hp) (x:V) (xs:List V) (v:FO) (us:List FO) (Q:VK),Inv X pins σ H s->RelV x v->Vals xs us->r x xs H Q->
  FW (model X.prog X.w) X.A (call (.builtin id) (v::us)) (EP X pins σ Q) X.xe s
section
variable{X:Cx}{a b:F3}{ta tb:TE}{pos:Pos}
theorem IxR.or{r r':R2}(h:IxR X r)(h':IxR X r'):IxR X (fun x y H Q=>r x y H Q\/r' x y H Q):=by
 intro value slice pins s σ H x y v u Q I rx ry q hs;rcases q with q | q
 ·exact h value slice pins s σ H x y v u Q I rx ry q hs
 ·exact h' value slice pins s σ H x y v u Q I rx ry q hs
theorem HJ{r:R2}(hr:IxR X r)(ha:PE X a ta)(hb:PE X b tb)(hs:Xm b):PE X (.Subscript a b pos) (tOp r ta tb):=by intro pins s σ H Q I h;exact Subscript_ (YU ha hb I h fun v u s2 x y H2 I2 rx ry q=>hr a b pins s2 σ H2 x y v u Q I2 rx ry q (hs _ _))
def Wn(K:Gh):R2:=fun x y H Q=>∃p xs i v,x=.ref p/\y=.int i/\SqL K H p xs/\atI xs i=some v/\Q v H
def Vr(K:Gh):R2:=fun x y H Q=>∃p xs i v,x=.ref p/\y=.int i/\SqT K H p xs/\atI xs i=some v/\Q v H
def ZZ:R2:=fun x y H Q=>∃z i c,x=.str z/\y=.int i/\z.length<=FT/\atI z.cps.toList i=some c/\Q (.str ⟨#[c]⟩) H
theorem Iu:IxR X (Wn X.K):=by
 intro value slice pins s σ H x y v u Q I rx ry h hs;obtain⟨p,xs,i,z,rfl,rfl,hq,he,q⟩:=h;cases rx;obtain⟨t,rfl⟩:=ry;obtain⟨its,r,pl,hz⟩:=I.list hq;obtain⟨j,h1,h2,h3,h4,h5⟩:=O5 he;obtain⟨w,ew,rw'⟩:=r.get h2;have hl:=r.length;have hn:=LU;have fin:EP X pins σ Q w s:=⟨z,H,I,rw',q⟩;by_cases h0:0<=i
 ·have hj:i.toNat=j:=by rw[seqIndex_of h0 h5] at h1;exact Option.some.inj h1
  exact item_listR pl.isList h0 (by lia) (by rw[hj];simpa using ew) fin hs
 ·have hj:(i+(its.toArray.size:Int)).toNat=j:=by rw[seqIndex_neg (by lia) h4] at h1;rw[Aq,<-hl];exact Option.some.inj h1
  exact subscriptTail_builtinR (x:=w) pl.isList.typeIs slot_list_getitem.lookup
   (wpAny_getItem_list_neg (Q:=fun r s'=>r=w/\EP X pins σ Q r s') pl.isList (by lia) (by rw[Aq] <;> lia) (by lia) (by rw[hj];simpa using ew) ⟨rfl,fin⟩) hs
theorem IS:IxR X (Vr X.K):=by
 intro value slice pins s σ H x y v u Q I rx ry h hs;obtain⟨p,xs,i,z,rfl,rfl,hq,he,q⟩:=h;cases rx;obtain⟨t,rfl⟩:=ry;obtain⟨its,r,pl,hz⟩:=I.tuple hq;obtain⟨j,h1,h2,h3,h4,h5⟩:=O5 he;obtain⟨w,ew,rw'⟩:=r.get h2;have hl:=r.length;have hn:=LU;have fin:EP X pins σ Q w s:=⟨z,H,I,rw',q⟩;exact subscriptTail_builtinR (x:=w) pl.typeIs slot_tuple_getitem.lookup
  (getItem_tuple (j:=j) (Q:=fun r s'=>r=w/\EP X pins σ Q r s') pl (by lia) (by lia) (by rw[Aq,<-hl];exact h1) (by simpa using ew) ⟨rfl,fin⟩) hs
theorem Rg:IxR X ZZ:=by
 intro value slice pins s σ H x y v u Q I rx ry h hs;obtain⟨z,i,c,rfl,rfl,hz,he,q⟩:=h;obtain⟨t,rfl⟩:=rx;obtain⟨t',rfl⟩:=ry;obtain⟨j,h1,h2,h3,h4,h5⟩:=O5 he;have hl:z.cps.toList.length=z.length:=by simp[Str.length]
 rw[hl] at h1 h4 h5;have hn:=LU;exact tail_any (typeIs_str s z t) slot_str_getitem.lookup (getItem_str (c:=c) (by have e1:decide (i < -(2 ^ 63:Int))=false:=decide_eq_false (by lia);have e2:decide (i ≥ 2 ^ 63)=false:=decide_eq_false (by lia);rw[e1,e2,FN]) (by rw[h1];simpa using h2) ⟨.str ⟨#[c]⟩,H,I.tok _,⟨_,rfl⟩,q⟩) hs
def rIx(K:Gh):R2:=fun x y H Q=>Wn K x y H Q\/Vr K x y H Q\/ZZ x y H Q
theorem UN:IxR X (rIx X.K):=Iu.or (IS.or Rg)
theorem Rm(its:List FO)(n j:Nat)(u:FO):Obj.mapSeq (·.setIfInBounds j u) { cls:=.type "list",data:=.seq its.toArray n }={ cls:=.type "list",data:=.seq (its.set j u).toArray n }:=by simp[Obj.mapSeq]
theorem Inv.lst{pins:List (FP×Obj)}{σ:St}{H:Hp}{s:FS}{p:FP}{xs:List V}(I:Inv X pins σ H s)(h:H p=some (.lst xs)):
  ∃(its:List FO) (n:Nat),Vals xs its/\s.heap.get? p=some { cls:=.type "list",data:=.seq its.toArray n }/\xs.length<=FT:=by
 obtain⟨z,its,n,r,e⟩:=I.hok p _ h;exact⟨its,n,r,e,z⟩
theorem Inv.lstUpd{pins:List (FP×Obj)}{σ:St}{H:Hp}{s:FS}{p:FP}{xs ys:List V}{its its':List FO}{n n':Nat}{f:Obj->Obj}(I:Inv X pins σ H s)(h:H p=some (.lst xs))
  (ho:s.heap.get? p=some { cls:=.type "list",data:=.seq its.toArray n }) (hf:f { cls:=.type "list",data:=.seq its.toArray n }={ cls:=.type "list",data:=.seq its'.toArray n' }) (r:Vals ys its') (hz:ys.length<=FT) (t:Nat):
  Inv X pins σ (upd H p (.lst ys)) { s with heap:=s.heap.update p f,toks:=t }:=by
 have e:(s.heap.update p f).get? p=some { cls:=.type "list",data:=.seq its'.toArray n' }:=by rw[Bx f ho (by rw[hf] <;> rfl),hf]
 refine I.write (x:=p) (e:=p) (by rw[h];trivial) (.inl rfl) (fun b u hb q=>(Bu _ _ (Ne.symm hb)).trans q) ⟨_,e⟩ ?_;exact⟨hz,its',n',r,e⟩
def ZT:V->V->V->Hp->(Hp->Prop)->Prop:=fun o i v H Q=>∃p xs k j,o=.ref p/\i=.int k/\H p=some (.lst xs)/\ixN xs.length k=some j/\Q (upd H p (.lst (xs.set j v)))
theorem T9:Aag X ZT:=by
 intro pins s σ H o i v ov iv u Q I ro ri rv h;obtain⟨p,xs,k,j,rfl,rfl,hp,hj,q⟩:=h;cases ro;obtain⟨t,rfl⟩:=ri;obtain⟨its,n,r,ho,hz⟩:=I.lst hp;obtain⟨h1,h2,h3,h4⟩:=Si hj;have hl:=r.length;have hn:=LU;have I':Inv X pins σ (upd H p (.lst (xs.set j v))) { s with heap:=s.heap.update p (Obj.mapSeq (·.setIfInBounds j u)) }:=I.lstUpd hp ho (Rm its n j u) (r.set rv j) (by rw[FE];exact hz) s.toks
 by_cases h0:0<=k
 ·have hk:k.toNat=j:=by rw[seqIndex_of h0 h4] at h1;exact Option.some.inj h1
  exact PySem.W.ki_setAt ho h0 (by lia) (by rw[Aq,<-hl];exact h4) (by rw[hk];exact⟨_,I',q⟩)
 ·have hk:(k+(its.toArray.size:Int)).toNat=j:=by rw[seqIndex_neg (by lia) h3] at h1;rw[Aq,<-hl];exact Option.some.inj h1
  exact PySem.W.ki_setBack ho (by lia) (by rw[Aq,<-hl];exact h3) (by lia) (by rw[hk];exact⟨_,I',q⟩)
theorem Pw(lo hi:Option Int)(n:Nat):(sliceBounds lo hi none n).1=((HT.sIx n 0 lo:Nat):Int)/\(sliceBounds lo hi none n).2.1=((HT.sIx n n hi:Nat):Int)/\(sliceBounds lo hi none n).2.2=1:=by
 refine⟨?_,?_,rfl⟩
 ·cases lo with
  |none=>simp[sliceBounds,HT.sIx]
  |some i=>
   simp only[sliceBounds,HT.sIx,Ff,show(1:Int) > 0 by decide,if_true];by_cases h:i<0
   ·simp only[h,if_true] <;> lia
   ·simp only[h,if_false] <;> lia
 ·cases hi with
  |none=>simp[sliceBounds,HT.sIx]
  |some i=>
   simp only[sliceBounds,HT.sIx,Ff,show(1:Int) > 0 by decide,if_true];by_cases h:i<0
   ·simp only[h,if_true] <;> lia
   ·simp only[h,if_false] <;> lia
theorem N7(its:List FO)(lo hi:Option Int):slicePick its.toArray lo hi none=((its.drop (HT.sIx its.length 0 lo)).take (HT.sIx its.length its.length hi-HT.sIx its.length 0 lo)).toArray:=by obtain⟨h1,h2,h3⟩:=Pw lo hi its.toArray.size;unfold slicePick;rw[h1,h2,h3];simp only[sliceRange_one,pick_run,Aq] <;> rfl
def Aak(K:Gh):V->Option Int->Option Int->Hp->VK->Prop:=fun x lo hi H Q=>∃a xs,x=.ref a/\SqL K H a xs/\∀p,H p=none->Q (.ref p) (upd H p (.lst (Nv xs lo hi)))
theorem WZ:SlR X (Aak X.K):=by
 intro pins s σ H x v vl vu lo hi sl Q I rx hs pl pu h;obtain⟨a,xs,rfl,hx,q⟩:=h;cases rx;obtain⟨its,r,ht,hz⟩:=I.list hx;have hlen:=r.length;refine⟨"list",_,slot_list_getitem.lookup,ht.isList.typeIs,?_⟩;refine wpAny_getItem_list_slice ht.isList hs pl pu .none (by simp) ?_ (by rw[Aq] <;> lia)
 rw[N7,<-hlen];refine⟨.ref s.heap.objs.size,_,I.laid (t':=s.toks) (o:=.lst (Nv xs lo hi)) (fun b ob q=>Ab _ q) (Ah _) ?_,rfl,q _ (I.hok.fresh (Ah _))⟩;exact⟨Ak (Mg xs lo hi) hz,_,0,(r.drop (HT.sIx xs.length 0 lo)).take (HT.sIx xs.length xs.length hi-HT.sIx xs.length 0 lo),Au _ rfl⟩
def Mo:V->Bool
 |.non=>true
 |.bl _=>true
 |.int _=>true
 |.str _=>true
 |_=>false
def eqV:V->V->Bool
 |.non,.non=>true
 |.bl a,.bl b=>a==b
 |.bl a,.int b=>(if a then 1 else 0)==b
 |.int a,.bl b=>a==(if b then 1 else 0)
 |.int a,.int b=>a==b
 |.str a,.str b=>a==b
 |_,_=>false
theorem YZ{A:F4}{s:FS}{y x:V}{u v:FO}(ry:RelV y u)(rx:RelV x v)(fy:Mo y=true)(fx:Mo x=true):SeqAt.EqAt A s u v (eqV y x):=by
 cases y with
 |non=>
  cases ry;cases x with
  |non=>cases rx;exact SeqAt.EqAt.same _
  |bl b=>cases rx;exact SeqAt.EqAt.none_bool b
  |int b=>obtain⟨t,rfl⟩:=rx;exact SeqAt.EqAt.none_int b t
  |str b=>obtain⟨t,rfl⟩:=rx;exact SeqAt.EqAt.none_str b t
  |_=>exact absurd (show false=true from fx) Ag
 |bl a=>
  cases ry;cases x with
  |non=>cases rx;exact SeqAt.EqAt.bool_none a
  |bl b=>cases rx;exact SeqAt.EqAt.bool_bool a b
  |int b=>obtain⟨t,rfl⟩:=rx;exact SeqAt.EqAt.bool_int a b t
  |str b=>obtain⟨t,rfl⟩:=rx;exact SeqAt.EqAt.bool_str a b t
  |_=>exact absurd (show false=true from fx) Ag
 |int a=>
  obtain⟨t',rfl⟩:=ry;cases x with
  |non=>cases rx;exact SeqAt.EqAt.int_none a t'
  |bl b=>cases rx;exact SeqAt.EqAt.int_bool a t' b
  |int b=>obtain⟨t,rfl⟩:=rx;exact SeqAt.EqAt.int_int a t' b t
  |str b=>obtain⟨t,rfl⟩:=rx;exact SeqAt.EqAt.int_str a t' b t
  |_=>exact absurd (show false=true from fx) Ag
 |str a=>
  obtain⟨t',rfl⟩:=ry;cases x with
  |non=>cases rx;exact SeqAt.EqAt.str_none a t'
  |bl b=>cases rx;exact SeqAt.EqAt.str_bool a t' b
  |int b=>obtain⟨t,rfl⟩:=rx;exact SeqAt.EqAt.str_int a t' b t
  |str b=>obtain⟨t,rfl⟩:=rx;exact SeqAt.EqAt.str_str a t' b t
  |_=>exact absurd (show false=true from fx) Ag
 |_=>exact absurd (show false=true from fy) Ag
def eqU(x:V)(u:FO):Bool:=match u with
 |.none=>eqV .non x
 |.bool b=>eqV (.bl b) x
 |.int i _=>eqV (.int i) x
 |.str z _=>eqV (.str z) x
 |_=>false
theorem U1{x y:V}{u:FO}(r:RelV y u)(f:Mo y=true):eqU x u=eqV y x:=by
 cases y with
 |non=>cases r;rfl
 |bl b=>cases r;rfl
 |int i=>obtain⟨t,rfl⟩:=r;rfl
 |str z=>obtain⟨t,rfl⟩:=r;rfl
 |_=>exact absurd (show false=true from f) Ag
theorem O9{x:V}:∀{xs:List V} {us:List FO},Vals xs us->xs.all Mo=true->us.any (eqU x)=xs.any fun y=>eqV y x
 |_,_,.nil,_=>rfl
 |y::xs,u::us,.cons r t,f=>by rw[CA,Av] at f;rw[Cz,Cz,U1 r f.1,O9 t f.2]
theorem Np{A:F4}{s:FS}{x:V}{v:FO}(rx:RelV x v)(fx:Mo x=true):∀{xs:List V} {us:List FO},Vals xs us->xs.all Mo=true->∀u∈us,SeqAt.EqAt A s u v (eqU x u)
 |_,_,.nil,_=>fun u hu=>by cases hu
 |y::xs,u::us,.cons r t,f=>fun u' hu=>by
  rw[CA,Av] at f;rcases Ao.mp hu with rfl | hu
  ·rw[U1 r f.1];exact YZ r rx f.1 fx
  ·exact Np rx fx t f.2 u' hu
def inV(x:V)(xs:List V):Bool:=xs.any fun y=>eqV y x
def rIn(K:Gh)(neg:Bool):R2:=fun x y H Q=>∃p xs,y=.ref p/\(SqL K H p xs\/SqT K H p xs)/\Mo x=true/\xs.all Mo=true/\Q (.bl (if neg then !inV x xs else inV x xs)) H
theorem Pz:OpR X (compareOp .NotIn) (rIn X.K true):=by
 intro pins s σ H x y v u Q I rx ry h;obtain⟨p,xs,rfl,hq,fx,fs,q⟩:=h;cases ry;rcases hq with hq | hq
 ·obtain⟨its,r,pl,hz⟩:=I.list hq;refine SeqAt.notIn_listAt (eqU x) pl.isList (fun w hw=>Np rx fx r fs w (by simpa using hw)) ⟨.bl _,H,I,rfl,?_⟩;rw[show its.toArray.any (eqU x)=its.any (eqU x) by simp,O9 r fs];exact q
 ·obtain⟨its,r,pl,hz⟩:=I.tuple hq;refine SeqAt.notIn_tupleAt (eqU x) pl (fun w hw=>Np rx fx r fs w (by simpa using hw)) ⟨.bl _,H,I,rfl,?_⟩;rw[show its.toArray.any (eqU x)=its.any (eqU x) by simp,O9 r fs];exact q
theorem GY:Lk X (.builtin "len") (fun xs H Q=>∃p ys,xs=[.ref p]/\(SqL X.K H p ys\/SqT X.K H p ys)/\Q (.int ys.length) H):=by
 intro pins s σ H xs us Q I r h;obtain⟨p,ys,rfl,hq,q⟩:=h;obtain⟨u,rfl,rx⟩:=QS r;cases rx;have hn:=LU;rcases hq with hq | hq
 ·obtain⟨its,r',pl,hz⟩:=I.list hq;have hlen:=r'.length;exact Calls.call_len_list pl.isList (by simp only[Aq] <;> lia) ⟨.int ys.length,H,I.tok _,⟨s.toks+1,by rw[Aq,hlen]⟩,q⟩
 ·obtain⟨its,r',pl,hz⟩:=I.tuple hq;have hlen:=r'.length;exact len_tuple pl (by simp only[Aq] <;> lia) ⟨.int ys.length,H,I.tok _,⟨s.toks+1,by rw[Aq,hlen]⟩,q⟩
theorem KM:Lk X (.type "tuple") (fun xs H Q=>∃p ys,xs=[.ref p]/\((SqL X.K H p ys/\∀l,H l=none->Q (.ref l) (upd H l (.tup ys)))\/(SqT X.K H p ys/\Q (.ref p) H))):=by
 intro pins s σ H xs us Q I r h;obtain⟨p,ys,rfl,h⟩:=h;obtain⟨u,rfl,rx⟩:=QS r;cases rx;rcases h with ⟨hq,q⟩ | ⟨hq,q⟩
 ·obtain⟨its,r',pl,hz⟩:=I.list hq;have hlen:=r'.length;refine call_tuple_list pl.isList (fun h' kp=>?_) (by simp only[Aq] <;> lia)
  have I1:Inv X pins σ H { s with heap:=h' }:=I.kept (t':=s.toks) kp;have I2:Inv X pins σ (upd H h'.objs.size (.tup ys)) { s with heap:=h'.push { cls:=.type "tuple",data:=.seq its.toArray } }:=I1.laid (t':=s.toks) (fun b o e=>Ab _ e) (Ah _) (show ObjOk X.prog X.w _ _ _ (.tup ys) from ⟨hz,its,r',IsTup.new _ _⟩)
  exact⟨.ref h'.objs.size,_,I2,rfl,q _ (I1.hok.fresh (Ah _))⟩
 ·obtain⟨its,r',pl,hz⟩:=I.tuple hq;exact call_tuple_same pl ⟨.ref p,H,I,rfl,q⟩
def tyV(K:Gh)(T:String)(x:V)(H:Hp):Prop:=match x with
 |.str _=>T="str"
 |.int _=>T="int"
 |.ref p=>(T="list"/\∃xs,SqL K H p xs)\/(T="tuple"/\∃o,K.lookup p=some o/\o.cls=.type "tuple"/\o.dict=none) ∨
   (T="dict"/\((∃kvs,H p=some (.dK kvs))\/∃kvs,H p=some (.dT kvs)))\/(T="set"/\∃S n,H p=some (.set S n))
 |_=>False
theorem YJ{pins:List (FP×Obj)}{σ:St}{H:Hp}{s:FS}{T:String}{x:V}{v:FO}(I:Inv X pins σ H s)(r:RelV x v)(ty:tyV X.K T x H):
  s.TypeIs v T/\∀a,v=.ref a->∃ob,s.heap.get? a=some ob/\ob.dict=none:=by
 cases x with
 |str z=>obtain⟨t,rfl⟩:=r;cases(show T="str" from ty);exact⟨typeIs_str s z t,fun _ e=>nomatch e⟩
 |int i=>obtain⟨t,rfl⟩:=r;cases(show T="int" from ty);exact⟨typeIs_int s i t,fun _ e=>nomatch e⟩
 |ref p=>
  cases r;rcases ty with ⟨rfl,xs,hq⟩ | ⟨rfl,o,hk,hc,hd⟩ | ⟨rfl,hk⟩ | ⟨rfl,S,n,hk⟩
  ·obtain⟨its,_,pl,_⟩:=I.list hq;refine⟨pl.isList.typeIs,fun a e=>?_⟩;cases e;obtain⟨o,n,e,c,hd,_⟩:=pl;exact⟨o,e,hd⟩
  ·refine⟨⟨o,I.kIn p o hk,hc⟩,fun a e=>?_⟩;cases e;exact⟨o,I.kIn _ o hk,hd⟩
  ·have z:∃o,s.heap.get? p=some o/\o.ExactDict:=by
    rcases hk with ⟨kvs,hk⟩ | ⟨kvs,hk⟩
    ·obtain⟨_,_,_,_,o,_,_,e,ex,_⟩:=I.hok p _ hk;exact⟨o,e,ex⟩
    ·obtain⟨_,_,_,_,o,_,_,e,ex,_⟩:=I.hok p _ hk;exact⟨o,e,ex⟩
   obtain⟨o,e,ex⟩:=z;refine⟨⟨o,e,ex.1⟩,fun a e2=>?_⟩;cases e2;exact⟨o,e,ex.2.1⟩
  ·obtain⟨o,_,_,_,e,ex,_⟩:=I.hok p _ hk;refine⟨⟨o,e,ex.1⟩,fun a e2=>?_⟩;cases e2;exact⟨o,e,ex.2.1⟩
 |_=>exact False.elim ty
def tBM(K:Gh)(T:String)(r:V->List V->Hp->VK->Prop)(to:TE)(t:TA):TE:=fun σ H Q=>to σ H fun x H1=>tyV K T x H1/\t σ H1 fun xs H2=>r x xs H2 Q
variable{o e:F3}{es:List F3}{to:TE}{t:TA}{name:Str}{apos cpos:Pos}{T id:String}{r:V->List V->Hp->VK->Prop}
theorem IN(pa:PlainAttrs T)(slot:Slot T name id)(hty:typeOf (.builtin id)=pure (.type "method_descriptor"))(hm:MtR X id r)(ho:PE X o to)(ha:PA X (e::es) t)
  (hbase:attributeBase o name X.env (eval o X.env)=eval o X.env:=by rfl)
  (hfew:((backTo cpos (FY (e::es) X.env)).all (fun x=>!x.1)&&(backToKw cpos (keywordEach [] X.env)).all (fun x=>x.1.isSome)
  &&decide ((e::es).length+([]:List Keyword).length+(if ([]:List Keyword).isEmpty then 0 else 1)<30))=true:=by rfl)
  (hline:(apos.endLine==cpos.line)=true:=by rfl) (hs:FY (e::es) X.env=(false,eval e X.env)::FY es X.env:=by rfl) (hplain:(backTo cpos (FY es X.env)).any (·.1)=false:=by rfl):
  PE X (.Call (.Attribute o name apos) (e::es) [] cpos) (tBM X.K T r to t):=by
 intro pins s σ H Q I h;refine wpAny_Call_method_late hbase hfew hline rfl (thn (ho pins s σ H _ I h) fun v s1 ⟨x,H1,I1,r1,ty,q1⟩=>?_);obtain⟨h1,h2⟩:=YJ I1 r1 ty;refine⟨T,id,pa,slot,hty,h1,h2,?_⟩;have hA:=ha cpos pins s1 σ H1 _ I1 q1;rw[hs] at hA ⊢;refine ED (by show(false || (backTo cpos (FY es X.env)).any (·.1))=false;rw[hplain] <;> rfl) (Dy ?_)
 exact thn hA fun us s2 ⟨vs,H2,I2,r2,q2⟩=>hm pins s2 σ H2 x vs v us Q I2 r1 r2 q2
end
def MtM(X:Cx)(id:String)(r:V->List V->Hp->VK->Prop):Prop:=
 ∀(pins:List (FP×Obj)) (s:FS) (σ:St) (H:Hp) (x:V) (xs:List V) (v:FO) (us:List FO) (Q:VK),Inv X pins σ H s->RelV x v->Vals xs us->r x xs H Q->
  FW (model X.prog X.w) X.A (call (.builtin id) (v::us)) (EP X pins σ Q) X.xe s
theorem Vals.one:∀{x:V} {us:List FO},Vals [x] us->∃u,us=[u]/\RelV x u
 |_,_,.cons r .nil=>⟨_,rfl,r⟩
theorem Vals.zero:∀{us:List FO},Vals [] us->us=[]
 |_,.nil=>rfl
section
variable{X:Cx}{pins:List (FP×Obj)}{σ:St}{H:Hp}{s:FS}{l b:FP}{xs ys zs:List V}
theorem Inv.lset{its its':List FO}{n:Nat}{f:Array FO->Array FO}{t':Nat}(I:Inv X pins σ H s)(hH:H l=some (.lst xs))
  (e:s.heap.get? l=some { cls:=.type "list",data:=.seq its.toArray n }) (hf:f its.toArray=its'.toArray) (hv:Vals ys its') (hz:ys.length<=FT):
  Inv X pins σ (upd H l (.lst ys)) { s with heap:=s.heap.update l (Obj.mapSeq f),toks:=t' }:=by
 have q:=PySem.IsL.update e f;rw[hf] at q;refine I.write (x:=l) (e:=l) (by rw[hH];exact trivial) (.inl rfl) (fun b' u hb hu=>(Bu s.heap (Obj.mapSeq f) (Ne.symm hb)).trans hu) ⟨_,q⟩ ?_;exact⟨hz,its',_,hv,q⟩
theorem Inv.lnew{its:List FO}{t':Nat}(I:Inv X pins σ H s)(hv:Vals ys its)(hz:ys.length<=FT):
  Inv X pins σ (upd H s.heap.objs.size (.lst ys)) { s with heap:=s.heap.push { cls:=.type "list",data:=.seq its.toArray },toks:=t' }:=
 I.laid (fun _ _ q=>Ab _ q) (Ah _) ⟨hz,its,0,hv,Au _ rfl⟩
theorem Inv.fresh(I:Inv X pins σ H s):H s.heap.objs.size=none:=I.hok.fresh (Ah _)
theorem Inv.lstM(I:Inv X pins σ H s)(hH:H l=some (.lst xs)):xs.length<=FT/\∃(its:List FO) (n:Nat),Vals xs its/\xs.length=its.length/\s.heap.get? l=some { cls:=.type "list",data:=.seq its.toArray n }:=by obtain⟨z,its,n,r,e⟩:=I.hok l _ hH;exact⟨z,its,n,r,r.length,e⟩
end
section
variable{X:Cx}
def WU:V->List V->Hp->VK->Prop:=fun x vs H Q=>∃l xs y,x=.ref l/\vs=[y]/\H l=some (.lst xs)/\xs.length<FT/\Q .non (upd H l (.lst (xs++[y])))
theorem G6:MtM X "list.append" WU:=by
 intro pins s σ H x vs v us Q I rx rv h;obtain⟨l,xs,y,rfl,rfl,hH,hz,q⟩:=h;cases rx;obtain⟨u,rfl,ru⟩:=rv.one;obtain⟨z,its,n,r,hl,e⟩:=I.lstM hH;refine call_meets F.slot_list_append ⟨_,e,rfl⟩ F.entry_list_append (F.args_list_append_2 _ _) (PySem.list_append l its.toArray n u (by rw[Aq];lia)) ⟨e,?_⟩;refine⟨.non,_,I.lset (its':=its++[u]) hH e (by simp) (r.append (.cons ru .nil)) ?_,rfl,q⟩;rw[Ac,Be]
 lia
def AaG:R2:=fun x y H Q=>∃l b xs zs,x=.ref l/\y=.ref b/\H l=some (.lst xs)/\H b=some (.lst zs)/\xs.length+zs.length<=FT/\∀p,H p=none->Q (.ref p) (upd H p (.lst (xs++zs)))
theorem Va:OpR X (binaryOp .Add) AaG:=by
 intro pins s σ H x y v u Q I rx ry h;obtain⟨l,b,xs,zs,rfl,rfl,hH,hB,hz,q⟩:=h;cases rx;cases ry;obtain⟨z,its,n,r,hl,e⟩:=I.lstM hH;obtain⟨z2,its2,n2,r2,hl2,e2⟩:=I.lstM hB;refine PySem.P.add_list e e2 ?_ (by rw[Aq,Aq];lia);have ea:its.toArray++its2.toArray=(its++its2).toArray:=by simp
 rw[ea];exact⟨.ref _,_,I.lnew (t':=s.toks) (r.append r2) (by rw[Ac];lia),rfl,q _ I.fresh⟩
end
section
variable{prog:FU}{w:F0}{A:F4}{E:FO->FS->Prop}{s:FS}
end
section
variable{X:Cx}
end
theorem Vals.ints:∀{ns:List Int} {us:List FO},Vals (ns.map V.int) us->IntsAre us ns
 |[],us,h=>by rw[EJ] at h;cases h;exact IntsAre.nil
 |n::ns,us,h=>by
  rw[AM] at h;cases h with
  |cons r t=>obtain⟨k,rfl⟩:=r;exact IntsAre.cons n k (Vals.ints t)
theorem Vals.ref1{a:FP}{us:List FO}(r:Vals [V.ref a] us):us=[FO.ref a]:=by
 cases r with
 |cons r t=>cases t;cases r;rfl
section
variable{prog:FU}{w:F0}{A:F4}{E:FO->FS->Prop}{s:FS}{l:FP}{its:List FO}{ns:List Int}{Q:FO->FS->Prop}
theorem Wx(hh:A.handled=none)(hl:s.heap.IsList l its.toArray)(hi:IntsAre its ns)
  (h:∀h' tk t',(∀b o,s.heap.get? b=some o->h'.get? b=some o)->Q (.int ns.sum t') { s with heap:=h',toks:=tk }):FW (model prog w) A (call (.builtin "sum") [.ref l]) Q E s:=by
 obtain⟨xs,e⟩:=hi.allInts.items;have hn:numsOf (intItems xs).toList=ns:=by rw[<-e];exact hi.numsOf
 rw[nums_intItems] at hn;rw[e] at hl;refine PySem.sum_intListG hh hl fun h' tk t' hk=>?_;have:=h h' tk t' hk;rw[preSum_eq,BX (by simp),hn];exact this
end
section
variable{X:Cx}
def Aaw(K:Gh):List V->Hp->VK->Prop:=fun vs H Q=>∃(a:FP) (ns:List Int),vs=[V.ref a]/\SqL K H a (ns.map V.int)/\Q (.int ns.sum) H
theorem YK(hc:X.calm=true):Lk X (.builtin "sum") (Aaw X.K):=by intro pins s σ H vs us Q I r h;obtain⟨a,ns,rfl,hs,q⟩:=h;obtain⟨its,rv,hl,_⟩:=I.list hs;rw[Vals.ref1 r];exact Wx (I.ok.hd hc) hl.isList rv.ints fun h' tk t' hk=>⟨.int _,H,I.kept hk,⟨_,rfl⟩,q⟩
end
mutual
inductive Dp(K:Gh)(H:Hp):V->PyData->Prop
 |non:Dp K H .non .none
 |bl (b:Bool):Dp K H (.bl b) (.bool b)
 |int (i:Int):Dp K H (.int i) (.int i)
 |str (x:Str):Dp K H (.str x) (.str x)
 |lst {a:FP} {xs:List V} {ds:List PyData}:SqL K H a xs->DpAll K H xs ds->Dp K H (.ref a) (.list ds)
 |tup {a:FP} {xs:List V} {ds:List PyData}:SqT K H a xs->DpAll K H xs ds->Dp K H (.ref a) (.tuple ds)
inductive DpAll(K:Gh)(H:Hp):List V->List PyData->Prop
 |nil:DpAll K H [] []
 |cons {v:V} {vs:List V} {d:PyData} {ds:List PyData}:Dp K H v d->DpAll K H vs ds->DpAll K H (v::vs) (d::ds)
end
section
variable{X:Cx}{pins:List (FP×Obj)}{σ:St}{H:Hp}{s:FS}
end
section
variable{X:Cx}
end
end L2
namespace L2
open PySem PySem.Spec PyProof.Rows
abbrev U7(h:Heap)(c:FP)(v:Option FO):Prop:=h.IsCell c v
def AaR(scope sc:Scope):Scope:={ scope with names:=scope.names.map fun(n,k)=>if (k==.free&&sc.kind==.function&&sc.names.lookup n==some .cell) then (n,.cell) else (n,k) }
def GW(cells:List (Str×FP)):List (Str×F7)->List (Str×FP)->List (Str×FP)
 |[],acc=>acc
 |(n,k)::r,acc=>if k==.free then GW cells r ((n,(cells.lookup n).getD 0)::acc) else GW cells r acc
theorem Lh(env:Env)(f:Str×F7->List (Str×FP)->Sem (ForInStep (List (Str×FP))))
  (hf:∀n k c,f (n,k) c=if k==.free then (do let a ← cellOf env n;pure (.yield ((n,a)::c))) else pure (.yield c)):
  ∀(names:List (Str×F7)) (acc:List (Str×FP)),(∀y∈names,y.2=.free->∃c,env.cells.lookup y.1=some c)->forIn names acc f=pure (GW env.cells names acc)
 |[],acc,_=>by rw[DH];rfl
 |(n,k)::r,acc,h=>by
  rw[Em,hf];have ih:=fun acc=>Lh env f hf r acc fun y hy=>h y (Aw _ hy);unfold GW;by_cases hk:(k==F7.free)=true
  ·rw[Gj hk,Gj hk];obtain⟨c,hc⟩:=h (n,k) AE (by simpa using hk);have e:cellOf env n=pure c:=by unfold cellOf;rw[hc]
   rw[e];have e2:(env.cells.lookup n).getD 0=c:=by rw[hc];rfl
   rw[e2];exact ih _
  ·rw[Gi hk,Gi hk];exact ih _
theorem NV{scope:Scope}{env:Env}(h:∀y∈scope.names,y.2=.free->∃c,env.cells.lookup y.1=some c):closureFor scope env=pure (GW env.cells scope.names []):=by simp only[closureFor];rw[Lh env _ (fun n k c=>rfl) scope.names [] h];rfl
theorem J5{α:Type}:∀{l:List (Str×α)} {n:Str} {c:α},(n,c)∈l->∃c',l.lookup n=some c'
 |(k,v)::r,n,c,h=>by
  rw[Bb];cases hb:n==k with
  |true=>exact⟨_,rfl⟩
  |false=>
   rcases Ao.mp h with e | h
   ·cases e;simp at hb
   ·exact J5 h
theorem IQ{cells:List (Str×FP)}:∀{names:List (Str×F7)} {acc:List (Str×FP)} {n:Str} {c:FP},(n,c)∈GW cells names acc->(n,c)∈acc\/((n,.free)∈names/\c=(cells.lookup n).getD 0)
 |[],_,_,_,h=>.inl h
 |(m,k)::r,acc,n,c,h=>by
  unfold GW at h;split at h
  ·rename_i hk;have hk:k=.free:=by simpa using hk
   rcases IQ h with h | ⟨h1,h2⟩
   ·rcases Ao.mp h with e | h
    ·cases e;exact .inr ⟨hk ▸ AE,rfl⟩
    ·exact .inl h
   ·exact .inr ⟨Aw _ h1,h2⟩
  ·rcases IQ h with h | ⟨h1,h2⟩
   ·exact .inl h
   ·exact .inr ⟨Aw _ h1,h2⟩
theorem Kf{cells:List (Str×FP)}:∀{names:List (Str×F7)} {acc:List (Str×FP)} {p:Str×FP},p∈acc->p∈GW cells names acc
 |[],_,_,h=>h
 |(m,k)::r,acc,p,h=>by
  unfold GW;split
  ·exact Kf (Aw _ h)
  ·exact Kf h
theorem Jw{cells:List (Str×FP)}:∀{names:List (Str×F7)} {acc:List (Str×FP)} {n:Str},(n,.free)∈names->(n,(cells.lookup n).getD 0)∈GW cells names acc
 |(m,k)::r,acc,n,h=>by
  unfold GW;rcases Ao.mp h with e | h
  ·cases e;exact Kf AE
  ·split
   ·exact Jw h
   ·exact Jw h
theorem JK:∀{names:List (Str×F7)} {h:Heap} {acc:List (Str×FP)} {x:Str} {c:FP},(x,c)∈Ga h.objs.size names acc->
  (x,c)∈acc\/((x,.cell)∈names/\h.objs.size<=c/\U7 (pushCells h names) c none)
 |[],_,_,_,_,h=>.inl h
 |(n,k)::r,h,acc,x,c,hm=>by
  unfold Ga at hm;unfold pushCells;split at hm
  ·rename_i hk;rw[Gj hk];have hk:k=.cell:=by simpa using hk
   rw[<-AL h { cls:=.type "cell",data:=.cell none }] at hm;rcases JK hm with hm | ⟨h1,h2,h3⟩
   ·rcases Ao.mp hm with e | hm
    ·cases e;exact .inr ⟨hk ▸ AE,Ah _,_,pushCells_keeps r _ _ _ (Au _ rfl),rfl⟩
    ·exact .inl hm
   ·rw[AL] at h2;exact .inr ⟨Aw _ h1,C7 h2,h3⟩
  ·rename_i hk;rw[Gi hk];rcases JK hm with hm | ⟨h1,h2,h3⟩
   ·exact .inl hm
   ·exact .inr ⟨Aw _ h1,h2,h3⟩
theorem Ky:∀{names:List (Str×F7)} {n:Nat} {acc:List (Str×FP)} {p:Str×FP},p∈acc->p∈Ga n names acc
 |[],_,_,_,h=>h
 |(m,k)::r,n,acc,p,h=>by
  unfold Ga;split
  ·exact Ky (Aw _ h)
  ·exact Ky h
theorem L3:∀{names:List (Str×F7)} {n:Nat} {acc:List (Str×FP)} {x:Str},(x,.cell)∈names->∃c,(x,c)∈Ga n names acc
 |(m,k)::r,n,acc,x,h=>by
  unfold Ga;rcases Ao.mp h with e | h
  ·cases e;exact⟨n,Ky AE⟩
  ·split
   ·exact L3 h
   ·exact L3 h
theorem LW:∀{names:List (Str×F7)} {h:Heap} {acc:List (Str×FP)} {x y:Str} {c:FP},(∀p∈acc,p.2<h.objs.size)->(∀x y c,(x,c)∈acc->(y,c)∈acc->x=y)->
  (x,c)∈Ga h.objs.size names acc->(y,c)∈Ga h.objs.size names acc->x=y
 |[],_,_,_,_,_,_,hi,h1,h2=>hi _ _ _ h1 h2
 |(n,k)::r,h,acc,x,y,c,hl,hi,h1,h2=>by
  unfold Ga at h1 h2;split at h1
  ·rename_i hk;rw[Gj hk] at h2;rw[<-AL h { cls:=.type "cell",data:=.cell none }] at h1 h2;refine LW (h:=h.push _) (fun p hp=>?_) (fun x y c a b=>?_) h1 h2
   ·rw[AL];rcases Ao.mp hp with rfl | hp
    ·exact Di _
    ·exact D8 (hl p hp)
   ·rcases Ao.mp a with e | a <;> rcases Ao.mp b with e' | b
    ·cases e;cases e';rfl
    ·cases e;exact absurd (hl _ b) (Bk _)
    ·cases e';exact absurd (hl _ a) (Bk _)
    ·exact hi _ _ _ a b
  ·rename_i hk;rw[Gi hk] at h2;exact LW hl hi h1 h2
theorem QJ{M:Model}{A:F4}{E:FO->FS->Prop}{s:FS}{scope:Scope}{globals:FP}{closure:List (Str×FP)}{qual:Str}{func:Option FP}{code:FO}{around:Env}{builtins:FP}{Q:Env->FS->Prop}
  (h:Q (newEnv scope s.heap.objs.size globals (Ga (s.heap.objs.size+1) scope.names closure) qual func code (some around) builtins)
   { s with heap:=pushCells (s.heap.push { cls:=.type "dict",data:=.dict #[] }) scope.names }):
  FW M A (newFunctionEnv scope globals closure [] qual func code (some around) builtins) Q E s:=by
 simp only[newFunctionEnv,ES,if_true];refine FQ (wpAny_alloc ?_);refine FQ (wpAny_layCells _ (fun n k c=>rfl) scope.names closure _ _ ?_);rw[show({ s with heap:=s.heap.push { cls:=.type "dict",data:=.dict #[] } }:FS).heap.objs.size=s.heap.objs.size+1 from AL ..];rw[DH];exact FQ (FV (FV h))
theorem Kh{sc:Scope}:∀{names:List (Str×F7)} {x:Str} {k:F7},
  (names.map fun(n,k)=>if (k==F7.free&&sc.kind==.function&&sc.names.lookup n==some .cell) then (n,F7.cell) else (n,k)).lookup x=some k->
  ∃k',names.lookup x=some k'/\(k=k'\/(k'=.free/\k=.cell))
 |[],_,_,h=>by simp at h
 |(n,k₀)::r,x,k,h=>by
  have ih:=@Kh sc r x k;have h':AQ x ((if (k₀==F7.free&&sc.kind==.function&&sc.names.lookup n==some .cell)=true then (n,F7.cell) else (n,k₀))::(r.map _))=some k:=h;cases hx:x==n with
  |true=>
   simp only[Bb,hx];by_cases hc:(k₀==F7.free&&sc.kind==.function&&sc.names.lookup n==some .cell)=true
   ·rw[Gj hc] at h';simp only[Bb,hx] at h';cases h';simp only[Av,beq_iff_eq] at hc;exact⟨k₀,rfl,.inr ⟨hc.1.1,rfl⟩⟩
   ·rw[Gi hc] at h';simp only[Bb,hx] at h';cases h';exact⟨_,rfl,.inl rfl⟩
  |false=>
   simp only[Bb,hx];by_cases hc:(k₀==F7.free&&sc.kind==.function&&sc.names.lookup n==some .cell)=true
   ·rw[Gj hc] at h';simp only[Bb,hx] at h';exact ih h'
   ·rw[Gi hc] at h';simp only[Bb,hx] at h';exact ih h'
structure BlkOk(N:List Str)(sc scope:Scope)(own:List (Str×Nat)):Prop where
 kind:scope.kind=.function
 uniq:∀y∈scope.names,scope.names.lookup y.1=some y.2
 ix:∀p∈own,N[p.2]?=some p.1
 free:∀y∈scope.names,y.2=.free->sc.names.lookup y.1=some .cell\/sc.names.lookup y.1=some .free
 own:∀y∈scope.names,y.2=.local\/y.2=.cell->y.1∈own.map (·.1)\/y.1∉N
def Hl(σ:St):List Nat->St
 |[]=>σ
 |v::vs=>(Hl σ vs).set v none
theorem Kn(σ:St):∀vs:List Nat,(Hl σ vs).length=σ.length
 |[]=>rfl
 |v::vs=>by unfold Hl;rw[FE,Kn σ vs]
theorem L4{σ:St}{i:Nat}{x:V}:∀{vs:List Nat},(Hl σ vs)[i]?=some (some x)->σ[i]?=some (some x)/\i∉vs
 |[],h=>⟨h,by simp⟩
 |v::vs,h=>by
  unfold Hl at h;by_cases hi:v=i
  ·subst hi;by_cases hv:v<(Hl σ vs).length
   ·rw[Dk hv] at h;cases h
   ·rw[Cw (by simpa using hv)] at h;cases h
  ·rw[DE hi] at h;obtain⟨h1,h2⟩:=L4 h;exact⟨h1,by simp only[Ao,not_or];exact⟨fun e=>hi e.symm,h2⟩⟩
abbrev Cx.blk(X:Cx)(s:FS)(H:Hp)(scope:Scope)(cenv:Env)(fp:List FP):Cx:={ X with s_0:=s,H_0:=H,env:=cenv,outer:=X.stack,ex:=fp,fn:=fun x=>scope.names.lookup x==some .cell,pn:=[],xe:=fun _ _=>False }
section
variable{X:Cx}{pins:List (FP×Obj)}{σ:St}{H:Hp}{s:FS}
theorem Ql{scope:Scope}{own:List (Str×Nat)}{fp:List FP}(I:Inv X pins σ H s)(ok:BlkOk X.N X.env.scope scope own)(hN:X.N.Nodup)(hfp:∀b∈fp,MC X pins H b/\b<s.heap.objs.size):
  Inv (X.blk s H scope (compEnvC scope (Ga (s.heap.objs.size+1) scope.names (GW X.env.cells scope.names [])) s.heap.objs.size X.env) fp) [] (Hl σ (own.map (·.2))) H { s with heap:=pushCells (s.heap.push { cls:=.type "dict",data:=.dict #[] }) scope.names }:=by
 have hfree:∀y∈scope.names,y.2=.free->∃c,X.env.cells.lookup y.1=some c:=fun y hy e=>by
  rcases ok.free y hy e with k | k
  ·exact I.ok.has _ (.inl k)
  ·exact I.ok.has _ (.inr k)
 generalize hcenv:compEnvC scope (Ga (s.heap.objs.size+1) scope.names (GW X.env.cells scope.names [])) s.heap.objs.size X.env=cenv;have kp:∀b o,s.heap.get? b=some o->(pushCells (s.heap.push { cls:=.type "dict",data:=.dict #[] }) scope.names).get? b=some o:=fun b o e=>pushCells_keeps _ _ _ _ (Ab _ e);have hL:cenv.locals=s.heap.objs.size:=by rw[<-hcenv];rfl
 have hcl:cenv.cells=Ga (s.heap.objs.size+1) scope.names (GW X.env.cells scope.names []):=by rw[<-hcenv];rfl
 have hsc:cenv.scope=AaR scope X.env.scope:=by rw[<-hcenv];rfl
 rw[<-AL s.heap { cls:=.type "dict",data:=.dict #[] }] at hcl;have cm:∀{y c},(y,c)∈GW X.env.cells scope.names []->X.env.cells.lookup y=some c/\c<s.heap.objs.size:=fun{y c} hm=>by
  rcases IQ hm with hm | ⟨h1,rfl⟩
  ·cases hm
  ·obtain⟨c,hc⟩:=hfree _ h1 rfl;rw[hc];obtain⟨w,z⟩:=I.cell _ _ hc;exact⟨rfl,z.lt⟩
 have mem:∀{y c},cenv.cells.lookup y=some c->(X.env.cells.lookup y=some c/\c<s.heap.objs.size)\/(s.heap.objs.size+1<=c/\U7 (pushCells (s.heap.push { cls:=.type "dict",data:=.dict #[] }) scope.names) c none):=fun{y c} e=>by
  rw[hcl] at e;rcases JK (PySem.mem_of_lookup e) with hm | ⟨_,h2,h3⟩
  ·exact .inl (cm hm)
  ·rw[AL] at h2;exact .inr ⟨h2,h3⟩
 have look:∀{y},scope.names.lookup y=some .free->∃c,cenv.cells.lookup y=some c/\X.env.cells.lookup y=some c:=fun{y} hl=>by
  have hy:(y,F7.free)∈scope.names:=PySem.mem_of_lookup hl;obtain⟨c',e'⟩:=J5 (Ky (names:=scope.names) (n:=(s.heap.push { cls:=.type "dict",data:=.dict #[] }).objs.size) (Jw (cells:=X.env.cells) (acc:=[]) hy));rw[<-hcl] at e';refine⟨c',e',?_⟩;rw[hcl] at e';rcases JK (PySem.mem_of_lookup e') with hm | ⟨h1,_,_⟩
  ·exact(cm hm).1
  ·have:=ok.uniq _ h1;rw[hl] at this;cases this
 have okB:(X.blk s H scope cenv fp).Ok:=by
  refine⟨I.ok.mod,by show cenv.scope.kind=_;rw[hsc];exact ok.kind,by show cenv.globals=_;rw[<-hcenv];exact I.ok.glob,by show cenv.builtins=_;rw[<-hcenv];exact I.ok.blt,by show s.heap.objs.size<=cenv.locals;rw[hL];exact Ah _,
   fun y z c e1 e2=>?_,fun y hy=>?_,fun y c z e=>?_,I.ok.hd,I.ok.frames,.inl rfl,fun b hb=>⟨?_,fun y c e z=>?_⟩,I.bs,Ak I.ok.bsz I.sz,fun b o e hb=>?_,fun b hb z=>?_,I.stack,I.stkFree⟩
  ·have e1:cenv.cells.lookup y=some c:=e1;have e2:cenv.cells.lookup z=some c:=e2;rw[hcl] at e1 e2;refine LW (fun p hp=>?_) (fun y z c a b=>I.ok.inj y z c (cm a).1 (cm b).1) (PySem.mem_of_lookup e1) (PySem.mem_of_lookup e2);rw[AL];exact D8 (cm (y:=p.1) (c:=p.2) hp).2
  ·show ∃c,cenv.cells.lookup y=some c;have key:∀k,cenv.kindOf y=some k->(k=.cell\/k=.free)->∃c,cenv.cells.lookup y=some c:=fun k hk hk'=>by
    unfold Env.kindOf at hk;rw[hsc] at hk;obtain⟨k',e,r⟩:=Kh hk;have:k'=.cell\/k'=.free:=by
     rcases r with rfl | ⟨rfl,_⟩
     ·exact hk'
     ·exact .inr rfl
    rcases this with rfl | rfl
    ·obtain⟨c,hm⟩:=L3 (n:=(s.heap.push { cls:=.type "dict",data:=.dict #[] }).objs.size) (acc:=GW X.env.cells scope.names []) (PySem.mem_of_lookup e);obtain⟨c',e'⟩:=J5 hm;exact⟨c',by rw[hcl];exact e'⟩
    ·obtain⟨c,h1,_⟩:=look e;exact⟨c,h1⟩
   rcases hy with hy | hy
   ·exact key _ hy (.inl rfl)
   ·exact key _ hy (.inr rfl)
  ·have z:(scope.names.lookup y==some F7.cell)=true:=z;have z:scope.names.lookup y=some .cell:=by simpa using z
   have e:cenv.cells.lookup y=some c:=e;rw[hcl] at e;rcases JK (PySem.mem_of_lookup e) with hm | ⟨_,h2,_⟩
   ·rcases IQ hm with hm | ⟨h1,_⟩
    ·cases hm
    ·have q:=ok.uniq _ h1;rw[z] at q;cases q
   ·rw[AL] at h2;exact C7 h2
  ·show b≠cenv.locals;rw[hL];exact AH (hfp b hb).2
  ·have e:cenv.cells.lookup y=some c:=e;rcases mem e with ⟨h1,_⟩ | ⟨h1,_⟩
   ·exact(hfp b hb).1.2.2.2.2.1 y c h1 z
   ·have h2:s.heap.objs.size+1<=b:=by rw[<-z];exact h1
    exact absurd (Ap (hfp b hb).2 (C7 h2)) (Bk _)
  ·rcases(hfp b hb).1.2.2.2.1 with z | z
   ·exact I.ok.noex b o e z
   ·exact absurd (Ap (Am e) (Ak I.ok.bsz z)) (Bk _)
  ·rcases Ao.mp (I.stkSub b z) with z | z
   ·exact(hfp b hb).1.2.1 z
   ·exact(hfp b hb).1.2.2.1 z
 refine⟨okB,rfl,I.bare,Un.kept kp,⟨fun _=>none,?_,fun i y av e1 e2 e3=>?_⟩,fun y c e=>?_,?_,fun y c e=>?_,fun p hp=>?_,I.hok.kept kp,by rw[Kn];exact I.len⟩
 ·show Heap.Ns _ cenv.locals _;rw[hL];exact Heap.Ns.keeps (Heap.Ns.new ..) fun b o e=>pushCells_keeps _ _ _ _ e
 ·obtain⟨e2,hne⟩:=L4 e2;have hfr:scope.names.lookup y=some .free/\(cenv.kindOf y=some .cell\/cenv.kindOf y=some .free):=by
   have key:∀k,cenv.scope.names.lookup y=some k->k=.local\/k=.cell\/k=.free->scope.names.lookup y=some .free/\(cenv.kindOf y=some .cell\/cenv.kindOf y=some .free):=fun k hk hk'=>by
    have hk0:=hk;rw[hsc] at hk;obtain⟨k',e,r⟩:=Kh hk;have no:¬(k'=.local\/k'=.cell):=fun hh=>by
     rcases ok.own _ (PySem.mem_of_lookup e) hh with e' | e'
     ·obtain⟨p,hp,hpy⟩:=AZ.mp e';have e3:=ok.ix p hp;have:p.1=y:=hpy;rw[this] at e3;exact hne (AZ.mpr ⟨p,hp,NW hN e3 e1⟩)
     ·exact e' (AO e1)
    rcases r with rfl | ⟨rfl,rfl⟩
    ·rcases hk' with rfl | rfl | rfl
     ·exact absurd (.inl rfl) no
     ·exact absurd (.inr rfl) no
     ·exact⟨e,.inr hk0⟩
    ·exact⟨e,.inl hk0⟩
   have e3:Vis cenv.scope y:=e3;rcases e3 with e3 | e3 | e3
   ·exact key _ e3 (.inl rfl)
   ·exact key _ e3 (.inr (.inl rfl))
   ·exact key _ e3 (.inr (.inr rfl))
  obtain⟨m,hn,hl⟩:=I.loc;have hvis:Vis X.env.scope y:=(ok.free _ (PySem.mem_of_lookup hfr.1) rfl).elim (fun k=>.inr (.inl k)) (fun k=>.inr (.inr k));obtain⟨w,r,q⟩:=hl i y av e1 e2 hvis;refine⟨w,r,.inr ⟨hfr.2,?_⟩⟩;obtain⟨c,h1,h2⟩:=look hfr.1;rcases q with ⟨k,_⟩ | ⟨_,c',e',z⟩
  ·have k:X.env.scope.names.lookup y=some .local:=k;rcases ok.free _ (PySem.mem_of_lookup hfr.1) rfl with k' | k' <;> rw[show X.env.scope.names.lookup y=_ from k'] at k <;> cases k
  ·rw[h2] at e';cases e';exact⟨c,h1,z.keeps kp⟩
 ·have e:cenv.cells.lookup y=some c:=e;rcases mem e with ⟨h1,_⟩ | ⟨_,z⟩
  ·obtain⟨w,z⟩:=I.cell y c h1;exact⟨w,z.keeps kp⟩
  ·exact⟨_,z⟩
 ·show H cenv.locals=none;rw[hL];exact I.hok.fresh (Ah _)
 ·have e:cenv.cells.lookup y=some c:=e;rcases mem e with ⟨h1,_⟩ | ⟨h1,_⟩
  ·exact I.freeC y c h1
  ·exact I.hok.fresh (C7 h1)
 ·exact absurd (show p∈([]:List (FP×Obj))++[] from hp) (by simp)
theorem Yc{E:FO->FS->Prop}{D:FP}{xs:List V}{y:V}{v:FO}{Q:FO->FS->Prop}(I:Inv X pins σ H s)(hD:H D=some (.lst xs))(hz:xs.length<FT)(r:RelV y v)
  (h:∀s',Inv X pins σ (upd H D (.lst (xs++[y]))) s'->Q .none s'):FW (model X.prog X.w) X.A (call (.builtin "list.append") [.ref D,v]) Q E s:=by
 obtain⟨hz',its,n,ri,e⟩:=I.hok D _ hD;have hl:=ri.length;refine append_at (hsz:=by rw[Aq];lia) e fun h' sb ho'=>?_;refine h { s with heap:=h' } (I.write (t':=s.toks) (by rw[hD];trivial) (.inl rfl) (fun b u hb q=>(sb.2 b hb).trans q) ⟨_,ho'⟩ ⟨by rw[Ac];exact hz,its++[v],n+1,ri.append (.cons r .nil),?_⟩);rw[ho'];simp
def PTs(X:Cx)(ifs:List F3)(t:TT):Prop:=
 ∀(pins:List (FP×Obj)) (s:FS) (σ:St) (H:Hp) (Q:Bool->Hp->Prop),Inv X pins σ H s->t σ H Q->
  FW (model X.prog X.w) X.A (forIn ifs true fun c r=>if r=true then do let ok ← isTrue c X.env (eval c X.env);pure (ForInStep.yield ok) else pure (ForInStep.yield r)) (TP X pins σ Q) X.xe s
def Rs:TT:=fun _ H Q=>Q true H
theorem Ip:PTs X [] Rs:=fun _ _ _ H _ I h=>wpAny_tests_nil ⟨H,I,h⟩
end
theorem Tx{α:Type}{t:Sem α}{Q Q':α->FS->Prop}{M:Model}{A:F4}{E:FO->FS->Prop}{s:FS}(h:FW M A t Q (fun _ _=>False) s)(hQ:∀a s,Q a s->Q' a s):FW M A t Q' E s:=F9 h hQ fun _ _ z=>False.elim z
theorem O0{prog:FU}{w:F0}{A:F4}{R:Result->FS->Prop}{s:FS}{elt target iter:F3}{ifs:List F3}{scope:Scope}{pos:Pos}{it acc:FO}{env:Env}(I:Nat->FS->Prop)
  (turn:∀n s,I n s->FW (model prog w) A (pyNext it) (fun r s₁=>match r with
   |none=>R (.ok .next) s₁
   |some v=>FW (model prog w) A (letOwnedTupleGo target it v) (fun _ s₁'=>FW (model prog w) A (assign target env v) (fun _ s₂=>
     FW (model prog w) A (forIn ifs true fun c r=>if r=true then do let ok ← isTrue c env (eval c env);pure (ForInStep.yield ok) else pure (ForInStep.yield r)) (fun ok s₃=>
      if ok=true then FW (model prog w) A (eval elt env) (fun x s₄=>FW (model prog w) A (call (.builtin "list.append") [acc,x]) (fun _ s₅=>∃m,m<n/\I m s₅) (notedBy (model prog w) A env fun e s'=>R (.error e) s') s₄) (notedBy (model prog w) A env fun e s'=>R (.error e) s') s₃
      else ∃m,m<n/\I m s₃) (notedBy (model prog w) A env fun e s'=>R (.error e) s') s₂) (notedBy (model prog w) A env fun e s'=>R (.error e) s') s₁') (notedBy (model prog w) A env fun e s'=>R (.error e) s') s₁) (notedBy (model prog w) A env fun e s'=>R (.error e) s') s)
  (n:Nat) (h:I n s):
  codeAny (model prog w) A (.compLoop (.ListComp elt [⟨target,iter,ifs,0⟩] scope pos) 0 it acc env) R s:=by
 refine codeAny_loop rfl I (fun n s hI=>?_) n h;show FW _ A ((compTurn (.ListComp elt [⟨target,iter,ifs,0⟩] scope pos) 0 it acc env).onRaise (fun x=>do noteFrame x env;theTreesLotGoes x)) _ _ s;refine wpAny_noted ?_;rw[compTurn_list];refine FQ (wpAny_standAt (FQ (F9 (turn n s hI) (fun r s₁ h₁=>?_) fun _ _ h'=>h')));cases r with
 |none=>exact FV h₁
 |some v=>
  refine FQ (F9 h₁ (fun _ s₁' h₁'=>?_) fun _ _ h'=>h');refine FQ (F9 h₁' (fun _ s₂ h₂=>FQ (F9 h₂ (fun ok s₃ h₃=>?_) fun _ _ h'=>h')) fun _ _ h'=>h');cases ok with
  |false=>exact FV ⟨rfl,h₃⟩
  |true=>exact FQ (FQ (F9 h₃ (fun x s₄ h₄=>FQ (F9 h₄ (fun _ s₅ h₅=>FV (FV ⟨rfl,h₅⟩)) fun _ _ h'=>h')) fun _ _ h'=>h'))
section
variable{X:Cx}
def tLc(wi:TI)(g:TG)(tt:TT)(te:TE)(vs:List Nat):TE:=fun σ H Q=>wi σ H fun J H1=>∀D,H1 D=none->∃W:Nat->Nat->Hp->Prop,(∃m,W 0 m (upd H1 D (.lst [])))/\∀i m H,W i m H->
 (J.stop i H/\Q (.ref D) H)\/(J.go i H/\∃Nx:Hp->Prop,(∀H',Nx H'->∃m',m'<m/\W (i+1) m' H')/\∀x H',J.yld i H x H'->g x (Hl σ vs) H' fun σ2 H2=>Hl σ2 vs=Hl σ vs/\tt σ2 H2 fun b H3=>if b=true then te σ2 H3 fun y H4=>∃acc,H4 D=some (.lst acc)/\acc.length<FT/\Nx (upd H4 D (.lst (acc++[y]))) else Nx H3)
theorem Sr{pins:List (FP×Obj)}{s:FS}{σ:St}{H:Hp}{Q:VK}{elt tg iter:F3}{ifs:List F3}{scope:Scope}{own:List (Str×Nat)}{pos pos':Pos}{wi:TI}{g:TG}{tt:TT}{te:TE}{use:Option (FO->Sem Unit)}{Qf:FO->FS->Prop}
  (hc:X.calm=true) (hN:X.N.Nodup) (I:Inv X pins σ H s) (hi:PI X tg iter wi) (ok:BlkOk X.N X.env.scope scope own)
  (hg:∀(s:FS) (H:Hp) (C:FP) (cl:List (Str×FP)) (fp:List FP),PG (X.blk s H scope (compEnvC scope cl C X.env) fp) tg g) (ht:∀(s:FS) (H:Hp) (C:FP) (cl:List (Str×FP)) (fp:List FP),PTs (X.blk s H scope (compEnvC scope cl C X.env) fp) ifs tt)
  (he:∀(s:FS) (H:Hp) (C:FP) (cl:List (Str×FP)) (fp:List FP),PE (X.blk s H scope (compEnvC scope cl C X.env) fp) elt te) (hs:∀x,foldedSetIterable iter X.env x=pure x)
  (h:tLc wi g tt te (own.map (·.2)) σ H Q)
  (hRR:∀D C s' m H',Inv X pins σ H' s'->Q (.ref D) H'->s'.heap.Ns C m->MC X pins H' C->compPost (model X.prog X.w) X.A X.xe use Qf (.ref D) C (.ok .next) s'):
  FW (model X.prog X.w) X.A (comprehension (.ListComp elt [⟨tg,iter,ifs,0⟩] scope pos) scope X.env pos' (newList []) false (eval iter X.env) use) Qf X.xe s:=by
 have hfree:∀y∈scope.names,y.2=.free->∃c,X.env.cells.lookup y.1=some c:=fun y hy e=>by
  rcases ok.free y hy e with k | k
  ·exact I.ok.has _ (.inl k)
  ·exact I.ok.has _ (.inr k)
 refine wpAny_comprehension_free (use:=use) rfl hs (NV hfree) ok.kind (fun y hy e=>by rw[ok.uniq y hy,e])
  (thn (hi pins s σ H _ I h) fun xv s1 hx=>thn hx fun itv s2 h2=>?_)
 obtain⟨it,fp,tn,J,H2,e,I2,T,st2,f2,q⟩:=h2;subst e;refine Ge (QJ ?_) (by show 0<=FT;decide);generalize hD:s2.heap.objs.size=D;have hDn:H2 D=none:=I2.hok.fresh (CQ hD);obtain⟨W,⟨m0,w0⟩,turn⟩:=q D hDn;generalize hs3:({ s2 with heap:=s2.heap.push { cls:=.type "list",data:=.seq ([]:List FO).toArray } }:FS)=s3;have I3:Inv X pins σ (upd H2 D (.lst [])) s3:=by rw[<-hs3];refine I2.laid (t':=s2.toks) (fun b o e=>Ab _ e) (CQ hD) ⟨AD _,[],0,.nil,?_⟩;rw[<-hD];exact Au _ rfl
 have h3:s3.heap=s2.heap.push { cls:=.type "list",data:=.seq ([]:List FO).toArray }:=by rw[<-hs3]
 have sz:∀b∈fp,b<s2.heap.objs.size:=fun b hb=>by obtain⟨o,e,_⟩:=T.obj _ _ st2 b hb;exact Am e
 have f3:∀b∈fp,MC X pins (upd H2 D (.lst [])) b/\b<s3.heap.objs.size:=fun b hb=>by have hlt:=sz b hb;refine⟨⟨?_,(f2 b hb).2⟩,by rw[h3,AL];exact D8 hlt⟩;rw[Gr (by rw[<-hD];exact AH hlt)];exact(f2 b hb).1
 have st3:tn 0 s3.heap:=T.keep _ _ _ st2 fun b _ o e=>by rw[h3];exact Ab _ e
 have I4:=Ql I3 ok hN f3;have pg:=hg s3 (upd H2 D (.lst [])) s3.heap.objs.size (Ga (s3.heap.objs.size+1) scope.names (GW X.env.cells scope.names [])) fp;have pt:=ht s3 (upd H2 D (.lst [])) s3.heap.objs.size (Ga (s3.heap.objs.size+1) scope.names (GW X.env.cells scope.names [])) fp;have pe:=he s3 (upd H2 D (.lst [])) s3.heap.objs.size (Ga (s3.heap.objs.size+1) scope.names (GW X.env.cells scope.names [])) fp;show codeAny _ _ (.compStart (.ListComp elt [⟨tg,iter,ifs,0⟩] scope pos) 0 (.ref it) (.ref D) (compEnvC scope (Ga (s3.heap.objs.size+1) scope.names (GW X.env.cells scope.names [])) s3.heap.objs.size X.env)) (compPost (model X.prog X.w) X.A X.xe use Qf (.ref D) s3.heap.objs.size) { s3 with heap:=pushCells (s3.heap.push { cls:=.type "dict",data:=.dict #[] }) scope.names };have nfp:∀b∈fp,(upd H2 D (.lst [])) b=none:=fun b hb=>(f3 b hb).1.1;generalize hce:compEnvC scope (Ga (s3.heap.objs.size+1) scope.names (GW X.env.cells scope.names [])) s3.heap.objs.size X.env=ce at I4 pg pt pe ⊢;have cL:ce.locals=s3.heap.objs.size:=by subst hce;rfl
 generalize hH3:upd H2 D (.lst [])=H3 at I3 I4 pg pt pe w0 nfp f3;generalize hs4:({ s3 with heap:=pushCells (s3.heap.push { cls:=.type "dict",data:=.dict #[] }) scope.names }:FS)=s4 at I4 ⊢;have st4:tn 0 s4.heap:=T.keep _ _ _ st3 fun b _ o e=>by rw[<-hs4];exact pushCells_keeps _ _ _ _ (Ab _ e)
 have stat:∀{σ':St} {H':Hp} {s':FS},Inv (X.blk s3 H3 scope ce fp) [] σ' H' s'->(∀b∈fp,H' b=none)->∀b∈fp,MC (X.blk s3 H3 scope ce fp) [] H' b:=fun{σ' H' s'} I' hn b hb=>⟨hn b hb,(I'.ok.exf b hb).1,I'.ok.exfs b hb,.inl hb,fun x c e=>(I'.ok.exf b hb).2 x c e,fun p hp=>absurd (show p∈([]:List (FP×Obj))++[] from hp) (by simp)⟩
 have loop:codeAny (model X.prog X.w) X.A (.compLoop (.ListComp elt [⟨tg,iter,ifs,0⟩] scope pos) 0 (.ref it) (.ref D) ce) (compPost (model X.prog X.w) X.A X.xe use Qf (.ref D) s3.heap.objs.size) s4:=by
  refine O0 (fun n s'=>∃i H',Inv (X.blk s3 H3 scope ce fp) [] (Hl σ (own.map (·.2))) H' s'/\tn i s'.heap/\(∀b∈fp,H' b=none)/\W i n H') ?_ m0 ⟨0,H3,I4,st4,nfp,w0⟩;rintro n s5 ⟨i,H5,I5,st5,n5,w5⟩;rcases turn i n H5 w5 with ⟨stop,qq⟩ | ⟨go,Nx,hNx,step⟩
  ·have td:=T.done (X.blk s3 H3 scope ce fp) rfl rfl rfl hc i [] s5 _ H5 (fun _ _=>False) I5 (stat I5 n5) st5 stop;refine Tx td fun r s6 ⟨hr,I6⟩=>?_;subst hr;have I7:Inv X pins σ H5 s6:=I3.call' (ch:=fp) I6.os I6.base I6.hok I6.bare fun b hb=>⟨(f3 b hb).1.2.2.2.1,(f3 b hb).1.2.1,(f3 b hb).1.2.2.2.2.1,(f3 b hb).1.2.2.2.2.2⟩;have nC:H5 s3.heap.objs.size=none:=by have z:H5 ce.locals=none:=I6.free;rw[cL] at z;exact z
   obtain⟨m,hn,_⟩:=I6.loc;have hn:s6.heap.Ns ce.locals m:=hn;rw[cL] at hn;exact hRR D s3.heap.objs.size s6 m H5 I7 qq hn (I3.fpOk (Ah _) nC)
  ·have ti:=T.item (X.blk s3 H3 scope ce fp) rfl rfl rfl hc i [] s5 _ H5 (fun _ _=>False) I5 (stat I5 n5) st5 go;refine Tx ti fun r s6 ⟨u,hr,h6⟩=>?_;subst hr;refine Tx h6 fun _ s7 ⟨x,H7,I7,r7,y7,st7,n7⟩=>?_;have I7':=I7.pinned (stat I7 n7) (T.obj _ _ st7);refine Tx (pg _ s7 _ H7 x u _ I7' r7 (step x H7 y7)) fun _ s8 ⟨σ8,H8,I8,hw8,q8⟩=>?_;refine Tx (pt _ s8 σ8 H8 _ I8 q8) fun b s9 ⟨H9,I9,q9⟩=>?_;have fin:∀{s':FS} {H':Hp},Inv (X.blk s3 H3 scope ce fp) ([]++MX fp s7.heap) σ8 H' s'->Nx H'->∃m,m<n/\∃i H',Inv (X.blk s3 H3 scope ce fp) [] (Hl σ (own.map (·.2))) H' s'/\tn i s'.heap/\(∀b∈fp,H' b=none)/\W i m H':=fun{s' H'} I' nx=>by
    obtain⟨m',hm,w'⟩:=hNx H' nx;have pin':∀b∈fp,∀o,s7.heap.get? b=some o->s'.heap.get? b=some o/\H' b=none:=fun b hb o e=>
     let z:=I'.pin (b,o) (A7 _ (A7 _ (K0 hb e)))
     ⟨z.1,z.2.1⟩
    have hl:(Hl σ (own.map (·.2))).length=σ8.length:=by rw[<-hw8,Kn]
    refine⟨m',hm,i+1,H',(I'.unpinned (pins:=[])).weak hl (fun j v e=>?_),T.keep _ _ _ st7 fun b hb o e=>(pin' b hb o e).1,fun b hb=>?_,w'⟩
    ·rw[<-hw8] at e;exact(L4 e).1
    ·obtain⟨o,e,_⟩:=T.obj _ _ st7 b hb;exact(pin' b hb o e).2
   cases b with
   |false=>simp only[Fm,if_false] at q9 ⊢;exact fin I9 q9
   |true=>simp only[if_true] at q9 ⊢;refine Tx (pe _ s9 σ8 H9 _ I9 q9) fun z s10 ⟨yv,H10,I10,r10,acc,hD10,hz10,nx⟩=>?_;exact Yc (X:=X.blk s3 H3 scope ce fp) I10 hD10 hz10 r10 fun s11 I11=>fin I11 nx
 exact codeAny_compStart_list loop (T.self X.A 0 _ _ _ st4 loop)
theorem Mu{elt tg iter:F3}{ifs:List F3}{scope:Scope}{own:List (Str×Nat)}{pos:Pos}{wi:TI}{g:TG}{tt:TT}{te:TE}(hc:X.calm=true)(hN:X.N.Nodup)(hi:PI X tg iter wi)(ok:BlkOk X.N X.env.scope scope own)
  (hg:∀(s:FS) (H:Hp) (C:FP) (cl:List (Str×FP)) (fp:List FP),PG (X.blk s H scope (compEnvC scope cl C X.env) fp) tg g) (ht:∀(s:FS) (H:Hp) (C:FP) (cl:List (Str×FP)) (fp:List FP),PTs (X.blk s H scope (compEnvC scope cl C X.env) fp) ifs tt)
  (he:∀(s:FS) (H:Hp) (C:FP) (cl:List (Str×FP)) (fp:List FP),PE (X.blk s H scope (compEnvC scope cl C X.env) fp) elt te) (hs:∀x,foldedSetIterable iter X.env x=pure x:=by intro _;rfl):
  PE X (.ListComp elt [⟨tg,iter,ifs,0⟩] scope pos) (tLc wi g tt te (own.map (·.2))):=by
 intro pins s σ H Q I h;rw[eval_ListComp];refine Sr hc hN I hi ok hg ht he hs h fun D C s' m H' I' q hn f=>⟨m,hn,fun h'' sb=>?_⟩;obtain⟨f0,f1,f2,f3,f4,f5⟩:=f;exact⟨.ref D,H',I'.turned (t':=s'.toks) (fun b o hb e=>(sb.2 b hb).trans e) f0 f1 f3 f4 f5,rfl,q⟩
theorem Nw{i:Nat}{y:Str}{py:Pos}{elt tg iter:F3}{ifs:List F3}{scope:Scope}{own:List (Str×Nat)}{pos spos:Pos}{wi:TI}{g:TG}{tt:TT}{te:TE}(hc:X.calm=true)(hN:X.N.Nodup)(hy:X.N[i]?=some y)(hyl:X.env.scope.names.lookup y=some .local)
  (hsw:swapsWith (.ListComp elt [⟨tg,iter,ifs,0⟩] scope pos) (some (.Name y py)) spos.line X.env=pure true) (hi:PI X tg iter wi) (ok:BlkOk X.N X.env.scope scope own)
  (hg:∀(s:FS) (H:Hp) (C:FP) (cl:List (Str×FP)) (fp:List FP),PG (X.blk s H scope (compEnvC scope cl C X.env) fp) tg g) (ht:∀(s:FS) (H:Hp) (C:FP) (cl:List (Str×FP)) (fp:List FP),PTs (X.blk s H scope (compEnvC scope cl C X.env) fp) ifs tt)
  (he:∀(s:FS) (H:Hp) (C:FP) (cl:List (Str×FP)) (fp:List FP),PE (X.blk s H scope (compEnvC scope cl C X.env) fp) elt te) (hs:∀x,foldedSetIterable iter X.env x=pure x:=by intro _;rfl):
  PS X (.Assign [.Name y py] (.ListComp elt [⟨tg,iter,ifs,0⟩] scope pos) spos) (Vo (tLc wi g tt te (own.map (·.2))) (HY i)):=by
 intro pins s σ H D I h;rw[exec_Assign_Name_used _ _ _ _ hsw];refine FQ (wpAny_standAt (FQ ?_));show FW _ X.A (do let _ ← comprehension (.ListComp elt [⟨tg,iter,ifs,0⟩] scope pos) scope X.env (firstIterPos [⟨tg,iter,ifs,0⟩] pos) (newList []) false (eval iter X.env) (some (assign (.Name y py) X.env))) _ _ s;have h:tLc wi g tt te (own.map (·.2)) σ H (fun x H1=>HY i x σ H1 D.nx):=h;refine FQ (thn (Sr (Qf:=fun _ s'=>SP X pins D .next s') hc hN I hi ok hg ht he hs h fun L C s' m H' I' q hn f=>?_) fun _ s' hq=>FV (FV hq));show FW _ _ (assign (.Name y py) X.env (.ref L)) _ _ _;refine wpAny_assign_Name (Ot (v:=V.ref L) I' hN hy (.inl hyl) rfl (fun s2 I2 ⟨a,sb,ha⟩=>?_) (.inr hyl));obtain⟨f0,f1,f2,f3,f4,f5⟩:=f;have haC:C≠a:=by
  rcases ha with z | z
  ·rw[z];exact f1
  ·exact fun e=>f4 y a z e.symm
 refine⟨m,hn.sameBut sb haC,fun h3 sb3=>?_⟩;exact⟨_,H',I2.turned (t':=s2.toks) (fun b o hb e=>(sb3.2 b hb).trans e) f0 f1 f3 f4 f5,q⟩
end
theorem Pc{K:Gh}{a:FP}{xs:List V}{g:TG}{tt:TT}{te:TE}{vs:List Nat}{σ:St}{H1:Hp}{D:FP}{Qd:Hp->Prop}(Pv:Nat->Hp->Prop)(h0:Pv 0 (upd H1 D (.lst [])))(hl:∀i H,i<=xs.length->Pv i H->SqL K H a xs)
  (hs:∀i x H,xs[i]?=some x->Pv i H->g x (Hl σ vs) H fun σ2 H2=>Hl σ2 vs=Hl σ vs/\tt σ2 H2 fun b H3=>if b=true then te σ2 H3 fun y H4=>∃acc,H4 D=some (.lst acc)/\acc.length<FT/\Pv (i+1) (upd H4 D (.lst (acc++[y]))) else Pv (i+1) H3) (hd:∀H,Pv xs.length H->Qd H):
  ∃W:Nat->Nat->Hp->Prop,(∃m,W 0 m (upd H1 D (.lst [])))/\∀i m H,W i m H->
   ((Itl K a).stop i H/\Qd H)\/((Itl K a).go i H/\∃Nx:Hp->Prop,(∀H',Nx H'->∃m',m'<m/\W (i+1) m' H')/\∀x H',(Itl K a).yld i H x H'->g x (Hl σ vs) H' fun σ2 H2=>Hl σ2 vs=Hl σ vs/\tt σ2 H2 fun b H3=>
    if b=true then te σ2 H3 fun y H4=>∃acc,H4 D=some (.lst acc)/\acc.length<FT/\Nx (upd H4 D (.lst (acc++[y]))) else Nx H3):=by
 refine⟨fun i m H=>m=xs.length-i/\i<=xs.length/\Pv i H,⟨xs.length,by simp,AD _,h0⟩,?_⟩;rintro i m H ⟨rfl,hi,p⟩;have q:=hl i H hi p;by_cases hlt:i<xs.length
 ·refine .inr ⟨⟨xs,xs[i],q,by simp[hlt]⟩,Pv (i+1),fun H' p'=>⟨xs.length-(i+1),by lia,rfl,hlt,p'⟩,fun x H' y=>?_⟩;obtain⟨e,y⟩:=y;subst e;exact hs i x _ (y xs q) p
 ·have e:i=xs.length:=by lia
  subst e;exact .inl ⟨⟨xs,q,Ah _⟩,hd H p⟩
section
variable{prog:FU}{w:F0}{A:F4}{R:Result->FS->Prop}{s:FS}{elt t0 i0 t1 i1:F3}{ifs0 ifs1:List F3}{scope:Scope}{pos:Pos}{it acc:FO}{env:Env}
end
section
variable{X:Cx}
end
section
variable{κ:Type}[DecidableEq κ]
def Iy(kvs:List (κ×V))(k:κ):Option V:=(kvs.find? fun kv=>decide (kv.1=k)).map (·.2)
def KG(kvs:List (κ×V))(k:κ)(v:V):List (κ×V):=if (kvs.any fun kv=>decide (kv.1=k))=true then kvs.map (fun kv=>if kv.1=k then (kv.1,v) else kv) else kvs++[(k,v)]
theorem Nu{p:κ×V}{r:List (κ×V)}{k:κ}(e:p.1=k):Iy (p::r) k=some p.2:=by simp[Iy,BO,e]
theorem NJ{p:κ×V}{r:List (κ×V)}{k:κ}(e:¬p.1=k):Iy (p::r) k=Iy r k:=by simp[Iy,BO,e]
theorem N0(k:κ):∀kvs:List (κ×V),(kvs.any fun kv=>decide (kv.1=k))=(Iy kvs k).isSome
 |[]=>rfl
 |p::r=>by
  rw[Cz];by_cases e:p.1=k
  ·simp only[Nu e,decide_eq_true e,Bool.true_or,ES]
  ·rw[NJ e,decide_eq_false e,Bool.false_or];exact N0 k r
theorem Mw(kvs:List (κ×V))(k:κ)(v:V):(KG kvs k v).length<=kvs.length+1:=by
 unfold KG;split
 ·rw[Aa];lia
 ·rw[Ac,Ad,Bj];lia
theorem Vg{kvs:List (κ×V)}{k:κ}(v:V)(h:Iy kvs k=none):KG kvs k v=kvs++[(k,v)]:=by unfold KG;rw[N0,h];exact Gi (by decide)
theorem RelO.isSome_eq{o:Option V}{u:Option FO}(r:RelO o u):o.isSome=u.isSome:=by
 cases o with
 |none=>cases u with
  |none=>rfl
  |some _=>exact(show False from r).elim
 |some _=>cases u with
  |none=>exact(show False from r).elim
  |some _=>rfl
theorem KV.val{kvs:List (κ×V)}{vs:List (κ×FO)}(r:KV kvs vs)(k:κ):RelO (Iy kvs k) (valueAt vs k):=by
 unfold KV at r
 induction r with
 |nil=>exact True.intro
 |@cons p q ps qs h t ih=>
  obtain⟨h1,h2⟩:=h;by_cases e:p.1=k
  ·have e':q.1=k:=h1.symm.trans e;have b:valueAt (q::qs) k=some q.2:=by simp[valueAt,BO,e']
   rw[Nu e,b];exact h2
  ·have e':¬q.1=k:=fun z=>e (h1.trans z);have b:valueAt (q::qs) k=valueAt qs k:=by simp[valueAt,BO,e']
   rw[NJ e,b];exact ih
theorem KV.any{kvs:List (κ×V)}{vs:List (κ×FO)}(r:KV kvs vs)(k:κ):(kvs.any fun kv=>decide (kv.1=k))=vs.any fun kv=>decide (kv.1=k):=by
 unfold KV at r
 induction r with
 |nil=>rfl
 |cons h t ih=>rw[Cz,Cz,ih,h.1]
theorem KV.repl{kvs:List (κ×V)}{vs:List (κ×FO)}(r:KV kvs vs)(k:κ){y:V}{u:FO}(ry:RelV y u):
  KV (kvs.map fun kv=>if kv.1=k then (kv.1,y) else kv) (vs.map fun kv=>if kv.1=k then (kv.1,u) else kv):=by
 unfold KV at r ⊢
 induction r with
 |nil=>exact .nil
 |@cons p q ps qs h t ih=>
  rw[AM,AM];refine .cons ?_ ih;obtain⟨h1,h2⟩:=h;by_cases e:p.1=k
  ·rw[Gj e,Gj (h1.symm.trans e)];exact⟨h1,ry⟩
  ·rw[Gi e,Gi (fun z=>e (h1.trans z))];exact⟨h1,h2⟩
theorem KV.put{kvs:List (κ×V)}{vs:List (κ×FO)}(r:KV kvs vs)(k:κ){y:V}{u:FO}(ry:RelV y u):KV (KG kvs k y) (stored vs k u):=by
 unfold KG stored;rw[r.any k];by_cases e:(vs.any fun kv=>decide (kv.1=k))=true
 ·rw[Gj e,Gj e];exact r.repl k ry
 ·rw[Gi e,Gi e];exact Paired.snoc r ⟨rfl,ry⟩
theorem KV.length{kvs:List (κ×V)}{vs:List (κ×FO)}(r:KV kvs vs):kvs.length=vs.length:=Paired.length r
end
theorem N1{P:FU}{w:F0}{k:Key}{u:FO}(r:RelV (kV k) u):(G0 P w).is k u=true:=by
 cases k with
 |inl i=>obtain⟨t,e⟩:=(show ∃t,u=FO.int i t from r);subst e;exact IM P w i t
 |inr x=>obtain⟨t,e⟩:=(show ∃t,u=FO.str x t from r);subst e;exact QN P w x t
theorem OD{P:FU}{w:F0}:∀{ks:List Key} {us:List FO},Vals (ks.map kV) us->ItemsAre (G0 P w) ks us
 |[],_,r=>by rw[EJ] at r;cases r;exact .nil
 |k::ks,_,r=>by
  rw[AM] at r;cases r with
  |cons h t=>exact .cons (N1 h) (OD t)
abbrev KT(H:Hp):List (List Key×V)->List (List Key×FP×FO)->Prop:=Paired fun p q=>p.1=q.1/\H q.2.1=some (.tup (p.1.map kV))/\RelV p.2 q.2.2
theorem KT.val{H:Hp}{kvs:List (List Key×V)}{xs:List (List Key×FP×FO)}(r:KT H kvs xs)(k:List Key):RelO (Iy kvs k) ((atKey xs k).map (·.2)):=by
 induction r with
 |nil=>exact True.intro
 |@cons p q ps qs h t ih=>
  obtain⟨h1,_,h2⟩:=h;by_cases e:p.1=k
  ·have e':q.1=k:=h1.symm.trans e;have b:atKey (q::qs) k=some q.2:=by simp[atKey,BO,e']
   rw[Nu e,b];exact h2
  ·have e':¬q.1=k:=fun z=>e (h1.trans z);have b:atKey (q::qs) k=atKey qs k:=by simp[atKey,BO,e']
   rw[NJ e,b];exact ih
theorem KT.repl{H:Hp}{kvs:List (List Key×V)}{xs:List (List Key×FP×FO)}(r:KT H kvs xs)(k:List Key){y:V}{u:FO}(ry:RelV y u):
  KT H (kvs.map fun kv=>if kv.1=k then (kv.1,y) else kv) (xs.map (putAt k u)):=by
 induction r with
 |nil=>exact .nil
 |@cons p q ps qs h t ih=>
  rw[AM,AM];refine .cons ?_ ih;obtain⟨h1,h2,h3⟩:=h;unfold putAt;by_cases e:p.1=k
  ·rw[Gj e,Gj (h1.symm.trans e)];exact⟨h1,h2,ry⟩
  ·rw[Gi e,Gi (fun z=>e (h1.trans z))];exact⟨h1,h2,h3⟩
theorem KT.put{H:Hp}{kvs:List (List Key×V)}{xs:List (List Key×FP×FO)}(r:KT H kvs xs)(k:List Key){b:FP}{y:V}{u:FO}(hb:H b=some (.tup (k.map kV)))(ry:RelV y u):
  KT H (KG kvs k y) (storedH xs k b u):=by
 have e:(kvs.any fun kv=>decide (kv.1=k))=(atKey xs k).isSome:=by rw[N0,(r.val k).isSome_eq,BN]
 unfold KG storedH;rw[e];by_cases q:(atKey xs k).isSome=true
 ·rw[Gj q,Gj q];exact r.repl k ry
 ·rw[Gi q,Gi q];exact Paired.snoc r ⟨rfl,hb,ry⟩
theorem KT.keeps{H H':Hp}{kvs:List (List Key×V)}{xs:List (List Key×FP×FO)}(r:KT H kvs xs)(ht:∀b ys,H b=some (.tup ys)->H' b=some (.tup ys)):KT H' kvs xs:=Paired.mapP r fun _ _ z=>⟨z.1,ht _ _ z.2.1,z.2.2⟩
section
variable{P:FU}{w:F0}{H:Hp}{h:Heap}{a:FP}
theorem XD{u:HO}(ok:HOk P w H h)(e:Rd H a u):ObjOk P w H h a u:=e.ok ok
theorem Sf{kvs:List (Key×V)}(ok:HOk P w H h)(e:Rd H a (.dK kvs)):kvs.length<=FT/\(a==Gd)=false/\∃vs,KV kvs vs/\h.DictOf (G0 P w) a vs:=show ObjOk P w H h a (.dK kvs) from XD ok e
theorem ZD{kvs:List (Key×V)}(ok:HOk P w H h)(e:H a=some (.dK kvs)):kvs.length<=FT/\(a==Gd)=false/\∃vs,KV kvs vs/\h.DictOf (G0 P w) a vs:=Sf ok (.inl e)
theorem NQ{ks:List Key}(ok:HOk P w H h)(e:H a=some (.tup (ks.map kV))):(tupleKind (G0 P w)).is h ks a:=by obtain⟨_,its,r,o,h1,h2,n,h3⟩:=(show ObjOk P w H h a (.tup (ks.map kV)) from ok a _ e);exact⟨o,its.toArray,n,h1,h2,h3,by simpa using OD r⟩
theorem RQ{kvs:List (List Key×V)}(ok:HOk P w H h)(e:Rd H a (.dT kvs)):kvs.length<=FT/\(a==Gd)=false ∧
  ∃xs,KT H kvs xs/\h.DictOfH (tupleKind (G0 P w)) a xs:=by
 obtain⟨z,y,xs,r,o,es,ep,h1,h2,h3,h4,h5⟩:=(show ObjOk P w H h a (.dT kvs) from XD ok e);refine⟨z,y,xs,r,o,es,ep,h1,h2,h3,h4,fun x hx=>?_,h5⟩;have all:∀{l:List (List Key×V)} {m:List (List Key×FP×FO)},KT H l m->∀x∈m,(tupleKind (G0 P w)).is h x.1 x.2.1:=by
  intro l m q
  induction q with
  |nil=>intro x hx;exact nomatch hx
  |@cons p q ps qs hq t ih=>
   intro x hx;rcases Ao.mp hx with e | hx
   ·subst e;exact NQ ok (by rw[<-hq.1];exact hq.2.1)
   ·exact ih x hx
 exact all r x hx
theorem XA{kvs:List (List Key×V)}(ok:HOk P w H h)(e:H a=some (.dT kvs)):kvs.length<=FT/\(a==Gd)=false ∧
  ∃xs,KT H kvs xs/\h.DictOfH (tupleKind (G0 P w)) a xs:=RQ ok (.inl e)
end
def DGet(H:Hp)(a:FP)(y:V)(r:Option V):Prop:=(∃kvs k,Rd H a (.dK kvs)/\y=kV k/\r=Iy kvs k)\/∃kvs k b,Rd H a (.dT kvs)/\y=.ref b/\H b=some (.tup (k.map kV))/\r=Iy kvs k
def DPut(H:Hp)(a:FP)(y v:V)(H':Hp):Prop:=
 (∃kvs k,H a=some (.dK kvs)/\y=kV k/\kvs.length<FT/\H'=upd H a (.dK (KG kvs k v))) ∨
 ∃kvs k b,H a=some (.dT kvs)/\y=.ref b/\H b=some (.tup (k.map kV))/\kvs.length<FT/\H'=upd H a (.dT (KG kvs k v))
theorem DGet.t{H:Hp}{a b:FP}{kvs:List (List Key×V)}{k:List Key}(e:H a=some (.dT kvs))(eb:H b=some (.tup (k.map kV))):DGet H a (.ref b) (Iy kvs k):=.inr ⟨kvs,k,b,.inl e,rfl,eb,rfl⟩
theorem DPut.t{H:Hp}{a b:FP}{kvs:List (List Key×V)}{k:List Key}{v:V}(e:H a=some (.dT kvs))(eb:H b=some (.tup (k.map kV)))(hl:kvs.length<FT):
  DPut H a (.ref b) v (upd H a (.dT (KG kvs k v))):=.inr ⟨kvs,k,b,e,rfl,eb,hl,rfl⟩
section
variable{X:Cx}{pins:List (FP×Obj)}{σ:St}{H:Hp}{s:FS}{a:FP}{y v:V}{u r:FO}{o:Option V}{A:F4}{E:FO->FS->Prop}
theorem Inv.big(I:Inv X pins σ H s):Gd<s.heap.objs.size:=by have h:FX<s.heap.objs.size:=(I.mod.glob.keeps I.bk).lt;exact Nat.lt_trans (by decide) h
theorem Tv{Q:FO->FS->Prop}(hu:A.units+1<cLine)(I:Inv X pins σ H s)(g:DGet H a y (some v))(ry:RelV y u)(h:∀w' s',Inv X pins σ H s'->RelV v w'->Q w' s'):
  FW (model X.prog X.w) A (getItem (.ref a) u) Q E s:=by
 rcases g with ⟨kvs,k,e,ey,l⟩ | ⟨kvs,k,b,e,ey,eb,l⟩
 ·subst ey;obtain⟨z,hd,vs,rel,dd⟩:=Sf I.hok e;obtain⟨w',hw,rw'⟩:=RelO.some_of (v:=v) (o:=valueAt vs k) (by rw[l];exact rel.val k);exact wpAny_getItem_of (N1 ry) dd.mapOf hw (h w' _ (I.tok _) rw')
 ·subst ey;cases(show u=FO.ref b from ry);obtain⟨z,hd,xs,rel,dd⟩:=RQ I.hok e;obtain⟨w',hw,rw'⟩:=RelO.some_of (v:=v) (o:=(atKey xs k).map (·.2)) (by rw[l];exact rel.val k);obtain⟨p,hp,hp2⟩:=Option.map_eq_some_iff.mp hw;refine wpAny_getItem_heap (tupleKind_room_in1 hu) (NQ I.hok eb) dd hp ?_;rw[hp2];exact h w' _ (I.tok _) rw'
theorem AaX{Q:FO->FS->Prop}(hu:A.units+1<cLine)(I:Inv X pins σ H s)(g:DGet H a y o)(ry:RelV y u)(h:∀s',Inv X pins σ H s'->Q (.bool o.isSome) s'):
  FW (model X.prog X.w) A (compareOp .In u (.ref a)) Q E s:=by
 rcases g with ⟨kvs,k,e,ey,l⟩ | ⟨kvs,k,b,e,ey,eb,l⟩
 ·subst ey;obtain⟨z,hd,vs,rel,dd⟩:=Sf I.hok e;refine wpAny_in_of (N1 ry) hd dd.mapOf ?_;rw[<-(rel.val k).isSome_eq,<-l];exact h _ (I.tok _)
 ·subst ey;cases(show u=FO.ref b from ry);obtain⟨z,hd,xs,rel,dd⟩:=RQ I.hok e;refine wpAny_in_heap (tupleKind_room_in1 hu) (NQ I.hok eb) hd dd ?_;have q:=(rel.val k).isSome_eq;rw[BN] at q;rw[<-q,<-l];exact h _ (I.tok _)
theorem Po{h':Heap}{t':Nat}{ob:HO}(I:Inv X pins σ H s)(mu:Mut (H a))(hs:Heap.SameBut a s.heap h')(he:∃q,h'.get? a=some q)(new:ObjOk X.prog X.w (upd H a ob) h' a ob):
  Inv X pins σ (upd H a ob) { s with heap:=h',toks:=t' }:=
 I.write (x:=a) (e:=a) mu (.inl rfl) (fun b q hb z=>(hs.2 b hb).trans z) he new
theorem Yq{P:FU}{w:F0}{H':Hp}{h':Heap}{kvs:List (Key×V)}{vs:List (Key×FO)}(z:kvs.length<=FT)(hd:(a==Gd)=false)(rel:KV kvs vs)(dd:h'.DictOf (G0 P w) a vs):
  ObjOk P w H' h' a (.dK kvs):=⟨z,hd,vs,rel,dd⟩
theorem S5{H':Hp}{Q:Unit->FS->Prop}(hu:A.units+1<cLine)(I:Inv X pins σ H s)(g:DPut H a y v H')(ry:RelV y u)(rv:RelV v r)(h:∀s',Inv X pins σ H' s'->Q () s'):
  FW (model X.prog X.w) A (setItem (.ref a) u r) Q E s:=by
 rcases g with ⟨kvs,k,e,ey,l,eH⟩ | ⟨kvs,k,b,e,ey,eb,l,eH⟩
 ·subst ey eH;obtain⟨z,hd,vs,rel,dd⟩:=ZD I.hok e;have hz:vs.length<=FT:=by rw[<-rel.length];exact z
  have hl:(KG kvs k v).length<=FT:=by have:=Mw kvs k v;lia
  refine wpAny_setItem_pairs (hsz:=hz) (N1 ry) dd fun h' dd' hs=>h _ ?_;have he:∃q,h'.get? a=some q:=let ⟨q,_,_,hq,_⟩:=dd';⟨q,hq⟩;exact Po I (by rw[e];exact True.intro) hs he (Yq hl hd (rel.put k rv) dd')
 ·subst ey eH;cases(show u=FO.ref b from ry);obtain⟨z,hd,xs,rel,dd⟩:=XA I.hok e;have hz:xs.length<=FT:=by rw[<-Paired.length rel];exact z
  have hl:(KG kvs k v).length<=FT:=by have:=Mw kvs k v;lia
  refine wpAny_setItem_heap (hsz:=hz) (tupleKind_room_in1 hu) (NQ I.hok eb) dd fun h' dd' hs=>h _ ?_;obtain⟨q,es,ep,hq,h2,h3,h4,_,h5⟩:=dd';refine Po I (by rw[e];exact True.intro) hs ⟨q,hq⟩ ⟨hl,hd,_,(rel.put k eb rv).keeps fun c ys ec=>?_,q,es,ep,hq,h2,h3,h4,h5⟩;rw[Gr (GE ec e (fun z=>nomatch z))];exact ec
end
section
variable{X:Cx}{pins:List (FP×Obj)}{σ:St}{H:Hp}{s:FS}{a:FP}{kvs:List (Key×V)}{k:Key}{u:FO}{A:F4}{E:FO->FS->Prop}
end
def Xf(i:F3):Prop:=∀ov iv,subscripted i false ov iv=operate [ov,iv] (getItem ov iv)
theorem Py{prog:FU}{w:F0}{A:F4}{E:FO->FS->Prop}{s:FS}{env:Env}{value slice:F3}{pos:Pos}{T id:String}{Q:FO->FS->Prop}
  (hl:typeLookup (.type T) "__getitem__"=pure (some (.builtin id))) (hs:Xf slice)
  (h:FW (model prog w) A (eval value env) (fun o s₁=>FW (model prog w) A (eval slice env) (fun i s₂=>s₂.TypeIs o T/\FW (model prog w) A (getItem o i) Q E s₂) E s₁) E s):
  FW (model prog w) A (eval (.Subscript value slice pos) env) Q E s:=by
 refine Subscript_ (F9 h (fun o s₁ h₁=>F9 h₁ (fun i s₂ h₂=>?_) fun _ _ x=>x) fun _ _ x=>x);obtain⟨hT,h₂⟩:=h₂;unfold subscriptTail;refine FQ ?_;rw[getitemInPython_of_ne hT.not_modules];refine FQ (wpAny_specialOf hT hl ?_);have fin:FW (model prog w) A (subscripted slice false o i) (fun r s₃=>FW (model prog w) A (letTemporaryGo value o r >>= fun _=>pure r) Q E s₃) E s₂:=by rw[hs o i];exact wpAny_operating (F9 h₂ (fun r s₃ h₃=>FQ (wpAny_letTemporaryGo (FV h₃))) fun _ _ x=>x)
 first
  |exact FV (FQ fin)
  |exact FQ (FV (FQ fin))
  |exact FQ fin
theorem Qv{X:Cx}{pins:List (FP×Obj)}{σ:St}{H:Hp}{s:FS}{a:FP}{y:V}{o:Option V}(I:Inv X pins σ H s)(g:DGet H a y o):s.TypeIs (.ref a) "dict":=by
 rcases g with ⟨kvs,k,e,_,_⟩ | ⟨kvs,k,b,e,_,_,_⟩
 ·obtain⟨_,_,vs,_,dd⟩:=Sf I.hok e;exact dd.typeIs
 ·obtain⟨_,_,xs,_,dd⟩:=RQ I.hok e;exact dd.typeIs
def Aam(td ty:TE):TE:=fun σ H Q=>td σ H fun x H1=>ty σ H1 fun y H2=>∃a v,x=.ref a/\DGet H2 a y (some v)/\Q v H2
def AaF(ty td:TE):TE:=fun σ H Q=>ty σ H fun y H1=>td σ H1 fun x H2=>∃a o,x=.ref a/\DGet H2 a y o/\Q (.bl o.isSome) H2
def ZR(td ty tv:TE):TS:=fun D σ H=>tv σ H fun v H1=>td σ H1 fun x H2=>ty σ H2 fun y H3=>∃a H4,x=.ref a/\DPut H3 a y v H4/\D.nx σ H4
section
variable{X:Cx}{o i e value:F3}{pos pos' tpos:Pos}{td ty tv:TE}
theorem Sh(hu:X.A.units+1<cLine)(ho:PE X o td)(hi:PE X i ty)(hs:Xf i):PE X (.Subscript o i pos) (Aam td ty):=by intro pins s σ H Q I h;refine Py CN.lookup hs (thn (ho pins s σ H _ I h) fun u s1 ⟨x,H1,I1,rx,q1⟩=>thn (hi pins s1 σ H1 _ I1 q1) fun iv s2 ⟨y,H2,I2,ry,a,v,ex,g,q2⟩=>?_);subst ex;obtain rfl:u=FO.ref a:=rx;exact⟨Qv I2 g,Tv hu I2 g ry fun w' s3 I3 rw'=>⟨v,H2,I3,rw',q2⟩⟩
theorem YY(hu:X.A.units+1<cLine)(hi:PE X i ty)(ho:PE X o td):PC X .In i o (AaF ty td):=by intro pins s σ H Q I h;refine thn (hi pins s σ H _ I h) fun iv s1 ⟨y,H1,I1,ry,q1⟩=>thn (ho pins s1 σ H1 _ I1 q1) fun u s2 ⟨x,H2,I2,rx,a,ov,ex,g,q2⟩=>?_;subst ex;obtain rfl:u=FO.ref a:=rx;exact AaX hu I2 g ry fun s3 I3=>⟨.bl ov.isSome,H2,I3,rfl,q2⟩
theorem Xg(hu:X.A.units+1<cLine)(ho:PE X o td)(hi:PE X i ty)(hv:PE X value tv)(hs:swapsWith value (some (.Subscript o i pos')) pos.line X.env=pure false):
  PS X (.Assign [.Subscript o i pos'] value pos) (ZR td ty tv):=by
 intro pins s σ H D I h;refine wpAny_Assign_Subscript (thn (hv pins s σ H _ I h) fun r s1 ⟨v,H1,I1,rv,q1⟩=>thn (ho pins s1 σ H1 _ I1 q1) fun u s2 ⟨x,H2,I2,rx,q2⟩=>thn (hi pins s2 σ H2 _ I2 q2) fun iv s3 ⟨y,H3,I3,ry,a,H4,ex,g,q3⟩=>?_) hs;subst ex;obtain rfl:u=FO.ref a:=rx;exact S5 hu I3 g ry rv fun s4 I4=>⟨σ,H4,I4,q3⟩
end
theorem UP{P:FU}{w:F0}{H:Hp}(h:Heap)(hb:Gd<h.objs.size):ObjOk P w H (h.push { cls:=.type "dict",data:=.dict #[] }) h.objs.size (.dT []):=⟨AD _,beq_eq_false_iff_ne.mpr (Ne.symm (AH hb)),[],.nil,_,#[],0,Au _ rfl,⟨rfl,rfl,rfl⟩,rfl,rfl,List.nodup_nil⟩
def Y7:TE:=fun _ H Q=>∀p,H p=none->Q (.ref p) (upd H p (.dT []))
section
variable{X:Cx}{pos:Pos}
theorem Vl:PE X (.Dict [] [] pos) Y7:=fun pins s σ H Q I h=>wpAny_Dict_empty ⟨.ref s.heap.objs.size,_,I.laid (a:=s.heap.objs.size) (o:=.dT []) (t':=s.toks) (fun _ _ q=>Ab _ q) (Ah _) (UP s.heap I.big),rfl,h _ (I.hok.fresh (Ah _))⟩
end
structure M1(X:Cx)(o:F3)(m:Str)(apos:Pos)(e:F3)(cpos:Pos):Prop where
 base:attributeBase o m X.env (eval o X.env)=eval o X.env
 few:((backTo cpos (FY [e] X.env)).all (fun x=>!x.1)&&(backToKw cpos (keywordEach [] X.env)).all (fun x=>x.1.isSome)
 &&decide (([e]:List F3).length+([]:List Keyword).length+(if ([]:List Keyword).isEmpty then 0 else 1)<30))=true
 line:(apos.endLine==cpos.line)=true
 trees:backTo cpos (FY [e] X.env)=[(false,eval e X.env)]
structure M2(X:Cx)(o:F3)(m:Str)(apos:Pos)(e f:F3)(cpos:Pos):Prop where
 base:attributeBase o m X.env (eval o X.env)=eval o X.env
 few:((backTo cpos (FY [e,f] X.env)).all (fun x=>!x.1)&&(backToKw cpos (keywordEach [] X.env)).all (fun x=>x.1.isSome)
 &&decide (([e,f]:List F3).length+([]:List Keyword).length+(if ([]:List Keyword).isEmpty then 0 else 1)<30))=true
 line:(apos.endLine==cpos.line)=true
 trees:backTo cpos (FY [e,f] X.env)=[(false,eval e X.env),(false,eval f X.env)]
section
variable{X:Cx}{pins:List (FP×Obj)}{σ:St}{H:Hp}{s:FS}{a:FP}{y d:V}{u r:FO}{o:Option V}{A:F4}{E:FO->FS->Prop}
end
section
variable{X:Cx}{o e f:F3}{apos cpos:Pos}{td ty tx:TE}
end
section
variable{X:Cx}{pins:List (FP×Obj)}{σ:St}{H:Hp}{s:FS}{a:FP}{kvs:List (Key×V)}{A:F4}{E:FO->FS->Prop}
end
section
variable{X:Cx}{pins:List (FP×Obj)}{σ:St}{H:Hp}{s:FS}{a:FP}{y:V}{u:FO}{A:F4}{E:FO->FS->Prop}
end
section
variable{prog:FU}{w:F0}{A:F4}{E:FO->FS->Prop}
end
section
variable{X:Cx}
end
section
variable{X:Cx}{pins:List (FP×Obj)}{σ:St}{H:Hp}{s:FS}{h':Heap}
theorem Inv.turnedL{t':Nat}{ch:List FP}(I:Inv X pins σ H s)(k:∀b o,b∉ch->s.heap.get? b=some o->h'.get? b=some o)(hf:∀b∈ch,MC X pins H b):Inv X pins σ H { s with heap:=h',toks:=t' }:=by
 have nit:∀b u,H b=some u->b∉ch:=fun b u e z=>by have q:=(hf b z).1;rw[q] at e;cases e
 refine I.step (g':=s.gens) (d':=s.drawn) (ch:=ch) (fun b hb=>⟨(hf b hb).2.2.2.1,(hf b hb).2.1,(hf b hb).2.2.2.2.1,(hf b hb).2.2.2.2.2⟩) (fun b o _ _ hc e _=>k b o hc e) (fun b o _ _ hc e _=>⟨o.slots,k b o hc e⟩)
  (fun _ _ _ _ n=>n) (fun b o hc e=>⟨o,k b o hc e⟩) (fun _ _ e=>e) (fun _ _ _ e=>e) (fun b ps e=>⟨#[],by rw[e];simp⟩) (fun m hm=>?_) (fun b u e=>?_) I.bare
 ·obtain⟨o,es,ep,ho,r⟩:=hm;exact⟨o,es,ep,k _ o (fun z=>(hf _ z).2.1 rfl) ho,r⟩
 ·refine(I.hok b u e).stay (fun c v hc q=>k c v ?_ q) (fun _ q=>q) fun _ _ q=>q;rcases hc with z | z
  ·rw[z];exact nit b u e
  ·exact nit c _ z
theorem Inv.turnedNew{t':Nat}{ch:List FP}{T:FP}{ob:HO}(I:Inv X pins σ H s)(k:∀b o,b∉ch->s.heap.get? b=some o->h'.get? b=some o)(hf:∀b∈ch,MC X pins H b)(hT:s.heap.objs.size<=T)
  (new:ObjOk X.prog X.w (upd H T ob) h' T ob):Inv X pins σ (upd H T ob) { s with heap:=h',toks:=t' }:=by
 have hn:H T=none:=I.hok.fresh hT;have nit:∀b u,H b=some u->b∉ch:=fun b u e z=>by have q:=(hf b z).1;rw[q] at e;cases e
 refine I.step (g':=s.gens) (d':=s.drawn) (ch:=ch) (fun b hb=>⟨(hf b hb).2.2.2.1,(hf b hb).2.1,(hf b hb).2.2.2.2.1,(hf b hb).2.2.2.2.2⟩) (fun b o _ _ hc e _=>k b o hc e) (fun b o _ _ hc e _=>⟨o.slots,k b o hc e⟩)
  (fun b o _ e n=>?_) (fun b o hc e=>⟨o,k b o hc e⟩) (fun b xs e=>?_) (fun b o u e=>?_) (fun b ps e=>⟨#[],?_⟩) (fun m hm=>?_) (fun b u e=>?_) I.bare
 ·rw[Gr (AH (Ap (Am e) hT))];exact n
 ·rw[Gr (Gs e hn)];exact e
 ·rw[Gr (Gs e hn)];exact e
 ·rw[Gr (Gs e hn),e];simp
 ·obtain⟨o,es,ep,ho,r⟩:=hm;exact⟨o,es,ep,k _ o (fun z=>(hf _ z).2.1 rfl) ho,r⟩
 ·by_cases hb:b=T
  ·subst hb;rw[Gn] at e;cases e;exact new
  ·rw[Gr hb] at e;refine(I.hok b u e).stay (fun c v hc q=>k c v ?_ q) (fun c q=>by rw[Gr (Gs q hn)];exact q) fun c xs q=>by rw[Gr (Gs q hn)];exact q
   rcases hc with z | z
   ·rw[z];exact nit b u e
   ·exact nit c _ z
theorem Inv.lock{d:FP}{u:HO}(I:Inv X pins σ H s)(h:H d=some u)(mu:Mut (some u)):∃od,Inv X pins σ (upd H d (.frz od u)) s:=by
 have x:=I.hok d u h;have ex:∃od,s.heap.get? d=some od:=by
  cases u with
  |lst xs=>obtain⟨_,_,_,_,e⟩:=x;exact⟨_,e⟩
  |dK kvs=>obtain⟨_,_,_,_,o,_,_,e,_⟩:=x;exact⟨o,e⟩
  |dT kvs=>obtain⟨_,_,_,_,o,_,_,e,_⟩:=x;exact⟨o,e⟩
  |set S n=>obtain⟨o,_,_,_,e,_⟩:=x;exact⟨o,e⟩
  |ins C dx fs=>obtain⟨_,_,_,e,_⟩:=x;exact⟨_,e⟩
  |ext φ=>obtain⟨_,⟨_,e⟩,_⟩:=x;exact⟨_,e⟩
  |_=>exact False.elim mu
 obtain⟨od,e⟩:=ex;have new:ObjOk X.prog X.w (upd H d (.frz od u)) s.heap d (.frz od u):=by
  refine⟨e,x.stay (fun b v _ q=>q) (fun b q=>?_) fun b xs q=>?_⟩
  ·rw[Gr (fun z=>by rw[z,h] at q;cases q;exact mu)];exact q
  ·rw[Gr (fun z=>by rw[z,h] at q;cases q;exact mu)];exact q
 exact⟨od,I.write (x:=d) (e:=d) (t':=s.toks) (h':=s.heap) (by rw[h];exact mu) (.inl rfl) (fun b v _ q=>q) ⟨od,e⟩ new⟩
theorem Inv.nofrz{d:FP}{u:HO}(I:Inv X pins σ H s)(h:H d=some u)(mu:Mut (some u)):∀o' u',X.H_0 d≠some (.frz o' u'):=fun o' u' e=>by have q:=I.base.frzs d o' u' e;rw[h] at q;cases q;exact mu
theorem Inv.unlock{d:FP}{od:Obj}{u:HO}(I:Inv X pins σ H s)(h:H d=some (.frz od u))(hn:∀o' u',X.H_0 d≠some (.frz o' u')):Inv X pins σ (upd H d u) s:=by
 have neH:∀b o,H b=some o->(∀o' u',o≠.frz o' u')->b≠d:=fun b o e hne z=>by rw[z,h] at e;cases e;exact hne _ _ rfl
 have neN:∀b,H b=none->b≠d:=fun b e z=>by rw[z,h] at e;cases e
 refine⟨I.ok,I.os,I.bare,⟨I.base.keep,I.base.slot,fun b o e n hx=>?_,I.base.there,fun b xs e=>?_,fun b o x e=>?_,fun b ps e=>?_⟩,I.loc,I.cell,?_,fun x c e=>?_,fun p hp=>?_,fun b o e=>?_,I.len⟩
 ·rw[Gr (neN b (I.base.free b o e n hx))];exact I.base.free b o e n hx
 ·have q:=I.base.tups b xs e;rw[Gr (neH b _ q (fun _ _ z=>nomatch z))];exact q
 ·have q:=I.base.frzs b o x e;rw[Gr (fun z=>by rw[z] at e;exact hn _ _ e)];exact q
 ·obtain⟨m,q⟩:=I.base.tbls b ps e;exact⟨m,by rw[Gr (neH b _ q (fun _ _ z=>nomatch z))];exact q⟩
 ·rw[Gr (neN _ I.free)];exact I.free
 ·rw[Gr (neN c (I.freeC x c e))];exact I.freeC x c e
 ·obtain⟨e,n,r⟩:=I.pin p hp;exact⟨e,by rw[Gr (neN _ n)];exact n,r⟩
 ·by_cases hb:b=d
  ·rw[hb,Gn] at e;cases e;rw[hb];obtain⟨_,x⟩:=I.hok d _ h;exact x.stay (fun c v _ q=>q) (fun c q=>by rw[Gr (neH c _ q (fun _ _ z=>nomatch z))];exact q) fun c xs q=>by rw[Gr (neH c _ q (fun _ _ z=>nomatch z))];exact q
  ·rw[Gr hb] at e;exact(I.hok b o e).stay (fun c v _ q=>q) (fun c q=>by rw[Gr (neH c _ q (fun _ _ z=>nomatch z))];exact q) fun c xs q=>by rw[Gr (neH c _ q (fun _ _ z=>nomatch z))];exact q
end
section
variable{X:Cx}
theorem UW{tg:F3}{pins:List (FP×Obj)}{σ:St}{H:Hp}{s:FS}{R:It->Hp->Prop}{J:It}{tn:Nat->Heap->Prop}{tk:Nat}(I:Inv X pins σ H s)(o:Obj)
  (T:Turn X.prog X.w X.K tg J [s.heap.objs.size] s.heap.objs.size tn) (st:tn 0 (s.heap.push o)) (q:R J H):PIE X pins σ tg R (.ref s.heap.objs.size) { s with heap:=s.heap.push o,toks:=tk }:=by
 refine⟨s.heap.objs.size,[s.heap.objs.size],tn,J,H,rfl,I.kept fun b ob e=>Ab _ e,T,st,fun b hb=>?_,q⟩;have e:b=s.heap.objs.size:=by simpa using hb
 subst e;exact I.fpOk (Ah _) (I.hok.fresh (Ah _))
end
section
variable{X:Cx}{tg:F3}
end
def Its(x:Str):It:=⟨fun i _=>i<x.cps.size,fun i H v H'=>H'=H/\∃c,x.cps[i]?=some c/\v=.str ⟨#[c]⟩,fun i _=>x.cps.size<=i⟩
theorem Qk{P:FU}{w:F0}{K:Gh}{tg:F3}(it:FP)(x:Str)(t:Tok)(ty:String)(hty:ty="str_ascii_iterator"\/ty="str_iterator"):
  Turn P w K tg (Its x) [it] it (fun i h=>h.IsStrIter it ty x t i) where
 mem:=by simp
 obj:=fun i h st b hb=>by
  have e:b=it:=by simpa using hb
  subst e;obtain⟨o,e,c,d⟩:=st;exact⟨o,e,fun v z=>by rw[d] at z;cases z⟩
 keep:=fun i h h' st k=>let ⟨o,ho,r⟩:=st;⟨o,k it (by simp) o ho,r⟩
 item:=by
  intro X hP hw hK hc i pins s σ H E I hf st hg;subst hP hw hK;obtain⟨f0,f1,f2,f3,f4,f5⟩:=hf it (by simp);have W:Walks X.prog X.w X.A it [it] [it] x.cps.size (SignAt x) (fun i h=>h.IsStrIter it ty x t i):=by
   rcases hty with e | e
   ·rw[e];exact Walks.strAscii (I.ok.hd hc) it x t
   ·rw[e];exact Walks.strWide (I.ok.hd hc) it x t
  have hno:["enumerate","zip","dict_itemiterator","dict_reverseitemiterator","odict_iterator","itertools.zip_longest","itertools.pairwise"].contains ty=false:=by
   rcases hty with e | e
   ·rw[e];decide
   ·rw[e];decide
  refine W.item i s _ _ hg st fun v h' tk hv st' kk=>?_;obtain⟨c,u,hcx,rfl⟩:=hv;have I1:Inv X pins σ H { s with heap:=h',toks:=tk }:=I.turned (fun b o hb e=>kk b o (by simpa using hb) e) f0 f1 f3 f4 f5;obtain⟨oi,e,cc,dd⟩:=id st';exact⟨_,rfl,Sa (s:={ s with heap:=h',toks:=tk }) e cc dd hno ⟨.str ⟨#[c]⟩,H,I1,⟨u,rfl⟩,⟨rfl,c,hcx,rfl⟩,st',fun b hb=>(hf b hb).1⟩⟩
 done:=by
  intro X hP hw hK hc i pins s σ H E I hf st hg;subst hP hw hK;obtain⟨f0,f1,f2,f3,f4,f5⟩:=hf it (by simp);have hx:x.cps[i]?=none:=EF hg;rcases hty with e | e
  ·rw[e] at st;exact wpAny_pyNext_ascii_end (I.ok.hd hc) st hx fun h' eb=>⟨rfl,I.turned (t':=s.toks) (fun b o hb e=>eb b o hb e) f0 f1 f3 f4 f5⟩
  ·rw[e] at st;exact wpAny_pyNext_wide_end (I.ok.hd hc) st hx fun h' eb=>⟨rfl,I.turned (t':=s.toks) (fun b o hb e=>eb b o hb e) f0 f1 f3 f4 f5⟩
 self:=fun A i s Q E st h=>by
  rcases hty with e | e
  ·rw[e] at st;exact wpAny_pyIter_striter_ascii st h
  ·rw[e] at st;exact wpAny_pyIter_striter_wide st h
def AaP(te:TE):TI:=fun σ H R=>te σ H fun v H1=>∃x,v=.str x/\R (Its x) H1
theorem RI{X:Cx}{tg e:F3}{te:TE}(he:PE X e te):PI X tg e (AaP te):=by
 intro pins s σ H R I h;refine thn (he pins s σ H _ I h) fun v s1 ⟨y,H1,I1,r1,x,ex,q⟩=>?_;subst ex;obtain⟨t,rfl⟩:=r1;cases ha:x.cps.all (·<128)
 ·exact wpAny_pyIter_wide ha (UW (tk:=s1.toks) I1 _ (Qk _ x t "str_iterator" (.inr rfl)) ⟨_,Au _ rfl,rfl,rfl⟩ q)
 ·exact wpAny_pyIter_ascii ha (UW (tk:=s1.toks) I1 _ (Qk _ x t "str_ascii_iterator" (.inl rfl)) ⟨_,Au _ rfl,rfl,rfl⟩ q)
section
variable{prog:FU}{w:F0}{A:F4}{E:FO->FS->Prop}{s:FS}
end
section
variable{X:Cx}{pins:List (FP×Obj)}{σ:St}{H:Hp}{s:FS}{d:FP}{o:Obj}
end
section
variable{P:FU}{w:F0}{K:Gh}{tg:F3}{d:FP}{o:Obj}{es:Array Gb}{ep:Nat}
end
section
variable{X:Cx}{tg e:F3}{td:TE}{apos cpos:Pos}
end
theorem TN:Gf "zip"=some (.type "zip"):=by decide +kernel
end L2
section
namespace Bits
open PySem PyProof.Rows
end Bits
end
section
namespace TL
open PySem PySem.Builtin PySem.Builtin.Str PySem.StrLaws
abbrev tl(x:Str):List Nat:=x.cps.toList
theorem len_tl(x:Str):x.length=(tl x).length:=by simp[tl,Str.length]
theorem LL(x y:Str):tl (x++y)=tl x++tl y:=by show(x++y).cps.toList=_;rw[Str.cps_append,Array.toList_append]
theorem QR(s:String):tl (Str.ofString s)=s.toList.map Char.toNat:=PyProof.Rows.signs_ofString s
def joinL(S:List Nat):List (List Nat)->List Nat
 |[]=>[]
 |[p]=>p
 |p::q::r=>p++(S++joinL S (q::r))
theorem tl_join(y:Str):∀parts:List Str,tl (Str.join y parts)=joinL (tl y) (parts.map tl)
 |[]=>rfl
 |[_]=>rfl
 |x::z::r=>by show tl (x++y++Str.join y (z::r))=tl x++(tl y++joinL (tl y) ((z::r).map tl));rw[LL,LL,tl_join y (z::r),AT]
theorem join_eq(y:Str)(parts:List Str):Txt.join y parts=Str.join y parts:=glued_eq_join y parts
def numL(n:Nat):List Nat:=(CO 10 n).map Char.toNat
theorem tl_num(n:Nat):tl (Str.ofString (toString ((n:Nat):Int)))=numL n:=PySem.W.KIN.signs_num n
theorem KP:∀d:Nat,d<10->(EA d).toNat=48+d:=by decide
theorem Xu{n:Nat}(h:n<10):numL n=[48+n]:=by unfold numL;rw[EH h];show[(EA n).toNat]=_;rw[KP n h]
theorem SG{n:Nat}(h:10<=n):numL n=numL (n / 10)++[48+n % 10]:=by have hm:n % 10<10:=Nat.mod_lt n (by decide);have t:CO 10 (n / 10)++CO 10 (n % 10)=CO 10 (10*(n / 10)+n % 10):=Nat.toDigits_append_toDigits (by decide) (by lia) hm;rw[Nat.div_add_mod] at t;show(CO 10 n).map Char.toNat=_;rw[<-t,An,EH hm];show(CO 10 (n / 10)).map Char.toNat++[(EA (n % 10)).toNat]=_;rw[KP _ hm] <;> rfl
end TL
end
namespace L2
open PySem PySem.Spec PyProof.Rows
theorem J8:∀{ys:List Str} {us:List FO},Vals (ys.map V.str) us->StrsAre us ys
 |[],_,.nil=>.nil
 |y::ys,_,.cons r t=>by obtain⟨k,rfl⟩:=r;exact .cons y k (J8 t)
section
variable{X:Cx}{pins:List (FP×Obj)}{σ:St}{H:Hp}{s:FS}{Q:VK}
end
section
variable{X:Cx}
theorem Xv:MtR X "str.join" (fun x xs H Q=>∃a p,∃ys:List Str,x=.str a/\xs=[.ref p]/\(SqL X.K H p (ys.map V.str)\/SqT X.K H p (ys.map V.str)) ∧
  (ys.map (·.length)).sum+ys.length*a.length<=16777216/\Q (.str (Txt.join a ys)) H):=by
 intro pins s σ H x xs v us Q I rx rs h;obtain⟨a,p,ys,rfl,rfl,hp,hz,h⟩:=h;obtain⟨t,rfl⟩:=rx;cases rs with
 |cons r1 rs=>
  cases rs;cases r1;rcases hp with hp | hp
  ·obtain⟨its,r,⟨o,n,ho,hc,_,hd⟩,_⟩:=I.list hp;exact PyProof.Rows.join_list (items:=its.toArray) ⟨o,ho,hc,n,hd⟩ (by rw[E7];exact J8 r) hz fun t' k=>⟨.str _,H,I.tok k,⟨t',rfl⟩,h⟩
  ·obtain⟨its,r,ht,_⟩:=I.tuple hp;exact PyProof.Rows.join_tuple (items:=its.toArray) ht (by rw[E7];exact J8 r) hz fun t' k=>⟨.str _,H,I.tok k,⟨t',rfl⟩,h⟩
end
section
variable{X:Cx}{o e:F3}{to te:TE}
def tM1(r:V->List V->Hp->VK->Prop)(to te:TE):TE:=fun σ H Q=>to σ H fun x H1=>(∃a,x=.str a)/\te σ H1 fun y H2=>r x [y] H2 Q
theorem Zq{id:String}{name:Str}{apos pos:Pos}{r:V->List V->Hp->VK->Prop}(slot:Slot "str" name id)(ty:typeOf (.builtin id)=pure (.type "method_descriptor"))(rule:MtR X id r)(ho:PE X o to)(he:PE X e te)
  (hs:FY [e] X.env=[(false,eval e X.env)]:=by rfl) (hbase:attributeBase o name X.env (eval o X.env)=eval o X.env:=by rfl) (hline:(apos.endLine==pos.line)=true:=by rfl):
  PE X (.Call (.Attribute o name apos) [e] [] pos) (tM1 r to te):=by
 intro pins s σ H Q I h;refine PySem.Call_method1 hbase hs hline (thn (ho pins s σ H _ I h) fun v s1 ⟨x,H1,I1,r1,q1⟩=>?_);obtain⟨⟨a,rfl⟩,q1⟩:=q1;obtain⟨t,rfl⟩:=_root_.id r1;refine⟨"str",_,F.plainAttrs_str,slot,ty,typeIs_str _ _ _,(fun _ e=>nomatch e),ED rfl (Dy (Fb ?_))⟩;exact thn (he pins s1 σ H1 _ I1 q1) fun u s2 ⟨y,H2,I2,r2,q2⟩=>Fl (rule pins s2 σ H2 _ [y] _ [u] Q I2 r1 (.cons r2 .nil) q2)
theorem Pf{apos pos:Pos}(ho:PE X o to)(he:PE X e te)(hs:FY [e] X.env=[(false,eval e X.env)]:=by rfl)(hbase:attributeBase o "join" X.env (eval o X.env)=eval o X.env:=by rfl)(hline:(apos.endLine==pos.line)=true:=by rfl):
  PE X (.Call (.Attribute o "join" apos) [e] [] pos) (tM1 (fun x xs H Q=>∃a p,∃ys:List Str,x=.str a/\xs=[.ref p]/\(SqL X.K H p (ys.map V.str)\/SqT X.K H p (ys.map V.str)) ∧
   (ys.map (·.length)).sum+ys.length*a.length<=16777216/\Q (.str (Txt.join a ys)) H) to te):=
 Zq F.slot_str_join F.type_str_join Xv ho he hs hbase hline
end
section
variable{X:Cx}
end
end L2
namespace Att
open PySem PySem.W PySem.Calls PyProof.Rows
section
variable{prog:FU}{w:F0}{A:F4}{E:FO->FS->Prop}{s:FS}{K:Frag}
end
end Att
namespace L2
open PySem PySem.Spec PyProof.Rows
def KA(s:F6)(j:Nat):F6:=match s with
 |.ClassDef _ _ _ body _ _ _ _ _ _ _=>body.getD j (.Pass ⟨0,0,0,0⟩)
 |_=>.Pass ⟨0,0,0,0⟩
def Hz(s:F6):Arguments:=match s with
 |.FunctionDef _ a _ _ _ _ _ _ _ _=>a
 |_=>{ posonlyargs:=[],args:=[],vararg:=none,kwonlyargs:=[],kw_defaults:=[],kwarg:=none,defaults:=[] }
def G5(s:F6):List F6:=match s with
 |.FunctionDef _ _ b _ _ _ _ _ _ _=>b
 |_=>[]
def Gq(s:F6):Scope:=match s with
 |.FunctionDef _ _ _ _ _ _ sc _ _ _=>sc
 |_=>{ kind:=.function,names:=[],isGenerator:=false,isCoroutine:=false }
abbrev CX0:CXT:=fun _ _ _ _ _ _=>False
abbrev E0:XK:=fun _ _ _=>False
theorem Aaj{X:Cx}:Ix CX0 X E0:=fun _ _ _ _ _ _ _ h=>h.elim
structure Fun(K:Gh)(x qual:Str)(st:F6)(f:FP)(fd:FZ):Prop where
 ex:∃(oc:FO) (od:Option FP) (kV doc pm:FO) (an:Option FP) (cdv ct:FO) (osl:Array (Option FO)),
  fd=A5 x qual (Hz st) (G5 st) (Gq st) .none kV doc pm an cdv ct/\K.lookup f=some ⟨oc,od,.func fd,osl⟩/\Bf K cdv qual=true
 kp:AG K (.ref f)=true
section
variable{P:FU}{w:F0}{K:Gh}{mg:Str->Option FO}{base:Heap}
theorem Fun.ok{x qual:Str}{st:F6}{f:FP}{fd:FZ}{N ps:List Str}{k:Nat}{sp:Sp}(F:Fun K x qual st f fd)(S:FnScope N ps (Gq st))(len:∀vs H Q E,sp vs H Q E->vs.length=ps.length)
  (hbody:∀(cdv:FO) (A:F4) (outer:List Env) (s:FS) (H:Hp) (vs:List V) (Q:VK) (E:XK),Room k (A.deeper (envOfC qual (Gq st) s.heap.objs.size f cdv))->sp vs H Q E->
   ∃t,PSs (G7 CX0 P w K mg base N qual (Gq st) f cdv A outer s H E).nox (G5 st) t/\t { nx:=fun _ H'=>Q .non H',rt:=Q } (start N vs) H):FnOk P w K mg base CX0 (k+1) f fd ps sp:=by
 obtain⟨oc,od,kV,doc,pm,an,cdv,ct,osl,rfl,lk,hcd⟩:=F.ex;refine Ul lk hcd S len fun A outer s H vs Q E hr hsp=>?_;obtain⟨t,h,q⟩:=hbody cdv A outer s H vs Q E hr hsp;exact⟨t,h.nox,q⟩
theorem Fun.binds{x qual:Str}{st:F6}{f:FP}{fd:FZ}{ps:List Str}(F:Fun K x qual st f fd)
  (h:∀(kV doc pm:FO) (an:Option FP) (cdv ct:FO) (us:List FO),us.length=ps.length->bindArgs (A5 x qual (Hz st) (G5 st) (Gq st) .none kV doc pm an cdv ct) ⟨us,[]⟩=pure (ps.zip us)):Binds K fd ps []:=by
 obtain⟨oc,od,kV,doc,pm,an,cdv,ct,osl,rfl,lk,hcd⟩:=F.ex;exact .all (h kV doc pm an cdv ct)
theorem Ma{x qual:Str}{st:F6}{f:FP}{oc:FO}{od an:Option FP}{osl:Array (Option FO)}{kV doc pm cdv ct:FO}(l:K.lookup f=some ⟨oc,od,.func (A5 x qual (Hz st) (G5 st) (Gq st) .none kV doc pm an cdv ct),osl⟩)
  (c:Bf K cdv qual=true) (k:AG K (.ref f)=true):Fun K x qual st f (A5 x qual (Hz st) (G5 st) (Gq st) .none kV doc pm an cdv ct):=⟨⟨oc,od,kV,doc,pm,an,cdv,ct,osl,rfl,l,c⟩,k⟩
end
theorem Qb{A:F4}{k:Nat}(hr:Room k A):A.units+1<cLine:=Ar (Nat.add_le_add_left (by decide:1<=64) _) hr.units
theorem JJ{n:Nat}(h:n<=1000):n<FT:=Ar h (by decide)
section
variable{X:Cx}
theorem pv(i:Nat){x:Str}{pos:Pos}(hN:X.N[i]?=some x:=by rfl)(hv:Vis X.env.scope x:=by first | exact Or.inl rfl | exact Or.inr (Or.inl rfl) | exact Or.inr (Or.inr rfl))(hd:(x==("__debug__":Str))=false:=by decide)
  (hcd:(x==("__classdict__":Str))=false:=by decide):PE X (.Name x pos) (Hw i):=VA hN hv hd hcd
end
theorem Rc{A B:Prop}(h:B):if false=true then A else B:=by rw[Gi Ag];exact h
theorem Xd{A B:Prop}(h:A):if true=true then A else B:=by rw[Gj rfl];exact h
theorem GV{c A B:Prop}[Decidable c](h1:c->A)(h2:¬c->B):if c then A else B:=by
 by_cases h:c
 ·rw[Gj h];exact h1 h
 ·rw[Gi h];exact h2 h
def Same(H H':Hp):Prop:=∀b o,H b=some o->H' b=some o
theorem Same.refl(H:Hp):Same H H:=fun _ _ h=>h
theorem Same.trans{H H1 H2:Hp}(a:Same H H1)(b:Same H1 H2):Same H H2:=fun c o h=>b c o (a c o h)
theorem Same.free{H H':Hp}(e:Same H H'){l:FP}(h:H' l=Option.none):H l=Option.none:=by
 cases q:H l with
 |none=>rfl
 |some o=>rw[e l o q] at h;cases h
theorem Same.seq{K:Gh}{H H':Hp}{a:FP}{xs:List V}(e:Same H H')(h:SqL K H a xs):SqL K H' a xs:=by
 rcases h with (h | ⟨o,h⟩) | h
 ·exact .inl (.inl (e _ _ h))
 ·exact .inl (.inr ⟨o,e _ _ h⟩)
 ·exact .inr h
section
variable{κ:Type}[DecidableEq κ]
end
theorem Ie{xs:List V}{z:Int}{j:Nat}{v:V}(e:z=(j:Int))(h:xs[j]?=some v):atI xs z=some v:=by rw[e];exact ML h
theorem Same.made{H H1:Hp}{x dx C:FP}(nx:H x=Option.none)(nd:H dx=Option.none)(k:∀b o,(upd (upd H dx (.own x)) x (.ins C dx [])) b=some o->b≠x->H1 b=some o):Same H H1:=fun b o e=>k b o (by rw[Gr (Gs e nx),Gr (Gs e nd)];exact e) (Gs e nx)
end L2
namespace LuW
theorem K6{k x K B:Int}(hk:-K<=k/\k<=K)(hx:-B<=x/\x<=B):-(K*B)<=k*x/\k*x<=K*B:=by
 have e:(k*x).natAbs<=(K*B).natAbs:=by rw[Cc,Cc];exact Cu (by lia) (by lia)
 have hK:0<=K:=by lia
 have hB:0<=B:=by lia
 have hKB:0<=K*B:=Int.mul_nonneg hK hB
 lia
theorem tz{D al y0 y1 y2 y3 b0 b1 b2 b3 l0 l1 l2 l3 a b c e A B0 B1 B2 B3 s1:Int}
  (ha:-4752<=a/\a<=4752) (hb:-4752<=b/\b<=4752) (hc:-4752<=c/\c<=4752) (he:-4752<=e/\e<=4752)
  (hs:-s1<=a*l0+b*l1+c*l2+e*l3/\a*l0+b*l1+c*l2+e*l3<=s1)
  (h0:D*y0=al*l0+b0) (h1:D*y1=al*l1+b1) (h2:D*y2=al*l2+b2) (h3:D*y3=al*l3+b3)
  (k:-A<=al/\al<=A) (k0:-B0<=b0/\b0<=B0) (k1:-B1<=b1/\b1<=B1) (k2:-B2<=b2/\b2<=B2) (k3:-B3<=b3/\b3<=B3)
  (hD:A*s1+B0*4752+B1*4752+B2*4752+B3*4752<D):y0*a+y1*b+y2*c+y3*e=0:=by
 have p:=K6 k hs;have p0:=K6 k0 ha;have p1:=K6 k1 hb;have p2:=K6 k2 hc;have p3:=K6 k3 he;have id:D*(y0*a+y1*b+y2*c+y3*e)=al*(a*l0+b*l1+c*l2+e*l3)+b0*a+b1*b+b2*c+b3*e:=by
  have e0:D*y0*a=(al*l0+b0)*a:=by rw[h0]
  have e1:D*y1*b=(al*l1+b1)*b:=by rw[h1]
  have e2:D*y2*c=(al*l2+b2)*c:=by rw[h2]
  have e3:D*y3*e=(al*l3+b3)*e:=by rw[h3]
  clear p p0 p1 p2 p3 ha hb hc he hs h0 h1 h2 h3 k k0 k1 k2 k3 hD
  grind
 generalize y0*a+y1*b+y2*c+y3*e=t at *;have lo:-D<D*t:=by rw[id];lia
 have hi:D*t<D:=by rw[id];lia
 have hD0:0<D:=by lia
 have u:t<1:=by
  have:D*t<D*1:=by rw[Fa];exact hi
  exact Cj this (Ea hD0)
 have v:-1<t:=by
  have:D*(-1)<D*t:=by rw[Int.mul_neg,Fa];exact lo
  exact Cj this (Ea hD0)
 lia
theorem Xl{x0 x1 x2 x3 p0 p1 p2 p3 q0 q1 q2 q3 r0 r1 r2 r3 w0 w1 w2 w3 a b c e dd:Int}
  (hp:p0*a+p1*b+p2*c+p3*e=0) (hq:q0*a+q1*b+q2*c+q3*e=0) (hr:r0*a+r1*b+r2*c+r3*e=0) (hw:w0*a+w1*b+w2*c+w3*e=0)
  (h0:x0*p0+x1*q0+x2*r0+x3*w0=dd) (h1:x0*p1+x1*q1+x2*r1+x3*w1=0) (h2:x0*p2+x1*q2+x2*r2+x3*w2=0) (h3:x0*p3+x1*q3+x2*r3+x3*w3=0)
  (hd:dd≠0):a=0:=by
 have e:dd*a=x0*(p0*a+p1*b+p2*c+p3*e)+x1*(q0*a+q1*b+q2*c+q3*e)+x2*(r0*a+r1*b+r2*c+r3*e)+x3*(w0*a+w1*b+w2*c+w3*e)
  -(x0*p1+x1*q1+x2*r1+x3*w1)*b-(x0*p2+x1*q2+x2*r2+x3*w2)*c-(x0*p3+x1*q3+x2*r3+x3*w3)*e:=by
  rw[<-h0];clear hp hq hr hw h0 h1 h2 h3 hd
  grind
 rw[hp,hq,hr,hw,h1,h2,h3] at e;have e':dd*a=0:=by rw[e];simp
 exact(Int.mul_eq_zero.mp e').resolve_left hd
theorem lat{a b c e:Int}(ha:-4752<=a/\a<=4752)(hb:-4752<=b/\b<=4752)(hc:-4752<=c/\c<=4752)(he:-4752<=e/\e<=4752)(hs:-38020<=a*6931471805599453094172321214581765680755+b*10986122886681096913952452369225257046474+c*16094379124341003746007593332261876395256+e*19459101490553133051053527434431797296370/\a*6931471805599453094172321214581765680755+b*10986122886681096913952452369225257046474+c*16094379124341003746007593332261876395256+e*19459101490553133051053527434431797296370<=38020):a=0/\b=0/\c=0/\e=0:=by
 have t0:=tz (D:=10000000000000000000000000000000000000000) (al:=(-63720680927057970)) (y0:=(-44167810327950114)) (y1:=(-70004323108765522)) (y2:=(-102554479690123575)) (y3:=(-123994719720677434)) (b0:=27963565186960156477604416398367350) (b1:=69495056669622111772152552382097780) (b2:=99652831387781173891733456944990320) (b3:=(-232812029760957949491963375739431100)) (A:=63720680927057970) (B0:=27963565186960156477604416398367350) (B1:=69495056669622111772152552382097780) (B2:=99652831387781173891733456944990320) (B3:=232812029760957949491963375739431100) ha hb hc he hs (by decide) (by decide) (by decide) (by decide) (by decide) (by decide) (by decide) (by decide) (by decide) (by decide);have t1:=tz (D:=10000000000000000000000000000000000000000) (al:=112691812246240216) (y0:=78112011930672123) (y1:=123804609765998875) (y2:=181370475050004441) (y3:=219288141165394680) (b0:=(-4857308120713823690808950498243080)) (b1:=193233459727462139337681332720201616) (b2:=(-3078445427829277751056005138815296)) (b3:=(-35957545990050761047925966364815920)) (A:=112691812246240216) (B0:=4857308120713823690808950498243080) (B1:=193233459727462139337681332720201616) (B2:=3078445427829277751056005138815296) (B3:=35957545990050761047925966364815920) ha hb hc he hs (by decide) (by decide) (by decide) (by decide) (by decide) (by decide) (by decide) (by decide) (by decide) (by decide);have t2:=tz (D:=10000000000000000000000000000000000000000) (al:=(-27754744355070134)) (y0:=(-19238122796878921)) (y1:=(-30491703217321898)) (y2:=(-44669537814966208)) (y3:=(-54008238724966640)) (b0:=180427670966686289931045942279071170) (b1:=264240184124220028511468331967407516) (b2:=44636782453449813704069218984884304) (b3:=230270797036146737015959162933613580) (A:=27754744355070134) (B0:=180427670966686289931045942279071170) (B1:=264240184124220028511468331967407516) (B2:=44636782453449813704069218984884304) (B3:=230270797036146737015959162933613580) ha hb hc he hs (by decide) (by decide) (by decide) (by decide) (by decide) (by decide) (by decide) (by decide) (by decide) (by decide);have t3:=tz (D:=10000000000000000000000000000000000000000) (al:=(-121789898821833505)) (y0:=(-84418324989034899)) (y1:=(-133799879481312023)) (y2:=(-196013280515372017)) (y3:=(-236992200169825562)) (b0:=(-491442386116827315358388506407303725)) (b1:=227644936029728659796852681675311370) (b2:=(-119377038795779665756620321996147720)) (b3:=243622858314674734319725785280876850) (A:=121789898821833505) (B0:=491442386116827315358388506407303725) (B1:=227644936029728659796852681675311370) (B2:=119377038795779665756620321996147720) (B3:=243622858314674734319725785280876850) ha hb hc he hs (by decide) (by decide) (by decide) (by decide) (by decide) (by decide) (by decide) (by decide) (by decide) (by decide);clear ha hb hc he hs;have u00:(-44167810327950114)*a+(-70004323108765522)*b+(-102554479690123575)*c+(-123994719720677434)*e=0:=Eq.trans (by ac_rfl) t0;have u01:78112011930672123*a+123804609765998875*b+181370475050004441*c+219288141165394680*e=0:=Eq.trans (by ac_rfl) t1
 have u02:(-19238122796878921)*a+(-30491703217321898)*b+(-44669537814966208)*c+(-54008238724966640)*e=0:=Eq.trans (by ac_rfl) t2;have u03:(-84418324989034899)*a+(-133799879481312023)*b+(-196013280515372017)*c+(-236992200169825562)*e=0:=Eq.trans (by ac_rfl) t3;have r0:=Xl (dd:=16754) (x0:=(-21670836)) (x1:=(-150473160)) (x2:=422236642) (x3:=(-224117788)) u00 u01 u02 u03 (by decide) (by decide) (by decide) (by decide) (by decide);have u10:(-70004323108765522)*b+(-44167810327950114)*a+(-102554479690123575)*c+(-123994719720677434)*e=0:=Eq.trans (by ac_rfl) t0;have u11:123804609765998875*b+78112011930672123*a+181370475050004441*c+219288141165394680*e=0:=Eq.trans (by ac_rfl) t1;have u12:(-30491703217321898)*b+(-19238122796878921)*a+(-44669537814966208)*c+(-54008238724966640)*e=0:=Eq.trans (by ac_rfl) t2;have u13:(-133799879481312023)*b+(-84418324989034899)*a+(-196013280515372017)*c+(-236992200169825562)*e=0:=Eq.trans (by ac_rfl) t3;have r1:=Xl (dd:=16754) (x0:=238219554) (x1:=322200716) (x2:=309937014) (x3:=102862782) u10 u11 u12 u13 (by decide) (by decide) (by decide) (by decide) (by decide);have u20:(-102554479690123575)*c+(-44167810327950114)*a+(-70004323108765522)*b+(-123994719720677434)*e=0:=Eq.trans (by ac_rfl) t0;have u21:181370475050004441*c+78112011930672123*a+123804609765998875*b+219288141165394680*e=0:=Eq.trans (by ac_rfl) t1;have u22:(-44669537814966208)*c+(-19238122796878921)*a+(-30491703217321898)*b+(-54008238724966640)*e=0:=Eq.trans (by ac_rfl) t2;have u23:(-196013280515372017)*c+(-84418324989034899)*a+(-133799879481312023)*b+(-236992200169825562)*e=0:=Eq.trans (by ac_rfl) t3;have r2:=Xl (dd:=16754) (x0:=303988918) (x1:=27508014) (x2:=(-483007656)) (x3:=(-23521646)) u20 u21 u22 u23 (by decide) (by decide) (by decide) (by decide) (by decide);have u30:(-123994719720677434)*e+(-44167810327950114)*a+(-70004323108765522)*b+(-102554479690123575)*c=0:=Eq.trans (by ac_rfl) t0;have u31:219288141165394680*e+78112011930672123*a+123804609765998875*b+181370475050004441*c=0:=Eq.trans (by ac_rfl) t1;have u32:(-54008238724966640)*e+(-19238122796878921)*a+(-30491703217321898)*b+(-44669537814966208)*c=0:=Eq.trans (by ac_rfl) t2;have u33:(-236992200169825562)*e+(-84418324989034899)*a+(-133799879481312023)*b+(-196013280515372017)*c=0:=Eq.trans (by ac_rfl) t3;have r3:=Xl (dd:=16754) (x0:=(-378198932)) (x1:=(-151058393)) (x2:=74103156) (x3:=41213067) u30 u31 u32 u33 (by decide) (by decide) (by decide) (by decide) (by decide);exact⟨r0,r1,r2,r3⟩
def upS(R M B:Nat)(b:Bool):Nat:=if b then (B*B / R+1)*(M+1) / M+1 else B*B / R+1
def dnS(R M B:Nat)(b:Bool):Nat:=if b then (B*B / R)*(M+1) / M else B*B / R
def nS(n:Nat)(b:Bool):Nat:=if b then 2*n+1 else 2*n
theorem MN(x n:Nat):x ^ (2*n)=x ^ n*x ^ n:=by rw[Nat.two_mul,Bq]
theorem Xa{R M B n:Nat}(hR:0<R)(hM:0<M)(b:Bool)(h:R*(M+1) ^ n<=B*M ^ n):R*(M+1) ^ (nS n b)<=upS R M B b*M ^ (nS n b):=by
 have sq:R*(M+1) ^ (2*n)<=(B*B / R+1)*M ^ (2*n):=by
  rw[MN,MN];have h2:=Cu h h;have h3:B*B<=R*(B*B / R+1):=by
   have:=Fh (B*B) hR
   lia
  refine Ch ?_ hR;generalize (M+1) ^ n=x at *;generalize M ^ n=y at *
  calc R*(R*(x*x))=R*x*(R*x):=by ac_rfl
   _<=B*y*(B*y):=h2
   _=B*B*(y*y):=by ac_rfl
   _<=R*(B*B / R+1)*(y*y):=Bi _ h3
   _=R*((B*B / R+1)*(y*y)):=by ac_rfl
 cases b with
 |false=>exact sq
 |true=>
  show R*(M+1) ^ (2*n+1)<=((B*B / R+1)*(M+1) / M+1)*M ^ (2*n+1);generalize B*B / R+1=q at *;have h3:q*(M+1)<=M*(q*(M+1) / M+1):=by
   have:=Fh (q*(M+1)) hM
   lia
  rw[CP,CP];generalize (M+1) ^ (2*n)=x at *;generalize M ^ (2*n)=y at *
  calc R*(x*(M+1))=R*x*(M+1):=by ac_rfl
   _<=q*y*(M+1):=Bi _ sq
   _=q*(M+1)*y:=by ac_rfl
   _<=M*(q*(M+1) / M+1)*y:=Bi _ h3
   _=(q*(M+1) / M+1)*(y*M):=by ac_rfl
theorem Wq{R M B n:Nat}(hR:0<R)(b:Bool)(h:B*M ^ n<=R*(M+1) ^ n):dnS R M B b*M ^ (nS n b)<=R*(M+1) ^ (nS n b):=by
 have sq:B*B / R*M ^ (2*n)<=R*(M+1) ^ (2*n):=by
  rw[MN,MN];have h2:=Cu h h;have h3:R*(B*B / R)<=B*B:=FL _ _;refine Ch ?_ hR;generalize (M+1) ^ n=x at *;generalize M ^ n=y at *
  calc R*(B*B / R*(y*y))=R*(B*B / R)*(y*y):=by ac_rfl
   _<=B*B*(y*y):=Bi _ h3
   _=B*y*(B*y):=by ac_rfl
   _<=R*x*(R*x):=h2
   _=R*(R*(x*x)):=by ac_rfl
 cases b with
 |false=>exact sq
 |true=>
  show B*B / R*(M+1) / M*M ^ (2*n+1)<=R*(M+1) ^ (2*n+1);generalize B*B / R=q at *;have h3:M*(q*(M+1) / M)<=q*(M+1):=FL _ _;rw[CP,CP];generalize (M+1) ^ (2*n)=x at *;generalize M ^ (2*n)=y at *
  calc q*(M+1) / M*(y*M)=M*(q*(M+1) / M)*y:=by ac_rfl
   _<=q*(M+1)*y:=Bi _ h3
   _=q*y*(M+1):=by ac_rfl
   _<=R*x*(M+1):=Bi _ sq
   _=R*(x*(M+1)):=by ac_rfl
theorem Vk{R M:Nat}(hR:0<R)(hM:0<M):∀(bs:List Bool) {B n:Nat},R*(M+1) ^ n<=B*M ^ n->R*(M+1) ^ (bs.foldl nS n)<=bs.foldl (upS R M) B*M ^ (bs.foldl nS n)
 |[],_,_,h=>h
 |b::r,_,_,h=>Vk hR hM r (Xa hR hM b h)
theorem UU{R M:Nat}(hR:0<R):∀(bs:List Bool) {B n:Nat},B*M ^ n<=R*(M+1) ^ n->bs.foldl (dnS R M) B*M ^ (bs.foldl nS n)<=R*(M+1) ^ (bs.foldl nS n)
 |[],_,_,h=>h
 |b::r,_,_,h=>UU hR r (Wq hR b h)
theorem MI{R M p n:Nat}(hR:0<R)(hM:0<M)(bs:List Bool)(hn:bs.foldl nS 0=n)(h:bs.foldl (upS R M) R<=p*R):(M+1) ^ n<=p*M ^ n:=by
 have q:=Vk hR hM bs (B:=R) (n:=0) (by simp);rw[hn] at q;refine Ch ?_ hR
 calc R*(M+1) ^ n<=bs.foldl (upS R M) R*M ^ n:=q
  _<=p*R*M ^ n:=Bi _ h
  _=R*(p*M ^ n):=by ac_rfl
theorem MG{R M p n:Nat}(hR:0<R)(bs:List Bool)(hn:bs.foldl nS 0=n)(h:p*R<=bs.foldl (dnS R M) R):p*M ^ n<=(M+1) ^ n:=by
 have q:=UU (M:=M) hR bs (B:=R) (n:=0) (by simp);rw[hn] at q;refine Ch ?_ hR
 calc R*(p*M ^ n)=p*R*M ^ n:=by ac_rfl
  _<=bs.foldl (dnS R M) R*M ^ n:=Bi _ h
  _<=R*(M+1) ^ n:=q
def MM:Nat:=10 ^ 40
def RR:Nat:=10 ^ 100
theorem M4:0<MM:=by decide +kernel
theorem Kk:0<RR:=by decide +kernel
def OX:Nat->Nat->List Bool->List Bool
 |0,_,acc=>acc
 |f+1,n,acc=>if n=0 then acc else OX f (n / 2) ((n % 2==1)::acc)
def n2:Nat:=6931471805599453094172321214581765680755
theorem lo2:(MM+1) ^ n2<=2*MM ^ n2:=MI Kk M4 (OX 200 n2 []) (by decide +kernel) (by decide +kernel)
theorem hi2:2*MM ^ (n2+2)<=(MM+1) ^ (n2+2):=MG Kk (OX 200 (n2+2) []) (by decide +kernel) (by decide +kernel)
def n3:Nat:=10986122886681096913952452369225257046474
theorem lo3:(MM+1) ^ n3<=3*MM ^ n3:=MI Kk M4 (OX 200 n3 []) (by decide +kernel) (by decide +kernel)
theorem hi3:3*MM ^ (n3+2)<=(MM+1) ^ (n3+2):=MG Kk (OX 200 (n3+2) []) (by decide +kernel) (by decide +kernel)
def n5:Nat:=16094379124341003746007593332261876395256
theorem lo5:(MM+1) ^ n5<=5*MM ^ n5:=MI Kk M4 (OX 200 n5 []) (by decide +kernel) (by decide +kernel)
theorem hi5:5*MM ^ (n5+2)<=(MM+1) ^ (n5+2):=MG Kk (OX 200 (n5+2) []) (by decide +kernel) (by decide +kernel)
def n7:Nat:=19459101490553133051053527434431797296370
theorem lo7:(MM+1) ^ n7<=7*MM ^ n7:=MI Kk M4 (OX 200 n7 []) (by decide +kernel) (by decide +kernel)
theorem hi7:7*MM ^ (n7+2)<=(MM+1) ^ (n7+2):=MG Kk (OX 200 (n7+2) []) (by decide +kernel) (by decide +kernel)
def lin(x y z t:Nat):Nat:=n2*x+n3*y+n5*z+n7*t
def prd(x y z t:Nat):Nat:=2 ^ x*3 ^ y*5 ^ z*7 ^ t
theorem PK{M p n:Nat}(h:(M+1) ^ n<=p*M ^ n)(x:Nat):(M+1) ^ (n*x)<=p ^ x*M ^ (n*x):=by rw[Ej,Ej,<-Nat.mul_pow];exact Fg h x
theorem OY{M p n:Nat}(h:p*M ^ n<=(M+1) ^ n)(x:Nat):p ^ x*M ^ (n*x)<=(M+1) ^ (n*x):=by rw[Ej,Ej,<-Nat.mul_pow];exact Fg h x
theorem Ry{a b u v w z:Nat}(h:a<=u*w)(k:b<=v*z):a*b<=(u*v)*(w*z):=by
 refine Ak (Cu h k) (CQ ?_)
 ac_rfl
theorem Rz{a b u v w z:Nat}(h:u*w<=a)(k:v*z<=b):(u*v)*(w*z)<=a*b:=by
 refine Ak (CQ ?_) (Cu h k)
 ac_rfl
theorem YH(x y z t:Nat):(MM+1) ^ lin x y z t<=prd x y z t*MM ^ lin x y z t:=by unfold lin prd;rw[Bq,Bq,Bq,Bq,Bq,Bq];exact Ry (Ry (Ry (PK lo2 x) (PK lo3 y)) (PK lo5 z)) (PK lo7 t)
theorem YX(x y z t:Nat):prd x y z t*MM ^ (lin x y z t+2*(x+y+z+t))<=(MM+1) ^ (lin x y z t+2*(x+y+z+t)):=by
 have e:lin x y z t+2*(x+y+z+t)=(n2+2)*x+(n3+2)*y+(n5+2)*z+(n7+2)*t:=by
  unfold lin;simp only[Nat.add_mul,Nat.mul_add]
  lia
 rw[e];unfold prd;rw[Bq,Bq,Bq,Bq,Bq,Bq];exact Rz (Rz (Rz (OY hi2 x) (OY hi3 y)) (OY hi5 z)) (OY hi7 t)
theorem Aav{M A B U V:Nat}(hM:0<M)(hA:(M+1) ^ U<=A*M ^ U)(hB:B*M ^ V<=(M+1) ^ V)(h:V<U):B<A:=by obtain⟨k,rfl⟩:∃k,U=V+(k+1):=⟨U-V-1,by lia⟩;have p1:M ^ (k+1)<(M+1) ^ (k+1):=Nat.pow_lt_pow_left (by lia) (by lia);have p2:0<(M+1) ^ V:=Nat.pow_pos (by lia);have p3:B*M ^ V*M ^ (k+1)<=(M+1) ^ V*M ^ (k+1):=Bi _ hB;have p4:(M+1) ^ V*M ^ (k+1)<(M+1) ^ V*(M+1) ^ (k+1):=Nat.mul_lt_mul_of_pos_left p1 p2;rw[<-Bq] at p4;have p5:=Ap (Ar p3 p4) hA;rw[Nat.mul_assoc,<-Bq] at p5;exact Nat.lt_of_mul_lt_mul_right p5
theorem Um{x y z t x' y' z' t':Nat}(h:lin x y z t+2*(x+y+z+t)<lin x' y' z' t'):prd x y z t<prd x' y' z' t':=Aav M4 (YH x' y' z' t') (YX x y z t) h
def dot(a b c e:Int):Int:=a*6931471805599453094172321214581765680755+b*10986122886681096913952452369225257046474+c*16094379124341003746007593332261876395256+e*19459101490553133051053527434431797296370
theorem Xe(a b c e:Int):dot a b c e=(lin a.toNat b.toNat c.toNat e.toNat:Int)-(lin (-a).toNat (-b).toNat (-c).toNat (-e).toNat:Int):=by
 have h:∀(n:Nat) (z:Int),z*(n:Int)=((n*z.toNat:Nat):Int)-((n*(-z).toNat:Nat):Int):=by
  intro n z;rw[B5,B5,<-Int.mul_sub,Int.mul_comm];congr 1
  lia
 have h2:=h n2 a;have h3:=h n3 b;have h5:=h n5 c;have h7:=h n7 e;unfold dot lin;have e2:(6931471805599453094172321214581765680755:Int)=(n2:Int):=by decide +kernel
 have e3:(10986122886681096913952452369225257046474:Int)=(n3:Int):=by decide +kernel
 have e5:(16094379124341003746007593332261876395256:Int)=(n5:Int):=by decide +kernel
 have e7:(19459101490553133051053527434431797296370:Int)=(n7:Int):=by decide +kernel
 rw[e2,e3,e5,e7,h2,h3,h5,h7];simp only[Int.natCast_add]
 lia
theorem Ts{a b c e:Int}(ha:-4752<=a/\a<=4752)(hb:-4752<=b/\b<=4752)(hc:-4752<=c/\c<=4752)(he:-4752<=e/\e<=4752):
  prd a.toNat b.toNat c.toNat e.toNat<prd (-a).toNat (-b).toNat (-c).toNat (-e).toNat↔dot a b c e<0:=by
 have hd:=Xe a b c e;by_cases hs:-38020<=dot a b c e/\dot a b c e<=38020
 ·obtain⟨r1,r2,r3,r4⟩:=lat ha hb hc he hs;subst r1 r2 r3 r4;constructor
  ·intro h;exact absurd h (Bk _)
  ·intro h;exact absurd h (by decide +kernel)
 ·constructor
  ·intro h;by_cases hn:dot a b c e<0
   ·exact hn
   ·have:=Um (x:=(-a).toNat) (y:=(-b).toNat) (z:=(-c).toNat) (t:=(-e).toNat) (x':=a.toNat) (y':=b.toNat) (z':=c.toNat) (t':=e.toNat) (by lia)
    lia
  ·intro h;exact Um (by lia)
open Lute
theorem HV{x:Iv}(h:x.ok=true):(-99<=x.a/\x.a<=99)/\(-99<=x.b/\x.b<=99)/\(-99<=x.c/\x.c<=99)/\(-99<=x.e/\x.e<=99)/\1<=x.d/\x.d<=24/\x.common=1:=by
 unfold Iv.ok within MOST PARTS at h;simp only[Av,decide_eq_true_eq,beq_iff_eq] at h
 lia
def width(x:Iv):Int:=dot x.a x.b x.c x.e*(5354228880 / (x.d:Int))
theorem S7(g a b c e:Int):dot (g*a) (g*b) (g*c) (g*e)=g*dot a b c e:=by unfold dot;simp only[Int.mul_add,Int.mul_assoc]
theorem Wr(q p a b c e a' b' c' e':Int):dot (a*q+-a'*p) (b*q+-b'*p) (c*q+-c'*p) (e*q+-e'*p)=q*dot a b c e-p*dot a' b' c' e':=by
 unfold dot
 grind
theorem Pg{z g B:Int}(hg:0<g)(hz:-B<=z/\z<=B)(hd:g∣z):-B<=z / g/\z / g<=B:=by
 obtain⟨k,rfl⟩:=hd;rw[De _ (Int.ne_of_gt hg)];have e:(g*k).natAbs=g.natAbs*k.natAbs:=Cc g k;have:k.natAbs<=g.natAbs*k.natAbs:=EM _ (by lia)
 lia
theorem Rn{x y:Iv}(hx:x.ok=true)(hy:y.ok=true):x.lt y=true↔(y.d:Int)*dot x.a x.b x.c x.e-(x.d:Int)*dot y.a y.b y.c y.e<0:=by
 obtain⟨xa,xb,xc,xe,x1,x2,_⟩:=HV hx;obtain⟨ya,yb,yc,ye,y1,y2,_⟩:=HV hy;have bd:∀{u v:Int},(-99<=u/\u<=99)->(-99<=v/\v<=99)->-4752<=u*(y.d:Int)+-v*(x.d:Int)/\u*(y.d:Int)+-v*(x.d:Int)<=4752:=by
  intro u v hu hv;have p:=K6 (k:=u) (x:=(y.d:Int)) (K:=99) (B:=24) hu (by lia);have q:=K6 (k:=-v) (x:=(x.d:Int)) (K:=99) (B:=24) (by lia) (by lia)
  lia
 have ba:=bd xa ya;have bb:=bd xb yb;have bc:=bd xc yc;have be:=bd xe ye;rw[<-Wr];unfold Iv.lt Iv.less Iv.plus Iv.back Iv.low Iv.down Iv.above Iv.below Iv.back Iv.common;rw[decide_eq_true_iff];dsimp only;generalize x.a*(y.d:Int)+-y.a*(x.d:Int)=a at *;generalize x.b*(y.d:Int)+-y.b*(x.d:Int)=b at *;generalize x.c*(y.d:Int)+-y.c*(x.d:Int)=c at *;generalize x.e*(y.d:Int)+-y.e*(x.d:Int)=e at *;have hg0:0<AN (x.d*y.d) (AN a.natAbs (AN b.natAbs (AN c.natAbs e.natAbs))):=EI _ (E4 x1 y1);generalize hg:AN (x.d*y.d) (AN a.natAbs (AN b.natAbs (AN c.natAbs e.natAbs)))=g at *;have d1:g∣AN a.natAbs (AN b.natAbs (AN c.natAbs e.natAbs)):=hg ▸ Bm _ _;have da:g∣a.natAbs:=AW d1 (BA _ _);have d2:=AW d1 (Bm _ _);have db:g∣b.natAbs:=AW d2 (BA _ _);have d3:=AW d2 (Bm _ _);have dc:g∣c.natAbs:=AW d3 (BA _ _);have de:g∣e.natAbs:=AW d3 (Bm _ _);have gz:(0:Int)<(g:Int):=by lia
 have za:(g:Int)∣a:=Cy.mp (by rw[Bo];exact da);have zb:(g:Int)∣b:=Cy.mp (by rw[Bo];exact db);have zc:(g:Int)∣c:=Cy.mp (by rw[Bo];exact dc);have ze:(g:Int)∣e:=Cy.mp (by rw[Bo];exact de);have core:=Ts (Pg gz ba za) (Pg gz bb zb) (Pg gz bc zc) (Pg gz be ze);refine Iff.trans core ?_;have ea:=Cd za;have eb:=Cd zb;have ec:=Cd zc;have ee:=Cd ze;have sc:=S7 (g:Int) (a / g) (b / g) (c / g) (e / g);rw[ea,eb,ec,ee] at sc;rw[sc];constructor
 ·intro h;exact Int.mul_neg_of_pos_of_neg gz h
 ·intro h;exact Cj (by rw[Int.mul_zero];exact h) (Ea gz)
theorem OA{d:Nat}(h1:1<=d)(h2:d<=24):(d:Int)*(5354228880 / (d:Int))=5354228880:=by
 have:∀n:Fin 25,n.val=0\/(n.val:Int)*(5354228880 / (n.val:Int))=5354228880:=by decide +kernel
 rcases this ⟨d,by lia⟩ with h | h
 ·simp at h;lia
 ·exact h
theorem Qa{x y:Iv}(hx:x.ok=true)(hy:y.ok=true):x.lt y=decide (width x<width y):=by
 obtain⟨_,_,_,_,x1,x2,_⟩:=HV hx;obtain⟨_,_,_,_,y1,y2,_⟩:=HV hy;have key:=Rn hx hy;have ex:=OA x1 x2;have ey:=OA y1 y2;have goal:x.lt y=true↔width x<width y:=by
  rw[key];unfold width;generalize dot x.a x.b x.c x.e=u at *;generalize dot y.a y.b y.c y.e=v at *;generalize 5354228880 / (x.d:Int)=cx at *;generalize 5354228880 / (y.d:Int)=cy at *;have px:(0:Int)<(x.d:Int):=by lia
  have py:(0:Int)<(y.d:Int):=by lia
  generalize (x.d:Int)=p at *;generalize (y.d:Int)=q at *;have e1:p*q*(u*cx)=5354228880*(q*u):=by rw[<-ex];ac_rfl
  have e2:p*q*(v*cy)=5354228880*(p*v):=by rw[<-ey];ac_rfl
  have pq:0<p*q:=Int.mul_pos px py;constructor
  ·intro h;have h':5354228880*(q*u)<5354228880*(p*v):=by lia
   rw[<-e1,<-e2] at h';exact Cj h' (Ea pq)
  ·intro h;have h':=Int.mul_lt_mul_of_pos_left h pq;rw[e1,e2] at h'
   lia
 by_cases h:width x<width y
 ·rw[decide_eq_true h];exact goal.mpr h
 ·rw[decide_eq_false h];cases q:x.lt y with
  |false=>rfl
  |true=>exact absurd (goal.mp q) h
theorem KR(x:Iv):x.common∣x.d/\x.common∣x.a.natAbs/\x.common∣x.b.natAbs/\x.common∣x.c.natAbs/\x.common∣x.e.natAbs:=by unfold Iv.common;have d1:=Bm x.d (AN x.a.natAbs (AN x.b.natAbs (AN x.c.natAbs x.e.natAbs)));have d2:=AW d1 (Bm _ _);have d3:=AW d2 (Bm _ _);exact⟨BA _ _,AW d1 (BA _ _),AW d2 (BA _ _),AW d3 (BA _ _),AW d3 (Bm _ _)⟩
theorem LD(h:Nat)(a b c e:Int)(d:Nat):(⟨h*a,h*b,h*c,h*e,h*d⟩:Iv).common=h*(⟨a,b,c,e,d⟩:Iv).common:=by unfold Iv.common;simp only[Cc,Bo,BS]
theorem TU{h:Nat}{a b c e:Int}{d:Nat}(hh:0<h)(h1:(⟨a,b,c,e,d⟩:Iv).common=1):(⟨h*a,h*b,h*c,h*e,h*d⟩:Iv).low=⟨a,b,c,e,d⟩:=by
 unfold Iv.low;rw[LD,h1,DK];have hz:(h:Int)≠0:=by lia
 simp only[De _ hz,Br _ hh]
theorem QF{h u v d:Nat}{a b c e A B C E n:Int}(hc:(⟨a,b,c,e,h*u⟩:Iv).common=1)(hd:d=h*v)(hn:AN n.natAbs d=1)(huv:AN u v=1)
  (hA:A=a*v\/A=n*u/\a=0) (hB:B=b*v\/B=n*u/\b=0) (hC:C=c*v\/C=n*u/\c=0) (hE:E=e*v\/E=n*u/\e=0)
  (hk:A=n*u\/B=n*u\/C=n*u\/E=n*u):(⟨A,B,C,E,h*u*v⟩:Iv).common=1:=by
 generalize hg:(⟨A,B,C,E,h*u*v⟩:Iv).common=g;obtain⟨gd,ga,gb,gc,ge⟩:=KR ⟨A,B,C,E,h*u*v⟩;rw[hg] at gd ga gb gc ge;dsimp only at gd ga gb gc ge;have toV:∀{z Z:Int},(Z=z*v\/Z=n*u/\z=0)->g∣Z.natAbs->g∣v*z.natAbs:=by
  intro z Z hz gz;rcases hz with e | ⟨_,e⟩
  ·rw[e,Cc,Bo,Do] at gz;exact gz
  ·rw[e];exact Nat.dvd_zero _
 have gv:g∣v:=by
  have q:g∣v*(⟨a,b,c,e,h*u⟩:Iv).common:=by unfold Iv.common;rw[<-BS,<-BS,<-BS,<-BS];refine Da ?_ (Da (toV hA ga) (Da (toV hB gb) (Da (toV hC gc) (toV hE ge))));rw[Do];exact gd
  rw[hc,DK] at q;exact q
 have gn:g∣u*n.natAbs:=by
  have nn:(n*(u:Int)).natAbs=u*n.natAbs:=by rw[Cc,Bo,Do]
  rw[<-nn];rcases hk with q | q | q | q
  ·rw[<-q];exact ga
  ·rw[<-q];exact gb
  ·rw[<-q];exact gc
  ·rw[<-q];exact ge
 have gu:g∣u:=by
  have q:g∣u*AN n.natAbs d:=by
   rw[<-BS];refine Da gn ?_;rw[hd];have:u*(h*v)=h*u*v:=by ac_rfl
   rw[this];exact gd
  rw[hn,DK] at q;exact q
 have q:=Da gu gv;rw[huv] at q;exact Nat.dvd_one.mp q
structure Added(x:Iv)(k:Nat)(n:Int)(d:Nat)(y:Iv):Prop where
 pd:y.d=Bw x.d d
 pa:y.a=if k=0 then n*((Bw x.d d / d:Nat):Int) else x.a*((Bw x.d d / x.d:Nat):Int)
 pb:y.b=if k=1 then n*((Bw x.d d / d:Nat):Int) else x.b*((Bw x.d d / x.d:Nat):Int)
 pc:y.c=if k=2 then n*((Bw x.d d / d:Nat):Int) else x.c*((Bw x.d d / x.d:Nat):Int)
 pe:y.e=if k=3 then n*((Bw x.d d / d:Nat):Int) else x.e*((Bw x.d d / x.d:Nat):Int)
 plow:y.common=1
theorem Z5{x:Iv}{k:Nat}{n:Int}{d:Nat}(hx:x.common=1)(hx0:1<=x.d)(hd0:1<=d)(hn:AN n.natAbs d=1)(hk:k<4)
  (h0:k=0->x.a=0) (h1:k=1->x.b=0) (h2:k=2->x.c=0) (h3:k=3->x.e=0):Added x k n d (x.plus (powerOf k n d)):=by
 obtain⟨a,b,c,e,D⟩:=x;dsimp only at *;have hg0:0<AN D d:=EI _ hx0;obtain⟨u,hu⟩:AN D d∣D:=BA _ _;obtain⟨v,hv⟩:AN D d∣d:=Bm _ _;generalize hh:AN D d=h at *;have huv:AN u v=1:=by
  have q:h*AN u v=h*1:=by rw[<-BS,<-hu,<-hv,hh,DK]
  exact Eu hg0 q
 have hu0:0<u:=Fp fun z=>by rw[z,Nat.mul_zero] at hu;lia
 have hv0:0<v:=Fp fun z=>by rw[z,Nat.mul_zero] at hv;lia
 have hl:Bw D d=h*u*v:=by
  unfold Bw;rw[hh]
  conv=>lhs;lhs;rw[hu,hv]
  have:h*u*(h*v)=h*(h*u*v):=by ac_rfl
  rw[this,Br _ hg0]
 have l1:Bw D d / d=u:=by
  rw[hl];have:h*u*v=d*u:=by rw[hv];ac_rfl
  rw[this,Br _ hd0]
 have l2:Bw D d / D=v:=by
  rw[hl];have:h*u*v=D*v:=by rw[hu]
  rw[this,Br _ hx0]
 have main:∀{A B C E:Int},(A=a*v\/A=n*u/\a=0)->(B=b*v\/B=n*u/\b=0)->(C=c*v\/C=n*u/\c=0)->(E=e*v\/E=n*u/\e=0)->
   (A=n*u\/B=n*u\/C=n*u\/E=n*u)->(⟨h*A,h*B,h*C,h*E,h*(h*u*v)⟩:Iv).low=⟨A,B,C,E,h*u*v⟩/\(⟨A,B,C,E,h*u*v⟩:Iv).common=1:=by
  intro A B C E hA hB hC hE hk';have q:=QF (h:=h) (u:=u) (v:=v) (d:=d) (a:=a) (b:=b) (c:=c) (e:=e) (by rw[<-hu];exact hx) hv hn huv hA hB hC hE hk';exact⟨TU hg0 q,q⟩
 have dd:D*d=h*(h*u*v):=by
  conv=>lhs;rw[hu,hv]
  ac_rfl
 have zd:(d:Int)=(h:Int)*(v:Int):=by rw[<-B5,<-hv]
 have zD:(D:Int)=(h:Int)*(u:Int):=by rw[<-B5,<-hu]
 have eo:∀z:Int,z*(d:Int)+0*(D:Int)=(h:Int)*(z*(v:Int)):=by
  intro z;rw[zd];simp only[Int.zero_mul,Int.add_zero]
  ac_rfl
 have ek:∀z:Int,z=0->z*(d:Int)+n*(D:Int)=(h:Int)*(n*(u:Int)):=by
  intro z hz;rw[hz,zD];simp only[Int.zero_mul,D9]
  ac_rfl
 unfold Iv.plus powerOf;have hk4:k=0\/k=1\/k=2\/k=3:=by lia
 rcases hk4 with rfl | rfl | rfl | rfl
 ·obtain⟨m1,m2⟩:=main (A:=n*u) (B:=b*v) (C:=c*v) (E:=e*v) (.inr ⟨rfl,h0 rfl⟩) (.inl rfl) (.inl rfl) (.inl rfl) (.inl rfl);show Added _ _ _ _ (Iv.low ⟨a*(d:Int)+n*(D:Int),b*(d:Int)+0*(D:Int),c*(d:Int)+0*(D:Int),e*(d:Int)+0*(D:Int),D*d⟩);rw[eo,eo,eo,ek _ (h0 rfl),dd,m1];exact⟨hl.symm,by rw[l1];rfl,by rw[l2];rfl,by rw[l2];rfl,by rw[l2];rfl,m2⟩
 ·obtain⟨m1,m2⟩:=main (A:=a*v) (B:=n*u) (C:=c*v) (E:=e*v) (.inl rfl) (.inr ⟨rfl,h1 rfl⟩) (.inl rfl) (.inl rfl) (.inr (.inl rfl));show Added _ _ _ _ (Iv.low ⟨a*(d:Int)+0*(D:Int),b*(d:Int)+n*(D:Int),c*(d:Int)+0*(D:Int),e*(d:Int)+0*(D:Int),D*d⟩);rw[eo,eo,eo,ek _ (h1 rfl),dd,m1];exact⟨hl.symm,by rw[l2];rfl,by rw[l1];rfl,by rw[l2];rfl,by rw[l2];rfl,m2⟩
 ·obtain⟨m1,m2⟩:=main (A:=a*v) (B:=b*v) (C:=n*u) (E:=e*v) (.inl rfl) (.inl rfl) (.inr ⟨rfl,h2 rfl⟩) (.inl rfl) (.inr (.inr (.inl rfl)));show Added _ _ _ _ (Iv.low ⟨a*(d:Int)+0*(D:Int),b*(d:Int)+0*(D:Int),c*(d:Int)+n*(D:Int),e*(d:Int)+0*(D:Int),D*d⟩);rw[eo,eo,eo,ek _ (h2 rfl),dd,m1];exact⟨hl.symm,by rw[l2];rfl,by rw[l2];rfl,by rw[l1];rfl,by rw[l2];rfl,m2⟩
 ·obtain⟨m1,m2⟩:=main (A:=a*v) (B:=b*v) (C:=c*v) (E:=n*u) (.inl rfl) (.inl rfl) (.inl rfl) (.inr ⟨rfl,h3 rfl⟩) (.inr (.inr (.inr rfl)));show Added _ _ _ _ (Iv.low ⟨a*(d:Int)+0*(D:Int),b*(d:Int)+0*(D:Int),c*(d:Int)+0*(D:Int),e*(d:Int)+n*(D:Int),D*d⟩);rw[eo,eo,eo,ek _ (h3 rfl),dd,m1];exact⟨hl.symm,by rw[l2];rfl,by rw[l2];rfl,by rw[l2];rfl,by rw[l1];rfl,m2⟩
abbrev JQ:=Nat->Int×Nat
def Jk(P:JQ):Nat:=Bw (Bw (Bw (Bw 1 (P 0).2) (P 1).2) (P 2).2) (P 3).2
def com(P:JQ):Iv:=⟨(P 0).1*((Jk P / (P 0).2:Nat):Int),(P 1).1*((Jk P / (P 1).2:Nat):Int),(P 2).1*((Jk P / (P 2).2:Nat):Int),(P 3).1*((Jk P / (P 3).2:Nat):Int),Jk P⟩
def Le(P:JQ)(k:Nat)(v:Int×Nat):JQ:=fun j=>if j=k then v else P j
def noP:JQ:=fun _=>(0,1)
structure PowsOk(P:JQ)(least:Nat):Prop where
 pos:∀j,1<=(P j).2
 zero:∀j,least<=j->P j=(0,1)
 low:(com P).common=1
theorem Nm{P:JQ}(h:∀j,1<=(P j).2):1<=Jk P:=Ek (Ek (Ek (Ek (by decide) (h 0)) (h 1)) (h 2)) (h 3)
theorem Vy:PowsOk noP 0:=⟨fun _=>Ah 1,fun _ _=>rfl,by decide +kernel⟩
theorem SB:com noP=unison:=by decide +kernel
theorem SR{d D D':Nat}(h1:d∣D)(h2:D∣D')(hd:1<=d)(hD:1<=D):D / d*(D' / D)=D' / d:=by obtain⟨u,rfl⟩:=h1;obtain⟨v,rfl⟩:=h2;rw[Br _ hd,Br _ hD,Nat.mul_assoc,Br _ hd]
theorem UX{P:JQ}{least k:Nat}{n:Int}{d:Nat}(h:PowsOk P least)(hk:least<=k)(hk4:k<4)(hd:1<=d)(hn:AN n.natAbs d=1):
  (com P).plus (powerOf k n d)=com (Le P k (n,d))/\PowsOk (Le P k (n,d)) (k+1):=by
 have hD:=Nm h.pos;have zk:=h.zero k hk;have A:=Z5 (x:=com P) (k:=k) (n:=n) (d:=d) h.low hD hd hn hk4 (fun e=>by subst e;unfold com;rw[zk];simp) (fun e=>by subst e;unfold com;rw[zk];simp) (fun e=>by subst e;unfold com;rw[zk];simp) (fun e=>by subst e;unfold com;rw[zk];simp);have eD:Jk (Le P k (n,d))=Bw (Jk P) d:=by
  have z:=fun j (hj:k<=j)=>congrArg Prod.snd (h.zero j (Ak hk hj));dsimp only at z;have c:k=0\/k=1\/k=2\/k=3:=by lia
  unfold Jk Le;rcases c with rfl | rfl | rfl | rfl
  ·simp[z 0 (by lia),z 1 (by lia),z 2 (by lia),z 3 (by lia),Dj,C8]
  ·simp[z 1 (by lia),z 2 (by lia),z 3 (by lia),Dj,C8]
  ·simp[z 2 (by lia),z 3 (by lia),Dj,C8]
  ·simp[z 3 (by lia),Dj,C8]
 have dv:∀j,j<4->(P j).2∣Jk P:=by
  intro j hj;have c:j=0\/j=1\/j=2\/j=3:=by lia
  unfold Jk;rcases c with rfl | rfl | rfl | rfl
  ·exact AW (C9 1 _) (AW (BU _ _) (AW (BU _ _) (BU _ _)))
  ·exact AW (C9 _ _) (AW (BU _ _) (BU _ _))
  ·exact AW (C9 _ _) (BU _ _)
  ·exact C9 _ _
 have comp:∀j,j<4->(Le P k (n,d) j).1*((Jk (Le P k (n,d)) / (Le P k (n,d) j).2:Nat):Int)=
   if k=j then n*((Bw (com P).d d / d:Nat):Int) else (P j).1*((Jk P / (P j).2:Nat):Int)*((Bw (com P).d d / (com P).d:Nat):Int):=by
  intro j hj;rw[eD];by_cases e:k=j
  ·rw[Gj e];unfold Le;rw[Gj e.symm];rfl
  ·rw[Gi e];unfold Le;rw[Gi (Ne.symm e),Int.mul_assoc,<-B5];have q:=SR (dv j hj) (BU (Jk P) d) (h.pos j) hD;show _=_*((Jk P / (P j).2*(Bw (Jk P) d / Jk P):Nat):Int);rw[q]
 have eq:(com P).plus (powerOf k n d)=com (Le P k (n,d)):=by have ea:=A.pa.trans (comp 0 (by decide)).symm;have eb:=A.pb.trans (comp 1 (by decide)).symm;have ec:=A.pc.trans (comp 2 (by decide)).symm;have ee:=A.pe.trans (comp 3 (by decide)).symm;have ed:=A.pd.trans eD.symm;generalize (com P).plus (powerOf k n d)=y at *;obtain⟨a,b,c,e,dd⟩:=y;dsimp only at ea eb ec ee ed;unfold com;rw[ea,eb,ec,ee,ed]
 refine⟨eq,fun j=>?_,fun j hj=>?_,?_⟩
 ·unfold Le;split
  ·exact hd
  ·exact h.pos j
 ·unfold Le;rw[Gi (by lia)];exact h.zero j (by lia)
 ·rw[<-eq];exact A.plow
end LuW
namespace LuR
open Lute
def Front{α:Type}(p:Nat)(t:Bytes)(r:Rd α):Prop:=∀v q u,r=.ok (v,q,u)->p<=q/\q-p<=t.length/\u=t.drop (q-p)
theorem LG(c:UInt8):digit c=if 48<=c.toNat/\c.toNat<=57 then some (c.toNat-48) else none:=by unfold digit;simp only[Bv];rfl
theorem Nf:∀(f n p:Nat) (t:Bytes),Front p t (moreDigits f n p t)
 |f,n,p,[]=>by intro v q u h;unfold moreDigits at h;cases h;simp
 |f,n,p,c::r=>by
  intro v q u h;unfold moreDigits at h;cases hd:digit c with
  |none=>rw[hd] at h;dsimp only at h;cases h;simp
  |some x=>
   rw[hd] at h;dsimp only at h;cases f with
   |zero=>cases h
   |succ f'=>
    dsimp only at h;obtain⟨h1,h2,h3⟩:=Nf f' _ _ r v q u h;refine⟨by lia,by simp only[Ad];lia,?_⟩;obtain⟨k,hk⟩:∃k,q-p=k+1:=⟨q-p-1,by lia⟩;have:q-(p+1)=k:=by lia
    rw[h3,this,hk,BI]
theorem Je(p:Nat)(t:Bytes):Front p t (number p t):=by
 intro v q u h;cases t with
 |nil=>cases h
 |cons c r=>
  unfold number at h;dsimp only at h;cases hd:digit c with
  |none=>rw[hd] at h;cases h
  |some x=>
   rw[hd] at h;have step:∀{w:Rd Nat},Front (p+1) r w->w=.ok (v,q,u)->p<=q/\q-p<=(c::r).length/\u=(c::r).drop (q-p):=by
    intro w hw e;obtain⟨h1,h2,h3⟩:=hw v q u e;refine⟨by lia,by simp only[Ad];lia,?_⟩;obtain⟨k,hk⟩:∃k,q-p=k+1:=⟨q-p-1,by lia⟩;have:q-(p+1)=k:=by lia
    rw[h3,this,hk,BI]
   cases x with
   |zero=>
    cases r with
    |nil=>have h':(Except.ok (0,p+1,[]):Rd Nat)=.ok (v,q,u):=h;cases h';simp
    |cons x r'=>
     have h':(if (digit x).isSome=true then Except.error (p+1) else Except.ok (0,p+1,x::r'):Rd Nat)=.ok (v,q,u):=h;split at h'
     ·cases h'
     ·cases h';simp
   |succ m=>exact step (Nf _ _ _ _) h
theorem JY(p:Nat)(t:Bytes):Front p t (signed p t):=by
 intro v q u h;cases t with
 |nil=>cases h
 |cons c r=>
  unfold signed at h;dsimp only at h;split at h
  ·split at h
   ·cases h
   ·have fr:=Je (p+1) r;cases hn:number (p+1) r with
    |error e=>rw[hn] at h;cases h
    |ok z=>
     obtain⟨n,q',u'⟩:=z;rw[hn] at h;cases h;obtain⟨h1,h2,h3⟩:=fr _ _ _ hn;refine⟨by lia,by simp only[Ad];lia,?_⟩;obtain⟨k,hk⟩:∃k,q-p=k+1:=⟨q-p-1,by lia⟩;have:q-(p+1)=k:=by lia
     rw[h3,this,hk,BI]
  ·have fr:=Je p (c::r);cases hn:number p (c::r) with
   |error e=>rw[hn] at h;cases h
   |ok z=>obtain⟨n,q',u'⟩:=z;rw[hn] at h;cases h;exact fr _ _ _ hn
theorem Front.then{p q p':Nat}{t u:Bytes}{k:Nat}(h1:p'=p+k)(h2:k<=t.length)(h3:u=t.drop k)(hq:p'<=q/\q-p'<=u.length):p<=q/\q-p<=t.length/\u.drop (q-p')=t.drop (q-p):=by
 subst h1 h3;rw[Az] at hq;refine⟨by lia,by lia,?_⟩;rw[BD];congr 1
 lia
theorem Ly(p:Nat)(t:Bytes):∀v q u,factorAt p t=.ok (v,q,u)->p<q/\q-p<=t.length/\u=t.drop (q-p)/\v.1<4/\∀n d,v.2=some (n,d)->1<=d/\AN n.natAbs d=1:=by
 intro v q u h;cases t with
 |nil=>cases h
 |cons c r=>
  unfold factorAt at h;dsimp only at h;cases hi:([(50:UInt8),51,53,55].idxOf? c) with
  |none=>rw[hi] at h;cases h
  |some k=>
   have hk:k<4:=by
    have:=List.of_findIdx?_eq_some (xs:=[(50:UInt8),51,53,55]) (p:=fun x=>x==c) (i:=k) hi;cases q:([(50:UInt8),51,53,55]:List UInt8)[k]? with
    |none=>rw[q] at this;cases this
    |some x=>have:=(Ai.mp q).1;simpa using this
   rw[hi] at h;dsimp only at h;split at h
   ·rename_i u0;have fs:=JY (p+1+1) u0;cases hs:signed (p+1+1) u0 with
    |error e=>rw[hs] at h;cases h
    |ok z=>
     obtain⟨n,q',v'⟩:=z;rw[hs] at h;dsimp only at h;obtain⟨a1,a2,a3⟩:=fs _ _ _ hs;have b:=Front.then (p:=p) (p':=p+1+1) (k:=2) (t:=c::94::u0) (u:=u0) rfl (by simp) rfl ⟨a1,a2⟩;rw[<-a3] at b;split at h
     ·rename_i w;have fn:=Je (q'+1) w;cases hn:number (q'+1) w with
      |error e=>rw[hn] at h;cases h
      |ok y=>
       obtain⟨d,z',t'⟩:=y;rw[hn] at h;cases h;obtain⟨c1,c2,c3⟩:=fn _ _ _ hn;have lw:(47::w).length<=(c::94::u0).length-(q'-p):=by rw[b.2.2,Az];lia
       have b2:=Front.then (p:=p) (p':=q'+1) (k:=q'+1-p) (t:=c::94::u0) (u:=w) (by lia) (by simp only[Ad] at lw ⊢;lia) (by
        have e:q'+1-p=(q'-p)+1:=by lia
        rw[e,<-BD,<-b.2.2];rfl) ⟨c1,c2⟩
       refine⟨by lia,b2.2.1,by rw[<-b2.2.2];exact c3,hk,?_⟩;intro n1 d1 hnd;dsimp only at hnd;split at hnd
       ·rename_i hc;cases hnd;exact⟨by lia,hc.2⟩
       ·cases hnd
     ·cases h;refine⟨by lia,b.2.1,b.2.2,hk,?_⟩;intro n1 d1 hnd;dsimp only at hnd;split at hnd
      ·cases hnd
      ·cases hnd;exact⟨Ah _,by simp⟩
   ·cases h;refine⟨by lia,by simp,by simp,hk,?_⟩;intro n1 d1 hnd;cases hnd;exact⟨Ah _,by decide⟩
def sh{α:Type}(s:Nat):Rd α->Rd α
 |.error e=>.error (e+s)
 |.ok (v,q,u)=>.ok (v,q+s,u)
def shE{α:Type}(s:Nat):Except Nat α->Except Nat α
 |.error e=>.error (e+s)
 |.ok v=>.ok v
theorem R5(s:Nat):∀(f n p:Nat) (t:Bytes),moreDigits f n (p+s) t=sh s (moreDigits f n p t)
 |f,n,p,[]=>by unfold moreDigits;rfl
 |f,n,p,c::r=>by
  unfold moreDigits;cases digit c with
  |none=>rfl
  |some x=>
   cases f with
   |zero=>rfl
   |succ f'=>have:=R5 s f' (10*n+x) (p+1) r;rw[BK] at this;exact this
theorem L8(s p:Nat)(t:Bytes):number (p+s) t=sh s (number p t):=by
 cases t with
 |nil=>rfl
 |cons c r=>
  unfold number;dsimp only;cases digit c with
  |none=>rfl
  |some x=>
   cases x with
   |zero=>
    cases r with
    |nil=>show(Except.ok (0,p+s+1,[]):Rd Nat)=Except.ok (0,p+1+s,[]);rw[BK]
    |cons y r'=>show(if (digit y).isSome=true then Except.error (p+s+1) else Except.ok (0,p+s+1,y::r'):Rd Nat)=sh s (if (digit y).isSome=true then Except.error (p+1) else Except.ok (0,p+1,y::r'));rw[BK p s 1];split <;> rfl
   |succ m=>have:=R5 s 3 (m+1) (p+1) r;rw[BK] at this;exact this
theorem S9(s p:Nat)(t:Bytes):signed (p+s) t=sh s (signed p t):=by
 cases t with
 |nil=>rfl
 |cons c r=>
  unfold signed;dsimp only;have e1:=L8 s (p+1) r;have e2:=L8 s p (c::r);rw[BK] at e1;rw[BK p s 1];split
  ·split
   ·rfl
   ·rw[show p+1+s=p+s+1 by lia,e1];cases number (p+1) r with
    |error e=>rfl
    |ok z=>rfl
  ·rw[e2];cases number p (c::r) with
   |error e=>rfl
   |ok z=>rfl
theorem Td(s p:Nat)(t:Bytes):factorAt (p+s) t=sh s (factorAt p t):=by
 cases t with
 |nil=>rfl
 |cons c r=>
  unfold factorAt;dsimp only;cases([(50:UInt8),51,53,55].idxOf? c) with
  |none=>rfl
  |some k=>
   dsimp only;split
   ·rename_i u0;have e1:=S9 s (p+1+1) u0;rw[show p+1+1+s=p+s+1+1 by lia] at e1;rw[e1];cases signed (p+1+1) u0 with
    |error e=>rfl
    |ok z=>
     obtain⟨n,q,v⟩:=z;dsimp only [sh];split
     ·rename_i w;have e2:=L8 s (q+1) w;rw[show q+1+s=q+s+1 by lia] at e2;rw[e2];cases number (q+1) w with
      |error e=>rfl
      |ok y=>rfl
     ·rfl
   ·show(Except.ok _:Rd (Nat×Option (Int×Nat)))=Except.ok _;rw[BK]
theorem MU(s:Nat):∀(f least:Nat) (x:Iv) (p:Nat) (t:Bytes),factorsAt f least x (p+s) t=shE s (factorsAt f least x p t)
 |0,_,_,_,_=>by unfold factorsAt;rfl
 |f+1,least,x,p,t=>by
  unfold factorsAt;rw[Td];cases factorAt p t with
  |error e=>rfl
  |ok z=>
   obtain⟨⟨k,w⟩,q,u⟩:=z;dsimp only [sh];split
   ·rfl
   ·cases w with
    |none=>rfl
    |some nd=>
     obtain⟨n,d⟩:=nd;cases u with
     |nil=>dsimp only;split <;> rfl
     |cons c v=>
      dsimp only;split
      ·have ih:=MU s f (k+1) (x.plus (powerOf k n d)) (q+1) v;rw[show q+1+s=q+s+1 by lia] at ih;exact ih
      ·rfl
theorem LH:∀(f g least:Nat) (x:Iv) (p:Nat) (t:Bytes),t.length<f->t.length<g->factorsAt f least x p t=factorsAt g least x p t
 |0,_,_,_,_,_,h,_=>absurd h (BP _)
 |_,0,_,_,_,_,_,h=>absurd h (BP _)
 |f+1,g+1,least,x,p,t,hf,hg=>by
  unfold factorsAt;cases hfa:factorAt p t with
  |error e=>rfl
  |ok z=>
   obtain⟨⟨k,w⟩,q,u⟩:=z;obtain⟨h1,h2,h3,_⟩:=Ly p t _ _ _ hfa;dsimp only;split
   ·rfl
   ·cases w with
    |none=>rfl
    |some nd=>
     obtain⟨n,d⟩:=nd;cases u with
     |nil=>rfl
     |cons c v=>
      dsimp only;split
      ·have lv:v.length+1=t.length-(q-p):=by rw[<-Az,<-h3];rfl
       exact LH f g _ _ _ v (by lia) (by lia)
      ·rfl
def fa(least:Nat)(x:Iv)(p:Nat)(t:Bytes):Except Nat Iv:=factorsAt (t.length+1) least x p t
theorem ZO(least:Nat)(x:Iv)(p:Nat)(t:Bytes):fa least x p t=match factorAt p t with
  |.error e=>.error e
  |.ok ((k,w),q,u)=>if k<least then .error p else match w with
   |none=>.error p
   |some (n,d)=>match u with
    |[]=>if (x.plus (powerOf k n d)).ok=true then .ok (x.plus (powerOf k n d)) else .error q
    |c::v=>if c=32 then fa (k+1) (x.plus (powerOf k n d)) (q+1) v else .error q:=by
 unfold fa
 conv=>lhs;unfold factorsAt
 cases hfa:factorAt p t with
 |error e=>rfl
 |ok z=>
  obtain⟨⟨k,w⟩,q,u⟩:=z;obtain⟨h1,h2,h3,_⟩:=Ly p t _ _ _ hfa;dsimp only;split
  ·rfl
  ·cases w with
   |none=>rfl
   |some nd=>
    obtain⟨n,d⟩:=nd;cases u with
    |nil=>rfl
    |cons c v=>
     dsimp only;split
     ·have lv:v.length+1=t.length-(q-p):=by rw[<-Az,<-h3];rfl
      exact LH _ _ _ _ _ v (by lia) (by lia)
     ·rfl
def HD(s:Nat)(t:Bytes):Except Nat Iv:=shE s (Lute.read t)
theorem Ox(s:Nat)(t:Bytes):HD s t=match t with
  |[]=>.error s
  |c::r=>if c=49 then (if r=[] then .ok unison else .error (s+1)) else fa 0 unison s (c::r):=by
 unfold HD;cases t with
 |nil=>show shE s (factorsAt 1 0 unison 0 [])=_;unfold factorsAt;show(Except.error (0+s):Except Nat Iv)=_;rw[Dn]
 |cons c r=>
  by_cases hc:c=49
  ·subst hc;unfold Lute.read;dsimp only;rw[Gj rfl];cases r with
   |nil=>rfl
   |cons y r'=>show(Except.error (1+s):Except Nat Iv)=_;rw[Gi (by simp),Nat.add_comm]
  ·have this:Lute.read (c::r)=factorsAt ((c::r).length+1) 0 unison 0 (c::r):=by
    unfold Lute.read;split
    ·rename_i h;cases h;exact absurd rfl hc
    ·rfl
   rw[this];dsimp only;rw[Gi hc];have:=MU s ((c::r).length+1) 0 unison 0 (c::r);rw[Dn] at this;exact this.symm
open Lute LuteSong
def G4{α:Type}:Rd α->Rd α
 |.error e=>.error e
 |.ok (_,q,[])=>.error q
 |.ok (l,q,c::r)=>if c=10 then .ok (l,q+1,r) else .error q
theorem OE(p:Nat)(b:Bytes):HD p b=match Lute.read b with
  |.error e=>.error (p+e)
  |.ok x=>.ok x:=by
 unfold HD shE;cases Lute.read b with
 |error e=>show(Except.error (e+p):Except Nat Iv)=Except.error (p+e);rw[Nat.add_comm]
 |ok x=>rfl
theorem Ku{α:Type}{p:Nat}{t:Bytes}{r:Rd α}(h:Front p t r):∀v q u,G4 r=.ok (v,q,u)->p<q/\q-p<=t.length/\u=t.drop (q-p)/\∃w,r=.ok (v,q-1,w)/\w=10::u:=by
 intro v q u e;cases r with
 |error x=>cases e
 |ok z=>
  obtain⟨l,q',w⟩:=z;cases w with
  |nil=>cases e
  |cons c w=>
   dsimp only [G4] at e;split at e
   ·rename_i hc;cases e;subst hc;obtain⟨h1,h2,h3⟩:=h _ _ _ rfl;have ll:(10::u:Bytes).length=t.length-(q'-p):=by rw[h3,Az]
    simp only[Ad] at ll;refine⟨by lia,by lia,?_,10::u,by simp,rfl⟩;have e1:q'+1-p=(q'-p)+1:=by lia
    rw[e1,<-BD,<-h3];rfl
   ·cases e
def J7(last p:Nat):Bytes->Rd Nat
 |[]=>.error p
 |c::r=>if c=32/\last≠0 then .ok (last,p+1,r) else match A6 p (c::r) with
  |.error e=>.error e
  |.ok (n,q,u)=>if n=last then .error p else .ok (n,q,u)
theorem PH(p:Nat)(t:Bytes):∀v q u,A6 p t=.ok (v,q,u)->p<q/\q-p<=t.length/\u=t.drop (q-p)/\1<=v:=by
 intro v q u h;cases t with
 |nil=>cases h
 |cons c r=>
  unfold A6 at h;dsimp only at h;cases hi:([(120:UInt8),116,115,101,113,104,119].idxOf? c) with
  |none=>rw[hi] at h;cases h
  |some i=>
   rw[hi] at h;dsimp only at h;have p2:∀n:Nat,1<=2 ^ n:=fun n=>Nat.pow_pos (by decide);split at h
   ·split at h
    ·cases h
    ·cases h;refine⟨by lia,by simp only[Ad];lia,?_,?_⟩
     ·rw[show p+3-p=3 by lia];rfl
     ·exact Ak (p2 i) (Ce _ _)
   ·split at h <;> cases h
   ·cases h;refine⟨by lia,by simp only[Ad];lia,?_,p2 i⟩;rw[show p+2-p=2 by lia];rfl
   ·cases h
theorem KS(last p:Nat)(t:Bytes):∀v q u,J7 last p t=.ok (v,q,u)->p<q/\q-p<=t.length/\u=t.drop (q-p)/\1<=v:=by
 intro v q u h;cases t with
 |nil=>cases h
 |cons c r=>
  unfold J7 at h;dsimp only at h;split at h
  ·rename_i hc;cases h;refine⟨by lia,by simp,by simp,by lia⟩
  ·cases hl:A6 p (c::r) with
   |error e=>rw[hl] at h;cases h
   |ok z=>
    obtain⟨n,q',u'⟩:=z;rw[hl] at h;dsimp only at h;split at h
    ·cases h
    ·cases h;exact PH p (c::r) _ _ _ hl
theorem TV(p:Nat)(r:Bytes):(match Af [LuteTab.END] p r with
  |.error e=>.error e
  |.ok (_,q,u)=>.ok ((),q,u):Rd Unit)=G4 (.ok ((),p,r)):=by
 cases r with
 |nil=>rfl
 |cons a r=>
  unfold Af G4;by_cases ha:a=10
  ·rw[Gj (show a=LuteTab.END from ha)];dsimp only;rw[Gj ha];rfl
  ·rw[Gi (show ¬a=LuteTab.END from ha)];dsimp only;rw[Gi ha]
theorem Te(p:Nat)(r:Bytes):A6 p (32::r)=.error p:=rfl
section
variable{β:Type}
abbrev Ln(β:Type):=Option (Nat×List β)
def Hj(rd:Nat->Bytes->Rd (List β)):Nat->Nat->Nat->Nat->Bytes->Except Nat (List (Ln β))
 |_,last,_,p,[]=>if last=0 then .error p else .ok []
 |0,_,_,p,_=>.error p
 |f+1,last,many,p,c::r=>if 512<=many then .error p else
  if c=124 then (match G4 (.ok ((),p+1,r)) with
   |.error e=>.error e
   |.ok (_,q,u)=>(Hj rd f last (many+1) q u).map (none::·))
  else match J7 last p (c::r) with
   |.error e=>.error e
   |.ok (n,q,u)=>match G4 (rd q u) with
    |.error e=>.error e
    |.ok (l,z,v)=>(Hj rd f n (many+1) z v).map (some (n,l)::·)
theorem JV{rd:Nat->Bytes->Rd (List β)}(F:∀p t,Front p t (rd p t)):∀(f g last many p:Nat) (t:Bytes),t.length<f->t.length<g->Hj rd f last many p t=Hj rd g last many p t
 |f,g,last,many,p,[],_,_=>by cases f <;> cases g <;> (unfold Hj;rfl)
 |0,_,_,_,_,_::_,h,_=>absurd h (BP _)
 |_,0,_,_,_,_::_,_,h=>absurd h (BP _)
 |f+1,g+1,last,many,p,c::r,hf,hg=>by
  simp only[Ad] at hf hg;unfold Hj;by_cases hm:512<=many
  ·rw[Gj hm,Gj hm]
  ·rw[Gi hm,Gi hm];by_cases hc:c=124
   ·rw[Gj hc,Gj hc];cases he:G4 (.ok ((),p+1,r)) with
    |error e=>rfl
    |ok z=>
     obtain⟨x,q,u⟩:=z;have fr:Front (p+1) r (.ok ((),p+1,r):Rd Unit):=by intro v q u h;cases h;simp
     obtain⟨_,_,e3,_⟩:=Ku fr _ _ _ he;have lu:u.length<=r.length:=by rw[e3,Az];lia
     dsimp only;rw[JV F f g last (many+1) q u (by lia) (by lia)]
   ·rw[Gi hc,Gi hc];cases hl:J7 last p (c::r) with
    |error e=>rfl
    |ok z=>
     obtain⟨n,q,u⟩:=z;obtain⟨a1,a2,a3,_⟩:=KS last p (c::r) _ _ _ hl;dsimp only;cases he:G4 (rd q u) with
     |error e=>rfl
     |ok z=>
      obtain⟨l,z',v⟩:=z;obtain⟨_,_,e3,_⟩:=Ku (F q u) _ _ _ he;have lu:u.length<r.length+1:=by rw[a3,Az];simp only[Ad] at a2 ⊢;lia
      have lv:v.length<=u.length:=by rw[e3,Az];lia
      dsimp only;rw[JV F f g n (many+1) z' v (by lia) (by lia)]
def la(rd:Nat->Bytes->Rd (List β))(last many p:Nat)(t:Bytes):Except Nat (List (Ln β)):=Hj rd (t.length+1) last many p t
theorem Zc(rd:Nat->Bytes->Rd (List β))(last many p:Nat):la rd last many p []=if last=0 then .error p else .ok []:=by unfold la Hj;rfl
theorem LF{rd:Nat->Bytes->Rd (List β)}(F:∀p t,Front p t (rd p t))(last many p:Nat)(c:UInt8)(r:Bytes):la rd last many p (c::r)=if 512<=many then .error p else
  if c=124 then (match G4 (.ok ((),p+1,r)) with
   |.error e=>.error e
   |.ok (_,q,u)=>(la rd last (many+1) q u).map (none::·))
  else match J7 last p (c::r) with
   |.error e=>.error e
   |.ok (n,q,u)=>match G4 (rd q u) with
    |.error e=>.error e
    |.ok (l,z,v)=>(la rd n (many+1) z v).map (some (n,l)::·):=by
 unfold la
 conv=>lhs;unfold Hj
 by_cases hm:512<=many
 ·rw[Gj hm,Gj hm]
 ·rw[Gi hm,Gi hm];by_cases hc:c=124
  ·rw[Gj hc,Gj hc];cases he:G4 (.ok ((),p+1,r)) with
   |error e=>rfl
   |ok z=>
    obtain⟨x,q,u⟩:=z;have fr:Front (p+1) r (.ok ((),p+1,r):Rd Unit):=by intro v q u h;cases h;simp
    obtain⟨_,_,e3,_⟩:=Ku fr _ _ _ he;have lu:u.length<=r.length:=by rw[e3,Az];lia
    dsimp only;rw[JV F (c::r).length (u.length+1) last (many+1) q u (by simp only[Ad];lia) (by lia)]
  ·rw[Gi hc,Gi hc];cases hl:J7 last p (c::r) with
   |error e=>rfl
   |ok z=>
    obtain⟨n,q,u⟩:=z;obtain⟨a1,a2,a3,_⟩:=KS last p (c::r) _ _ _ hl;dsimp only;cases he:G4 (rd q u) with
    |error e=>rfl
    |ok z=>
     obtain⟨l,z',v⟩:=z;obtain⟨_,_,e3,_⟩:=Ku (F q u) _ _ _ he;have lu:u.length<r.length+1:=by rw[a3,Az];simp only[Ad] at a2 ⊢;lia
     have lv:v.length<=u.length:=by rw[e3,Az];lia
     dsimp only;rw[JV F (c::r).length (v.length+1) n (many+1) z' v (by simp only[Ad];lia) (by lia)]
def JL(acc:List (Ln β))(r:Except Nat (List (Ln β))):Except Nat (List (Ln β)):=r.map fun x=>acc++x
theorem S4(r:Except Nat (List (Ln β))):JL [] r=r:=by cases r <;> rfl
theorem M6(acc:List (Ln β))(v:Ln β)(r:Except Nat (List (Ln β))):JL acc (r.map (v::·))=JL (acc++[v]) r:=by
 cases r with
 |error e=>rfl
 |ok s=>show Except.ok (acc++(v::s))=Except.ok (acc++[v]++s);rw[AT];rfl
def Pl(q:Nat):Bytes->Except Nat (Nat×Bytes)
 |[]=>.error q
 |c::r=>if c=10 then .ok (q+1,r) else .error q
variable{rd:Nat->Bytes->Rd (List β)}
theorem YC(F:∀p t,Front p t (rd p t))(last many p:Nat)(r:Bytes)(acc:List (Ln β))(h:¬512<=many):JL acc (la rd last many p (124::r))=JL (acc++[none]) (match Pl (p+1) r with
  |.error e=>.error e
  |.ok (q,u)=>la rd last (many+1) q u):=by
 rw[LF F,Gi h,Gj rfl];cases r with
 |nil=>rfl
 |cons d v=>
  unfold G4 Pl;dsimp only;by_cases hd:d=10
  ·rw[Gj hd,Gj hd];exact M6 _ _ _
  ·rw[Gi hd,Gi hd];rfl
theorem S2(F:∀p t,Front p t (rd p t)){last many p n q q2:Nat}{c:UInt8}{r u u2:Bytes}{l:List β}(acc:List (Ln β))(h:¬512<=many)(hc:¬c=124)(h1:J7 last p (c::r)=.ok (n,q,u))(h2:rd q u=.ok (l,q2,u2)):
  JL acc (la rd last many p (c::r))=JL (acc++[some (n,l)]) (match Pl q2 u2 with
  |.error e=>.error e
  |.ok (z,v)=>la rd n (many+1) z v):=by
 rw[LF F,Gi h,Gi hc,h1];dsimp only;rw[h2];cases u2 with
 |nil=>rfl
 |cons d v=>
  unfold G4 Pl;dsimp only;by_cases hd:d=10
  ·rw[Gj hd,Gj hd];exact M6 _ _ _
  ·rw[Gi hd,Gi hd];rfl
theorem Wc(F:∀p t,Front p t (rd p t)){last many p x:Nat}{c:UInt8}{r:Bytes}(acc:List (Ln β))(h:¬512<=many)(hc:¬c=124)(h1:J7 last p (c::r)=.error x):JL acc (la rd last many p (c::r))=.error x:=by rw[LF F,Gi h,Gi hc,h1];rfl
theorem WY(F:∀p t,Front p t (rd p t)){last many p n q x:Nat}{c:UInt8}{r u:Bytes}(acc:List (Ln β))(h:¬512<=many)(hc:¬c=124)(h1:J7 last p (c::r)=.ok (n,q,u))(h2:rd q u=.error x):JL acc (la rd last many p (c::r))=.error x:=by rw[LF F,Gi h,Gi hc,h1];dsimp only;rw[h2];rfl
end
def Jq:Ln Iv->Verse
 |none=>.bar
 |some (n,l)=>.moment n l
theorem SM{p n q:Nat}{t u:Bytes}(h:A6 p t=.ok (n,q,u)):n∈AJ:=by
 cases t with
 |nil=>cases h
 |cons c r=>
  unfold A6 at h;dsimp only at h;split at h
  ·cases h
  ·rename_i i hi;have hi7:i<7:=by obtain⟨h1,_⟩:=Ci.mp (show Ew (fun x=>x==c) _=some i by simpa [EW] using hi);simpa using h1
   split at h
   ·split at h
    ·cases h
    ·cases h;rename_i h0;have:∀j:Fin 7,j.val≠0->2 ^ j.val+2 ^ (j.val-1)∈AJ:=by decide
     exact this ⟨i,hi7⟩ h0
   ·split at h <;> cases h
   ·cases h;have:∀j:Fin 7,2 ^ j.val∈AJ:=by decide
    exact this ⟨i,hi7⟩
   ·cases h
theorem QM{n:Nat}(h:n∈AJ):0<n:=by
 have:∀m∈AJ,0<m:=by decide
 exact this n h
open Lute LuteSong LuW
theorem P1(y x:Iv)(hy:1<=y.d)(hx:1<=x.d):(y.plus x).common=1/\1<=(y.plus x).d:=by
 let w:Iv:=⟨y.a*(x.d:Int)+x.a*(y.d:Int),y.b*(x.d:Int)+x.b*(y.d:Int),y.c*(x.d:Int)+x.c*(y.d:Int),y.e*(x.d:Int)+x.e*(y.d:Int),y.d*x.d⟩
 obtain⟨h0,h1,h2,h3,h4⟩:=KR w;have hp:0<w.d:=E4 hy hx;have hg:0<w.common:=ET h0 hp;have cut:∀z:Int,w.common∣z.natAbs->(w.common:Int)*(z / (w.common:Int))=z:=fun z hz=>Cd (Fv.mpr hz);have sc:=LD w.common (w.a / (w.common:Int)) (w.b / (w.common:Int)) (w.c / (w.common:Int)) (w.e / (w.common:Int)) (w.d / w.common);rw[cut _ h1,cut _ h2,cut _ h3,cut _ h4,Nat.mul_div_cancel' h0] at sc;have e:y.plus x=w.low:=rfl;have sc2:w.common=w.common*w.low.common:=sc;rw[e];refine⟨?_,?_⟩
 ·have:w.common*1=w.common*w.low.common:=by rw[DK];exact sc2
  exact(Eu hg this).symm
 ·show 1<=w.d / w.common;exact Nat.div_pos (Ey hp h0) hg
end LuR
namespace LuI
open Lute LuR
theorem Jf:∀(l:Bytes) (p:Nat) (t:Bytes),Lute.want l p t=Af l p t
 |[],p,t=>rfl
 |x::r,p,[]=>rfl
 |x::r,p,c::t=>by unfold Lute.want Af;rw[Jf r (p+1) t]
def lnT(t:Bytes):Bytes:=t.takeWhile fun(c:UInt8)=>c != 10
def ivL(fine:Iv->Bool)(p:Nat)(t:Bytes):Rd Iv:=match Af [32] p t with
 |.error e=>.error e
 |.ok (_,q,u)=>match HD q (lnT u) with
  |.error e=>.error e
  |.ok x=>if fine x=false then .error q else match Af [10] (q+(lnT u).length) (u.drop (lnT u).length) with
   |.error e=>.error e
   |.ok (_,z,v)=>.ok (x,z,v)
theorem TY(fine:Iv->Bool)(p:Nat)(t:Bytes):ivLine fine p t=ivL fine p t:=by
 unfold ivLine ivL;rw[Jf];cases Af [32] p t with
 |error e=>rfl
 |ok z=>
  obtain⟨_,q,u⟩:=z;dsimp only;rw[OE];show(match Lute.read (lnT u) with | .error e=>_ | .ok x=>_)=_;cases Lute.read (lnT u) with
  |error e=>rfl
  |ok x=>dsimp only;rw[Jf];rfl
def lnR(w:Bytes)(full:Bool)(fine:Iv->Bool)(p:Nat)(t:Bytes):Rd Iv:=match Af w p t with
 |.error e=>.error e
 |.ok (_,q,u)=>if full=true then .error p else ivL fine q u
theorem Lw:∀(l:Bytes) (p:Nat) (t:Bytes) (q:Nat) (u:Bytes),Af l p t=.ok ((),q,u)->u.length+l.length=t.length
 |[],p,t,q,u,h=>by unfold Af at h;cases h;rfl
 |x::r,p,[],q,u,h=>by cases h
 |x::r,p,c::t,q,u,h=>by
  unfold Af at h;split at h
  ·have:=Lw r (p+1) t q u h;simp only[Ad]
   lia
  ·cases h
theorem Xn{fine:Iv->Bool}{p:Nat}{t:Bytes}{x:Iv}{q:Nat}{u:Bytes}(h:ivL fine p t=.ok (x,q,u)):u.length<t.length:=by
 unfold ivL at h;cases h1:Af [32] p t with
 |error e=>rw[h1] at h;cases h
 |ok z=>
  obtain⟨⟨⟩,q1,u1⟩:=z;rw[h1] at h;dsimp only at h;have l1:=Lw _ _ _ _ _ h1;cases h2:HD q1 (lnT u1) with
  |error e=>rw[h2] at h;cases h
  |ok y=>
   rw[h2] at h;dsimp only at h;split at h
   ·cases h
   ·cases h3:Af [10] (q1+(lnT u1).length) (u1.drop (lnT u1).length) with
    |error e=>rw[h3] at h;cases h
    |ok z=>
     obtain⟨⟨⟩,q2,u2⟩:=z;rw[h3] at h;cases h;have l3:=Lw _ _ _ _ _ h3;rw[Az] at l3;simp only[Ad,Bj] at l1 l3
     lia
theorem Ja{w:Bytes}{full:Bool}{fine:Iv->Bool}{p:Nat}{t:Bytes}{x:Iv}{q:Nat}{u:Bytes}(h:lnR w full fine p t=.ok (x,q,u)):u.length<t.length:=by
 unfold lnR at h;cases h1:Af w p t with
 |error e=>rw[h1] at h;cases h
 |ok z=>
  obtain⟨⟨⟩,q1,u1⟩:=z;rw[h1] at h;dsimp only at h;split at h
  ·cases h
  ·have:=Xn h;have l1:=Lw _ _ _ _ _ h1
   lia
def wF:Bytes:=[102,114,101,116]
def wC:Bytes:=[99,111,117,114,115,101]
def wB:Bytes:=[98,97,115,115]
def wL:Bytes:=[108,101,110,103,116,104,32]
theorem Aan:ascii "fret"=wF:=by decide +kernel
theorem Z1:ascii "course"=wC:=by decide +kernel
theorem Z8:ascii "bass"=wB:=by decide +kernel
theorem Aaf:ascii "length "=wL:=by decide +kernel
def PY(t:Inst)(p:Nat)(u:Bytes):Rd Iv:=lnR wF (decide (15<=t.frets.length)) (fun x=>(t.frets.getLastD unison).lt x) p u
def Kz(t:Inst)(p:Nat)(u:Bytes):Rd Iv:=lnR wC (decide (14<=t.opens.length)) (soundsAll t.frets) p u
def Ow(t:Inst)(p:Nat)(u:Bytes):Rd Iv:=lnR wB (decide (14<=t.opens.length)) (fun _=>true) p u
theorem J6(f:Nat)(t:Inst)(p:Nat)(c:UInt8)(r:Bytes):linesAt (f+1) t p (c::r)=
  if c=102/\t.courses.isEmpty=true then (match PY t p (c::r) with
   |.error e=>.error e
   |.ok (x,q,u)=>linesAt f { t with frets:=t.frets++[x] } q u)
  else if c=99/\t.basses.isEmpty=true then (match Kz t p (c::r) with
   |.error e=>.error e
   |.ok (x,q,u)=>linesAt f { t with courses:=t.courses++[x] } q u)
  else if c=98/\t.courses.isEmpty=false then (match Ow t p (c::r) with
   |.error e=>.error e
   |.ok (x,q,u)=>linesAt f { t with basses:=t.basses++[x] } q u)
  else .error p:=by
 rw[linesAt];rw[Aan,Z1,Z8];unfold PY Kz Ow lnR;simp only[TY,Jf];by_cases h1:c=102/\t.courses.isEmpty=true
 ·rw[Gj h1,Gj h1];cases Af wF p (c::r) with
  |error e=>rfl
  |ok z=>
   obtain⟨_,q,u⟩:=z;dsimp only;by_cases h2:15<=t.frets.length
   ·rw[Gj (show FRETS<=t.frets.length from h2),Gj (decide_eq_true h2)]
   ·rw[Gi (show ¬FRETS<=t.frets.length from h2),Gi (by rw[decide_eq_false h2];exact Ag)]
    all_goals (cases ivL (fun x=>(t.frets.getLastD unison).lt x) q u <;> rfl)
 ·rw[Gi h1,Gi h1];by_cases h3:c=99/\t.basses.isEmpty=true
  ·rw[Gj h3,Gj h3];cases Af wC p (c::r) with
   |error e=>rfl
   |ok z=>
    obtain⟨_,q,u⟩:=z;dsimp only;by_cases h2:14<=t.opens.length
    ·rw[Gj (show COURSES<=t.opens.length from h2),Gj (decide_eq_true h2)]
    ·rw[Gi (show ¬COURSES<=t.opens.length from h2),Gi (by rw[decide_eq_false h2];exact Ag)]
     all_goals (cases ivL (soundsAll t.frets) q u <;> rfl)
  ·rw[Gi h3,Gi h3];by_cases h4:c=98/\t.courses.isEmpty=false
   ·rw[Gj h4,Gj h4];cases Af wB p (c::r) with
    |error e=>rfl
    |ok z=>
     obtain⟨_,q,u⟩:=z;dsimp only;by_cases h2:14<=t.opens.length
     ·rw[Gj (show COURSES<=t.opens.length from h2),Gj (decide_eq_true h2)]
     ·rw[Gi (show ¬COURSES<=t.opens.length from h2),Gi (by rw[decide_eq_false h2];exact Ag)]
      all_goals (cases ivL (fun _=>true) q u <;> rfl)
   ·rw[Gi h4,Gi h4]
theorem Sw:∀(f g:Nat) (t:Inst) (p:Nat) (u:Bytes),u.length<f->u.length<g->linesAt f t p u=linesAt g t p u
 |f,g,t,p,[],_,_=>by cases f <;> cases g <;> (unfold linesAt;rfl)
 |0,_,_,_,_::_,h,_=>absurd h (BP _)
 |_,0,_,_,_::_,_,h=>absurd h (BP _)
 |f+1,g+1,t,p,c::r,hf,hg=>by
  rw[J6,J6];have key:∀(R:Rd Iv) (T:Iv->Inst),(∀x q u,R=.ok (x,q,u)->u.length<(c::r).length)->(match R with
   |.error e=>.error e
   |.ok (x,q,u)=>linesAt f (T x) q u:Except Nat Inst)=(match R with
   |.error e=>.error e
   |.ok (x,q,u)=>linesAt g (T x) q u):=by
   intro R T hR;cases R with
   |error e=>rfl
   |ok z=>obtain⟨x,q,u⟩:=z;have:=hR x q u rfl;exact Sw f g (T x) q u (by lia) (by lia)
  have k1:=key (PY t p (c::r)) (fun x=>{ t with frets:=t.frets++[x] }) fun x q u h=>Ja h;have k2:=key (Kz t p (c::r)) (fun x=>{ t with courses:=t.courses++[x] }) fun x q u h=>Ja h;have k3:=key (Ow t p (c::r)) (fun x=>{ t with basses:=t.basses++[x] }) fun x q u h=>Ja h;rw[k1,k2,k3]
def li(t:Inst)(p:Nat)(u:Bytes):Except Nat Inst:=linesAt (u.length+1) t p u
theorem Vp(t:Inst)(p:Nat):li t p []=if t.courses.isEmpty=true then .error p else .ok t:=by unfold li linesAt;rfl
def goL(R:Rd Iv)(T:Iv->Inst):Except Nat Inst:=match R with
 |.error e=>.error e
 |.ok (x,q,u)=>li (T x) q u
theorem Kx(t:Inst)(p:Nat)(c:UInt8)(r:Bytes):li t p (c::r)=
  if c=102/\t.courses.isEmpty=true then goL (PY t p (c::r)) fun x=>{ t with frets:=t.frets++[x] }
  else if c=99/\t.basses.isEmpty=true then goL (Kz t p (c::r)) fun x=>{ t with courses:=t.courses++[x] }
  else if c=98/\t.courses.isEmpty=false then goL (Ow t p (c::r)) fun x=>{ t with basses:=t.basses++[x] }
  else .error p:=by
 have key:∀(R:Rd Iv) (T:Iv->Inst),(∀x q u,R=.ok (x,q,u)->u.length<(c::r).length)->(match R with
   |.error e=>.error e
   |.ok (x,q,u)=>linesAt (c::r).length (T x) q u:Except Nat Inst)=goL R T:=by
  intro R T hR;unfold goL;cases R with
  |error e=>rfl
  |ok z=>obtain⟨x,q,u⟩:=z;have:=hR x q u rfl;exact Sw _ _ (T x) q u (by lia) (by lia)
 rw[<-key (PY t p (c::r)) _ fun x q u h=>Ja h,<-key (Kz t p (c::r)) _ fun x q u h=>Ja h,<-key (Ow t p (c::r)) _ fun x q u h=>Ja h];exact J6 _ t p c r
def QZ(p:Nat)(u:Bytes):Rd Nat:=match longNumber p u with
 |.error e=>.error e
 |.ok (n,q,v)=>if n<10000\/200000<n then .error p else match Af [10] q v with
  |.error e=>.error e
  |.ok (_,q,v)=>.ok (n,q,v)
def KU(t:Bytes):Rd Nat:=match Af wL 0 t with
 |.error e=>.error e
 |.ok (_,p,u)=>QZ p u
theorem Qz(t:Bytes):readInst t=match KU t with
  |.error e=>.error e
  |.ok (n,q,v)=>li ⟨n,[],[],[]⟩ q v:=by
 unfold readInst KU QZ;rw[Aaf,Jf];cases Af wL 0 t with
 |error e=>rfl
 |ok z=>
  obtain⟨_,p,u⟩:=z;dsimp only;cases longNumber p u with
  |error e=>rfl
  |ok z=>
   obtain⟨n,q,v⟩:=z;dsimp only;by_cases h:n<10000\/200000<n
   ·rw[Gj (show n<SHORT\/LONG<n from h),Gj h]
   ·rw[Gi (show ¬(n<SHORT\/LONG<n) from h),Gi h,Jf];cases Af [10] q v with
    |error e=>rfl
    |ok z=>rfl
theorem Yi{fine:Iv->Bool}{p:Nat}{t:Bytes}{x:Iv}{q:Nat}{u:Bytes}(h:ivL fine p t=.ok (x,q,u)):(∃b,Lute.read b=.ok x)/\fine x=true:=by
 unfold ivL at h;cases h1:Af [32] p t with
 |error e=>rw[h1] at h;cases h
 |ok z=>
  obtain⟨⟨⟩,q1,u1⟩:=z;rw[h1] at h;dsimp only at h;cases h2:HD q1 (lnT u1) with
  |error e=>rw[h2] at h;cases h
  |ok y=>
   rw[h2] at h;dsimp only at h;cases hf:fine y with
   |false=>rw[hf,Gj rfl] at h;cases h
   |true=>
    rw[hf,Gi (by decide)] at h;cases h3:Af [10] (q1+(lnT u1).length) (u1.drop (lnT u1).length) with
    |error e=>rw[h3] at h;cases h
    |ok z=>
     rw[h3] at h;cases h;refine⟨⟨lnT u1,?_⟩,hf⟩;rw[OE] at h2;cases h4:Lute.read (lnT u1) with
     |error e=>rw[h4] at h2;cases h2
     |ok z=>rw[h4] at h2;cases h2;rfl
theorem O1{w:Bytes}{full:Bool}{fine:Iv->Bool}{p:Nat}{t:Bytes}{x:Iv}{q:Nat}{u:Bytes}(h:lnR w full fine p t=.ok (x,q,u)):full=false/\(∃b,Lute.read b=.ok x)/\fine x=true:=by
 unfold lnR at h;cases h1:Af w p t with
 |error e=>rw[h1] at h;cases h
 |ok z=>
  obtain⟨⟨⟩,q1,u1⟩:=z;rw[h1] at h;dsimp only at h;cases full with
  |true=>cases h
  |false=>exact⟨rfl,Yi h⟩
def ivT(fine:Iv->Bool)(q:Nat)(u:Bytes):Rd Iv:=match HD q (lnT u) with
  |.error e=>.error e
  |.ok x=>if fine x=false then .error q else match Af [10] (q+(lnT u).length) (u.drop (lnT u).length) with
   |.error e=>.error e
   |.ok (_,z,v)=>.ok (x,z,v)
theorem OP:∀(l m:Bytes) (p:Nat) (t:Bytes),Af (l++m) p t=match Af l p t with
  |.error e=>.error e
  |.ok (_,q,u)=>Af m q u
 |[],m,p,t=>rfl
 |x::r,m,p,[]=>rfl
 |x::r,m,p,c::t=>by
  show(if c=x then Af (r++m) (p+1) t else .error p)=match (if c=x then Af r (p+1) t else .error p:LuteTab.Rd Unit) with
   |.error e=>.error e
   |.ok (_,q,u)=>Af m q u
  by_cases h:c=x
  ·rw[Gj h,Gj h];exact OP r m (p+1) t
  ·rw[Gi h,Gi h]
theorem Ro(w:Bytes)(fine:Iv->Bool)(p:Nat)(t:Bytes):lnR w false fine p t=match Af (w++[32]) p t with
  |.error e=>.error e
  |.ok (_,q,u)=>ivT fine q u:=by
 rw[OP];unfold lnR;cases Af w p t with
 |error e=>rfl
 |ok z=>obtain⟨_,q,u⟩:=z;dsimp only;rw[Gi (by decide)];unfold ivL ivT;rfl
theorem Nh(w:Bytes)(fine:Iv->Bool)(p:Nat)(t:Bytes):∃e,lnR w true fine p t=.error e:=by
 unfold lnR;cases Af w p t with
 |error e=>exact⟨e,rfl⟩
 |ok z=>exact⟨p,rfl⟩
end LuI
namespace LuC
open Lute LuteSong LuteTab
end LuC
namespace LX
open PySem
def Kept(fs xs:List FP)(h h':Heap):Prop:=∀b o,h.get? b=some o->b∉xs->(b∉fs->h'.get? b=some o)/\∃sl,h'.get? b=some { o with slots:=sl }
structure Fly(h:Heap)(e:FP)(cls:FO)(d T:FP)(fl:FO):Prop where
 ne:T≠e
 rec_:∃sl vs,h.get? e=some ⟨cls,some d,.fields vs,sl⟩/\vs[1]?=some (.ref T)
 tb:∃oT ts,h.get? T=some oT/\oT.data=.fields ts/\ts[3]?=some fl
section
variable{M:Model}{A:F4}{E:FO->FS->Prop}{s:FS}{base:Heap}{env:Env}{outer:List Env}{L e d:FP}{cls:FO}{sl:Array (Option FO)}{vs:Array FO}{Q:Unit->FS->Prop}
abbrev fra(l:List Env):List FP:=l.filterMap (·.frame)
theorem not_frame{l:List Env}{e:FP}{oe:Obj}{vs:Array FO}{h base:Heap}(hl:h.FunFrames base l)(he:h.get? e=some oe)(hd:oe.data=.fields vs):e∉fra l:=by intro m;obtain⟨_,o,ho,hn⟩:=hl.mem m;rw[he] at ho;cases ho;exact hn vs hd
theorem No{head:FO}{hadNext:Bool}(hfr:A.frames=some (env::outer))(hl:s.heap.FunFrames base (env::outer))(hf:env.frame=some L)
  (he:s.heap.get? e=some ⟨cls,some d,.fields vs,sl⟩) (h1:1<vs.size)
  (k:∀h' T,Kept (fra (env::outer)) [e] s.heap h'->s.heap.get? T=none->Fly h' e cls d T (rawInt L)->Q () { s with heap:=h' }):
  FW M A (do
   let fr ← frameOf env
   let pl ← entryPlaceOf L hadNext
   let b ← EntryCells.newEntry head fr .none (rawInt L) .none pl
   setField (.ref e) 1 b) Q E s:=by
 have hne:e∉fra (env::outer):=not_frame hl he rfl;refine FQ (wpAny_frameOf_fun hfr hl hf fun g1 hs=>?_);refine FQ (wpAny_entryPlaceOf fun pl hpl=>?_);have e1:g1.get? e=some ⟨cls,some d,.fields vs,sl⟩:=(hs.2.1 e hne).trans he;unfold EntryCells.newEntry newFields;generalize hcells:([head,.ref L,.none,rawInt L,.none]++(if pl.isEmpty then Ba 6 FO.none else pl):List FO)=cells;have c3:cells[3]?=some (rawInt L):=by rw[<-hcells];rfl
 refine FQ (Ge ?_ (by rw[<-hcells];exact hpl.sizeOk5 _ _ _ _ _));generalize hnew:({ cls:=.type "traceback",dict:=none,data:=.fields cells.toArray }:Obj)=nt;have e2:(g1.push nt).get? e=some ⟨cls,some d,.fields vs,sl⟩:=Ab _ e1;have tne:g1.objs.size≠e:=Cs (Am e1);have t2:(g1.push nt).get? g1.objs.size=some nt:=Au _ (by rw[<-hnew];rfl);refine wpAny_setField e2 rfl h1 (k _ g1.objs.size (fun b o hb hx=>?_) ?_ ⟨tne,⟨sl,vs.setIfInBounds 1 (.ref g1.objs.size),?_,?_⟩,nt,cells.toArray,?_,by rw[<-hnew],by simpa using c3⟩)
 ·have hbe:b≠e:=fun z=>hx (by rw[z];exact Aj.mpr rfl);have up:∀o',g1.get? b=some o'->((g1.push nt).update e (Obj.mapFields (·.setIfInBounds 1 (.ref g1.objs.size)))).get? b=some o':=fun o' ho'=>(Bu _ _ (Ne.symm hbe)).trans (Ab _ ho')
  obtain⟨sl',hsl⟩:=hs.2.2 b o hb;exact⟨fun hf'=>up o ((hs.2.1 b hf').trans hb),sl',up _ hsl⟩
 ·exact DJ (by rw[hs.1];exact Ah _)
 ·exact Bx _ e2 rfl
 ·simp[h1]
 ·exact(Bu _ _ (Ne.symm tne)).trans t2
theorem Q9(hfr:A.frames=some (env::outer))(hl:s.heap.FunFrames base (env::outer))(hf:env.frame=some L)
  (he:s.heap.get? e=some ⟨cls,some d,.fields vs,sl⟩) (h1:vs[1]?=some .none)
  (k:∀h' T,Kept (fra (env::outer)) [e] s.heap h'->s.heap.get? T=none->Fly h' e cls d T (rawInt L)->Q () { s with heap:=h' }):
  FW M A (noteFrame (.ref e) env) Q E s:=by
 have z:1<vs.size:=(Cb.mp h1).1;unfold noteFrame;simp only[hf];refine FQ (F5 he rfl h1 ?_);rw[Gi (by decide)];exact No hfr hl hf he z k
theorem SQ{T:FP}(hfr:A.frames=some (env::outer))(hl:s.heap.FunFrames base (env::outer))(hf:env.frame=some L)(F:Fly s.heap e cls d T .none)
  (k:∀h' T',Kept (fra (env::outer)) [e,T] s.heap h'->s.heap.get? T'=none->Fly h' e cls d T' (rawInt L)->Q () { s with heap:=h' }):
  FW M A (noteFrame (.ref e) env) Q E s:=by
 obtain⟨hne,⟨sl,vs,he,h1⟩,oT,ts,hT,hdT,h3⟩:=F;have z:1<vs.size:=(Cb.mp h1).1;have z3:3<ts.size:=(Cb.mp h3).1;unfold noteFrame;simp only[hf];refine FQ (F5 he rfl h1 ?_);rw[Gj (show(FO.ref T != FO.none)=true from by simp)];refine FQ (F5 hT hdT h3 ?_);rw[Gi (show ¬((FO.none==rawInt L)=true) from by simp[rawInt])];refine FQ (wpAny_setField hT hdT z3 ?_);have oth:∀b,b≠T->(s.heap.update T (Obj.mapFields (·.setIfInBounds 3 FO.none))).get? b=s.heap.get? b:=fun b hb=>Bu _ _ (Ne.symm hb);have nT:∀b o,s.heap.get? b=some o->(∀vs,o.data≠.fields vs)->b≠T:=fun b o hb hn q=>by rw[q,hT] at hb;cases hb;exact hn ts hdT
 refine No (s:={ s with heap:=s.heap.update T (Obj.mapFields (·.setIfInBounds 3 FO.none)) }) hfr (hl.of_keeps fun b o hb hn=>⟨o,(oth b (nT b o hb hn)).trans hb,rfl⟩) hf ((oth e (Ne.symm hne)).trans he) z fun h' T' K hT' F'=>k h' T' (fun b o hb hx=>?_) ?_ F'
 ·have hbT:b≠T:=fun q=>hx (by rw[q];simp);exact K b o ((oth b hbT).trans hb) fun m=>hx (by rw[Aj.mp m];simp)
 ·by_cases q:T'=T
  ·subst q;have:=Bx (Obj.mapFields (·.setIfInBounds 3 FO.none)) hT (Obj.isFreed_of_fields (Obj.data_mapFields hdT _));rw[this] at hT';cases hT'
  ·exact(oth T' q).symm.trans hT'
theorem land{T:FP}{fl:FO}(F:Fly s.heap e cls d T fl)(k:∀h',(∀b o,b≠T->s.heap.get? b=some o->h'.get? b=some o)->Fly h' e cls d T .none->Q () { s with heap:=h' }):
  FW M A (setFlight (.ref e) none) Q E s:=by
 obtain⟨hne,⟨sl,vs,he,h1⟩,oT,ts,hT,hdT,h3⟩:=F;have z3:3<ts.size:=(Cb.mp h3).1;refine wpAny_setFlight_none he rfl h1 hT hdT z3 (k _ (fun b o hb e=>(Bu _ _ (Ne.symm hb)).trans e) ⟨hne,⟨sl,vs,(Bu _ _ hne).trans he,h1⟩,_,_,Bx _ hT (Obj.isFreed_of_fields (Obj.data_mapFields hdT _)),Obj.data_mapFields hdT _,?_⟩);simp[z3]
inductive Out(h:Heap)(e:FP)(cls:FO)(d:FP):List FP->Prop
 |first {sl:Array (Option FO)} {vs:Array FO}:h.get? e=some ⟨cls,some d,.fields vs,sl⟩->vs[1]?=some .none->Out h e cls d [e]
 |next {T:FP}:Fly h e cls d T .none->Out h e cls d [e,T]
theorem UV{xs:List FP}(hfr:A.frames=some (env::outer))(hl:s.heap.FunFrames base (env::outer))(hf:env.frame=some L)(O:Out s.heap e cls d xs)
  (k:∀h' T',Kept (fra (env::outer)) xs s.heap h'->s.heap.get? T'=none->Fly h' e cls d T' (rawInt L)->Q () { s with heap:=h' }):
  FW M A (noteFrame (.ref e) env) Q E s:=by
 cases O with
 |first he h1=>exact Q9 hfr hl hf he h1 k
 |next F=>exact SQ hfr hl hf F k
theorem landed{xs:List FP}{E':FO->FS->Prop}(hfr:A.frames=some (env::outer))(hl:s.heap.FunFrames base (env::outer))(hf:env.frame=some L)(O:Out s.heap e cls d xs)
  (k:∀h' T',Kept (fra (env::outer)) xs s.heap h'->s.heap.get? T'=none->Fly h' e cls d T' .none->Q () { s with heap:=h' }):
  FW M A (noteFrame (.ref e) env) (fun _ s1=>FW M A (setFlight (.ref e) none) Q E' s1) E s:=by
 refine UV hfr hl hf O fun h1 T K hT F=>land F fun h2 K2 F2=>k h2 T (fun b o hb hx=>?_) hT F2;have nT:b≠T:=fun q=>by rw[q,hT] at hb;cases hb
 obtain⟨a1,sl,a2⟩:=K b o hb hx;exact⟨fun hf'=>K2 b o nT (a1 hf'),sl,K2 b _ nT a2⟩
theorem leaves{xs:List FP}(hfr:A.frames=some (env::outer))(hl:s.heap.FunFrames base (env::outer))(hf:env.frame=some L)(O:Out s.heap e cls d xs)
  (k:∀h' T',Kept (fra (env::outer)) xs s.heap h'->s.heap.get? T'=none->Fly h' e cls d T' .none->Q () { s with heap:=h' }):
  FW M A (leaving env (.ref e)) Q E s:=by
 unfold leaving;exact FQ (landed hfr hl hf O k)
end
abbrev xrec(C t d:FP):Obj:=⟨.ref C,some d,.fields #[.ref t,.none,.none,.none,.bool false,.none],#[]⟩
abbrev bmE:List FO:=[.type "Exception",.type "BaseException",.type "object"]
section
variable{M:Model}{A:F4}{E:FO->FS->Prop}{env:Env}
variable{nm q:Str}{C N:FP}{bs:List FO}{hdct:Bool}{sn:List Str}{sub:List FO}{ab:Bool}{col:Option Bool}{dd:Option FP}{k0 k1 k2 k3 k5:Option FO}{newId:String}
theorem raise_stmt{s:FS}{x:Sem FO}{Q:Flow->FS->Prop}(hh:A.handled=none)
  (h:FW M A x (fun v s1=>∃e t d,v=.ref e/\s1.heap.get? C=some (excClassObj nm q C N bs bmE hdct sn sub ab col dd k0 k1 k2 k3 k5 newId) ∧
   s1.heap.get? e=some (xrec C t d)/\E (.ref e) s1) E s):FW M A (raiseStmt env (some x) none) Q E s:=by
 have hcB:(FO.ref C::bmE).contains (.type "BaseException")=true:=by rw[List.contains_cons,show bmE.contains (.type "BaseException")=true by decide +kernel,Bool.or_true]
 unfold raiseStmt;refine FQ (F9 h (fun v s1 hv=>?_) fun _ _ z=>z);obtain⟨e,t,d,rfl,hC,he,hE⟩:=hv;obtain⟨hp,g,dr,tk,os⟩:=s1
 repeat (first | with_reducible refine wpAny_loadPart_at he ?_ | with_reducible refine wpAny_loadPart_at hC ?_ | (with_reducible refine wpAny_isSubtype_exc hC ?_;rw[hcB]) | wp_step)
 exact wpAny_raiseNew_none hh hE
end
section
variable{prog:FU}{w:F0}{A:F4}{E:FO->FS->Prop}{h:Heap}{g:Array GenState}{dr:Drawn}{tk:Nat}{os:OsState}
variable{nm q:Str}{C N:FP}{bs:List FO}{sn:List Str}{sub:List FO}{ab:Bool}{col:Option Bool}{dd:Option FP}{k0 k1 k2 k3 k5:Option FO}{newId:String}{mN:Str->Option FO}
theorem T6{o:Obj}{e:FP}{name:Str}{v:FO}{tn:Tok}{Q:Fin->FS->Prop}
  (hC:h.get? C=some (excClassObj nm q C N bs bmE true sn sub ab col dd k0 k1 k2 k3 k5 newId)) (hn:h.Ns N mN) (hna:mN name=none)
  (hB:typeLookup (.type "Exception") name=pure none) (ho:h.get? e=some o) (hoc:o.cls=.ref C) (hod:o.dict=none) (hnc:∀c,o.data≠.cls c)
  (k:∀h' tk' d,h'.get? e=some { o with dict:=some d }->d≠e->h.get? d=none->h'.Ns1 d (fun y=>if y=name then some v else none)->(∀b u,b≠e->h.get? b=some u->h'.get? b=some u)->Q (.done (.ret .none)) ⟨h',g,dr,tk',os⟩):
  FW (model prog w) A (Builtin.«object.__setattr__» ⟨[.ref e,.str name tn,v],[]⟩) Q E ⟨h,g,dr,tk,os⟩:=by
 have SF:=F.store_Exception;have hp:=SF.passes (.ref e);unfold Builtin.«object.__setattr__»
 repeat (first | rw[refuse_eq] | (rw[refuseLoop_ref,hp]) | (with_reducible refine wpAny_loadPart_at ho ?_;rw[hoc]) | with_reducible refine wpAny_mroOf_exc hC ?_ | (with_reducible refine wpAny_typeLookup_exc hC hn SF.mro hB ?_;rw[hna]) | wp_step)
 rw[hod,Gi (by simp[typeHasDict])];split
 ·rename_i z;cases z
 split
 ·rename_i c z;exact absurd z (hnc c)
 ·generalize hD:({ cls:=.type "dict",data:=.dict #[] }:Obj)=D0;have fD:D0.isFreed=false:=by rw[<-hD];rfl
  have e1:(h.push D0).get? e=some o:=Ab _ ho;have ne:e≠h.objs.size:=AH (Am ho);refine FQ (wpAny_alloc' (FQ (wpAny_update' e1 (FV ?_))));generalize hH:((h.push D0).update e fun o=>{ cls:=o.cls,dict:=some h.objs.size,data:=o.data,slots:=o.slots })=h1;have d1:h1.get? h.objs.size=some D0:=by rw[<-hH];exact(DQ _ _ _ _ ne.symm).trans (Heap.get?_push_at rfl fD)
  have n1:h1.Ns h.objs.size (fun _=>none):=⟨D0,#[],0,d1,by rw[<-hD],fun x hx=>absurd hx (by simp),fun _=>rfl⟩;show FW _ _ (Builtin.ObjectAttr.storeInDict h.objs.size (.str name tn) name v) _ _ _;unfold Builtin.ObjectAttr.storeInDict Builtin.ObjectAttr.newKeyGuard;refine FQ (FV (FQ (wpAny_nsSet1 (Heap.Ns1.of_empty n1) fun h2 n2 hs=>?_)));obtain⟨oD,esD,epD,hoD,hdD,hcD⟩:=n2.count (Within.cons name v Within.nil);refine FQ (wpAny_lookBehind hoD (by rw[hdD];exact pastItsLine_dict (Ak hcD (by rw[Ad,Bj,sizeLine_eq];lia))) ?_)
  wp_walk
  refine k h2 _ h.objs.size ?_ ne.symm (DJ (Ah _)) n2 (fun b u hb hu=>?_)
  ·refine(hs.2 e ne).trans ?_;rw[<-hH];refine Bx _ e1 ?_;have nf:=(Heap.get?_some_iff.mp ho).2;obtain⟨oc,od,odt,osl⟩:=o;cases odt <;> first | rfl | exact nf
  ·refine(hs.2 b (AH (Am hu))).trans ?_;rw[<-hH];exact(DQ _ _ _ _ hb).trans (Ab _ hu)
theorem Qh{o:Obj}{e:FP}{name:Str}{v:FO}{tn:Tok}{R:Result->FS->Prop}{sa owner:String}(SF:StoreFacts "Exception" bmE sa owner)
  (hC:h.get? C=some (excClassObj nm q C N bs bmE true sn sub ab col dd k0 k1 k2 k3 k5 newId)) (hn:h.Ns N mN) (hna:mN name=none)
  (hB:typeLookup (.type "Exception") name=pure none) (ho:h.get? e=some o) (hoc:o.cls=.ref C) (hod:o.dict=none) (hnc:∀c,o.data≠.cls c)
  (k:∀h' tk' d,h'.get? e=some { o with dict:=some d }->d≠e->h.get? d=none->h'.Ns1 d (fun y=>if y=name then some v else none)->(∀b u,b≠e->h.get? b=some u->h'.get? b=some u)->R (.ok (.ret .none)) ⟨h',g,dr,tk',os⟩):
  codeAny (model prog w) A (.call (.builtin sa) ⟨[.ref e,.str name tn,v],[]⟩) R ⟨h,g,dr,tk,os⟩:=by
 exact codeAny_call_builtin SF.slot.plain SF.entry (wpAny_check_sa SF hC ho hoc (T6 hC hn hna hB ho hoc hod hnc k))
theorem store_new1{o:Obj}{e:FP}{name:Str}{v:FO}{Q:Unit->FS->Prop}{sa owner:String}(SF:StoreFacts "Exception" bmE sa owner)
  (hC:h.get? C=some (excClassObj nm q C N bs bmE true sn sub ab col dd k0 k1 k2 k3 k5 newId)) (hn:h.Ns N mN) (hns:mN "__setattr__"=none) (hna:mN name=none)
  (hB:typeLookup (.type "Exception") name=pure none) (ho:h.get? e=some o) (hoc:o.cls=.ref C) (hod:o.dict=none) (hnc:∀c,o.data≠.cls c)
  (k:∀h' tk' d,h'.get? e=some { o with dict:=some d }->d≠e->h.get? d=none->h'.Ns1 d (fun y=>if y=name then some v else none)->(∀b u,b≠e->h.get? b=some u->h'.get? b=some u)->Q () ⟨h',g,dr,tk',os⟩):
  FW (model prog w) A (setAttr (.ref e) name v) Q E ⟨h,g,dr,tk,os⟩:=by
 have fb:=SF.slot.bind (.ref e);unfold setAttr callSpecial? specialOf
 repeat (any_goals (first | assumption | (with_reducible refine wpAny_loadPart_at ho ?_;rw[hoc]) | (with_reducible refine wpAny_typeLookup_exc hC hn SF.mro SF.slot.lookup ?_;rw[hns]) | wp_step))
 refine Qh SF hC hn hna hB ho hoc hod hnc fun h' tk' d a1 a2 a3 a4 a5=>?_
 repeat (any_goals (first | assumption | wp_step))
 exact k h' tk' d a1 a2 a3 a4 a5
end
section
variable{prog:FU}{w:F0}{A:F4}{E:FO->FS->Prop}{h:Heap}{g:Array GenState}{dr:Drawn}{tk:Nat}{os:OsState}
variable{nm q:Str}{C N:FP}{bs:List FO}{sn:List Str}{sub:List FO}{ab:Bool}{col:Option Bool}{dd:Option FP}{k0 k1 k2 k3 k5:Option FO}{newId:String}{mN mA:Str->Option FO}
end
end LX
namespace L2
open PySem PySem.Spec PyProof.Rows
theorem ObjOk.get{P:FU}{w:F0}{H:Hp}{h:Heap}{a:FP}{o:HO}(x:ObjOk P w H h a o):∃ob,h.get? a=some ob:=by
 cases o with
 |lst xs=>obtain⟨_,_,_,_,e⟩:=x;exact⟨_,e⟩
 |tup xs=>obtain⟨_,_,_,o,e,_⟩:=x;exact⟨_,e⟩
 |dK kvs=>obtain⟨_,_,_,_,o,_,_,e,_⟩:=x;exact⟨_,e⟩
 |dT kvs=>obtain⟨_,_,_,_,o,_,_,e,_⟩:=x;exact⟨_,e⟩
 |set S n=>obtain⟨o,_,_,_,e,_⟩:=x;exact⟨_,e⟩
 |ins C dx fs=>obtain⟨_,_,_,e,_⟩:=x;exact⟨_,e⟩
 |own y=>obtain⟨_,e⟩:=x;exact⟨_,e⟩
 |xd fs=>obtain⟨_,⟨_,_,_,e,_⟩,_⟩:=x;exact⟨_,e⟩
 |rng lo hi=>obtain⟨_,_,_,e⟩:=x;exact⟨_,e⟩
 |frz ob u=>obtain⟨e,_⟩:=x;exact⟨_,e⟩
 |tbl ps=>exact⟨_,(show h.get? a=some _ from x)⟩
 |met f y=>exact⟨_,(show h.get? a=some _ from x)⟩
 |ext φ=>obtain⟨_,⟨_,e⟩,_⟩:=x;exact⟨_,e⟩
theorem HOk.none_of{P:FU}{w:F0}{H:Hp}{h:Heap}{a:FP}(x:HOk P w H h)(e:h.get? a=none):H a=none:=by
 cases q:H a with
 |none=>rfl
 |some u=>obtain⟨o,h1⟩:=(x a u q).get;rw[e] at h1;cases h1
def Kq(K:Gh)(N:FP):Bool:=match K.lookup N with
 |some ⟨_,_,.dict es _,_⟩=>es.toList.all fun e=>match e.key with
  |.str _ _=>true
  |_=>false
 |_=>false
theorem XX{K:Gh}{h:Heap}{N:FP}(X:K.In h)(b:Kq K N=true):∃mN,h.Ns N mN/\∀name r,As K N name=some r->mN name=r:=by
 unfold Kq at b;split at b
 ·rename_i c d es ep sl ho;refine⟨fun x=>nsFind es x,⟨_,es,ep,X _ _ ho,rfl,fun e he=>?_,fun _=>rfl⟩,fun name r hr=>?_⟩
  ·have q:=AI.mp b e (by simpa using he);split at q
   ·rename_i n t hk;exact⟨n,t,hk⟩
   ·cases q
  ·unfold As at hr;rw[ho] at hr;dsimp only at hr;show nsFind es name=r;unfold nsFind findBy;rw[<-Fc];split at hr
   ·rename_i e he;rw[he];cases hr;rfl
   ·rename_i he;rw[he];split at hr
    ·cases hr
    ·cases hr;rfl
 ·cases b
structure XCls(K:Gh)(C N fI:FP):Prop where
 obj:∃(nm q:Str) (bs:List FO) (sn:List Str) (sub:List FO) (ab:Bool) (col:Option Bool) (dd:Option FP) (k0 k1 k2 k3 k5:Option FO),K.lookup C=some (excClassObj nm q C N bs LX.bmE true sn sub ab col dd k0 k1 k2 k3 k5 "Exception.__new__")
 sk:Kq K N=true
 ini:As K N "__init__"=some (some (.ref fI))
 np:As K N "place"=some none
 nsa:As K N "__setattr__"=some none
 nga:As K N "__getattribute__"=some none
 ngh:As K N "__getattr__"=some none
 kp:AG K (.ref C)=true
 fn:BR K (.ref fI)=true
abbrev xfs(i:Int):List (Str×V):=[("place",.int i)]
def CXF(P:FU)(w:F0)(C:FP):CXT:=fun outer H s E e s'=>∃(ea d T:FP) (H':Hp) (i:Int),e=.ref ea/\LX.Fly s'.heap ea (.ref C) d T .none/\s.heap.get? ea=none/\s.heap.get? T=none/\H' ea=none/\H' T=none ∧
 s'.os=s.os/\AllBare s'.gens/\Un (frs outer) [] H H' s.heap s'.heap/\HOk P w H' s'.heap/\H' d=some (.xd (xfs i))/\E (.ref C) (some d) H'
section
variable{P:FU}{w:F0}{K:Gh}{mg:Str->Option FO}{base:Heap}{N:List Str}{qual:Str}{scope:Scope}{f C ea d:FP}{cd:FO}{A:F4}{outer:List Env}{s s':FS}{H H':Hp}{E:XK}{pins:List (FP×Obj)}{σ:St}{i:Int}{xs:List FP}
theorem UA(I:Inv (G7 (CXF P w C) P w K mg base N qual scope f cd A outer s H E) pins σ H' s')(O:LX.Out s'.heap ea (.ref C) d xs)(hx:∀b∈xs,s.heap.get? b=none/\H' b=none)
  (hd:H' d=some (.xd (xfs i))) (hE:E (.ref C) (some d) H'):(G7 (CXF P w C) P w K mg base N qual scope f cd A outer s H E).xe (.ref ea) s':=by
 have hea:ea∈xs:=by cases O <;> simp
 refine LX.leaves (env:=envOfC qual scope s.heap.objs.size f cd) (outer:=outer) (base:=base) I.ok.frames I.stack rfl O fun h' T' kp hT F=>?_;have above:s.heap.objs.size<=s.heap.objs.size:=Ah _;have nfr:∀b o,s.heap.get? b=some o->b∉frs outer->b∉LX.fra (envOfC qual scope s.heap.objs.size f cd::outer):=fun b o e hb m=>by
  have m':b∈s.heap.objs.size::frs outer:=m;rcases Ao.mp m' with z | z
  ·exact absurd (Am e) (by rw[z];exact Bk _)
  ·exact hb z
 have nxs:∀b o,s.heap.get? b=some o->b∉xs:=fun b o e m=>by rw[(hx b m).1] at e;cases e
 have B:Un (frs outer) [] H H' s.heap s'.heap:=I.base;have trk:∀b o u,H' b=some u->s'.heap.get? b=some o->h'.get? b=some o:=fun b o u e ho=>by
  refine(kp b o ho fun m=>?_).1 fun m=>?_
  ·rw[(hx b m).2] at e;cases e
  ·have z:H' b=none:=I.stkFree b m;rw[z] at e;cases e
 refine⟨ea,d,T',H',i,rfl,F,(hx ea hea).1,?_,(hx ea hea).2,I.hok.none_of hT,I.os,I.bare,⟨fun b o e n hb he=>?_,fun b o e n hb he=>?_,fun b o e n he=>B.free b o e n he,fun b o e he=>?_,B.tups,B.frzs,B.tbls⟩,fun b o e=>?_,hd,hE⟩
 ·cases q:s.heap.get? T' with
  |none=>rfl
  |some o=>obtain⟨o',e'⟩:=B.there T' o q (by simp);rw[hT] at e';cases e'
 ·exact(kp b o (B.keep b o e n hb he) (nxs b o e)).1 (nfr b o e hb)
 ·obtain⟨sl,e1⟩:=B.slot b o e n hb he;obtain⟨sl',e2⟩:=(kp b _ e1 (nxs b o e)).2;exact⟨sl',e2⟩
 ·obtain⟨o',e1⟩:=B.there b o e he;obtain⟨sl',e2⟩:=(kp b _ e1 (nxs b o e)).2;exact⟨_,e2⟩
 ·refine(I.hok b o e).stay (fun c u hc q=>?_) (fun _ q=>q) fun _ _ q=>q;rcases hc with z | z
  ·rw[z] at q ⊢;exact trk b u o e q
  ·exact trk c u _ z q
theorem Mx:Ix (CXF P w C) (G7 (CXF P w C) P w K mg base N qual scope f cd A outer s H E) E:=by
 intro pins σ Hc sc e s' I h;obtain⟨ea,d,T,H',i,rfl,F,e1,e2,n1,n2,ho,hg,un,hok,hd,hE⟩:=h;have I':Inv (G7 (CXF P w C) P w K mg base N qual scope f cd A outer s H E) pins σ H' s':=I.call' (ch:=[]) ho un hok hg (fun b z=>absurd z (by simp));have B:Un (frs outer) [] H Hc s.heap sc.heap:=I.base;have old:∀b,sc.heap.get? b=none->s.heap.get? b=none:=fun b z=>by
  cases q:s.heap.get? b with
  |none=>rfl
  |some o=>obtain⟨o',e'⟩:=B.there b o q (by simp);rw[z] at e';cases e'
 refine UA I' (.next F) (fun b hb=>?_) hd hE;rcases Ao.mp hb with rfl | hb
 ·exact⟨old _ e1,n1⟩
 ·rw[Aj.mp hb];exact⟨old _ e2,n2⟩
theorem IC:PassesOwn (model P w) (G7 (CXF P w C) P w K mg base N qual scope f cd A outer s H E).A (G7 (CXF P w C) P w K mg base N qual scope f cd A outer s H E).env (G7 (CXF P w C) P w K mg base N qual scope f cd A outer s H E).xe:=PassesOwn.leaving
end
theorem VL{K:Gh}{a:FP}{o:Obj}(h:BR K (.ref a)=true)(l:K.lookup a=some o):o.cls=.type "function":=by have e:(K.lookup a).map (·.cls)=some (.type "function"):=beq_iff_eq.mp h;rw[l] at e;exact Option.some.inj e
theorem Inv.laid0{X:Cx}{pins:List (FP×Obj)}{σ:St}{H:Hp}{s:FS}{h':Heap}{a:FP}{o:HO}{t':Nat}(I:Inv X pins σ H s)(k:∀b u,s.heap.get? b=some u->h'.get? b=some u)(hg:s.heap.get? a=none)
  (new:ObjOk X.prog X.w (upd H a o) h' a o):Inv X pins σ (upd H a o) { s with heap:=h',toks:=t' }:=by
 have hn:=I.hok.none_of hg;have ne:∀b u,s.heap.get? b=some u->b≠a:=fun b u e z=>by rw[z,hg] at e;cases e
 refine I.un ⟨fun b u q _ _ _=>k b u q,fun b u q _ _ _=>⟨u.slots,k b u q⟩,fun b u q n _=>by rw[Gr (ne b u q)];exact n,fun b u q _=>⟨u,k b u q⟩,fun b xs q=>by rw[Gr (Gs q hn)];exact q,
  fun b u xs q=>by rw[Gr (Gs q hn)];exact q,fun b ps q=>⟨#[],by rw[Gr (Gs q hn),q];simp⟩⟩ fun b u e=>?_
 by_cases hb:b=a
 ·subst hb;rw[Gn] at e;cases e;exact new
 ·rw[Gr hb] at e;exact(I.hok b u e).stay (fun c v _ q=>k c v q) (fun c q=>by rw[Gr (Gs q hn)];exact q) fun c xs q=>by rw[Gr (Gs q hn)];exact q
section
variable{P:FU}{w:F0}{K:Gh}{mg:Str->Option FO}{base:Heap}
theorem T7{C N fI e:FP}{fd:FZ}{sI:F6}{q:Str}{p1 p2 p3 p4:Pos}{A:F4}{outer:List Env}{s:FS}{H:Hp}{o:Obj}{u:FO}{i:Int}{Q:FS->Prop}(XC:XCls K C N fI)(F:Fun K "__init__" q sI fI fd)(S:FnScope ["self","place"] ["self","place"] (Gq sI))
  (hbd:G5 sI=[.Assign [.Attribute (.Name "self" p1) "place" p2] (.Name "place" p3) p4]) (hl:(Gq sI).names.lookup ("self":Str)=some .local/\(Gq sI).names.lookup ("place":Str)=some .local) (bd:Binds K fd ["self","place"] []) (hr:Room 1 A) (e0:Env0 P w K mg base A outer s H)
  (ho:s.heap.get? e=some o) (hoc:o.cls=.ref C) (hod:o.dict=none) (hnc:∀c,o.data≠.cls c) (hu:RelV (.int i) u)
  (k:∀s' d,(∀b v,b≠e->s.heap.get? b=some v->s'.heap.get? b=some v)->s'.os=s.os->AllBare s'.gens->s'.heap.get? e=some { o with dict:=some d }->d≠e->s.heap.get? d=none->(∃u',RelV (.int i) u'/\s'.heap.Ns1 d (fun y=>if y="place" then some u' else none))->Q s'):
  codeAny (model P w) A (.call (.ref fI) ⟨[.ref e,u],[]⟩) (fun r s'=>r=.ok (.ret .none)/\Q s') s:=by
 obtain⟨oc,od,kV,doc,pm,an,cdv,ct,osl,rfl,lk,hcd⟩:=F.ex;have KX:K.In s.heap:=e0.mod.kin.keeps fun b o e=>(e0.bs b o e).1;have lim:s.heap.NoLimit:=e0.mod.nolimit.keeps fun b o e=>(e0.bs b o e).1;have hb:=bd s [.ref e,u] KX rfl;have hkind:∀y∈(["self","place"]:List Str).zip [FO.ref e,u],(Gq sI).names.lookup y.1=some .local\/((Gq sI).names.lookup y.1=some .cell/\((Ga (s.heap.objs.size+1) (Gq sI).names []).lookup y.1).isSome=true):=fun⟨n,v⟩ hy=>by
  rcases S.par n (Cn hy).1 with q | q
  ·exact .inl q
  ·exact .inr ⟨q,Dc _ _ _ (.inl q)⟩
 refine codeAny_call_function hr.depth (KX _ _ lk) rfl S.co S.gen rfl (EL KX hcd) (hb _ _ _ _ ?_);refine wpAny_newFunctionEnv_cells S.kind hkind fun env he s1 x=>?_;subst he;refine⟨lim.keeps x.toInCall.keep,codeAny_func ?_⟩;have I:Inv (G7 CX0 P w K mg base ["self","place"] q (Gq sI) fI cdv A outer s H E0) [] (start ["self","place"] [.ref e,.int i]) H s1:=OT (us:=[.ref e,u]) S hr.hd e0 rfl (.cons rfl (.cons hu .nil)) x;have ho1:s1.heap.get? e=some o:=x.toInCall.keep _ _ ho;have keep1:∀b v,s.heap.get? b=some v->s1.heap.get? b=some v:=x.toInCall.keep;have os1:s1.os=s.os:=I.os;have ba1:AllBare s1.gens:=I.bare;obtain⟨m,hn,hlk⟩:=I.loc;have v1:=hlk 1 "place" (.int i) rfl rfl (.inl hl.2);have v0:=hlk 0 "self" (.ref e) rfl rfl (.inl hl.1);rw[hbd];obtain⟨u1,r1,l1⟩:=v1;obtain⟨u0,r0,l0⟩:=v0;have gone:∀{x:Str},(Gq sI).names.lookup x=some .local->¬((Gq sI).names.lookup x=some .cell\/(Gq sI).names.lookup x=some .free):=fun{x} h z=>by rcases z with z | z <;> (rw[h] at z;cases z)
 obtain⟨k1,m1⟩:=l1.resolve_right fun z=>gone hl.2 z.1;obtain⟨k0,m0⟩:=l0.resolve_right fun z=>gone hl.1 z.1;obtain rfl:u0=.ref e:=r0;have hK1:K.In s1.heap:=I.kIn;obtain⟨mN,hNs,hNl⟩:=XX hK1 XC.sk;obtain⟨nm,qq,bs,sn,sub,ab,col,dd,k0',k1',k2',k3',k5',hC⟩:=XC.obj;have hC1:=hK1 _ _ hC;refine wpAny_execs_cons (plainObj_wpAny_Assign_Attribute (wpAny_Name (wpAny_loadName_local I.ok.kind k1 hn m1 (wpAny_Name (wpAny_loadName_local I.ok.kind k0 hn m0 ?_) (by decide))) (by decide)));obtain⟨h1,g1,d1,t1,os1'⟩:=s1;refine LX.store_new1 PySem.F.store_Exception hC1 hNs (hNl _ _ XC.nsa) (hNl _ _ XC.np) ?_ ho1 hoc hod hnc fun h' tk' d a1 a2 a3 a4 a5=>wpAny_execs_nil ?_
 ·rw[typeLookup_type,builtinLookup_eq_fast];kernel_rfl
 ·refine⟨rfl,k _ d (fun b v hb hv=>a5 b v hb (keep1 b v hv)) os1 ba1 a1 a2 ?_ ⟨u1,r1,a4⟩⟩;cases q:s.heap.get? d with
  |none=>rfl
  |some v=>have:=keep1 d v q;rw[show(FS.mk h1 g1 d1 t1 os1').heap.get? d=h1.get? d from rfl,a3] at this;cases this
structure XTxt(K:Gh)(C:FP)(sI:F6):Prop where
 ex:∃(N fI:FP) (fd:FZ) (q:Str) (p1 p2 p3 p4:Pos),XCls K C N fI/\Fun K "__init__" q sI fI fd/\FnScope ["self","place"] ["self","place"] (Gq sI)/\G5 sI=[.Assign [.Attribute (.Name "self" p1) "place" p2] (.Name "place" p3) p4] ∧
  ((Gq sI).names.lookup ("self":Str)=some .local/\(Gq sI).names.lookup ("place":Str)=some .local)/\Binds K fd ["self","place"] []
def M5(C:FP)(E:XK)(te:TE):TS:=fun _ σ H=>te σ H fun x H1=>∃i,x=.int i/\∀d,H1 d=none->E (.ref C) (some d) (upd H1 d (.xd (xfs i)))
variable{N:List Str}{qual:Str}{scope:Scope}{f C:FP}{cd:FO}{A:F4}{outer:List Env}{s₀:FS}{H₀:Hp}{E:XK}{sI:F6}
theorem GT{x:Str}{p cpos pos:Pos}{e:F3}{te:TE}(XT:XTxt K C sI)
  (hr:Room 2 (G7 (CXF P w C) P w K mg base N qual scope f cd A outer s₀ H₀ E).A) (hg:Gl (G7 (CXF P w C) P w K mg base N qual scope f cd A outer s₀ H₀ E) x) (hm:mg x=some (.ref C))
  (he:PE (G7 (CXF P w C) P w K mg base N qual scope f cd A outer s₀ H₀ E) e te) (hdb:(x==("__debug__":Str))=false:=by decide)
  (hst:FY [e] (G7 (CXF P w C) P w K mg base N qual scope f cd A outer s₀ H₀ E).env=[(false,eval e (G7 (CXF P w C) P w K mg base N qual scope f cd A outer s₀ H₀ E).env)]:=by rfl):
  PS (G7 (CXF P w C) P w K mg base N qual scope f cd A outer s₀ H₀ E) (.Raise (some (.Call (.Name x p) [e] [] cpos)) none pos) (M5 C E te):=by
 generalize hX:G7 (CXF P w C) P w K mg base N qual scope f cd A outer s₀ H₀ E=X at *;have hK:X.K=K:=by rw[<-hX];rfl
 have hP:X.prog=P:=by rw[<-hX];rfl
 have hw:X.w=w:=by rw[<-hX];rfl
 have hmg:X.mg=mg:=by rw[<-hX];rfl
 have hcalm:X.calm=true:=by rw[<-hX];rfl
 have hs0:X.s_0=s₀:=by rw[<-hX];rfl
 have hex:X.ex=[]:=by rw[<-hX];rfl
 obtain⟨NN,fI,fd,q,p1,p2,p3,p4,XC,F,S,hbd,hl,bd⟩:=XT.ex;intro pins s σ H D I h;have hh:X.A.handled=none:=I.ok.hd hcalm;have KX:K.In s.heap:=by rw[<-hK];exact I.kIn
 obtain⟨nm,qq,bs,sn,sub,ab,col,dd,k0',k1',k2',k3',k5',hC⟩:=XC.obj;have key:FW (model X.prog X.w) X.A (eval (.Call (.Name x p) [e] [] cpos) X.env) (fun v s1=>∃ea t d,v=.ref ea/\s1.heap.get? C=some (excClassObj nm qq C NN bs LX.bmE true sn sub ab col dd k0' k1' k2' k3' k5' "Exception.__new__")/\s1.heap.get? ea=some (LX.xrec C t d)/\X.xe (.ref ea) s1) X.xe s:=by
  refine Gc (JU I hg (by rw[hmg];exact hm) ?_ hdb);refine Ck (K:=K) (h₀:=X.base) (by rw[<-hK];exact I.ok.mod.kin) XC.kp (thn (Gk (t:=IR) he Go hst cpos pins s σ H (fun vs H1=>match vs with
   |[x]=>∃i,x=.int i/\∀d,H1 d=none->E (.ref C) (some d) (upd H1 d (.xd (xfs i)))
   |_=>False) I h) fun us s1 ⟨vs,H1,I1,r,hq⟩=>⟨by rw[<-hK];exact I1.kIn,?_⟩) hst rfl
  cases r with
  |nil=>exact hq.elim
  |@cons v u vs' us' rv rr=>
   cases rr with
   |cons=>exact hq.elim
   |nil=>
    obtain⟨i,rfl,hq⟩:∃i,v=.int i/\∀d,H1 d=none->E (.ref C) (some d) (upd H1 d (.xd (xfs i))):=hq;have KX1:K.In s1.heap:=by rw[<-hK];exact I1.kIn
    obtain⟨mN,hNs,hNl⟩:=XX KX1 XC.sk;have hC1:=KX1 _ _ hC;obtain⟨oc,od,kV,doc,pm,an,cdv,ct,osl,efd,lk,hcd⟩:=F.ex;have hfI:=KX1 _ _ lk;have e1:s1=⟨s1.heap,s1.gens,s1.drawn,s1.toks,s1.os⟩:=rfl;rw[e1];show FW (model X.prog X.w) X.A (call (.ref C) [u]) _ _ _;refine wpAny_call_exc_init (oI:=⟨oc,od,.func fd,osl⟩) PySem.F.excBase_Exception hC1 hNs (hNl _ _ XC.ini) hfI ?_ (fun h' ea hm'=>?_) (by show 1<=FT;decide)
    ·exact VL XC.fn lk
    ·obtain⟨t,ht,htn,htt⟩:=hm'.there;have I2:Inv X pins σ H1 { s1 with heap:=h' }:=I1.kept (t':=s1.toks) fun b o e=>hm'.keeps b o e;have E2:=I2.env0.make C [u] [];rw[hP,hw,hK,hmg] at E2;rw[hP,hw];refine wpAny_call (codeAny_mono (T7 (Q:=fun s'=>∃ea' t d,FO.ref ea=.ref ea'/\s'.heap.get? C=some (excClassObj nm qq C NN bs LX.bmE true sn sub ab col dd k0' k1' k2' k3' k5' "Exception.__new__")/\s'.heap.get? ea'=some (LX.xrec C t d)/\X.xe (.ref ea') s') XC F S hbd hl bd (hr.make C [u] []) E2 ht rfl rfl (fun c z=>nomatch z) rv fun s' d kp os' ba' a1 a2 a3 a4=>?_) fun r s' hrs=>?_)
     ·have neC:C≠ea:=fun z=>by rw[z,hm'.new] at hC1;cases hC1
      have hCh:h'.get? C=_:=hm'.keeps _ _ hC1;obtain⟨u',ru',hns⟩:=a4;have kall:∀b v,s1.heap.get? b=some v->s'.heap.get? b=some v:=fun b v hv=>kp b v (fun z=>by rw[z,hm'.new] at hv;cases hv) (hm'.keeps b v hv);have dn:s1.heap.get? d=none:=by
       cases q:s1.heap.get? d with
       |none=>rfl
       |some v=>have:=hm'.keeps _ _ q;rw[show({ s1 with heap:=h' }:FS).heap.get? d=h'.get? d from rfl,this] at a3;cases a3
      have I3:Inv X pins σ (upd H1 d (.xd (xfs i))) s':=by
       have J:=I1.laid0 (h':=s'.heap) (a:=d) (o:=.xd (xfs i)) (t':=s'.toks) kall dn ?_
       ·obtain⟨ok,os,bare,base,loc,cell,free,freeC,pin,hok,len⟩:=J;exact⟨ok,by rw[show s'.os=s1.os from os'];exact I1.os,ba',base,loc,cell,free,freeC,pin,hok,len⟩
       ·refine⟨_,hns,fun g=>?_⟩;show RelO (AQ g [(("place":Str),V.int i)]) (if g="place" then some u' else none);by_cases hg':g="place"
        ·subst hg';rw[Gj rfl];show RelO (AQ ("place":Str) [(("place":Str),V.int i)]) _;simp only[AQ,beq_self_eq_true];exact ru'
        ·rw[Gi hg'];have:(g==("place":Str))=false:=beq_eq_false_iff_ne.mpr hg';simp only[AQ,this]
         trivial
      refine⟨ea,t,d,rfl,kp _ _ neC hCh,a1,?_⟩;have hE:=hq d (I1.hok.none_of dn);have e0n:s₀.heap.get? ea=none:=by
       cases q:s₀.heap.get? ea with
       |none=>rfl
       |some v=>
        have q':X.s_0.heap.get? ea=some v:=by rw[hs0];exact q
        obtain⟨o',e'⟩:=I1.base.there ea v q' (by rw[hex];simp);rw[hm'.new] at e';cases e'
      subst hX;refine UA (i:=i) I3 (.first a1 rfl) (fun b hb=>?_) Gn hE
      rw[Aj.mp hb];exact⟨e0n,by rw[Gr (Ne.symm a2)];exact I1.hok.none_of hm'.new⟩
     ·obtain⟨rfl,hrs⟩:=hrs;exact⟨rfl,hrs⟩
 rw[arm_exec_Raise];refine FQ (wpAny_standAt (LX.raise_stmt (C:=C) (nm:=nm) (q:=qq) (N:=NN) (bs:=bs) (hdct:=true) (sn:=sn) (sub:=sub) (ab:=ab) (col:=col) (dd:=dd) (k0:=k0') (k1:=k1') (k2:=k2') (k3:=k3') (k5:=k5') (newId:="Exception.__new__") hh (FQ (thn key fun v s1 hv=>FQ (wpAny_standAt (FV hv))))))
end
section
variable{X:Cx}
abbrev Cx.body(X:Cx)(pn:List (FP×Obj))(E1:FO->FS->Prop):Cx:={ X with pn:=X.pn++pn,xe:=E1 }
theorem Cx.Ok.body(ok:X.Ok)(pn:List (FP×Obj))(E1:FO->FS->Prop):(X.body pn E1).Ok:=⟨ok.mod,ok.kind,ok.glob,ok.blt,ok.above,ok.inj,ok.has,ok.cab,ok.hd,ok.frames,ok.stk,ok.exf,ok.bs,ok.bsz,ok.noex,ok.exfs,ok.funs,ok.frf⟩
theorem Cx.Ok.unbody{pn:List (FP×Obj)}{E1:FO->FS->Prop}(ok:(X.body pn E1).Ok):X.Ok:=⟨ok.mod,ok.kind,ok.glob,ok.blt,ok.above,ok.inj,ok.has,ok.cab,ok.hd,ok.frames,ok.stk,ok.exf,ok.bs,ok.bsz,ok.noex,ok.exfs,ok.funs,ok.frf⟩
variable{pn pins:List (FP×Obj)}{σ:St}{H:Hp}{s:FS}{E1:FO->FS->Prop}
theorem Inv.body(I:Inv X pn σ H s)(E1:FO->FS->Prop):Inv (X.body pn E1) [] σ H s:=⟨I.ok.body pn E1,I.os,I.bare,I.base,I.loc,I.cell,I.free,I.freeC,fun p hp=>I.pin p (by rw[AX] at hp;exact hp),I.hok,I.len⟩
theorem Inv.unbody(I:Inv (X.body pn E1) pins σ H s):Inv X pn σ H s:=⟨I.ok.unbody,I.os,I.bare,I.base,I.loc,I.cell,I.free,I.freeC,fun p hp=>I.pin p (Bp _ hp),I.hok,I.len⟩
theorem SP.unbody{D:Ends}{f:Flow}(h:SP (X.body pn E1) pins D f s):SP X pn D f s:=by
 cases f with
 |next=>obtain⟨σ',H',I,q⟩:=h;exact⟨σ',H',I.unbody,q⟩
 |brk=>obtain⟨σ',H',I,q⟩:=h;exact⟨σ',H',I.unbody,q⟩
 |cont=>obtain⟨σ',H',I,q⟩:=h;exact⟨σ',H',I.unbody,q⟩
 |ret u=>obtain⟨v,σ',H',I,r,q⟩:=h;exact⟨v,σ',H',I.unbody,r,q⟩
def UQ(X:Cx)(C:FP)(pn:List (FP×Obj))(E:XK):FO->FS->Prop:=fun e s'=>∃(ea d T:FP) (σ:St) (H':Hp) (i:Int),e=.ref ea/\Inv X pn σ H' s'/\LX.Fly s'.heap ea (.ref C) d T .none ∧
 (∀b∈[ea,T],X.s_0.heap.get? b=none/\H' b=none/\∀p∈X.pn++pn,p.1≠b)/\H' d=some (.xd (xfs i))/\E (.ref C) (some d) H'
theorem S8{P:FU}{w:F0}{C:FP}{E:XK}(hP:X.prog=P)(hw:X.w=w)(hex:X.ex=[]):Ix (CXF P w C) (X.body pn (UQ X C pn E)) E:=by
 subst hP hw;intro pins σ Hc sc e s' I h;obtain⟨ea,d,T,H',i,rfl,F,e1,e2,n1,n2,ho,hg,un,hok,hd,hE⟩:=h;have I':Inv (X.body pn (UQ X C pn E)) pins σ H' s':=I.call' (ch:=[]) ho un hok hg (fun b z=>absurd z (by simp));have B:=I.unbody.base;have old:∀b,sc.heap.get? b=none->X.s_0.heap.get? b=none/\∀p∈X.pn++pn,p.1≠b:=fun b z=>by
  refine⟨?_,fun p hp q=>?_⟩
  ·cases q:X.s_0.heap.get? b with
   |none=>rfl
   |some o=>obtain⟨o',e'⟩:=B.there b o q (by rw[hex];simp);rw[z] at e';cases e'
  ·have r:=(I.pin p (Bp _ hp)).1;rw[q,z] at r;cases r
 refine⟨ea,d,T,σ,H',i,rfl,I'.unbody,F,fun b hb=>?_,hd,hE⟩;rcases Ao.mp hb with rfl | hb
 ·exact⟨(old _ e1).1,n1,(old _ e1).2⟩
 ·rw[Aj.mp hb];exact⟨(old _ e2).1,n2,(old _ e2).2⟩
theorem Inv.landed{h':Heap}{xs:List FP}{fs:List FP}(I:Inv X pn σ H s)(hex:X.ex=[])(hfs:∀b∈fs,b∈frs X.stack)(xsf:∀b∈xs,∃o vs,s.heap.get? b=some o/\o.data=.fields vs)
  (hx:∀b∈xs,X.s_0.heap.get? b=none/\H b=none/\∀p∈X.pn++pn,p.1≠b) (kp:LX.Kept fs xs s.heap h'):Inv X pn σ H { s with heap:=h' }:=by
 have B:Un X.fs X.ex X.H_0 H X.s_0.heap s.heap:=I.base;have nxs:∀b o,X.s_0.heap.get? b=some o->b∉xs:=fun b o e m=>by rw[(hx b m).1] at e;cases e
 have nfr:∀b,b≠X.env.locals->b∉X.fs->b∉fs:=fun b h1 h2 m=>by
  rcases Ao.mp (I.stkSub b (hfs b m)) with z | z
  ·exact h1 z
  ·exact h2 z
 have neL:∀b o,X.s_0.heap.get? b=some o->b≠X.env.locals:=fun b o e=>AH (Ap (Am e) I.ok.above);have nx2:∀b o,s.heap.get? b=some o->(∀vs,o.data≠.fields vs)->b∉xs:=fun b o e hn m=>by obtain⟨o',vs,e',hd⟩:=xsf b m;rw[e] at e';cases e';exact hn vs hd
 have trk:∀b o u,H b=some u->s.heap.get? b=some o->h'.get? b=some o:=fun b o u e ho=>by
  refine(kp b o ho fun m=>?_).1 fun m=>?_
  ·rw[(hx b m).2.1] at e;cases e
  ·have z:H b=none:=I.stkFree b (hfs b m);rw[z] at e;cases e
 have cellK:∀c v,s.heap.IsCell c v->h'.IsCell c v:=fun c v ⟨o,ho,hd⟩=>by obtain⟨sl,e⟩:=(kp c o ho (nx2 c o ho fun vs z=>by rw[hd] at z;cases z)).2;exact⟨_,e,hd⟩
 refine⟨I.ok,I.os,I.bare,⟨fun b o e n hb he=>?_,fun b o e n hb he=>?_,fun b o e n he=>B.free b o e n he,fun b o e he=>?_,B.tups,B.frzs,B.tbls⟩,?_,fun x c e=>?_,I.free,I.freeC,fun p hp=>?_,fun b o e=>?_,I.len⟩
 ·exact(kp b o (B.keep b o e n hb he) (nxs b o e)).1 (nfr b (neL b o e) hb)
 ·obtain⟨sl,e1⟩:=B.slot b o e n hb he;obtain⟨sl',e2⟩:=(kp b _ e1 (nxs b o e)).2;exact⟨sl',e2⟩
 ·obtain⟨o',e1⟩:=B.there b o e he;obtain⟨sl',e2⟩:=(kp b _ e1 (nxs b o e)).2;exact⟨_,e2⟩
 ·obtain⟨m,⟨o,es,ep,ho,hd,r⟩,hl⟩:=I.loc;obtain⟨sl,e⟩:=(kp _ o ho (nx2 _ o ho fun vs z=>by rw[hd] at z;cases z)).2;refine⟨m,⟨_,es,ep,e,hd,r⟩,fun i x v e1 e2 e3=>?_⟩;obtain⟨u,ru,l⟩:=hl i x v e1 e2 e3;refine⟨u,ru,?_⟩;rcases l with l | ⟨k,c,e,z⟩
  ·exact .inl l
  ·exact .inr ⟨k,c,e,cellK c _ z⟩
 ·obtain⟨v,z⟩:=I.cell x c e;exact⟨v,cellK c v z⟩
 ·obtain⟨e,n,ne,nf,dd⟩:=I.pin p hp;exact⟨(kp p.1 p.2 e fun m=>(hx p.1 m).2.2 p hp rfl).1 (nfr p.1 ne nf),n,ne,nf,dd⟩
 ·refine(I.hok b o e).stay (fun c u hc q=>?_) (fun _ q=>q) fun _ _ q=>q;rcases hc with z | z
  ·rw[z] at q ⊢;exact trk b u o e q
  ·exact trk c u _ z q
end
abbrev Cx.hand(X:Cx)(pn:List (FP×Obj))(ea:FP)(oe:Obj):Cx:={ X with A:=X.A.mark (some (.ref ea)),calm:=false,pn:=X.pn++(pn++[(ea,oe)]),xe:=fun _ _=>False }
section
variable{X:Cx}{pn pins:List (FP×Obj)}{σ:St}{H:Hp}{s:FS}{ea:FP}{oe:Obj}
theorem Cx.Ok.hand(ok:X.Ok)(pn:List (FP×Obj))(ea:FP)(oe:Obj):(X.hand pn ea oe).Ok:=⟨ok.mod,ok.kind,ok.glob,ok.blt,ok.above,ok.inj,ok.has,ok.cab,(fun z=>nomatch z),ok.frames,ok.stk,ok.exf,ok.bs,ok.bsz,ok.noex,ok.exfs,ok.funs,ok.frf⟩
theorem Inv.hand(I:Inv X pn σ H s)(hp:s.heap.get? ea=some oe/\H ea=none/\ea≠X.env.locals/\ea∉X.fs/\∀v,oe.data≠.cell v):Inv (X.hand pn ea oe) [] σ H s:=
 ⟨I.ok.hand pn ea oe,I.os,I.bare,I.base,I.loc,I.cell,I.free,I.freeC,fun p hp'=>by
  rw[AX] at hp';rcases AK.mp hp' with z | z
  ·exact I.pin p (Bp _ z)
  ·rcases AK.mp z with z | z
   ·exact I.pin p (A7 _ z)
   ·rw[Aj.mp z];exact hp,I.hok,I.len⟩
theorem Inv.unhand(ok:X.Ok)(I:Inv (X.hand pn ea oe) pins σ H s):Inv X pn σ H s:=
 ⟨ok,I.os,I.bare,I.base,I.loc,I.cell,I.free,I.freeC,fun p hp=>I.pin p (Bp _ (by
  rcases AK.mp hp with z | z
  ·exact Bp _ z
  ·exact A7 _ (Bp _ z))),I.hok,I.len⟩
def QI(n:Nat):St:=Ba n none
theorem U4{n i:Nat}{v:V}(h:(QI n)[i]?=some (some v)):False:=by unfold QI at h;rw[EC] at h;split at h <;> cases h
end
def Zi(C:FP)(E:XK)(n:Nat)(t:TS)(th:TS):TS:=fun D σ H=>t D σ H/\∀d H' i,H' d=some (.xd (xfs i))->E (.ref C) (some d) H'->th D (QI n) H'
theorem WE{X:Cx}{C:FP}{sI:F6}{x:Str}{body:List F6}{b0:F6}{suite:List F6}{t:TS}{th:TS}{E:XK}{tp hpos pos:Pos}
  (XT:XTxt X.K C sI) (hex:X.ex=[]) (hstk:X.stack=X.env::X.outer) (hfr:X.env.frame=some X.env.locals) (hg:Gl X x) (hm:X.mg x=some (.ref C))
  (hb:∀pn,PSs (X.body pn (UQ X C pn E)) body t) (hh:∀pn ea d vs sl,PSs (X.hand pn ea ⟨.ref C,some d,.fields vs,sl⟩) (b0::suite) th) (hdb:(x==("__debug__":Str))=false:=by decide):
  PS X (.Try body [.ExceptHandler (some (.Name x tp)) none (b0::suite) hpos] [] [] pos) (Zi C E X.N.length t th):=by
 intro pins s σ H D I h;obtain⟨h1,h2⟩:=h;refine wpAny_Try_except (F9 (hb pins [] s σ H D (I.body _) h1) (fun f s1 q=>?_) fun e s1 q=>?_)
 ·have q':=SP.unbody q;cases f with
  |next=>exact wpAny_execs_nil q'
  |brk=>exact q'
  |cont=>exact q'
  |ret u=>exact q'
 ·obtain⟨ea,d,T,σ1,H1,i,rfl,I1,F,hx,hd,hE⟩:=q;obtain⟨NN,fI,fd,qn,p1,p2,p3,p4,XC,_⟩:=XT.ex;obtain⟨nm,qq,bs,sn,sub,ab,col,dd,k0',k1',k2',k3',k5',hC⟩:=XC.obj;have hfl:s1.heap.FunFrames X.base (X.env::X.outer):=by rw[<-hstk];exact I1.stack
  refine LX.landed (outer:=X.outer) (base:=X.base) (by rw[<-hstk];exact I1.ok.frames) hfl hfr (.next F) fun h1' T' kp hT F1=>?_;have xsf:∀b∈[ea,T],∃o vs,s1.heap.get? b=some o/\o.data=.fields vs:=fun b hb=>by
   rcases Ao.mp hb with rfl | hb
   ·obtain⟨sl,vs,e,_⟩:=F.rec_;exact⟨_,vs,e,rfl⟩
   ·rw[Aj.mp hb];obtain⟨oT,ts,e,hdT,_⟩:=F.tb;exact⟨oT,ts,e,hdT⟩
  have J1:Inv X pins σ1 H1 { s1 with heap:=h1' }:=I1.landed hex (fun b hb=>by rw[hstk];exact hb) xsf hx kp;obtain⟨sl,vs,he,_⟩:=F1.rec_;have hst1:({ s1 with heap:=h1' }:FS).heap.FunFrames X.base X.stack:=J1.stack;have nfr:ea∉LX.fra X.stack:=LX.not_frame hst1 he rfl;have nfr2:ea≠X.env.locals/\ea∉X.fs:=by
   rw[hstk] at nfr;have e:LX.fra (X.env::X.outer)=X.env.locals::frs X.outer:=by show(X.env::X.outer).filterMap (·.frame)=_;rw[CM,hfr];rfl
   rw[e] at nfr;exact⟨fun z=>nfr (by rw[z];exact AE),fun z=>nfr (Aw _ z)⟩
  have hea:=hx ea AE;have pinOk:∀{hp:Heap},hp.get? ea=some ⟨.ref C,some d,.fields vs,sl⟩->hp.get? ea=some ⟨.ref C,some d,.fields vs,sl⟩/\H1 ea=none/\ea≠X.env.locals/\ea∉X.fs/\∀v,(⟨.ref C,some d,.fields vs,sl⟩:Obj).data≠.cell v:=fun e=>⟨e,hea.2.1,nfr2.1,nfr2.2,fun v z=>nomatch z⟩
  have J1h:=J1.hand (pinOk he);have KX1:X.K.In h1':=J1.kIn;have hC1:=KX1 _ _ hC;refine wpAny_handleBy_cons (codeAny_handlers_test (JU (X:=X.hand pins ea _) J1h hg hm ?_ hdb)) (by intro q;cases q);refine wpAny_excMatches_sub_self (g:=s1.gens) (d:=s1.drawn) (t:=s1.toks) (os:=s1.os) hC1 he rfl (by decide +kernel) ?_;show codeAny _ _ _ _ _;refine codeAny_handlers_suite (LX.land F1 fun h2' K2 F2=>?_);have J2:Inv X pins σ1 H1 { s1 with heap:=h2' }:=by
   refine Inv.landed (s:={ s1 with heap:=h1' }) (h':=h2') (xs:=[T']) (fs:=[]) J1 hex (fun b hb=>nomatch hb) (fun b hb=>?_) (fun b hb=>?_) (fun b o hb hx=>?_)
   ·rw[Aj.mp hb];obtain⟨oT,ts,e,hdT,_⟩:=F1.tb;exact⟨oT,ts,e,hdT⟩
   ·rw[Aj.mp hb];refine⟨?_,I1.hok.none_of hT,fun p hp z=>?_⟩
    ·cases q:X.s_0.heap.get? T' with
     |none=>rfl
     |some o=>obtain⟨o',e'⟩:=I1.base.there T' o q (by rw[hex];simp);rw[hT] at e';cases e'
    ·have r:=(I1.pin p hp).1;rw[z,hT] at r;cases r
   ·have nT:b≠T':=fun z=>hx (by rw[z];exact Aj.mpr rfl);exact⟨fun _=>K2 b o nT hb,o.slots,K2 b o nT hb⟩
  have he2:h2'.get? ea=some ⟨.ref C,some d,.fields vs,sl⟩:=K2 _ _ (Ne.symm F1.ne) he;have J2h:=J2.hand (pinOk he2);have J3:=J2h.weak (σ':=QI X.N.length) (by unfold QI;rw[EN];exact I1.len.symm) (fun i' v' e'=>(U4 e').elim);refine F9 (hh pins ea d vs sl [] _ _ H1 D J3 (h2 d H1 i hd hE)) (fun f s4 q=>?_) (fun _ _ z=>z.elim);cases f with
  |next=>obtain⟨σ4,H4,J4,q4⟩:=q;exact⟨_,H4,J4.unhand I1.ok,q4⟩
  |brk=>obtain⟨σ4,H4,J4,q4⟩:=q;exact⟨_,H4,J4.unhand I1.ok,q4⟩
  |cont=>obtain⟨σ4,H4,J4,q4⟩:=q;exact⟨_,H4,J4.unhand I1.ok,q4⟩
  |ret u=>obtain⟨v,σ4,H4,J4,rv,q4⟩:=q;exact⟨v,_,H4,J4.unhand I1.ok,rv,q4⟩
section
variable{P:FU}{w:F0}{K:Gh}{mg:Str->Option FO}{base:Heap}{C:FP}
theorem Fun.okX{x qual:Str}{st:F6}{f:FP}{fd:FZ}{N ps:List Str}{k:Nat}{sp:Sp}(F:Fun K x qual st f fd)(S:FnScope N ps (Gq st))(len:∀vs H Q E,sp vs H Q E->vs.length=ps.length)
  (hbody:∀(cdv:FO) (A:F4) (outer:List Env) (s:FS) (H:Hp) (vs:List V) (Q:VK) (E:XK),Room k (A.deeper (envOfC qual (Gq st) s.heap.objs.size f cdv))->sp vs H Q E->
   ∃t,PSs (G7 (CXF P w C) P w K mg base N qual (Gq st) f cdv A outer s H E) (G5 st) t/\t { nx:=fun _ H'=>Q .non H',rt:=Q } (start N vs) H):FnOk P w K mg base (CXF P w C) (k+1) f fd ps sp:=by
 obtain⟨oc,od,kV,doc,pm,an,cdv,ct,osl,rfl,lk,hcd⟩:=F.ex;refine Ul lk hcd S len fun A outer s H vs Q E hr hsp=>?_;obtain⟨t,h,q⟩:=hbody cdv A outer s H vs Q E hr hsp;exact⟨t,h,q⟩
def Dfn(P:FU)(w:F0)(K:Gh)(mg:Str->Option FO)(base:Heap)(C:FP)(k:Nat)(x:Str)(ps:List Str)(sp:Sp):Prop:=∃f fd,FnOk P w K mg base (CXF P w C) k f fd ps sp/\mg x=some (.ref f)/\AG K (.ref f)=true/\Binds K fd ps []
def Mth(P:FU)(w:F0)(K:Gh)(mg:Str->Option FO)(base:Heap)(C B:FP)(k:Nat)(m:Str)(ps:List Str)(sp:Sp):Prop:=∃f fd,FnOk P w K mg base (CXF P w C) k f fd ps sp/\Cls K B/\Meth K B m f/\Binds K fd ps []
def Mke(P:FU)(w:F0)(K:Gh)(mg:Str->Option FO)(base:Heap)(C B:FP)(k:Nat)(x:Str)(ps:List Str)(sp:Sp):Prop:=∃f fd,FnOk P w K mg base (CXF P w C) k f fd ps sp/\Mk K B f/\mg x=some (.ref B)/\Binds K fd ps []
variable{N:List Str}{qual:Str}{scope:Scope}{f:FP}{cd:FO}{A:F4}{outer:List Env}{s₀:FS}{H₀:Hp}{E:XK}
theorem GQ{k:Nat}{x:Str}{ps:List Str}{sp:Sp}{p pos:Pos}{e:F3}{es:List F3}{t:TA}(D:Dfn P w K mg base C k x ps sp)(hr:Room k (G7 (CXF P w C) P w K mg base N qual scope f cd A outer s₀ H₀ E).A)
  (hg:Gl (G7 (CXF P w C) P w K mg base N qual scope f cd A outer s₀ H₀ E) x) (ha:PA (G7 (CXF P w C) P w K mg base N qual scope f cd A outer s₀ H₀ E) (e::es) t) (hdb:(x==("__debug__":Str))=false:=by decide)
  (he:FY (e::es) (G7 (CXF P w C) P w K mg base N qual scope f cd A outer s₀ H₀ E).env=(false,eval e (G7 (CXF P w C) P w K mg base N qual scope f cd A outer s₀ H₀ E).env)::FY es (G7 (CXF P w C) P w K mg base N qual scope f cd A outer s₀ H₀ E).env:=by rfl)
  (hpl:(backTo pos (FY es (G7 (CXF P w C) P w K mg base N qual scope f cd A outer s₀ H₀ E).env)).any (·.1)=false:=by rfl):
  PE (G7 (CXF P w C) P w K mg base N qual scope f cd A outer s₀ H₀ E) (.Call (.Name x p) (e::es) [] pos) (Lv sp [] E t):=by
 obtain⟨g,fd,G,hm,hk,hb⟩:=D;exact LI G hr hg hm hk hb .nil Mx ha hdb he hpl
theorem U9{B:FP}{k:Nat}{x:Str}{ps:List Str}{sp:Sp}{p pos:Pos}{e:F3}{es:List F3}{t:TA}(D:Mke P w K mg base C B k x ps sp)(hr:Room (k+1) (G7 (CXF P w C) P w K mg base N qual scope f cd A outer s₀ H₀ E).A)
  (hg:Gl (G7 (CXF P w C) P w K mg base N qual scope f cd A outer s₀ H₀ E) x) (ha:PA (G7 (CXF P w C) P w K mg base N qual scope f cd A outer s₀ H₀ E) (e::es) t) (hdb:(x==("__debug__":Str))=false:=by decide)
  (he:FY (e::es) (G7 (CXF P w C) P w K mg base N qual scope f cd A outer s₀ H₀ E).env=(false,eval e (G7 (CXF P w C) P w K mg base N qual scope f cd A outer s₀ H₀ E).env)::FY es (G7 (CXF P w C) P w K mg base N qual scope f cd A outer s₀ H₀ E).env:=by rfl)
  (hpl:(backTo pos (FY es (G7 (CXF P w C) P w K mg base N qual scope f cd A outer s₀ H₀ E).env)).any (·.1)=false:=by rfl):
  PE (G7 (CXF P w C) P w K mg base N qual scope f cd A outer s₀ H₀ E) (.Call (.Name x p) (e::es) [] pos) (XO B sp [] E t):=by
 obtain⟨g,fd,G,M,hm,hb⟩:=D;exact WK M G hr hg hm hb .nil Mx ha hdb he hpl
theorem Kr{B:FP}{k:Nat}{m:Str}{ps:List Str}{sp:Sp}{apos pos:Pos}{o e:F3}{es:List F3}{ta:TE}{t:TA}{pl:Sem Bool}(D:Mth P w K mg base C B k m ps sp)(hr:Room k (G7 (CXF P w C) P w K mg base N qual scope f cd A outer s₀ H₀ E).A)
  (ho:PE (G7 (CXF P w C) P w K mg base N qual scope f cd A outer s₀ H₀ E) o ta) (ha:PA (G7 (CXF P w C) P w K mg base N qual scope f cd A outer s₀ H₀ E) (e::es) t)
  (hst:FY (e::es) (G7 (CXF P w C) P w K mg base N qual scope f cd A outer s₀ H₀ E).env=(false,eval e (G7 (CXF P w C) P w K mg base N qual scope f cd A outer s₀ H₀ E).env)::FY es (G7 (CXF P w C) P w K mg base N qual scope f cd A outer s₀ H₀ E).env:=by rfl)
  (hpl:(backTo pos (FY es (G7 (CXF P w C) P w K mg base N qual scope f cd A outer s₀ H₀ E).env)).any (·.1)=false:=by rfl)
  (ht:eval (.Call (.Attribute o m apos) (e::es) [] pos) (G7 (CXF P w C) P w K mg base N qual scope f cd A outer s₀ H₀ E).env=(do
   let ov ← eval o (G7 (CXF P w C) P w K mg base N qual scope f cd A outer s₀ H₀ E).env
   standAt apos.atName
   let (g,first) ← holding [ov] (getMethod ov m pl)
   callWith pos g first (backTo pos (FY (e::es) (G7 (CXF P w C) P w K mg base N qual scope f cd A outer s₀ H₀ E).env)) (backToKw pos (keywordEach [] (G7 (CXF P w C) P w K mg base N qual scope f cd A outer s₀ H₀ E).env))):=by rfl):
  PE (G7 (CXF P w C) P w K mg base N qual scope f cd A outer s₀ H₀ E) (.Call (.Attribute o m apos) (e::es) [] pos) (Mj B m sp [] E ta t):=by
 obtain⟨g,fd,G,c,hm,hb⟩:=D;exact W4 ho c hm G hr hb .nil Mx ha hst hpl ht
theorem GH{B:FP}{k:Nat}{m:Str}{ps:List Str}{sp:Sp}{apos pos:Pos}{o:F3}{ta:TE}{pl:Sem Bool}(D:Mth P w K mg base C B k m ps sp)(hr:Room k (G7 (CXF P w C) P w K mg base N qual scope f cd A outer s₀ H₀ E).A)
  (ho:PE (G7 (CXF P w C) P w K mg base N qual scope f cd A outer s₀ H₀ E) o ta)
  (ht:eval (.Call (.Attribute o m apos) [] [] pos) (G7 (CXF P w C) P w K mg base N qual scope f cd A outer s₀ H₀ E).env=(do
   let ov ← eval o (G7 (CXF P w C) P w K mg base N qual scope f cd A outer s₀ H₀ E).env
   standAt apos.atName
   let (g,first) ← holding [ov] (getMethod ov m pl)
   callWith pos g first (backTo pos (FY [] (G7 (CXF P w C) P w K mg base N qual scope f cd A outer s₀ H₀ E).env)) (backToKw pos (keywordEach [] (G7 (CXF P w C) P w K mg base N qual scope f cd A outer s₀ H₀ E).env))):=by rfl):
  PE (G7 (CXF P w C) P w K mg base N qual scope f cd A outer s₀ H₀ E) (.Call (.Attribute o m apos) [] [] pos) (Mj B m sp [] E ta IR):=by
 obtain⟨g,fd,G,c,hm,hb⟩:=D;exact UC ho c hm G hr hb .nil Mx ht
def Cst(mg:Str->Option FO)(x:Str)(v:V):Prop:=∃u,mg x=some u/\RelV v u
theorem Gx{X:Cx}{x:Str}{v:V}{pos:Pos}(h:Cst X.mg x v)(hg:Gl X x:=by rfl)(hd:(x==("__debug__":Str))=false:=by decide):PE X (.Name x pos) (tC v):=by obtain⟨u,hm,r⟩:=h;exact OU hg hm r hd
end
inductive KPairs:List Gb->List (Int×Int)->Prop
 |nil:KPairs [] []
 |cons {k v:Int} {t u:Tok} {es:List Gb} {kvs:List (Int×Int)}:KPairs es kvs->KPairs (⟨hashInt k,.int k t,.int v u⟩::es) ((k,v)::kvs)
structure KDict(K:Gh)(a:FP)(kvs:List (Int×Int)):Prop where
 obj:∃(es:Array Gb) (n:Nat),K.lookup a=some ⟨.type "dict",none,.dict es n,#[]⟩/\KPairs es.toList kvs
 nd:(kvs.map (·.1)).Nodup
 ns:(a==Gd)=false
abbrev kdV(kvs:List (Int×Int)):List (Key×V):=kvs.map fun p=>(Sum.inl p.1,V.int p.2)
theorem SD(kvs:List (Int×Int))(k:Int):Iy (kdV kvs) (Sum.inl k)=(kvs.lookup k).map V.int:=by
 induction kvs with
 |nil=>rfl
 |cons p r ih=>
  obtain⟨a,b⟩:=p;unfold Iy at ih ⊢;simp only[kdV,AM,BO,AQ];by_cases e:a=k
  ·subst e;simp
  ·have e1:¬(Sum.inl a:Key)=Sum.inl k:=fun z=>e (Sum.inl.inj z);have e2:(k==a)=false:=beq_eq_false_iff_ne.mpr (Ne.symm e);simp only[e1,decide_false,e2];exact ih
theorem KDict.at_{K:Gh}{a:FP}{kvs:List (Int×Int)}{P:FU}{w:F0}{h:Heap}(D:KDict K a kvs)(X:K.In h):∃vs,KV (kdV kvs) vs/\h.DictOf (G0 P w) a vs:=by
 obtain⟨⟨es,n,lk,ps⟩,nd,_⟩:=D;have ho:=X _ _ lk;have main:∀{l:List Gb} {m:List (Int×Int)},KPairs l m->∃vs:List (Key×FO),KV (kdV m) vs/\(∀e∈l,∃k,(G0 P w).is k e.key=true/\e.hash=(G0 P w).hash k)/\Pairs (G0 P w) l vs/\vs.map (·.1)=m.map fun p=>Sum.inl p.1:=by
  intro l m q
  induction q with
  |nil=>exact⟨[],.nil,(fun e he=>by cases he),.nil,rfl⟩
  |@cons k v t u es kvs q ih=>
   obtain⟨vs,h1,h2,h3,h4⟩:=ih;refine⟨(Sum.inl k,.int v u)::vs,.cons ⟨rfl,u,rfl⟩ h1,fun e he=>?_,.cons (IM P w k t) rfl h3,by simp[h4]⟩;rcases Ao.mp he with rfl | he
   ·exact⟨Sum.inl k,IM P w k t,rfl⟩
   ·exact h2 e he
 obtain⟨vs,h1,h2,h3,h4⟩:=main ps;refine⟨vs,h1,_,es,n,ho,⟨rfl,rfl,rfl⟩,rfl,fun e he=>h2 e (by simpa using he),h3,?_⟩;rw[h4];have e:(kvs.map fun p=>(Sum.inl p.1:Key))=(kvs.map (·.1)).map Sum.inl:=by rw[A0];rfl
 rw[e];exact List.Pairwise.map _ (fun a b h z=>h (Sum.inl.inj z)) nd
section
variable{X:Cx}{a:FP}{kvs:List (Int×Int)}{i o:F3}{pos:Pos}{ty td:TE}
def We(a:FP)(kvs:List (Int×Int))(ty td:TE):TE:=fun σ H Q=>ty σ H fun y H1=>td σ H1 fun x H2=>∃k,y=.int k/\x=.ref a/\Q (.bl (!(kvs.lookup k).isSome)) H2
def Aap(a:FP)(kvs:List (Int×Int))(td ty:TE):TE:=fun σ H Q=>td σ H fun x H1=>ty σ H1 fun y H2=>∃k v,x=.ref a/\y=.int k/\kvs.lookup k=some v/\Q (.int v) H2
theorem N2(D:KDict X.K a kvs)(hi:PE X i ty)(ho:PE X o td):PC X .NotIn i o (We a kvs ty td):=by intro pins s σ H Q I h;refine thn (hi pins s σ H _ I h) fun iv s1 ⟨y,H1,I1,ry,q1⟩=>thn (ho pins s1 σ H1 _ I1 q1) fun u s2 ⟨x,H2,I2,rx,k,ey,ex,q2⟩=>?_;subst ex ey;obtain rfl:u=FO.ref a:=rx;obtain⟨vs,rel,dd⟩:=D.at_ (P:=X.prog) (w:=X.w) I2.kIn;refine wpAny_notIn_of (N1 (k:=Sum.inl k) ry) D.ns dd.mapOf ?_;rw[<-(rel.val (Sum.inl k)).isSome_eq,SD,BN];exact⟨.bl (!(AQ k kvs).isSome),H2,I2.tok _,rfl,q2⟩
theorem Qg(D:KDict X.K a kvs)(ho:PE X o td)(hi:PE X i ty)(hs:Xf i):PE X (.Subscript o i pos) (Aap a kvs td ty):=by
 intro pins s σ H Q I h;refine Py CN.lookup hs (thn (ho pins s σ H _ I h) fun u s1 ⟨x,H1,I1,rx,q1⟩=>thn (hi pins s1 σ H1 _ I1 q1) fun iv s2 ⟨y,H2,I2,ry,k,v,ex,ey,l,q2⟩=>?_);subst ex ey;obtain rfl:u=FO.ref a:=rx;obtain⟨vs,rel,dd⟩:=D.at_ (P:=X.prog) (w:=X.w) I2.kIn;obtain⟨w',hw,rw'⟩:=RelO.some_of (v:=V.int v) (o:=valueAt vs (Sum.inl k)) (by have z:=rel.val (Sum.inl k);rw[SD,l] at z;exact z)
 exact⟨dd.typeIs,wpAny_getItem_of (N1 (k:=Sum.inl k) ry) dd.mapOf hw ⟨.int v,H2,I2.tok _,rw',q2⟩⟩
end
theorem Xs{b1 b2:Bool}{tb:TE}{σ:St}{H:Hp}{Q:VK}(h2:∀Q':VK,Q' (.bl b2) H->tb σ H Q')(h:Q (.bl (b1&&b2)) H):if b1=true then tb σ H Q else Q (.bl false) H:=by
 cases b1 with
 |true=>exact h2 _ h
 |false=>exact h
theorem Lx{b1 b2:Bool}{u:TT}{σ:St}{H:Hp}{Q:Bool->Hp->Prop}(h2:∀Q':Bool->Hp->Prop,Q' b2 H->u σ H Q')(h:Q (b1 || b2) H):if b1=true then Q true H else u σ H Q:=by
 cases b1 with
 |true=>exact h
 |false=>exact h2 _ h
theorem Vc{b1 b2:Bool}{u:TT}{σ:St}{H:Hp}{Q:Bool->Hp->Prop}(h2:∀Q':Bool->Hp->Prop,Q' b2 H->u σ H Q')(h:Q (b1&&b2) H):if b1=true then u σ H Q else Q false H:=by
 cases b1 with
 |true=>exact h2 _ h
 |false=>exact h
theorem HB{i j:Int}:decide (V.int i=V.int j)=decide (i=j):=by
 by_cases h:i=j
 ·subst h;simp
 ·rw[decide_eq_false h,decide_eq_false fun z=>h (by injection z)]
theorem IA{e:F3}{es:List F3}{env:Env}(h:∀v p,e≠.Starred v p):FY (e::es) env=(false,eval e env)::FY es env:=by rw[FY];intro v p q;exact h v p q
theorem WA{es:List F3}{p:Pos}{tg:Option F3}{l:Nat}{env:Env}:swapsWith (.List es p) tg l env=pure false:=rfl
theorem Wp{X:Cx}{e0 e1 e2 e3:F3}{t0 t1 t2 t3:TE}{pos:Pos}(n0:∀v p,e0≠.Starred v p)(n1:∀v p,e1≠.Starred v p)(n2:∀v p,e2≠.Starred v p)(n3:∀v p,e3≠.Starred v p)(h0:PE X e0 t0)(h1:PE X e1 t1)(h2:PE X e2 t2)(h3:PE X e3 t3):
  PE X (.List [e0,e1,e2,e3] pos) (YO (Hm t0 (Hm t1 (Hm t2 (Hm t3 IR))))):=
 Hx (Gk h0 (Gk h1 (Gk h2 (Gk h3 Go (IA n3)) (IA n2)) (IA n1)) (IA n0))
theorem Sc{X:Cx}{e0 e1:F3}{t0 t1:TE}{k:Nat}{pos:Pos}(n0:∀v p,e0≠.Starred v p)(n1:∀v p,e1≠.Starred v p)(h0:PE X e0 t0)(h1:PE X e1 t1):PE X (.Tuple [e0,e1] k pos) (P2 (Hm t0 (Hm t1 IR))):=Hn (Gk h0 (Gk h1 Go (IA n1)) (IA n0))
structure PEx(X:Cx)(e:F3)(t:TE):Prop where
 h:PE X e t
structure PSx(X:Cx)(st:F6)(t:TS):Prop where
 h:PS X st t
structure PSsx(X:Cx)(l:List F6)(t:TS):Prop where
 h:PSs X l t
theorem PSsx.cons{X:Cx}{st:F6}{rest:List F6}{t u:TS}(h1:PSx X st t)(h2:PSsx X rest u):PSsx X (st::rest) (P8 t u):=⟨Gm h1.h h2.h⟩
theorem PSsx.one{X:Cx}{st:F6}{t:TS}(h1:PSx X st t):PSsx X [st] t:=⟨Gp h1.h⟩
theorem PEx.int{X:Cx}{i:Int}{j:Nat}{pos:Pos}:PEx X (.Constant (.int i) j pos) (tC (.int i)):=⟨Gv⟩
theorem PEx.tup2{X:Cx}{e0 e1:F3}{t0 t1:TE}{k:Nat}{pos:Pos}(n0:∀v p,e0≠.Starred v p)(n1:∀v p,e1≠.Starred v p)(h0:PEx X e0 t0)(h1:PEx X e1 t1):PEx X (.Tuple [e0,e1] k pos) (P2 (Hm t0 (Hm t1 IR))):=⟨Sc n0 n1 h0.h h1.h⟩
theorem PEx.lst4{X:Cx}{e0 e1 e2 e3:F3}{t0 t1 t2 t3:TE}{pos:Pos}(n0:∀v p,e0≠.Starred v p)(n1:∀v p,e1≠.Starred v p)(n2:∀v p,e2≠.Starred v p)(n3:∀v p,e3≠.Starred v p)(h0:PEx X e0 t0)(h1:PEx X e1 t1)(h2:PEx X e2 t2)(h3:PEx X e3 t3):
  PEx X (.List [e0,e1,e2,e3] pos) (YO (Hm t0 (Hm t1 (Hm t2 (Hm t3 IR))))):=⟨Wp n0 n1 n2 n3 h0.h h1.h h2.h h3.h⟩
theorem PSx.set{X:Cx}{i:Nat}{x:Str}{e:F3}{te:TE}{pos pos':Pos}(hN:X.N.Nodup)(hi:X.N[i]?=some x)(hx:Loc X.env.scope x)(he:PEx X e te)(hs:swapsWith e (some (.Name x pos')) pos.line X.env=pure false)
  (hf:X.fn x=true\/X.env.scope.names.lookup x=some .local):PSx X (.Assign [.Name x pos'] e pos) (Vo te (HY i)):=⟨Gw hN hi hx he.h hs hf⟩
def Frz(H H':Hp):Prop:=∀b o u,H b=some (.frz o u)->H' b=some (.frz o u)
theorem Frz.refl(H:Hp):Frz H H:=fun _ _ _ h=>h
theorem Frz.trans{H H1 H2:Hp}(a:Frz H H1)(b:Frz H1 H2):Frz H H2:=fun x o u h=>b x o u (a x o u h)
theorem Frz.of{H H':Hp}(s:Same H H'):Frz H H':=fun b _ _ h=>s b _ h
structure Clb(P:FU)(w:F0)(K:Gh)(mg:Str->Option FO)(base:Heap)(C:FP)(k:Nat)(H:Hp)(g:FP)(n:Nat)(sp:Sp):Prop where
 len:∀vs H Q E,sp vs H Q E->vs.length=n
 kp:∀(H':Hp) (h:Heap),Frz H H'->HOk P w H' h->K.In h->∃kk,(kk=Keeper.frame\/kk=Keeper.machine\/kk=Keeper.boundFrame)/\PySem.W.Looks (model P w) h (keeperOf (.ref g)) kk
 run:∀(A:F4) (outer:List Env) (s:FS) (H':Hp) (us:List FO) (vs:List V) (Q:VK) (E:XK),Frz H H'->Room k A->Env0 P w K mg base A outer s H'->Vals vs us->sp vs H' Q E->
  codeAny (model P w) A (.call (.ref g) ⟨us,[]⟩) (CR (CXF P w C) outer P w H' s Q E) s
section
variable{P:FU}{w:F0}{K:Gh}{mg:Str->Option FO}{base:Heap}{C:FP}
theorem Clb.mono{j k:Nat}{H:Hp}{g:FP}{n:Nat}{sp:Sp}(c:Clb P w K mg base C j H g n sp)(h:j<=k):Clb P w K mg base C k H g n sp:=⟨c.len,c.kp,fun A outer s H' us vs Q E hf hr=>c.run A outer s H' us vs Q E hf (hr.mono h)⟩
theorem Clb.on{k:Nat}{H H1:Hp}{g:FP}{n:Nat}{sp:Sp}(c:Clb P w K mg base C k H g n sp)(h:Frz H H1):Clb P w K mg base C k H1 g n sp:=⟨c.len,fun H' hh hf=>c.kp H' hh (h.trans hf),fun A outer s H' us vs Q E hf=>c.run A outer s H' us vs Q E (h.trans hf)⟩
theorem Dfn.clb{k:Nat}{x:Str}{ps:List Str}{sp:Sp}(D:Dfn P w K mg base C k x ps sp):∃g,mg x=some (.ref g)/\∀H,Clb P w K mg base C k H g ps.length sp:=by
 obtain⟨g,fd,G,hm,hk,hb⟩:=D;refine⟨g,hm,fun H=>⟨G.len,fun H' h _ _ X=>PySem.W.keeps_K hk h X,fun A outer s H' us vs Q E _ hr e0 r hsp=>?_⟩⟩;have hl:us.length=ps.length:=by rw[<-r.length];exact G.len _ _ _ _ hsp
 have KX:K.In s.heap:=e0.mod.kin.keeps fun b o e=>(e0.bs b o e).1;have b:=hb s us KX (by rw[AX];exact hl);rw[AX] at b;exact G.run A outer s H' ⟨us,[]⟩ us vs Q E hr e0 b r hsp
end
def AaU(P:FU)(w:F0)(K:Gh)(mg:Str->Option FO)(base:Heap)(C:FP)(k i:Nat)(E:XK)(t:TA):TE:=fun σ H Q=>∃g,σ[i]?=some (some (.ref g))/\t σ H fun vs H1=>∃n sp,Clb P w K mg base C k H1 g n sp/\sp vs H1 Q E
section
variable{X:Cx}{C:FP}{k i:Nat}{E:XK}{x:Str}{p pos:Pos}{e:F3}{es:List F3}{t:TA}
theorem PF{P:FU}{w:F0}{K:Gh}{mg:Str->Option FO}{base:Heap}(hN:X.N[i]?=some x)(hv:Vis X.env.scope x)(hr:Room k X.A)(hx:Ix (CXF P w C) X E)(ha:PA X (e::es) t)(hP:X.prog=P:=by rfl)(hw:X.w=w:=by rfl)(hK:X.K=K:=by rfl)(hmg:X.mg=mg:=by rfl)(hba:X.base=base:=by rfl)
  (hd:(x==("__debug__":Str))=false:=by decide) (hcd:(x==("__classdict__":Str))=false:=by decide)
  (he:FY (e::es) X.env=(false,eval e X.env)::FY es X.env:=by rfl) (hpl:(backTo pos (FY es X.env)).any (·.1)=false:=by rfl):
  PE X (.Call (.Name x p) (e::es) [] pos) (AaU P w K mg base C k i E t):=by
 subst hP hw hK hmg hba;intro pins s σ H Q I h;obtain⟨g,hg,h⟩:=h;refine Gc (thn (VA hN hv hd hcd pins s σ H (fun v H'=>v=.ref g/\H'=H) I ⟨_,hg,rfl,rfl⟩) fun u s1 ⟨v,H1,I1,rv,ev,eH⟩=>?_);subst ev eH;obtain rfl:u=FO.ref g:=rv;show FW _ _ (callWith pos (.ref g) [] (backTo pos (FY (e::es) X.env)) []) _ _ _;have ha':=ha pos pins s1 σ H1 _ I1 h;rw[he] at ha' ⊢;refine PySem.W.callWith_of (P:=fun h=>∃kk,(kk=Keeper.frame\/kk=Keeper.machine\/kk=Keeper.boundFrame)/\PySem.W.Looks (model X.prog X.w) h (keeperOf (.ref g)) kk) (by show((false || (backTo pos (FY es X.env)).any (·.1)) || false)=false;rw[hpl];rfl) (fun _ z=>z) (Dy (thn ha' fun us s2 ⟨vs,H2,I2,r,n,sp,c,q⟩=>⟨c.kp H2 _ (Frz.refl _) I2.hok I2.kIn,?_⟩));refine wpAny_call (codeAny_mono (c.run X.A X.stack s2 H2 us vs Q E (Frz.refl _) hr I2.env0 r q) fun r s' hq=>?_);cases r with
 |error e=>exact hx pins σ H2 s2 e s' I2 hq
 |ok fl=>
  cases fl with
  |ret u=>exact I2.after hq
  |next=>exact False.elim hq
  |brk=>exact False.elim hq
  |cont=>exact False.elim hq
theorem Vi{P:FU}{w:F0}:Ix (CXF P w C) X E0:=by intro pins σ Hc sc e s' I h;obtain⟨ea,d,T,H',i,_,_,_,_,_,_,_,_,_,_,_,hE⟩:=h;exact hE.elim
end
theorem Pi{X:Cx}{x:Str}{g:FP}{pos:Pos}(hm:X.mg x=some (.ref g))(hg:Gl X x:=by rfl)(hd:(x==("__debug__":Str))=false:=by decide):PE X (.Name x pos) (tC (.ref g)):=OU hg hm rfl hd
abbrev uT:HO:=.ext fun _=>True
abbrev fz(o:Obj):HO:=.frz o uT
theorem RN{P:FU}{w:F0}{H:Hp}{h:Heap}{a:FP}{o:Obj}(e:h.get? a=some o):ObjOk P w H h a (fz o):=⟨e,trivial,⟨o,e⟩,fun _ _ _ _=>trivial⟩
def ovl(H:Hp)(cs:List (FP×Obj)):Hp:=fun b=>match cs.lookup b with
 |some o=>some (fz o)
 |none=>H b
def unt(H:Hp)(cs:List (FP×Obj)):Hp:=fun b=>match cs.lookup b with
 |some _=>none
 |none=>H b
section
variable{H H':Hp}{cs:List (FP×Obj)}{b:FP}{o:Obj}
theorem Kj(h:cs.lookup b=some o):ovl H cs b=some (fz o):=by unfold ovl;rw[h]
theorem Hr(h:cs.lookup b=none):ovl H cs b=H b:=by unfold ovl;rw[h]
theorem K5(h:cs.lookup b=some o):unt H cs b=none:=by unfold unt;rw[h]
theorem G8(h:cs.lookup b=none):unt H cs b=H b:=by unfold unt;rw[h]
theorem HU(hc:∀c o,cs.lookup c=some o->H c=some (fz o)){u:HO}(h:H b=some u)(hn:∀o,u≠fz o):unt H cs b=some u:=by
 cases q:cs.lookup b with
 |none=>rw[G8 q];exact h
 |some o=>rw[hc b o q] at h;cases h;exact absurd rfl (hn o)
theorem G3(hc:∀c o,cs.lookup c=some o->H c=none){u:HO}(h:H b=some u):ovl H cs b=some u:=by
 cases q:cs.lookup b with
 |none=>rw[Hr q];exact h
 |some o=>rw[hc b o q] at h;cases h
end
section
variable{P:FU}{w:F0}{fs:List FP}{H H':Hp}{h h':Heap}{cs:List (FP×Obj)}
theorem UH(hc:∀c o,cs.lookup c=some o->h.get? c=some o/\H c=none/\c∉fs)(u:Un fs [] (ovl H cs) H' h h')(hok:HOk P w H' h'):
  (∀c o,cs.lookup c=some o->H' c=some (fz o))/\Un fs [] H (unt H' cs) h h'/\HOk P w (unt H' cs) h':=by
 have fz':∀c o,cs.lookup c=some o->H' c=some (fz o):=fun c o e=>u.frzs c o _ (Kj e);have get':∀c o,cs.lookup c=some o->h'.get? c=some o:=fun c o e=>(hok c _ (fz' c o e)).1;refine⟨fz',⟨fun b o e n hb _=>?_,fun b o e n hb _=>?_,fun b o e n _=>?_,fun b o e _=>u.there b o e (by simp),fun b xs e=>?_,fun b o x e=>?_,fun b ps e=>?_⟩,fun b o e=>?_⟩
 ·cases q:cs.lookup b with
  |some oc=>rw[(hc b oc q).1] at e;cases e;exact get' b _ q
  |none=>exact u.keep b o e (by rw[Hr q];exact n) hb (by simp)
 ·cases q:cs.lookup b with
  |some oc=>exact absurd hb (hc b oc q).2.2
  |none=>exact u.slot b o e (by rw[Hr q];exact n) hb (by simp)
 ·cases q:cs.lookup b with
  |some oc=>exact K5 q
  |none=>rw[G8 q];exact u.free b o e (by rw[Hr q];exact n) (by simp)
 ·cases q:cs.lookup b with
  |some oc=>rw[(hc b oc q).2.1] at e;cases e
  |none=>rw[G8 q];exact u.tups b xs (by rw[Hr q];exact e)
 ·cases q:cs.lookup b with
  |some oc=>rw[(hc b oc q).2.1] at e;cases e
  |none=>rw[G8 q];exact u.frzs b o x (by rw[Hr q];exact e)
 ·cases q:cs.lookup b with
  |some oc=>rw[(hc b oc q).2.1] at e;cases e
  |none=>rw[G8 q];exact u.tbls b ps (by rw[Hr q];exact e)
 ·cases q:cs.lookup b with
  |some oc=>rw[K5 q] at e;cases e
  |none=>
   rw[G8 q] at e;refine(hok b o e).stay (fun _ _ _ z=>z) (fun d hd=>?_) fun d xs hd=>?_
   ·cases q2:cs.lookup d with
    |some oc=>rw[fz' d oc q2] at hd;cases hd
    |none=>rw[G8 q2];exact hd
   ·cases q2:cs.lookup d with
    |some oc=>rw[fz' d oc q2] at hd;cases hd
    |none=>rw[G8 q2];exact hd
theorem Vh(hc:∀c o,cs.lookup c=some o->H c=some (fz o)/\h.get? c=some o/\c∉fs)(u:Un fs [] (unt H cs) H' h h')(hok:HOk P w H' h'):
  (∀c o,cs.lookup c=some o->H' c=none)/\Un fs [] H (ovl H' cs) h h'/\HOk P w (ovl H' cs) h':=by
 have n':∀c o,cs.lookup c=some o->H' c=none:=fun c o e=>u.free c o (hc c o e).2.1 (K5 e) (by simp);have get':∀c o,cs.lookup c=some o->h'.get? c=some o:=fun c o e=>u.keep c o (hc c o e).2.1 (K5 e) (hc c o e).2.2 (by simp);refine⟨n',⟨fun b o e n hb _=>?_,fun b o e n hb _=>?_,fun b o e n _=>?_,fun b o e _=>u.there b o e (by simp),fun b xs e=>?_,fun b o x e=>?_,fun b ps e=>?_⟩,fun b o e=>?_⟩
 ·cases q:cs.lookup b with
  |some oc=>rw[(hc b oc q).1] at n;cases n
  |none=>exact u.keep b o e (by rw[G8 q];exact n) hb (by simp)
 ·cases q:cs.lookup b with
  |some oc=>rw[(hc b oc q).1] at n;cases n
  |none=>exact u.slot b o e (by rw[G8 q];exact n) hb (by simp)
 ·cases q:cs.lookup b with
  |some oc=>rw[(hc b oc q).1] at n;cases n
  |none=>rw[Hr q];exact u.free b o e (by rw[G8 q];exact n) (by simp)
 ·cases q:cs.lookup b with
  |some oc=>rw[(hc b oc q).1] at e;cases e
  |none=>rw[Hr q];exact u.tups b xs (by rw[G8 q];exact e)
 ·cases q:cs.lookup b with
  |some oc=>rw[(hc b oc q).1] at e;cases e;exact Kj q
  |none=>rw[Hr q];exact u.frzs b o x (by rw[G8 q];exact e)
 ·cases q:cs.lookup b with
  |some oc=>rw[(hc b oc q).1] at e;cases e
  |none=>rw[Hr q];exact u.tbls b ps (by rw[G8 q];exact e)
 ·cases q:cs.lookup b with
  |some oc=>rw[Kj q] at e;cases e;exact RN (get' b oc q)
  |none=>rw[Hr q] at e;exact(hok b o e).stay (fun _ _ _ z=>z) (fun d hd=>G3 n' hd) fun d xs hd=>G3 n' hd
theorem VX(hc:∀c o,cs.lookup c=some o->H c=some (fz o))(hok:HOk P w H h):HOk P w (unt H cs) h:=fun b o e=>by
 cases q:cs.lookup b with
 |some oc=>rw[K5 q] at e;cases e
 |none=>rw[G8 q] at e;exact(hok b o e).stay (fun _ _ _ z=>z) (fun d hd=>HU hc hd (fun _ z=>by cases z)) fun d xs hd=>HU hc hd (fun _ z=>by cases z)
theorem V6(hc:∀c o,cs.lookup c=some o->H c=none/\h.get? c=some o)(hok:HOk P w H h):HOk P w (ovl H cs) h:=fun b o e=>by
 cases q:cs.lookup b with
 |some oc=>rw[Kj q] at e;cases e;exact RN (hc b oc q).2
 |none=>rw[Hr q] at e;exact(hok b o e).stay (fun _ _ _ z=>z) (fun d hd=>G3 (fun c o z=>(hc c o z).1) hd) fun d xs hd=>G3 (fun c o z=>(hc c o z).1) hd
end
abbrev Px(qual:Str)(scope:Scope)(L f:FP)(cd:FO)(cl:List (Str×FP)):Env:=newEnv scope L FX cl (qual++".<locals>.") (some f) cd none builtinsNs
def M8(P:FU)(w:F0)(K:Gh)(mg:Str->Option FO)(base:Heap)(C:FP)(N:List Str)(qual:Str)(scope:Scope)(f:FP)(cd:FO)(cl:List (Str×FP))(A:F4)(outer:List Env)(s:FS)(H:Hp)(E:XK):Cx where
 prog:=P
 w:=w
 K:=K
 mg:=mg
 base:=base
 A:=A.deeper (Px qual scope s.heap.objs.size f cd cl)
 N:=N
 s_0:=s
 H_0:=H
 env:=Px qual scope s.heap.objs.size f cd cl
 outer:=outer
 stack:=Px qual scope s.heap.objs.size f cd cl::outer
 ex:=[]
 calm:=true
 fn:=fun _=>false
 pn:=[]
 xe:=fun e s'=>FW (model P w) (A.deeper (Px qual scope s.heap.objs.size f cd cl)) (leaving (Px qual scope s.heap.objs.size f cd cl) e) (fun _ s''=>CXF P w C outer H s E e s'') (fun e' s''=>CXF P w C outer H s E e' s'') s'
section
variable{P:FU}{w:F0}{K:Gh}{mg:Str->Option FO}{base:Heap}{N:List Str}{qual:Str}{scope:Scope}{f C ea d:FP}{cd:FO}{cl:List (Str×FP)}{A:F4}{outer:List Env}{s s':FS}{H H':Hp}{E:XK}{pins:List (FP×Obj)}{σ:St}{i:Int}{xs:List FP}
theorem YG(I:Inv (M8 P w K mg base C N qual scope f cd cl A outer s H E) pins σ H' s')(O:LX.Out s'.heap ea (.ref C) d xs)(hx:∀b∈xs,s.heap.get? b=none/\H' b=none)
  (hd:H' d=some (.xd (xfs i))) (hE:E (.ref C) (some d) H'):(M8 P w K mg base C N qual scope f cd cl A outer s H E).xe (.ref ea) s':=by
 have hea:ea∈xs:=by cases O <;> simp
 refine LX.leaves (env:=Px qual scope s.heap.objs.size f cd cl) (outer:=outer) (base:=base) I.ok.frames I.stack rfl O fun h' T' kp hT F=>?_;have nfr:∀b o,s.heap.get? b=some o->b∉frs outer->b∉LX.fra (Px qual scope s.heap.objs.size f cd cl::outer):=fun b o e hb m=>by
  have m':b∈s.heap.objs.size::frs outer:=m;rcases Ao.mp m' with z | z
  ·exact absurd (Am e) (by rw[z];exact Bk _)
  ·exact hb z
 have nxs:∀b o,s.heap.get? b=some o->b∉xs:=fun b o e m=>by rw[(hx b m).1] at e;cases e
 have B:Un (frs outer) [] H H' s.heap s'.heap:=I.base;have trk:∀b o u,H' b=some u->s'.heap.get? b=some o->h'.get? b=some o:=fun b o u e ho=>by
  refine(kp b o ho fun m=>?_).1 fun m=>?_
  ·rw[(hx b m).2] at e;cases e
  ·have z:H' b=none:=I.stkFree b m;rw[z] at e;cases e
 refine⟨ea,d,T',H',i,rfl,F,(hx ea hea).1,?_,(hx ea hea).2,I.hok.none_of hT,I.os,I.bare,⟨fun b o e n hb he=>?_,fun b o e n hb he=>?_,fun b o e n he=>B.free b o e n he,fun b o e he=>?_,B.tups,B.frzs,B.tbls⟩,fun b o e=>?_,hd,hE⟩
 ·cases q:s.heap.get? T' with
  |none=>rfl
  |some o=>obtain⟨o',e'⟩:=B.there T' o q (by simp);rw[hT] at e';cases e'
 ·exact(kp b o (B.keep b o e n hb he) (nxs b o e)).1 (nfr b o e hb)
 ·obtain⟨sl,e1⟩:=B.slot b o e n hb he;obtain⟨sl',e2⟩:=(kp b _ e1 (nxs b o e)).2;exact⟨sl',e2⟩
 ·obtain⟨o',e1⟩:=B.there b o e he;obtain⟨sl',e2⟩:=(kp b _ e1 (nxs b o e)).2;exact⟨_,e2⟩
 ·refine(I.hok b o e).stay (fun c u hc q=>?_) (fun _ q=>q) fun _ _ q=>q;rcases hc with z | z
  ·rw[z] at q ⊢;exact trk b u o e q
  ·exact trk c u _ z q
theorem XH:Ix (CXF P w C) (M8 P w K mg base C N qual scope f cd cl A outer s H E) E:=by
 intro pins σ Hc sc e s' I h;obtain⟨ea,d,T,H',i,rfl,F,e1,e2,n1,n2,ho,hg,un,hok,hd,hE⟩:=h;have I':Inv (M8 P w K mg base C N qual scope f cd cl A outer s H E) pins σ H' s':=I.call' (ch:=[]) ho un hok hg (fun b z=>absurd z (by simp));have B:Un (frs outer) [] H Hc s.heap sc.heap:=I.base;have old:∀b,sc.heap.get? b=none->s.heap.get? b=none:=fun b z=>by
  cases q:s.heap.get? b with
  |none=>rfl
  |some o=>obtain⟨o',e'⟩:=B.there b o q (by simp);rw[z] at e';cases e'
 refine YG I' (.next F) (fun b hb=>?_) hd hE;rcases Ao.mp hb with rfl | hb
 ·exact⟨old _ e1,n1⟩
 ·rw[Aj.mp hb];exact⟨old _ e2,n2⟩
end
structure LamScope(N ps:List Str)(sc:Scope):Prop where
 kind:sc.kind=.function
 co:sc.isCoroutine=false
 gen:sc.isGenerator=false
 nd:N.Nodup
 pre:N.take ps.length=ps
 par:∀x∈ps,sc.names.lookup x=some .local
 nocell:∀x∈sc.names,x.2≠.cell
 free:∀x∈N.drop ps.length,sc.names.lookup x=some .free
theorem WR{ps:List Str}{us:List FO}(nd:ps.Nodup)(hl:us.length=ps.length){i:Nat}{x:Str}{u:FO}(h1:ps[i]?=some x)(h2:us[i]?=some u):(ps.zip us).reverse.lookup x=some u:=by
 have hm:(x,u)∈(ps.zip us).reverse:=by rw[Ec];refine AO (i:=i) ?_;rw[Cf];exact⟨h1,h2⟩
 have key:∀l:List (Str×FO),(l.map (·.1)).Nodup->(x,u)∈l->l.lookup x=some u:=by
  intro l
  induction l with
  |nil=>intro _ z;cases z
  |cons p r ih=>
   obtain⟨a,b⟩:=p;intro n z;rw[AM,CH] at n;rw[Bb];rcases Ao.mp z with e | z
   ·cases e;simp
   ·have ne:x≠a:=fun q=>n.1 (by rw[<-q];exact AZ.mpr ⟨(x,u),z,rfl⟩);rw[beq_eq_false_iff_ne.mpr ne];exact ih n.2 z
 refine key _ ?_ hm;rw[List.map_reverse];have e:(ps.zip us).map (·.1)=ps:=by
  rw[Ed]
  lia
 rw[e];exact Dv.mpr (List.Pairwise.imp (fun h=>Ne.symm h) nd)
section
variable{P:FU}{w:F0}{K:Gh}{mg:Str->Option FO}{base:Heap}{C:FP}
theorem VZ{k:Nat}{H:Hp}{f c':FP}{nm qual:Str}{params:Arguments}{body:F3}{scope:Scope}{cl:List (Str×FP)}{pm ctv:FO}{oc:Obj}{N ps:List Str}{fr:List V}{sp:Sp}
  (hf:H f=some (fz (D6 nm qual params body scope cl pm c' ctv))) (hc':H c'=some (fz oc)) (hoc:∃vs t,oc.data=.fields vs/\vs[1]?=some (.str qual t))
  (cs:List (FP×Obj)) (hcs:∀c o,cs.lookup c=some o->H c=some (fz o)/\∃u,o.data=.cell u) (hcl:∀x c,cl.lookup x=some c->∃o,cs.lookup c=some o) (inj:∀x y c,cl.lookup x=some c->cl.lookup y=some c->x=y)
  (S:LamScope N ps scope) (has:∀x,scope.names.lookup x=some .free->∃c,cl.lookup x=some c) (hlen:N.length=ps.length+fr.length)
  (hfr:∀(j:Nat) (x:Str) (v:V),fr[j]?=some v->N[ps.length+j]?=some x->∃c o u,cl.lookup x=some c/\cs.lookup c=some o/\o.data=.cell (some u)/\RelV v u)
  (hb:∀us:List FO,us.length=ps.length->bindArgs (Fo nm qual params body scope cl pm (.ref c') ctv) ⟨us,[]⟩=pure (ps.zip us))
  (len:∀vs H Q E,sp vs H Q E->vs.length=ps.length)
  (hbody:∀(A:F4) (outer:List Env) (s:FS) (H':Hp) (vs:List V) (Q:VK) (E:XK),Frz H H'->Room k (A.deeper (Px qual scope s.heap.objs.size f (.ref c') cl))->sp vs H' Q E->
   ∃t,PE (M8 P w K mg base C N qual scope f (.ref c') cl A outer s (unt H' cs) (fun a d H2=>(∀c o,cs.lookup c=some o->H2 c=none)->E a d (ovl H2 cs))) body t/\t ((vs++fr).map some) (unt H' cs) fun v H2=>(∀c o,cs.lookup c=some o->H2 c=none)->Q v (ovl H2 cs)):
  Clb P w K mg base C (k+1) H f ps.length sp:=by
 refine⟨len,fun H' h hF hok _=>?_,fun A outer s H' us vs Q E hF hr e0 r hsp=>?_⟩
 ·exact PySem.W.keeps_F h ⟨_,_,_,_,(hok f _ (hF f _ _ hf)).1⟩
 ·have hl:=len _ _ _ _ hsp;have hul:us.length=ps.length:=by rw[<-r.length];exact hl
  have lim:s.heap.NoLimit:=e0.mod.nolimit.keeps fun b o e=>(e0.bs b o e).1;have gf:=(e0.hok f _ (hF f _ _ hf)).1;have gc:=(e0.hok c' _ (hF c' _ _ hc')).1;obtain⟨vs0,t0,hd0,hv0⟩:=hoc;have hcs':∀c o,cs.lookup c=some o->H' c=some (fz o):=fun c o e=>hF c _ _ (hcs c o e).1;have gcs:∀c o,cs.lookup c=some o->s.heap.get? c=some o:=fun c o e=>(e0.hok c _ (hcs' c o e)).1;have nfr:∀c o,cs.lookup c=some o->c∉frs outer:=fun c o e z=>by have:=e0.frf c z;rw[hcs' c o e] at this;cases this
  refine PySem.W.kla_callFunE hr.depth gf rfl S.co S.gen rfl ⟨c',oc,vs0,t0,rfl,gc,hd0,hv0⟩ ?_;rw[hb us hul];refine FV (wpAny_newFunctionEnv S.nocell (fun x hx=>S.par x.1 (Cn (show(x.1,x.2)∈ps.zip us from hx)).1) (fun h₁ hns hsb=>⟨lim.keeps fun b o e=>hsb.extBut b o (AH (Am e)) (Ab _ e),?_⟩) S.kind);obtain⟨t,ht,hq⟩:=hbody A outer s H' vs Q E hF (hr.deeper _) hsp;have hk:∀b o,s.heap.get? b=some o->h₁.get? b=some o:=fun b o e=>hsb.extBut b o (AH (Am e)) (Ab _ e);have hokU:=VX hcs' e0.hok;have nb:∀b,H' b=none->unt H' cs b=none:=fun b e=>by
   cases q:cs.lookup b with
   |none=>rw[G8 q];exact e
   |some o=>exact K5 q
  have I:Inv (M8 P w K mg base C N qual scope f (.ref c') cl A outer s (unt H' cs) (fun a d H2=>(∀c o,cs.lookup c=some o->H2 c=none)->E a d (ovl H2 cs))) [] ((vs++fr).map some) (unt H' cs) { s with heap:=h₁,toks:=s.toks+(ps.zip us).length }:=by
   have noA:∀b:FP,b∉([]:List FP):=fun b z=>by cases z
   refine⟨⟨e0.mod,S.kind,rfl,rfl,Ah _,fun y z c h1 h2=>inj y z c h1 h2,fun y hy=>?_,fun y c h _=>?_,fun _=>hr.hd,F4.frames_deeper e0.frames,.inr ⟨rfl,rfl⟩,fun b z=>absurd z (noA b),fun b o e=>⟨(e0.bs b o e).1,nb b (e0.bs b o e).2⟩,e0.bsz,fun b _ _=>noA b,fun b z=>absurd z (noA b),e0.funs,fun b hb=>nb b (e0.frf b hb)⟩,
    rfl,e0.bare,Un.kept hk,⟨_,hns,fun i y v h1 h2 h3=>?_⟩,fun y c h=>?_,nb _ (e0.hok.fresh (Ah _)),fun y c h=>?_,fun p hp=>absurd (show p∈([]:List (FP×Obj)) from hp) (by simp),hokU.kept hk,?_⟩
   ·have hy:scope.names.lookup y=some .cell\/scope.names.lookup y=some .free:=hy;rcases hy with hy | hy
    ·exact absurd rfl (S.nocell _ (PySem.mem_of_lookup hy))
    ·exact has y hy
   ·exact absurd (show false=true from h) Ag
   ·have h1:N[i]?=some y:=h1;rw[Al] at h2;cases e:(vs++fr)[i]? with
    |none=>rw[e] at h2;cases h2
    |some v'=>
     rw[e] at h2;have h2:some v'=some v:=by simpa using h2
     cases h2;by_cases hi:i<vs.length
     ·rw[AF hi] at e;obtain⟨u,hu,rv⟩:=r.get e;have hp:ps[i]?=some y:=by rw[<-S.pre,Ev (by lia)];exact h1
      refine⟨u,rv,.inl ⟨S.par y (AO hp),WR ?_ hul hp hu⟩⟩;have:=S.nd;rw[<-S.pre];exact this.sublist (Ft _ _)
     ·rw[Ay (by lia)] at e;obtain⟨c,o,u,q1,q2,q3,q4⟩:=hfr (i-vs.length) y v e (by rw[<-hl];rw[show vs.length+(i-vs.length)=i by lia];exact h1);refine⟨u,q4,.inr ⟨.inr (S.free y ?_),c,q1,o,hk _ _ (gcs c o q2),q3⟩⟩;refine AO (i:=i-ps.length) ?_;rw[Fk,show ps.length+(i-ps.length)=i by lia];exact h1
   ·obtain⟨o,ho⟩:=hcl y c h;obtain⟨u,hu⟩:=(hcs c o ho).2;exact⟨u,o,hk _ _ (gcs c o ho),hu⟩
   ·obtain⟨o,ho⟩:=hcl y c h;exact K5 ho
   ·show((vs++fr).map some).length=N.length;rw[Aa,Ac,hl,hlen]
  refine PySem.W.kla_codeExpr (F9 (ht [] _ _ _ _ I hq) (fun u s' hs=>?_) fun e s' hs=>?_)
  ·obtain⟨v,H2,J,rv,q⟩:=hs;obtain⟨a1,a2,a3⟩:=Vh (fs:=frs outer) (fun c o e=>⟨hcs' c o e,gcs c o e,nfr c o e⟩) J.base J.hok;exact⟨v,_,J.os,J.bare,a2,a3,rv,q a1⟩
  ·have key:∀e s'',CXF P w C outer (unt H' cs) s (fun a d H2=>(∀c o,cs.lookup c=some o->H2 c=none)->E a d (ovl H2 cs)) e s''->CXF P w C outer H' s E e s'':=by
    rintro e s'' ⟨ea,d,T,H2,i,rfl,F,e1,e2,n1,n2,ho,hg,un,hok,hd,hE⟩;obtain⟨a1,a2,a3⟩:=Vh (fs:=frs outer) (fun c o e=>⟨hcs' c o e,gcs c o e,nfr c o e⟩) un hok;have nn:∀b,s.heap.get? b=none->cs.lookup b=none:=fun b z=>by
     cases q:cs.lookup b with
     |none=>rfl
     |some o=>rw[gcs b o q] at z;cases z
    exact⟨ea,d,T,_,i,rfl,F,e1,e2,by rw[Hr (nn _ e1)];exact n1,by rw[Hr (nn _ e2)];exact n2,ho,hg,a2,a3,G3 a1 hd,hE a1⟩
   exact F9 hs (fun _ s'' q=>key _ _ q) fun e' s'' q=>key _ _ q
end
def QX(base:Heap)(mg:Str->Option FO):Prop:=∃bm ob,mg "__builtins__"=some (.ref bm)/\bm≠builtinsNs/\base.get? bm=some ob/\ob.cls=.type "module"/\ob.dict=some builtinsNs/\ob.data=.plain
def Lf(P:FP)(H H':Hp):Prop:=∀b o,H b=some o->b≠P->H' b=some o
structure LamObj(H:Hp)(f:FP)(qual:Str)(params:Arguments)(body:F3)(scope:Scope)(cl:List (Str×FP)):Prop where
 ex:∃(c':FP) (oc:Obj) (pm ctv:FO),H f=some (fz (D6 "<lambda>" qual params body scope cl pm c' ctv))/\H c'=some (fz oc)/\∃vs t,oc.data=.fields vs/\vs[1]?=some (.str qual t)
def Xj(P:FP)(pos:Pos)(qual:Str)(H:Hp):Prop:=∃(c':FP) (oc:Obj) (vs:Array FO) (t:Tok),H P=some (.tbl #[rawInt pos.line,rawInt pos.col,.ref c'])/\H c'=some (fz oc)/\oc.data=.fields vs/\vs[1]?=some (.str qual t)
def Aay(P:FP)(pos:Pos)(qual:Str)(params:Arguments)(body:F3)(scope:Scope)(cl:List (Str×FP)):TE:=fun _ H Q=>H P=some (.tbl #[])/\∀(f:FP) (H2:Hp),Lf P H H2->Xj P pos qual H2->LamObj H2 f qual params body scope cl->Q (.ref f) H2
theorem VB{X:Cx}{c P:FP}{params:Arguments}{body:F3}{scope:Scope}{pos:Pos}{qual:Str}(hcode:X.env.code=.ref c)(hK:Ca X.K c P=true)(BM:QX X.base X.mg)(hq:X.env.qual++"<lambda>"=qual)
  (hfree:∀y∈scope.names,y.2=.free->∃c,X.env.cells.lookup y.1=some c) (hdef:defaultsOf params X.env=([],[]):=by rfl):
  PE X (.Lambda params body scope pos) (Aay P pos qual params body scope (GW X.env.cells scope.names [])):=by
 intro pins s σ H Q I h;obtain⟨hP,h⟩:=h;have gP:s.heap.get? P=some (Dl #[]):=I.hok P _ hP;have hgs:s.heap.Ns FX X.mg:=I.mod.glob.keeps I.bk;obtain⟨bm,ob,b1,b2,b3,b4,b5,b6⟩:=BM;have nP:∀b o,X.base.get? b=some o->b≠P:=fun b o e z=>by have q:=(I.bs b o e).2;rw[z,hP] at q;cases q
 have hgP:FX≠P:=by obtain⟨o,es,ep,e,hd,_⟩:=I.mod.glob;exact nP _ o e
 have hbG:bm≠FX:=fun q=>by obtain⟨o,es,ep,e,hd,_⟩:=I.mod.glob;rw[q,e] at b3;cases b3;rw[hd] at b6;cases b6
 refine PySem.W.kla_eval hdef (PySem.W.kla_makeFunction (mg:=X.mg) (NV hfree) I.ok.glob hgs hcode (PySem.W.codeHd_of_K I.kIn hK) gP trivial rfl hgP ⟨bm,ob,b1,b2,hbG,nP _ _ b3,I.bk _ _ b3,b4,b5,b6⟩ fun c' ctv h' tk hx hge hlt hrec htb=>?_);rw[hq];rw[hq] at hrec;obtain⟨c2,oc,vs,t,e2,hoc,hd,hv⟩:=hrec;cases e2;generalize hfo:D6 "<lambda>" qual params body scope (GW X.env.cells scope.names []) ((X.mg "__name__").getD .none) c' ctv=fo;have hPs:P<s.heap.objs.size:=Am gP;have hsz:s.heap.objs.size<=h'.objs.size:=BB (Ar hge hlt);have nf:H h'.objs.size=none:=I.hok.fresh hsz;have nc:H c'=none:=I.hok.fresh hge;have pf:P≠h'.objs.size:=AH (Ap hPs hsz);have pc:P≠c':=AH (Ap hPs hge);have cf:c'≠h'.objs.size:=AH hlt
 let ps':Array FO:=#[]++#[rawInt pos.line,rawInt pos.col,.ref c']
 let H2:Hp:=upd (upd (upd H P (.tbl ps')) c' (fz oc)) h'.objs.size (fz fo)
 have out:∀b,b≠P->b≠c'->b≠h'.objs.size->H2 b=H b:=fun b n1 n2 n3=>by show upd (upd (upd H P (.tbl ps')) c' (fz oc)) h'.objs.size (fz fo) b=H b;rw[Gr n3,Gr n2,Gr n1]
 have atP:H2 P=some (.tbl ps'):=by show upd (upd (upd H P (.tbl ps')) c' (fz oc)) h'.objs.size (fz fo) P=_;rw[Gr pf,Gr pc,Gn]
 have atC:H2 c'=some (fz oc):=by show upd (upd (upd H P (.tbl ps')) c' (fz oc)) h'.objs.size (fz fo) c'=_;rw[Gr cf,Gn]
 have atF:H2 h'.objs.size=some (fz fo):=Gn;have kb:Lf P H H2:=fun b o e n=>by rw[out b n (Gs e nc) (Gs e nf)];exact e
 have gk:∀b o,b≠P->s.heap.get? b=some o->(h'.push fo).get? b=some o:=fun b o n e=>Ab _ (hx b o n e);refine⟨.ref h'.objs.size,H2,I.un (t':=tk) (h':=h'.push fo) ⟨fun b o e n _ _=>?_,fun b o e n _ _=>?_,fun b o e n _=>?_,fun b o e _=>?_,fun b xs e=>?_,fun b o x e=>?_,fun b ps e=>?_⟩ (fun b o e=>?_),rfl,h _ _ kb ⟨c',oc,vs,t,by rw[atP];show some (HO.tbl (#[]++_))=_;rw[Array.empty_append],atC,hd,hv⟩ ⟨c',oc,_,ctv,by rw[hfo];exact atF,atC,vs,t,hd,hv⟩⟩
 ·exact gk b o (fun z=>by rw[z,hP] at n;cases n) e
 ·exact⟨o.slots,gk b o (fun z=>by rw[z,hP] at n;cases n) e⟩
 ·have hb:=Am e;rw[out b (fun z=>by rw[z,hP] at n;cases n) (AH (Ap hb hge)) (AH (Ap hb hsz))];exact n
 ·by_cases z:b=P
  ·rw[z];exact⟨_,Ab _ htb⟩
  ·exact⟨o,gk b o z e⟩
 ·exact kb b _ e fun z=>by rw[z,hP] at e;cases e
 ·exact kb b _ e fun z=>by rw[z,hP] at e;cases e
 ·by_cases z:b=P
  ·subst z;rw[hP] at e;cases e;exact⟨_,atP⟩
  ·exact⟨#[],by rw[kb b _ e z,Array.append_empty]⟩
 ·by_cases z1:b=h'.objs.size
  ·rw[z1] at e ⊢;rw[atF] at e;cases e;exact RN (Au _ (by rw[<-hfo];rfl))
  ·by_cases z2:b=c'
   ·rw[z2] at e ⊢;rw[atC] at e;cases e;exact RN (Ab _ hoc)
   ·by_cases z3:b=P
    ·rw[z3] at e ⊢;rw[atP] at e;cases e;exact Ab _ htb
    ·rw[out b z3 z2 z1] at e;refine(I.hok b o e).stay (fun d v hd' q=>gk d v ?_ q) (fun d q=>kb d _ q fun z=>by rw[z,hP] at q;cases q) fun d xs q=>kb d _ q fun z=>by rw[z,hP] at q;cases q
     rcases hd' with z | z
     ·rw[z];exact z3
     ·intro y;rw[y,hP] at z;cases z
structure CellsAt(env:Env)(σ:St)(L:List (Str×Nat))(H:Hp)(cs:List (FP×Obj)):Prop where
 free:∀c o,cs.lookup c=some o->H c=none/\∃u,o.data=.cell u
 inj:∀x y c,env.cells.lookup x=some c->env.cells.lookup y=some c->x=y
 val:∀x i v,(x,i)∈L->σ[i]?=some (some v)->∃c o u,env.cells.lookup x=some c/\cs.lookup c=some o/\o.data=.cell (some u)/\RelV v u
theorem Qe{X:Cx}{pins:List (FP×Obj)}{σ:St}{H:Hp}{s:FS}(I:Inv X pins σ H s):∀(L:List (Str×Nat)),(∀x i,(x,i)∈L->X.N[i]?=some x/\X.env.scope.names.lookup x=some .cell/\X.fn x=true/\∃v,σ[i]?=some (some v))->
  ∃cs:List (FP×Obj),(∀c o,cs.lookup c=some o->s.heap.get? c=some o/\(∃u,o.data=.cell u)/\∃x,X.env.cells.lookup x=some c/\X.fn x=true) ∧
   ∀x i v,(x,i)∈L->σ[i]?=some (some v)->∃c o u,X.env.cells.lookup x=some c/\cs.lookup c=some o/\o.data=.cell (some u)/\RelV v u
 |[],_=>⟨[],⟨fun c o e=>absurd e (by simp),fun x i v e=>absurd e (by simp)⟩⟩
 |(x,i)::L,h=>by
  obtain⟨cs,h1,h2⟩:=Qe I L fun y j hy=>h y j (Aw _ hy);obtain⟨hN,hk,hf,v,hv⟩:=h x i AE;obtain⟨m,hn,hl⟩:=I.loc;obtain⟨u,r,l⟩:=hl i x v hN hv (.inr (.inl hk));obtain⟨c,hc,o,ho,hd⟩:∃c,X.env.cells.lookup x=some c/\s.heap.IsCell c (some u):=by
   rcases l with ⟨z,_⟩ | ⟨_,c,q1,q2⟩
   ·have z':X.env.scope.names.lookup x=some .local:=z;rw[hk] at z';cases z'
   ·exact⟨c,q1,q2⟩
  refine⟨(c,o)::cs,fun c' o' e=>?_,fun y j v' hy hv'=>?_⟩
  ·rw[Bb] at e;cases hb:c'==c with
   |true=>rw[hb] at e;cases e;rw[beq_iff_eq.mp hb];exact⟨ho,⟨_,hd⟩,x,hc,hf⟩
   |false=>rw[hb] at e;exact h1 c' o' e
  ·rcases Ao.mp hy with e | hy
   ·cases e;rw[hv] at hv';cases hv';exact⟨c,o,u,hc,by rw[Bb,beq_self_eq_true],hd,r⟩
   ·obtain⟨c',o',u',q1,q2,q3,q4⟩:=h2 y j v' hy hv';cases hb:c'==c with
    |true=>have eb:=beq_iff_eq.mp hb;have g:=(h1 c' o' q2).1;rw[eb,ho] at g;cases g;exact⟨c',o,u',q1,by rw[Bb,hb],q3,q4⟩
    |false=>exact⟨c',o',u',q1,by rw[Bb,hb];exact q2,q3,q4⟩
def XZ(env:Env)(L:List (Str×Nat))(sp:Sp)(E:XK)(t:TA):TE:=fun σ H Q=>(∀x i,(x,i)∈L->∃v,σ[i]?=some (some v))/\t σ H fun vs H1=>∀cs,CellsAt env σ L H1 cs->
 sp vs (ovl H1 cs) (fun v H'=>(∀c o,cs.lookup c=some o->H' c=some (fz o))->Q v (unt H' cs)) fun a d H'=>(∀c o,cs.lookup c=some o->H' c=some (fz o))->E a d (unt H' cs)
section
variable{X:Cx}{C:FP}{k:Nat}{E:XK}{x:Str}{p pos:Pos}{e:F3}{es:List F3}{t:TA}{sp:Sp}{ps:List Str}{g:FP}{fd:FZ}{L:List (Str×Nat)}
theorem QC(F:FnOk X.prog X.w X.K X.mg X.base (CXF X.prog X.w C) k g fd ps sp)(hr:Room k X.A)(hg:Gl X x)(hm:X.mg x=some (.ref g))(hk:AG X.K (.ref g)=true)(hb:Binds X.K fd ps [])(hx:Ix (CXF X.prog X.w C) X E)
  (hL:∀y i,(y,i)∈L->X.N[i]?=some y/\X.env.scope.names.lookup y=some .cell/\X.fn y=true) (ha:PA X (e::es) t) (hdb:(x==("__debug__":Str))=false:=by decide)
  (he:FY (e::es) X.env=(false,eval e X.env)::FY es X.env:=by rfl) (hpl:(backTo pos (FY es X.env)).any (·.1)=false:=by rfl):
  PE X (.Call (.Name x p) (e::es) [] pos) (XZ X.env L sp E t):=by
 intro pins s σ H Q I h;obtain⟨hs,h⟩:=h;refine Gc (JU I hg hm ?_ hdb);refine Ck (h₀:=X.base) I.ok.mod.kin hk (thn (ha pos pins s σ H _ I h) fun us s1 ⟨vs,H1,I1,r,q⟩=>⟨I1.kIn,?_⟩) he hpl;obtain⟨cs,c1,c2⟩:=Qe I1 L fun y i hy=>⟨(hL y i hy).1,(hL y i hy).2.1,(hL y i hy).2.2,hs y i hy⟩;have cfree:∀c o,cs.lookup c=some o->H1 c=none:=fun c o z=>by obtain⟨_,_,y,hy,_⟩:=c1 c o z;exact I1.freeC y c hy
 have cup:∀c o,cs.lookup c=some o->X.s_0.heap.objs.size<=c:=fun c o z=>by obtain⟨_,_,y,hy,hf⟩:=c1 c o z;exact I1.ok.cab y c hf hy
 have cnf:∀c o,cs.lookup c=some o->c∉frs X.stack:=fun c o z hb'=>by
  rcases Ao.mp (I1.stkSub c hb') with w | w
  ·obtain⟨_,_,y,hy,_⟩:=c1 c o z;exact I1.cne y c hy w
  ·obtain⟨_,o',ho',_⟩:=I1.ok.funs.mem w;exact absurd (Ap (Am ho') (cup c o z)) (Bk _)
 have q:=q cs ⟨fun c o z=>⟨cfree c o z,(c1 c o z).2.1⟩,I1.ok.inj,c2⟩;have e0:Env0 X.prog X.w X.K X.mg X.base X.A X.stack s1 (ovl H1 cs):=by
  have e1:=I1.env0;refine⟨e1.frames,e1.mod,fun b o z=>⟨(e1.bs b o z).1,?_⟩,e1.bsz,e1.funs,fun b hb'=>?_,V6 (fun c o z=>⟨cfree c o z,(c1 c o z).1⟩) e1.hok,e1.bare⟩
  ·cases q':cs.lookup b with
   |none=>rw[Hr q'];exact(e1.bs b o z).2
   |some o'=>exact absurd (Ap (Ap (Am z) I1.ok.bsz) (cup b o' q')) (Bk _)
  ·cases q':cs.lookup b with
   |none=>rw[Hr q'];exact e1.frf b hb'
   |some o'=>exact absurd hb' (cnf b o' q')
 have hl:us.length=ps.length:=by rw[<-r.length];exact F.len _ _ _ _ q
 have hbb:=hb s1 us I1.kIn (by rw[AX];exact hl);rw[AX] at hbb;have hcs:∀c o,cs.lookup c=some o->s1.heap.get? c=some o/\H1 c=none/\c∉frs X.stack:=fun c o z=>⟨(c1 c o z).1,cfree c o z,cnf c o z⟩;refine wpAny_call (codeAny_mono (F.run X.A X.stack s1 (ovl H1 cs) ⟨us,[]⟩ us vs _ _ hr e0 hbb r q) fun r s' hq=>?_);cases r with
 |error e=>
  refine hx pins σ H1 s1 e s' I1 ?_;obtain⟨ea,d,T,H',i,rfl,F',e1,e2,n1,n2,ho,hg,un,hok,hd,hE⟩:=hq;obtain⟨a1,a2,a3⟩:=UH hcs un hok;have nn:∀b,s1.heap.get? b=none->cs.lookup b=none:=fun b z=>by
   cases q':cs.lookup b with
   |none=>rfl
   |some o=>rw[(c1 b o q').1] at z;cases z
  exact⟨ea,d,T,_,i,rfl,F',e1,e2,by rw[G8 (nn _ e1)];exact n1,by rw[G8 (nn _ e2)];exact n2,ho,hg,a2,a3,HU a1 hd (fun _ z=>by cases z),hE a1⟩
 |ok fl=>
  cases fl with
  |ret u=>obtain⟨v,H',os,bare,un,hok,rv,q'⟩:=hq;obtain⟨a1,a2,a3⟩:=UH hcs un hok;exact I1.after ⟨v,_,os,bare,a2,a3,rv,q' a1⟩
  |next=>exact False.elim hq
  |brk=>exact False.elim hq
  |cont=>exact False.elim hq
end
structure LamAt(P:FU)(w:F0)(K:Gh)(mg:Str->Option FO)(base:Heap)(C:FP)(H:Hp)(f:FP)(cs:List (FP×Obj))(qual:Str)(body:F3)(scope:Scope)(N ps:List Str)(fr:List V):Prop where
 run:∀(k:Nat) (sp:Sp),(∀vs H Q E,sp vs H Q E->vs.length=ps.length)->
  (∀(cd:FO) (cl:List (Str×FP)) (A:F4) (outer:List Env) (s:FS) (H':Hp) (vs:List V) (Q:VK) (E:XK),Frz H H'->Room k (A.deeper (Px qual scope s.heap.objs.size f cd cl))->sp vs H' Q E->
   ∃t,PE (M8 P w K mg base C N qual scope f cd cl A outer s (unt H' cs) (fun a d H2=>(∀c o,cs.lookup c=some o->H2 c=none)->E a d (ovl H2 cs))) body t/\t ((vs++fr).map some) (unt H' cs) fun v H2=>(∀c o,cs.lookup c=some o->H2 c=none)->Q v (ovl H2 cs))->
  Clb P w K mg base C (k+1) H f ps.length sp
theorem Xw{P:FU}{w:F0}{K:Gh}{mg:Str->Option FO}{base:Heap}{C:FP}{env:Env}{σ:St}{L:List (Str×Nat)}{H:Hp}{f:FP}{cs:List (FP×Obj)}{qual:Str}{params:Arguments}{body:F3}{scope:Scope}{N ps:List Str}{fr:List V}
  (O:LamObj H f qual params body scope (GW env.cells scope.names [])) (Z:CellsAt env σ L H cs) (hL:∀x,(x,.free)∈scope.names->∃i v,(x,i)∈L/\σ[i]?=some (some v)) (S:LamScope N ps scope) (hlen:N.length=ps.length+fr.length)
  (hfr:∀(j:Nat) (x:Str) (v:V),fr[j]?=some v->N[ps.length+j]?=some x->∃i,(x,i)∈L/\σ[i]?=some (some v))
  (hb:∀(cl:List (Str×FP)) (pm cd ctv:FO) (us:List FO),us.length=ps.length->bindArgs (Fo "<lambda>" qual params body scope cl pm cd ctv) ⟨us,[]⟩=pure (ps.zip us)):
  LamAt P w K mg base C (ovl H cs) f cs qual body scope N ps fr:=by
 obtain⟨c',oc,pm,ctv,h1,h2,h3⟩:=O.ex;have inn:∀x c,(GW env.cells scope.names []).lookup x=some c->(x,.free)∈scope.names/\env.cells.lookup x=some c:=fun x c e=>by
  rcases IQ (PySem.mem_of_lookup e) with z | ⟨z1,z2⟩
  ·cases z
  ·refine⟨z1,?_⟩;obtain⟨i,v,m1,m2⟩:=hL x z1;obtain⟨c2,o,u,q1,_⟩:=Z.val x i v m1 m2;rw[q1] at z2 ⊢;rw[z2];rfl
 have nz:∀c o,cs.lookup c=some o->H c=none:=fun c o e=>(Z.free c o e).1;have has:∀x,scope.names.lookup x=some .free->∃c,(GW env.cells scope.names []).lookup x=some c:=fun x e=>J5 (Jw (PySem.mem_of_lookup e));refine⟨fun k sp len hbody=>VZ (cl:=GW env.cells scope.names []) (G3 nz h1) (G3 nz h2) h3 cs (fun c o e=>⟨Kj e,(Z.free c o e).2⟩) (fun x c e=>?_) (fun x y c e1 e2=>Z.inj x y c (inn x c e1).2 (inn y c e2).2) S has hlen (fun j x v e1 e2=>?_) (fun us hl=>hb _ _ _ _ us hl) len fun A outer s H' vs Q E=>hbody _ _ A outer s H' vs Q E⟩
 ·obtain⟨z1,z2⟩:=inn x c e;obtain⟨i,v,m1,m2⟩:=hL x z1;obtain⟨c2,o,u,q1,q2,_⟩:=Z.val x i v m1 m2;rw[z2] at q1;cases q1;exact⟨o,q2⟩
 ·obtain⟨i,m1,m2⟩:=hfr j x v e1 e2;obtain⟨c2,o,u,q1,q2,q3,q4⟩:=Z.val x i v m1 m2;have hx:scope.names.lookup x=some .free:=S.free x (AO (i:=j) (by rw[Fk];exact e2));obtain⟨c3,hc3⟩:=has x hx;have:=(inn x c3 hc3).2;rw[q1] at this;cases this;exact⟨c2,o,u,hc3,q2,q3,q4⟩
structure FunT(K:Gh)(x qual:Str)(st:F6)(f:FP)(fd:FZ)(c P:FP):Prop where
 ex:∃(oc:FO) (od:Option FP) (kV doc pm:FO) (an:Option FP) (ct:FO) (osl:Array (Option FO)),
  fd=A5 x qual (Hz st) (G5 st) (Gq st) .none kV doc pm an (.ref c) ct/\K.lookup f=some ⟨oc,od,.func fd,osl⟩/\Bf K (.ref c) qual=true
 hd:Ca K c P=true
 kp:AG K (.ref f)=true
theorem FunT.fn{K:Gh}{x qual:Str}{st:F6}{f:FP}{fd:FZ}{c P:FP}(F:FunT K x qual st f fd c P):Fun K x qual st f fd:=by obtain⟨oc,od,kV,doc,pm,an,ct,osl,h1,h2,h3⟩:=F.ex;exact⟨⟨oc,od,kV,doc,pm,an,_,ct,osl,h1,h2,h3⟩,F.kp⟩
theorem FunT.okT{P:FU}{w:F0}{K:Gh}{mg:Str->Option FO}{base:Heap}{CX:CXT}{x qual:Str}{st:F6}{f:FP}{fd:FZ}{c Pt:FP}{N ps:List Str}{k:Nat}{sp:Sp}(F:FunT K x qual st f fd c Pt)(S:FnScope N ps (Gq st))(len:∀vs H Q E,sp vs H Q E->vs.length=ps.length)
  (hbody:∀(A:F4) (outer:List Env) (s:FS) (H:Hp) (vs:List V) (Q:VK) (E:XK),Room k (A.deeper (envOfC qual (Gq st) s.heap.objs.size f (.ref c)))->sp vs H Q E->
   ∃t,PSs (G7 CX P w K mg base N qual (Gq st) f (.ref c) A outer s H E) (G5 st) t/\t { nx:=fun _ H'=>Q .non H',rt:=Q } (start N vs) H):FnOk P w K mg base CX (k+1) f fd ps sp:=by
 obtain⟨oc,od,kV,doc,pm,an,ct,osl,rfl,lk,hcd⟩:=F.ex;exact Ul lk hcd S len hbody
end L2
namespace Lu
open PySem PySem.Spec PyProof.Rows L2 Lute
def top(i:Nat):F6:=PySem.Challenge.pw_lutesettings_s05_of.main.body.getD i (.Pass ⟨0,0,0,0⟩)
abbrev Jb:F6:=KA (top 5) 0
abbrev IH:F6:=KA (top 6) 0
abbrev IF:F6:=KA (top 6) 1
abbrev HX:F6:=KA (top 6) 2
abbrev ID:F6:=KA (top 6) 3
abbrev HF:F6:=KA (top 6) 4
abbrev Lo:F6:=top 21
abbrev HG:F6:=top 22
abbrev LV:F6:=top 23
abbrev Hf:F6:=top 24
abbrev HP:F6:=top 25
abbrev Ib:F6:=top 26
abbrev IW:F6:=top 27
abbrev Ia:F6:=top 28
abbrev Iq:F6:=top 29
abbrev Hk:F6:=top 30
abbrev IY:F6:=top 31
abbrev Hs:F6:=top 32
abbrev IG:F6:=top 33
abbrev He:F6:=top 34
abbrev HS:F6:=top 46
abbrev Hv:F6:=top 47
abbrev Jy:F6:=top 48
abbrev II:F6:=top 49
abbrev Jr:F6:=top 50
abbrev IX:F6:=top 51
abbrev Hu:F6:=top 52
abbrev HM:F6:=top 53
abbrev Jc:F6:=top 59
abbrev IK:F6:=top 60
abbrev HI:F6:=top 61
abbrev HZ:F6:=top 62
abbrev G9:F6:=top 77
abbrev GK:F6:=top 78
abbrev Ir:F6:=top 79
abbrev JA:F6:=top 80
abbrev Io:F6:=top 81
abbrev Ii:F6:=top 82
abbrev Im:F6:=top 83
abbrev IJ:F6:=top 84
abbrev Hq:F6:=top 85
abbrev HA:F6:=top 86
abbrev HR:F6:=top 87
abbrev IZ:F6:=top 90
abbrev Ij:F6:=top 91
abbrev Ux:F6:=top 99
abbrev HW:F6:=top 100
abbrev Iw:F6:=top 101
abbrev Jx:F6:=top 102
abbrev Jv:F6:=top 103
def tx(t:Bytes):List V:=t.map fun c=>V.int (c.toNat:Int)
def st(t:Bytes)(p e:Nat):Bytes:=(t.take e).drop p
def GA:Bytes->Int
 |[]=>-1
 |c::_=>(c.toNat:Int)
def cf(a:FP)(p e:Nat):List (Str×V):=Jp "end" (.int (e:Int)) (Jp "place" (.int (p:Int)) (Jp "text" (.ref a) []))
theorem R3(a:FP)(p e:Nat):(cf a p e).lookup ("text":Str)=some (.ref a):=by unfold cf;rw[Hd,Gi (by decide),Hd,Gi (by decide),Hd,Gj rfl]
theorem GM(a:FP)(p e:Nat):(cf a p e).lookup ("place":Str)=some (.int (p:Int)):=by unfold cf;rw[Hd,Gi (by decide),Hd,Gj rfl]
theorem Y5(a:FP)(p e:Nat):(cf a p e).lookup ("end":Str)=some (.int (e:Int)):=by unfold cf;rw[Hd,Gj rfl]
theorem Y6(a:FP)(p q e:Nat):Jp "place" (.int (q:Int)) (cf a p e)=cf a q e:=by
 have h1:¬("text":Str)="place":=by decide
 have h2:¬("text":Str)="end":=by decide
 have h3:¬("place":Str)="end":=by decide
 simp only[cf,Jp,Gi h1,Gi h2,Gi h3,if_true]
theorem GO(a:FP)(p e:Nat){m:Str}(h:¬m="text")(h2:¬m="place")(h3:¬m="end"):(cf a p e).lookup m=none:=by unfold cf;rw[Hd,Gi h3,Hd,Gi h2,Hd,Gi h];rfl
structure Cur(K:Gh)(B:FP)(H:Hp)(c a:FP)(t:Bytes)(p e:Nat):Prop where
 at_:∃dx,H c=some (.ins B dx (cf a p e))
 txt:SqL K H a (tx t)
 le:p<=e
 len:e<=t.length
def Keep(H H':Hp)(c:FP):Prop:=∀b o,H b=some o->b≠c->H' b=some o
theorem Keep.refl(H:Hp)(c:FP):Keep H H c:=fun _ _ h _=>h
theorem Keep.trans{H H1 H2:Hp}{c:FP}(a:Keep H H1 c)(b:Keep H1 H2 c):Keep H H2 c:=fun x o h hx=>b x o (a x o h hx) hx
theorem Keep.of{H H':Hp}{c:FP}(s:Same H H'):Keep H H' c:=fun b o h _=>s b o h
theorem SqL.keep{K:Gh}{H H':Hp}{c a:FP}{xs:List V}{B dx:FP}{fs:List (Str×V)}(k:Keep H H' c)(hc:H c=some (.ins B dx fs))(h:SqL K H a xs):SqL K H' a xs:=by
 rcases h with (h | ⟨o,h⟩) | h
 ·exact .inl (.inl (k _ _ h (GE h hc (by intro z;cases z))))
 ·exact .inl (.inr ⟨o,k _ _ h (GE h hc (by intro z;cases z))⟩)
 ·exact .inr h
theorem Cur.move{K:Gh}{B:FP}{H H':Hp}{c a:FP}{t:Bytes}{p q e:Nat}(u:Cur K B H c a t p e)(k:Keep H H' c)(h:∃dx,H' c=some (.ins B dx (cf a q e)))(hq:q<=e):Cur K B H' c a t q e:=
 let ⟨_,hc⟩:=u.at_
 ⟨h,SqL.keep k hc u.txt,hq,u.len⟩
theorem Cur.same{K:Gh}{B:FP}{H H':Hp}{c a:FP}{t:Bytes}{p e:Nat}(u:Cur K B H c a t p e)(s:Same H H'):Cur K B H' c a t p e:=
 let ⟨dx,hc⟩:=u.at_
 u.move (Keep.of s) ⟨dx,s _ _ hc⟩ u.le
theorem Rq{t:Bytes}{p e:Nat}(h:e<=t.length)(hp:p<=e):st t p e=[]↔p=e:=by
 unfold st;rw[List.drop_eq_nil_iff,Ax]
 lia
theorem Wb{t:Bytes}{p e:Nat}(h:e<=t.length)(hp:p<e):∃c,t[p]?=some c/\st t p e=c::st t (p+1) e:=by
 have hl:p<(t.take e).length:=by rw[Ax];lia
 refine⟨t[p]'(by lia),by rw[Ae],?_⟩;unfold st;rw[C0 hl,List.getElem_take]
theorem Hg(t:Bytes)(p e k:Nat):(st t p e).drop k=st t (p+k) e:=by unfold st;rw[BD]
theorem JD{t:Bytes}{p e:Nat}(h:e<=t.length):(st t p e).length=e-p:=by
 unfold st;rw[Az,Ax]
 lia
theorem Zp{t:Bytes}{p:Nat}{c:UInt8}(h:t[p]?=some c):atI (tx t) (p:Int)=some (V.int (c.toNat:Int)):=ML (by unfold tx;rw[Al,h];rfl)
def Err(C:FP)(E:XK)(x:Nat):Prop:=∀(H':Hp) (d:FP),H' d=some (.xd (xfs (x:Int)))->E (.ref C) (some d) H'
section
variable(K:Gh)(B C:FP)
def MV:Sp:=fun vs H Q _=>∃(x dx a:FP) (p e:Nat),vs=[.ref x,.ref a,.int (p:Int),.int (e:Int)]/\H x=some (.ins B dx [])/\∀H':Hp,H' x=some (.ins B dx (cf a p e))->Keep H H' x->Q .non H'
def Pj:Sp:=fun vs H Q _=>∃(c a:FP) (t:Bytes) (p e:Nat),vs=[.ref c]/\Cur K B H c a t p e/\Q (.int (GA (st t p e))) H
def XW:Sp:=fun vs H Q _=>∃(c dx a:FP) (p e:Nat),vs=[.ref c]/\H c=some (.ins B dx (cf a p e))/\∀H':Hp,H' c=some (.ins B dx (cf a (p+1) e))->Keep H H' c->Q .non H'
def IB:Sp:=fun vs H Q E=>∃(c a:FP) (t:Bytes) (p e:Nat) (z:UInt8),vs=[.ref c,.int (z.toNat:Int)]/\Cur K B H c a t p e ∧
 (GA (st t p e)=(z.toNat:Int)->∀H':Hp,Cur K B H' c a t (p+1) e->Keep H H' c->Q .non H')/\(¬GA (st t p e)=(z.toNat:Int)->Err C E p)
def JW{α:Type}(vl:α->V->Hp->Prop)(rd:Nat->Bytes->Rd α):Sp:=fun vs H Q E=>∃(c a:FP) (t:Bytes) (p e:Nat),vs=[.ref c]/\Cur K B H c a t p e ∧
 match rd p (st t p e) with
 |.error x=>Err C E x
 |.ok (v,q,_)=>∀(H':Hp) (y:V),Cur K B H' c a t q e->Keep H H' c->vl v y H'->Q y H'
end
structure Txt(K:Gh)(mg:Str->Option FO)(B C:FP):Prop where
 cl:Cls K B
 nT:NoAttr K B "text"
 nP:NoAttr K B "place"
 nE:NoAttr K B "end"
 xt:XTxt K C Jb
 mC:mg "Fault"=some (.ref C)
 len:mg "len"=none
 abs:mg "abs"=none
 sum:mg "sum"=none
 zip:mg "zip"=none
 ord:mg "ord"=none
 cEND:Cst mg "END" (.int (-1))
 cMINUS:Cst mg "MINUS" (.int 45)
 cSLASH:Cst mg "SLASH" (.int 47)
 cZERO:Cst mg "ZERO" (.int 48)
 cONE:Cst mg "ONE" (.int 49)
 cNINE:Cst mg "NINE" (.int 57)
 cCARET:Cst mg "CARET" (.int 94)
 cMD:Cst mg "MOST_DIGITS" (.int 4)
 cMP:Cst mg "MOST_POWER" (.int 99)
 cMA:Cst mg "MOST_PARTS" (.int 24)
 cCP:Cst mg "COMMON_PARTS" (.int 5354228880)
 cNL:Cst mg "NEW_LINE" (.int 10)
 cPO:Cst mg "POINT" (.int 46)
 cBS:Cst mg "BAR_SIGN" (.int 124)
 cBI:Cst mg "BLANK" (.int 32)
 cBT:Cst mg "BLANK" (.int 32)
 cML:Cst mg "MOST_LINES" (.int 512)
 fac:∃a,Cst mg "FACTORS" (.ref a)/\KDict K a [(50,0),(51,1),(53,2),(55,3)]
 lgs:∃a,Cst mg "LENGTHS" (.ref a)/\KDict K a [(120,1),(116,2),(115,4),(101,8),(113,16),(104,32),(119,64)]
 log:∃a,Cst mg "LOGARITHMS" (.ref a)/\∀H,SqT K H a [.int 6931471805599453094172321214581765680755,.int 10986122886681096913952452369225257046474,.int 16094379124341003746007593332261876395256,.int 19459101490553133051053527434431797296370]
 fst:Cst mg "FIRST_LINE" (.str "song")
section
variable{P:FU}{w:F0}{K:Gh}{mg:Str->Option FO}{base:Heap}{B C:FP}
theorem AaS:FnScope ["self","text","place","end"] ["self","text","place","end"] (Gq IH):=⟨rfl,rfl,rfl,by decide +kernel,rfl,by decide +kernel,by decide +kernel⟩
theorem VQ{f:FP}{fd:FZ}(F:Fun K "__init__" "Cursor.__init__" IH f fd)(T:Txt K mg B C):FnOk P w K mg base (CXF P w C) 1 f fd ["self","text","place","end"] (MV B):=by
 refine F.okX AaS (fun vs H Q E h=>?_) (fun cdv A outer s H vs Q E hr h=>?_)
 ·obtain⟨x,dx,a,p,e,rfl,_⟩:=h;rfl
 ·obtain⟨x,dx,a,p,e,rfl,hx,k⟩:=h;refine⟨_,Gm (RC (pv 0) (pv 1) rfl) (Gm (RC (pv 0) (pv 2) rfl) (Gp (RC (pv 0) (pv 3) rfl))),?_⟩;refine⟨_,rfl,_,rfl,x,B,dx,[],rfl,hx,T.cl,T.nT,(by show 0<1000;decide),?_⟩;refine⟨_,rfl,_,rfl,x,B,dx,_,rfl,Gn,T.cl,T.nP,(by show 1<1000;decide),?_⟩;refine⟨_,rfl,_,rfl,x,B,dx,_,rfl,Gn,T.cl,T.nE,(by show 2<1000;decide),?_⟩;rw[Se,Se];exact k _ Gn fun b o h hb=>by rw[Gr hb];exact h
theorem AaL:FnScope ["self"] ["self"] (Gq IF):=⟨rfl,rfl,rfl,by decide +kernel,rfl,by decide +kernel,by decide +kernel⟩
theorem U8{f:FP}{fd:FZ}(F:Fun K "byte" "Cursor.byte" IF f fd)(T:Txt K mg B C):FnOk P w K mg base (CXF P w C) 1 f fd ["self"] (Pj K B):=by
 refine F.okX AaL (fun vs H Q E h=>?_) (fun cdv A outer s H vs Q E hr h=>?_)
 ·obtain⟨c,a,t,p,e,rfl,_⟩:=h;rfl
 ·obtain⟨c,a,t,p,e,rfl,u,q⟩:=h;obtain⟨dx,hc⟩:=u.at_;refine⟨_,Gm (GS (Gy Ho (G2 (pv 0) rfl) (G2 (pv 0) rfl) (GC _)) (Gp (Gz (Gx T.cEND))) GD) (Gp (Gz (HJ Iu (G2 (pv 0) rfl) (G2 (pv 0) rfl) (fun _ _=>rfl)))),?_⟩;refine⟨_,rfl,c,B,dx,_,_,rfl,hc,T.cl,T.nP,GM _ _ _,_,rfl,c,B,dx,_,_,rfl,hc,T.cl,T.nE,Y5 _ _ _,rfl,_,rfl,?_⟩;refine GV (fun h=>?_) fun h=>?_
  ·have h':(V.int (p:Int))=V.int (e:Int):=of_decide_eq_true h;have e1:p=e:=by injection h' with h';lia
   have e2:=(Rq u.len u.le).mpr e1;show Q (.int (-1)) H;rw[e2] at q;exact q
  ·have h':¬(V.int (p:Int))=V.int (e:Int):=fun z=>h (decide_eq_true z);have e1:p≠e:=fun z=>h' (by rw[z]);obtain⟨b,hb,e2⟩:=Wb u.len (Fq u.le e1);rw[e2] at q;refine⟨_,rfl,c,B,dx,_,_,rfl,hc,T.cl,T.nT,R3 _ _ _,_,rfl,c,B,dx,_,_,rfl,hc,T.cl,T.nP,GM _ _ _,a,_,_,_,rfl,rfl,u.txt,Zp hb,q⟩
theorem AaN:FnScope ["self"] ["self"] (Gq HX):=⟨rfl,rfl,rfl,by decide +kernel,rfl,by decide +kernel,by decide +kernel⟩
theorem Xq{f:FP}{fd:FZ}(F:Fun K "advance" "Cursor.advance" HX f fd)(T:Txt K mg B C):FnOk P w K mg base (CXF P w C) 1 f fd ["self"] (XW B):=by
 refine F.okX AaN (fun vs H Q E h=>?_) (fun cdv A outer s H vs Q E hr h=>?_)
 ·obtain⟨c,dx,a,p,e,rfl,_⟩:=h;rfl
 ·obtain⟨c,dx,a,p,e,rfl,hc,k⟩:=h;refine⟨_,Gp (Tn (pv 0) Gv Ye),?_⟩;refine⟨_,rfl,c,B,dx,_,_,rfl,hc,T.cl,T.nP,GM _ _ _,_,_,rfl,rfl,dx,_,hc,(by show 3<1000;decide),?_⟩;exact k _ (by rw[Gn];exact congrArg (fun q=>some (HO.ins B dx q)) (Y6 a p (p+1) e)) fun b o h hb=>by rw[Gr hb];exact h
structure Crs(P:FU)(w:F0)(K:Gh)(mg:Str->Option FO)(base:Heap)(B C:FP):Prop where
 byte:Mth P w K mg base C B 1 "byte" ["self"] (Pj K B)
 adv:Mth P w K mg base C B 1 "advance" ["self"] (XW B)
theorem AaY:FnScope ["self","wanted"] ["self","wanted"] (Gq ID):=⟨rfl,rfl,rfl,by decide +kernel,rfl,by decide +kernel,by decide +kernel⟩
theorem VG{f:FP}{fd:FZ}(F:Fun K "take" "Cursor.take" ID f fd)(T:Txt K mg B C)(M:Crs P w K mg base B C):FnOk P w K mg base (CXF P w C) 3 f fd ["self","wanted"] (IB K B C):=by
 refine F.okX AaY (fun vs H Q E h=>?_) (fun cdv A outer s H vs Q E hr h=>?_)
 ·obtain⟨c,a,t,p,e,z,rfl,_⟩:=h;rfl
 ·obtain⟨c,a,t,p,e,z,rfl,u,k1,k2⟩:=h;obtain⟨dx,hc⟩:=u.at_;have hr1:=hr.mono (show 1<=2 by decide);refine⟨_,Gm (GS (Gy JP (GH M.byte hr1 (pv 0)) (pv 1) (GC _)) (Gp (GT T.xt hr rfl T.mC (G2 (pv 0) rfl))) GD) (Gp (GB (GH M.adv hr1 (pv 0)))),?_⟩;refine⟨_,rfl,c,dx,_,rfl,hc,GO _ _ _ (by decide) (by decide) (by decide),c,a,t,p,e,rfl,u,_,rfl,rfl,_,rfl,?_⟩;refine GV (fun h=>?_) fun h=>?_
  ·have h':¬(V.int (GA (st t p e)))=V.int (z.toNat:Int):=by have:=h;rw[C6] at this;exact of_decide_eq_false this
   refine⟨_,rfl,c,B,dx,_,_,rfl,hc,T.cl,T.nP,GM _ _ _,_,rfl,fun d hd=>?_⟩;exact k2 (fun q=>h' (by rw[q])) _ d Gn
  ·have h':GA (st t p e)=(z.toNat:Int):=by
    by_cases q:GA (st t p e)=(z.toNat:Int)
    ·exact q
    ·exact absurd (show(!decide (V.int (GA (st t p e))=V.int (z.toNat:Int)))=true by rw[C6];exact decide_eq_false fun y=>q (by injection y)) h
   refine⟨_,rfl,c,dx,_,rfl,hc,GO _ _ _ (by decide) (by decide) (by decide),c,dx,a,p,e,rfl,hc,fun H' h1 h2=>?_⟩;have hlt:p<e:=by
    refine Fq u.le fun q=>?_;rw[(Rq u.len u.le).mpr q] at h';have:(-1:Int)=(z.toNat:Int):=h'
    lia
   exact k1 h' H' (u.move h2 ⟨dx,h1⟩ hlt) h2
end
open PySem PySem.Spec PyProof.Rows L2 Lute LuR
def Ol(k n pos:Nat)(r:Bytes):Rd Nat:=if k=0 then number pos r else if n=0 then (match r with
 |x::_=>if (digit x).isSome=true then .error pos else .ok (0,pos,r)
 |[]=>.ok (0,pos,[])) else moreDigits (4-k) n pos r
theorem Ji{c:UInt8}(h1:48<=c.toNat)(h2:c.toNat<=57):digit c=some (c.toNat-48):=by rw[LG,Gj ⟨h1,h2⟩]
theorem Kt{c:UInt8}(h:¬(48<=c.toNat/\c.toNat<=57)):digit c=none:=by rw[LG,Gi h]
theorem SW{k n pos:Nat}{c:UInt8}{r:Bytes}(h1:48<=c.toNat)(h2:c.toNat<=57)(hk:k<=4)(h:(0<k/\n=0)\/k=4):Ol k n pos (c::r)=.error pos:=by
 unfold Ol;have k0:¬k=0:=by lia
 rw[Gi k0];by_cases hn:n=0
 ·rw[Gj hn];dsimp only;rw[Ji h1 h2];rfl
 ·rw[Gi hn];have k4:k=4:=by lia
  subst k4;show moreDigits 0 n pos (c::r)=_;unfold moreDigits;dsimp only;rw[Ji h1 h2]
theorem Tk{k n pos:Nat}{c:UInt8}{r:Bytes}(h1:48<=c.toNat)(h2:c.toNat<=57)(hk:k<=4)(h0:k=0->n=0)(h:¬((0<k/\n=0)\/k=4)):
  Ol k n pos (c::r)=Ol (k+1) (n*10+(c.toNat-48)) (pos+1) r:=by
 by_cases k0:k=0
 ·have n0:=h0 k0;subst k0 n0;show number pos (c::r)=_;unfold number;dsimp only;rw[Ji h1 h2];unfold Ol;rw[Gi (by lia)];by_cases x0:c.toNat-48=0
  ·rw[x0,Gj (by lia)];cases r with
   |nil=>rfl
   |cons a r=>rfl
  ·rw[Gi (by lia)];have e:0*10+(c.toNat-48)=c.toNat-48:=by lia
   rw[e];generalize hx:c.toNat-48=x at *;cases x with
   |zero=>exact absurd rfl x0
   |succ x=>rfl
 ·have hn:¬n=0:=by lia
  unfold Ol;rw[Gi k0,Gi hn,Gi (by lia),Gi (by lia)];obtain⟨f,hf⟩:∃f,4-k=f+1:=⟨3-k,by lia⟩;have hf':4-(k+1)=f:=by lia
  rw[hf,hf']
  conv=>lhs;unfold moreDigits
  dsimp only;rw[Ji h1 h2];show moreDigits f (10*n+(c.toNat-48)) (pos+1) r=_;rw[Do 10 n]
theorem US{k n pos:Nat}{r:Bytes}(h:∀c u,r=c::u->¬(48<=c.toNat/\c.toNat<=57))(h0:k=0->n=0):Ol k n pos r=if k=0 then .error pos else .ok (n,pos,r):=by
 unfold Ol;by_cases k0:k=0
 ·rw[Gj k0,Gj k0];cases r with
  |nil=>rfl
  |cons c u=>unfold number;dsimp only;rw[Kt (h c u rfl)]
 ·rw[Gi k0,Gi k0];by_cases n0:n=0
  ·rw[Gj n0];cases r with
   |nil=>rw[n0]
   |cons c u=>dsimp only;rw[Kt (h c u rfl),n0];rfl
  ·rw[Gi n0];cases r with
   |nil=>unfold moreDigits;rfl
   |cons c u=>unfold moreDigits;rw[Kt (h c u rfl)]
theorem OL{r:Bytes}(h1:48<=GA r)(h2:GA r<=57):∃c u,r=c::u/\48<=c.toNat/\c.toNat<=57:=by
 cases r with
 |nil=>
  have:(48:Int)<=-1:=h1
  lia
 |cons c u=>have h1':(48:Int)<=(c.toNat:Int):=h1;have h2':(c.toNat:Int)<=57:=h2;exact⟨c,u,rfl,by lia,by lia⟩
theorem Mt{r:Bytes}(h:¬(48<=GA r/\GA r<=57)):∀c u,r=c::u->¬(48<=c.toNat/\c.toNat<=57):=fun c u e q=>by
 subst e;refine h ⟨?_,?_⟩
 ·show(48:Int)<=(c.toNat:Int)
  lia
 ·show(c.toNat:Int)<=57
  lia
def PL:Nat->V->Hp->Prop:=fun n y _=>y=.int (n:Int)
def Zd:Int->V->Hp->Prop:=fun n y _=>y=.int n
section
variable{P:FU}{w:F0}{K:Gh}{mg:Str->Option FO}{base:Heap}{B C:FP}
theorem Th:FnScope ["cursor","start","number","digits","begun_with_zero"] ["cursor"] (Gq IG):=⟨rfl,rfl,rfl,by decide +kernel,rfl,by decide +kernel,by decide +kernel⟩
theorem Tr{f:FP}{fd:FZ}(F:Fun K "read_number" "read_number" IG f fd)(T:Txt K mg B C)(M:Crs P w K mg base B C):FnOk P w K mg base (CXF P w C) 3 f fd ["cursor"] (JW K B C PL number):=by
 refine F.okX Th (fun vs H Q E h=>?_) (fun cdv A outer s H vs Q E hr h=>?_)
 ·obtain⟨c,a,t,p,e,rfl,_⟩:=h;rfl
 ·obtain⟨c,a,t,p,e,rfl,u,k⟩:=h;obtain⟨dx,hc⟩:=u.at_;have hr1:=hr.mono (show 1<=2 by decide);refine⟨_,Gm (Gw (i:=1) Th.nd rfl (Or.inl rfl) (G2 (pv 0) rfl))
   (Gm (Gw (i:=2) Th.nd rfl (Or.inl rfl) Gv)
   (Gm (HN IC (Ni KO KO (Gx T.cZERO) (GH M.byte hr1 (pv 0)) (Gx T.cNINE))
    (Gm (Gw (i:=3) Th.nd rfl (Or.inl rfl) (GU JC (G2 (pv 0) rfl) (pv 1)))
    (Gm (Gw (i:=4) Th.nd rfl (Or.inl rfl) (Zb (MJ Oz (pv 3) Gv (GC _)) (Yr (MJ Ho (pv 2) Gv (GC _)))))
    (Gm (GS (PW.pt (OH (MR (pv 4)) (LP (Gy Ho (pv 3) (Gx T.cMD) (GC _))))) (Gp (GT T.xt hr rfl T.mC (G2 (pv 0) rfl))) GD)
    (Gm (Gw (i:=2) Th.nd rfl (Or.inl rfl) (GU JC (GU Kl (GU JB (pv 2) Gv) (GH M.byte hr1 (pv 0))) (Gx T.cZERO)))
    (Gp (GB (GH M.adv hr1 (pv 0)))))))))
   (Gm (GS (Gy Ho (G2 (pv 0) rfl) (pv 1) (GC _)) (Gp (GT T.xt hr rfl T.mC (pv 1))) GD)
   (Gp (Gz (pv 2)))))),?_⟩
  refine⟨_,rfl,c,B,dx,_,_,rfl,hc,T.cl,T.nP,GM _ _ _,?_⟩;refine⟨fun m σ H'=>∃(pos n:Nat) (v3 v4:Option V),m=e-pos/\σ=[some (.ref c),some (.int (p:Int)),some (.int (n:Int)),v3,v4]/\Cur K B H' c a t pos e/\Keep H H' c/\p<=pos/\pos-p<=4/\(pos-p=0->n=0)/\number p (st t p e)=Ol (pos-p) n pos (st t pos e),
   ⟨_,p,0,none,none,rfl,rfl,u,Keep.refl _ _,Ah _,by lia,fun _=>rfl,by rw[B4];rfl⟩,?_⟩
  rintro m σ H1 ⟨pos,n,v3,v4,rfl,rfl,u1,kp,hpp,hk4,h0,inv⟩;obtain⟨dx1,hc1⟩:=u1.at_;have fin:¬(48<=GA (st t pos e)/\GA (st t pos e)<=57)->∀(D:Prop),D->D:=fun _ _ d=>d;have done:¬(48<=GA (st t pos e)/\GA (st t pos e)<=57)->P8 (Vv (QE (tOp rEq (Ys K (Hw 0) "place") (Hw 1))) (M5 C E (Hw 1)) Qy) (W9 (Hw 2)) { nx:=fun _ H'=>Q .non H',rt:=Q } [some (.ref c),some (.int (p:Int)),some (.int (n:Int)),v3,v4] H1:=fun hnd=>by
   have inv':=inv.trans (US (Mt hnd) h0);refine⟨_,rfl,c,B,dx1,_,_,rfl,hc1,T.cl,T.nP,GM _ _ _,_,rfl,rfl,_,rfl,?_⟩;refine GV (fun h=>?_) fun h=>?_
   ·have h':(V.int (pos:Int))=V.int (p:Int):=of_decide_eq_true h;have e1:pos=p:=by injection h' with h';lia
    rw[inv',Gj (by lia)] at k;refine⟨_,rfl,_,rfl,fun d hd=>?_⟩;rw[<-e1];exact k _ d (by rw[Gn,e1])
   ·have h':¬(V.int (pos:Int))=V.int (p:Int):=fun z=>h (decide_eq_true z);have e1:pos≠p:=fun z=>h' (by rw[z]);rw[inv',Gi (by lia)] at k;exact⟨_,rfl,k H1 _ u1 kp rfl⟩
  refine⟨_,rfl,c,dx1,_,rfl,hc1,GO _ _ _ (by decide) (by decide) (by decide),c,a,t,pos,e,rfl,u1,_,_,rfl,rfl,_,rfl,?_⟩;refine GV (fun hA=>?_) fun hA=>?_
  ·refine⟨_,_,rfl,rfl,_,rfl,?_⟩;refine GV (fun hB=>?_) fun hB=>?_
   ·have hA':48<=GA (st t pos e):=of_decide_eq_true hA;have hB':GA (st t pos e)<=57:=of_decide_eq_true hB;obtain⟨b,r,hr0,b1,b2⟩:=OL hA' hB';refine⟨fun σ' H'=>∃(n':Nat) (v3 v4:Option V),σ'=[some (.ref c),some (.int (p:Int)),some (.int (n':Int)),v3,v4]/\Cur K B H' c a t (pos+1) e/\Keep H H' c/\pos+1-p<=4/\number p (st t p e)=Ol (pos+1-p) n' (pos+1) (st t (pos+1) e),?_,?_⟩
    ·rintro σ' H' ⟨n',v3,v4,rfl,u',kp',hk',inv'⟩;exact⟨e-(pos+1),by have:=JD (t:=t) (p:=pos) u1.len;rw[hr0] at this;simp only[Ad] at this;lia,pos+1,n',v3,v4,rfl,rfl,u',kp',by lia,hk',by lia,inv'⟩
    ·refine⟨_,rfl,c,B,dx1,_,_,rfl,hc1,T.cl,T.nP,GM _ _ _,_,rfl,_,_,rfl,rfl,?_⟩;refine⟨_,rfl,_,_,rfl,rfl,_,rfl,Xs (b2:=decide ((n:Int)=0)) (fun Q' q=>⟨_,rfl,rfl,by rw[HB];exact q⟩) ?_⟩;refine⟨_,rfl,_,rfl,Lx (b2:=decide ((pos:Int)-(p:Int)=4)) (fun Q' q=>⟨_,rfl,rfl,_,rfl,by rw[HB];exact q⟩) ?_⟩;refine GV (fun hz=>?_) fun hz=>?_
     ·rw[Bn,Av,decide_eq_true_eq,decide_eq_true_eq,decide_eq_true_eq] at hz;have inv':=inv;rw[hr0,SW b1 b2 hk4 (by lia)] at inv';rw[inv'] at k;exact⟨_,rfl,c,B,dx1,_,_,rfl,hc1,T.cl,T.nP,GM _ _ _,_,rfl,fun d hd=>k _ d Gn⟩
     ·rw[Bn,Av,decide_eq_true_eq,decide_eq_true_eq,decide_eq_true_eq] at hz;have hst:st t (pos+1) e=r:=by have:=Hg t pos e 1;rw[hr0] at this;exact this.symm
      have hlt:pos<e:=by have:=JD (t:=t) (p:=pos) u1.len;rw[hr0] at this;simp only[Ad] at this;lia
      have inv':=inv;rw[hr0,Tk b1 b2 hk4 h0 (by lia)] at inv';refine⟨_,rfl,_,_,rfl,rfl,.inr ⟨by decide,by decide⟩,_,rfl,c,dx1,_,rfl,hc1,GO _ _ _ (by decide) (by decide) (by decide),c,a,t,pos,e,rfl,u1,_,_,rfl,rfl,_,_,rfl,rfl,?_⟩;refine⟨_,rfl,c,dx1,_,rfl,hc1,GO _ _ _ (by decide) (by decide) (by decide),c,dx1,a,pos,e,rfl,hc1,fun H' h1 h2=>?_⟩;have en:(n:Int)*10+GA (st t pos e)-48=((n*10+(b.toNat-48):Nat):Int):=by
       rw[hr0];show(n:Int)*10+(b.toNat:Int)-48=_
       lia
      refine⟨n*10+(b.toNat-48),some (.int ((pos:Int)-(p:Int))),some (.bl (decide (0<(pos:Int)-(p:Int))&&decide ((n:Int)=0))),?_,u1.move h2 ⟨dx1,h1⟩ hlt,kp.trans h2,by lia,?_⟩
      ·rw[<-en];rfl
      ·rw[inv',hst,show pos+1-p=pos-p+1 by lia]
   ·exact done fun q=>hB (decide_eq_true q.2)
  ·exact⟨_,rfl,Rc (done fun q=>hA (decide_eq_true q.1))⟩
end
theorem GP{r:Bytes}{z:UInt8}(h:GA r=(z.toNat:Int)):∃u,r=z::u:=by
 cases r with
 |nil=>
  have:(-1:Int)=(z.toNat:Int):=h
  lia
 |cons c u=>have h':(c.toNat:Int)=(z.toNat:Int):=h;have:c=z:=A9.mp (by lia);exact⟨u,by rw[this]⟩
theorem HK{r:Bytes}{z:UInt8}(h:¬GA r=(z.toNat:Int)):∀c u,r=c::u->¬c=z:=fun c u e q=>by subst e q;exact h rfl
theorem HE{t:Bytes}{p e:Nat}{c:UInt8}{r:Bytes}(h:st t p e=c::r):st t (p+1) e=r:=by have:=Hg t p e 1;rw[h] at this;exact this.symm
theorem IV{t:Bytes}{p e:Nat}{c:UInt8}{r:Bytes}(hl:e<=t.length)(h:st t p e=c::r):p<e:=by
 have:=JD (t:=t) (p:=p) hl;rw[h] at this;simp only[Ad] at this
 lia
theorem Front.at_{α:Type}{t:Bytes}{p e:Nat}{rd:Rd α}(hl:e<=t.length)(hp:p<=e)(F:Front p (st t p e) rd){v:α}{q:Nat}{u:Bytes}(h:rd=.ok (v,q,u)):p<=q/\q<=e/\u=st t q e:=by
 obtain⟨h1,h2,h3⟩:=F v q u h;rw[JD hl] at h2;refine⟨h1,by lia,?_⟩;rw[h3,Hg];congr 1
 lia
theorem Lg(p:Nat)(r:Bytes):signed p (45::r)=if GA r=48 then .error (p+1) else match number (p+1) r with
  |.error e=>.error e
  |.ok (n,q,u)=>.ok (-((n:Nat):Int),q,u):=by
 unfold signed;dsimp only;rw[Gj rfl];cases r with
 |nil=>rfl
 |cons c u=>
  by_cases hc:c=48
  ·subst hc;rfl
  ·have:¬GA (c::u)=48:=fun z=>by have z':(c.toNat:Int)=48:=z;exact hc (A9.mp (by show c.toNat=48;lia))
   rw[Gi this];split
   ·rename_i heq;injection heq with h1 _;exact absurd h1 hc
   ·rfl
theorem Ll{p:Nat}{r:Bytes}(h:∀c u,r=c::u->¬c=45):signed p r=match number p r with
  |.error e=>.error e
  |.ok (n,q,u)=>.ok (((n:Nat):Int),q,u):=by
 cases r with
 |nil=>rfl
 |cons c u=>unfold signed;dsimp only;rw[Gi (h c u rfl)];cases number p (c::u) <;> rfl
theorem P7:Gf "abs"=some (.builtin "abs"):=by decide +kernel
section
variable{P:FU}{w:F0}{K:Gh}{mg:Str->Option FO}{base:Heap}{B C:FP}
theorem AaW:FnScope ["cursor"] ["cursor"] (Gq Hs):=⟨rfl,rfl,rfl,by decide +kernel,rfl,by decide +kernel,by decide +kernel⟩
theorem SY{f:FP}{fd:FZ}(F:Fun K "read_signed_number" "read_signed_number" Hs f fd)(T:Txt K mg B C)(M:Crs P w K mg base B C)(DN:Dfn P w K mg base C 3 "read_number" ["cursor"] (JW K B C PL number)):
  FnOk P w K mg base (CXF P w C) 4 f fd ["cursor"] (JW K B C Zd signed):=by
 refine F.okX AaW (fun vs H Q E h=>?_) (fun cdv A outer s H vs Q E hr h=>?_)
 ·obtain⟨c,a,t,p,e,rfl,_⟩:=h;rfl
 ·obtain⟨c,a,t,p,e,rfl,u,k⟩:=h;obtain⟨dx,hc⟩:=u.at_;have hr1:=hr.mono (show 1<=3 by decide);have hr2:=hr.mono (show 2<=3 by decide);refine⟨_,Gm (GS (Gy JP (GH M.byte hr1 (pv 0)) (Gx T.cMINUS) (GC _)) (Gp (Gz (GQ DN hr rfl (Gk (pv 0) Go)))) GD)
   (Gm (GB (GH M.adv hr1 (pv 0)))
   (Gm (GS (Gy Ho (GH M.byte hr1 (pv 0)) (Gx T.cZERO) (GC _)) (Gp (GT T.xt hr2 rfl T.mC (G2 (pv 0) rfl))) GD)
   (Gp (Gz (Sb Pr (GQ DN hr rfl (Gk (pv 0) Go))))))),?_⟩
  refine⟨_,rfl,c,dx,_,rfl,hc,GO _ _ _ (by decide) (by decide) (by decide),c,a,t,p,e,rfl,u,rfl,_,rfl,?_⟩;rw[HB];refine GV (fun h=>?_) fun h=>?_
  ·have hne:¬GA (st t p e)=((45:UInt8).toNat:Int):=fun z=>by rw[show GA (st t p e)=45 from z] at h;exact absurd h (by decide)
   rw[Ll (HK hne)] at k;refine⟨_,rfl,c,a,t,p,e,rfl,u,?_⟩;cases hn:number p (st t p e) with
   |error x=>rw[hn] at k;exact k
   |ok z=>obtain⟨n,q,v⟩:=z;rw[hn] at k;exact fun H' y h1 h2 h3=>k H' y h1 h2 h3
  ·have heq:GA (st t p e)=((45:UInt8).toNat:Int):=by
    by_cases z:GA (st t p e)=45
    ·exact z
    ·exact absurd (by rw[decide_eq_false z];rfl) h
   obtain⟨r,hr0⟩:=GP heq;have hst:=HE hr0;have hlt:=IV u.len hr0;rw[hr0,Lg] at k;refine⟨_,rfl,c,dx,_,rfl,hc,GO _ _ _ (by decide) (by decide) (by decide),c,dx,a,p,e,rfl,hc,fun H1 h1 h2=>?_⟩;have u1:=u.move h2 ⟨dx,h1⟩ hlt;refine⟨_,rfl,c,dx,_,rfl,h1,GO _ _ _ (by decide) (by decide) (by decide),c,a,t,p+1,e,rfl,u1,rfl,_,rfl,?_⟩;rw[HB,hst];refine GV (fun h=>?_) fun h=>?_
   ·rw[Gj (of_decide_eq_true h)] at k;exact⟨_,rfl,c,B,dx,_,_,rfl,h1,T.cl,T.nP,GM _ _ _,_,rfl,fun d hd=>k _ d Gn⟩
   ·rw[Gi (fun z=>h (decide_eq_true z))] at k;refine⟨_,rfl,c,a,t,p+1,e,rfl,u1,?_⟩;rw[hst];cases hn:number (p+1) r with
    |error x=>rw[hn] at k;exact k
    |ok z=>obtain⟨n,q,v⟩:=z;rw[hn] at k;intro H' y k1 k2 k3;obtain rfl:y=.int (n:Int):=k3;exact⟨_,rfl,k H' _ k1 (h2.trans k2) rfl⟩
def Us:Sp:=fun vs H Q _=>∃(a b:Int),vs=[.int a,.int b]/\0<=b/\Q (.int ((B9 a b:Nat):Int)) H
theorem Xc:FnScope ["a","b","rest"] ["a","b"] (Gq HP):=⟨rfl,rfl,rfl,by decide +kernel,rfl,by decide +kernel,by decide +kernel⟩
def Rj:Sp:=fun vs H Q _=>∃(a b:Int),vs=[.int a,.int b]/\Q (.int ((B9 a b:Nat):Int)) H
theorem Vm(x y:Int):B9 y (x.fmod y)=B9 x y:=by
 rw[Int.gcd_comm x y];have e:x=x.fmod y+y*x.fdiv y:=(Int.fmod_add_mul_fdiv x y).symm
 conv=>rhs;rw[e]
 rw[Int.gcd_add_mul_left_right]
theorem SV(x:Int){y:Int}(hy:y≠0):(x.fmod y).natAbs<y.natAbs:=by
 have e:x.fmod y=_:=Int.fmod_eq_emod (a:=x) (b:=y);have h1:=Int.emod_nonneg x hy;have h2:x % y<(y.natAbs:Int):=Int.emod_lt x hy;by_cases h:0<=y\/y∣x
 ·rw[Gj h] at e
  lia
 ·rw[Gi h] at e;have h3:¬x % y=0:=fun z=>h (.inr (Int.dvd_of_emod_eq_zero z))
  lia
theorem Sk{f:FP}{fd:FZ}(F:Fun K "common_factor" "common_factor" HP f fd)(T:Txt K mg B C):FnOk P w K mg base (CXF P w C) 1 f fd ["a","b"] Rj:=by
 refine F.okX Xc (fun vs H Q E h=>?_) (fun cdv A outer s H vs Q E hr h=>?_)
 ·obtain⟨a,b,rfl,_⟩:=h;rfl
 ·obtain⟨a,b,rfl,k⟩:=h;refine⟨_,Gm (HN IC (Gy JP (pv 1) Gv (GC _))
    (Gm (Gw (i:=2) Xc.nd rfl (Or.inl rfl) (GU VT (pv 0) (pv 1)))
    (Gm (Gw (i:=0) Xc.nd rfl (Or.inl rfl) (pv 1)) (Gp (Gw (i:=1) Xc.nd rfl (Or.inl rfl) (pv 2))))))
   (Gp (Gz (G1 Q1 (by rfl) T.abs P7 (Gk (pv 0) Go)))),?_⟩
  refine⟨fun m σ H'=>∃(x y:Int) (v:Option V),m=y.natAbs/\σ=[some (.int x),some (.int y),v]/\H'=H/\B9 x y=B9 a b,⟨_,a,b,none,rfl,rfl,rfl,rfl⟩,?_⟩;rintro m σ H1 ⟨x,y,v,rfl,rfl,rfl,inv⟩;refine⟨_,rfl,rfl,_,rfl,?_⟩;rw[HB];refine GV (fun h=>?_) fun h=>?_
  ·have hy0:¬y=0:=fun z=>by rw[z] at h;exact absurd h (by decide)
   refine⟨fun σ' H'=>∃(v:Option V),σ'=[some (.int y),some (.int (x.fmod y)),v]/\H'=H1,?_,?_⟩
   ·rintro σ' H' ⟨v,rfl,rfl⟩;exact⟨(x.fmod y).natAbs,SV x hy0,y,x.fmod y,v,rfl,rfl,rfl,by rw[Vm];exact inv⟩
   ·refine⟨_,rfl,_,rfl,_,_,rfl,rfl,hy0,?_⟩;exact⟨_,rfl,_,rfl,some (.int (x.fmod y)),rfl,rfl⟩
  ·have hy0:y=0:=by
    by_cases z:y=0
    ·exact z
    ·exact absurd (by rw[decide_eq_false z];rfl) h
   subst hy0;refine⟨_,rfl,_,rfl,?_⟩;have e:(if x<0 then -x else x)=((B9 a b:Nat):Int):=by
    rw[<-inv,Int.gcd_zero_right]
    lia
   rw[e];exact k
theorem YL{f:FP}{fd:FZ}(F:Fun K "common_factor" "common_factor" HP f fd)(T:Txt K mg B C):FnOk P w K mg base (CXF P w C) 1 f fd ["a","b"] Us:=(Sk F T).imp fun vs H Q E ⟨a,b,e,_,q⟩=>⟨a,b,e,q⟩
end
open PySem PySem.Spec PyProof.Rows L2 Lute LuR LuW
def KN(p:Nat):Bytes->Rd Nat
 |[]=>.error p
 |c::r=>match [(50:UInt8),51,53,55].idxOf? c with
  |none=>.error p
  |some k=>.ok (k,p+1,r)
theorem Qn(c:UInt8):AQ (c.toNat:Int) [((50:Int),(0:Int)),(51,1),(53,2),(55,3)]=([(50:UInt8),51,53,55].idxOf? c).map fun k=>(k:Int):=by
 have h:∀n:Fin 256,AQ ((Bg n.val).toNat:Int) [((50:Int),(0:Int)),(51,1),(53,2),(55,3)]=([(50:UInt8),51,53,55].idxOf? (Bg n.val)).map fun k=>(k:Int):=by decide +kernel
 have e:=h ⟨c.toNat,c.toNat_lt⟩;simpa using e
theorem Vz:AQ (-1:Int) [((50:Int),(0:Int)),(51,1),(53,2),(55,3)]=none:=by decide +kernel
def Km(s p:Nat):Bytes->Rd (Int×Nat)
 |[]=>.ok ((1,1),p,[])
 |c::u=>if c=94 then (match signed (p+1) u with
   |.error e=>.error e
   |.ok (n,q,v)=>match v with
    |[]=>if n=0\/n=1 then .error s else .ok ((n,1),q,[])
    |b::w=>if b=47 then (match number (q+1) w with
      |.error e=>.error e
      |.ok (d,z,t)=>if 2<=d/\AN n.natAbs d=1 then .ok ((n,d),z,t) else .error s)
     else if n=0\/n=1 then .error s else .ok ((n,1),q,b::w))
  else .ok ((1,1),p,c::u)
theorem Tl(s p:Nat)(t:Bytes):Front p t (Km s p t):=by
 intro v q u h;cases t with
 |nil=>cases h;simp
 |cons c r=>
  unfold Km at h;dsimp only at h;by_cases hc:c=94
  ·rw[Gj hc] at h;cases hs:signed (p+1) r with
   |error e=>rw[hs] at h;cases h
   |ok z=>
    obtain⟨n,q1,v1⟩:=z;obtain⟨a1,a2,a3⟩:=JY (p+1) r n q1 v1 hs;rw[hs] at h;dsimp only at h;have fin:(q,u)=(q1,v1)->p<=q/\q-p<=(c::r).length/\u=(c::r).drop (q-p):=fun z=>by cases z;refine⟨by lia,by simp only[Ad];lia,?_⟩;rw[a3,show q-p=(q-(p+1))+1 by lia,BI]
    cases v1 with
    |nil=>
     dsimp only at h;split at h
     ·cases h
     ·cases h;exact fin rfl
    |cons b w=>
     dsimp only at h;split at h
     ·cases hn:number (q1+1) w with
      |error e=>rw[hn] at h;cases h
      |ok z=>
       obtain⟨d,z1,t1⟩:=z;obtain⟨b1,b2,b3⟩:=Je (q1+1) w d z1 t1 hn;rw[hn] at h;dsimp only at h;split at h
       ·cases h;have lw:w.length+1=r.length-(q1-(p+1)):=by have:=congrArg Eh a3;rw[Az,Ad] at this;exact this
        refine⟨by lia,by simp only[Ad];lia,?_⟩;have e1:w=r.drop (q1-(p+1)+1):=by have:=congrArg (List.drop 1) a3;rw[BD] at this;exact this
        rw[b3,e1,BD,show q-p=(q1-(p+1)+1+(q-(q1+1)))+1 by lia,BI]
       ·cases h
     ·split at h
      ·cases h
      ·cases h;exact fin rfl
  ·rw[Gi hc] at h;cases h;simp
def Sg(p:Nat)(t:Bytes):Rd (Nat×Int×Nat):=match KN p t with
 |.error e=>.error e
 |.ok (k,q,u)=>match Km p q u with
  |.error e=>.error e
  |.ok (nd,z,v)=>.ok ((k,nd),z,v)
theorem QA{p:Nat}{c:UInt8}{k:Nat}(hi:[(50:UInt8),51,53,55].idxOf? c=some k)(u:Bytes):factorAt p (c::94::u)=match signed (p+1+1) u with
  |.error e=>.error e
  |.ok (n,q,v)=>match v with
   |[]=>.ok ((k,if n=0\/n=1 then none else some (n,1)),q,[])
   |x::w=>if x=47 then (match number (q+1) w with
     |.error e=>.error e
     |.ok (d,z,t)=>.ok ((k,if 2<=d/\AN n.natAbs d=1 then some (n,d) else none),z,t))
    else .ok ((k,if n=0\/n=1 then none else some (n,1)),q,x::w):=by
 unfold factorAt;dsimp only;rw[hi];dsimp only;split
 ·rename_i u' h2;injection h2 with _ h3;subst h3;cases signed (p+1+1) u with
  |error e=>rfl
  |ok z=>
   obtain⟨n,q,v⟩:=z;dsimp only;cases v with
   |nil=>rfl
   |cons x w=>
    dsimp only;by_cases hx:x=47
    ·rw[Gj hx];split
     ·rename_i w' h4;injection h4 with _ h5;subst h5;cases number (q+1) w <;> rfl
     ·rename_i h4;exact absurd (by rw[hx]) (h4 w)
    ·rw[Gi hx];split
     ·rename_i heq;injection heq with h1 _;exact absurd h1 hx
     ·rfl
 ·rename_i h2;exact absurd rfl (h2 u)
theorem Nr{p:Nat}{c b:UInt8}{k:Nat}(hi:[(50:UInt8),51,53,55].idxOf? c=some k)(hb:¬b=94)(u:Bytes):factorAt p (c::b::u)=.ok ((k,some (1,1)),p+1,b::u):=by
 unfold factorAt;dsimp only;rw[hi];dsimp only;split
 ·rename_i h2;injection h2 with h1 _;exact absurd h1 hb
 ·rfl
theorem PB(p:Nat)(t:Bytes):Sg p t=match factorAt p t with
  |.error e=>.error e
  |.ok ((k,none),_,_)=>.error p
  |.ok ((k,some nd),q,u)=>.ok ((k,nd),q,u):=by
 unfold Sg;cases t with
 |nil=>rfl
 |cons c r=>
  unfold KN;dsimp only;cases hi:[(50:UInt8),51,53,55].idxOf? c with
  |none=>unfold factorAt;dsimp only;rw[hi]
  |some k=>
   dsimp only;cases r with
   |nil=>unfold factorAt;dsimp only;rw[hi];rfl
   |cons b u=>
    unfold Km;dsimp only;by_cases hb:b=94
    ·subst hb;rw[Gj rfl,QA hi];cases hs:signed (p+1+1) u with
     |error e=>rfl
     |ok z=>
      obtain⟨n,q,v⟩:=z;dsimp only;cases v with
      |nil=>
       dsimp only;by_cases hn:n=0\/n=1
       ·rw[Gj hn,Gj hn]
       ·rw[Gi hn,Gi hn]
      |cons x w=>
       dsimp only;by_cases hx:x=47
       ·rw[Gj hx,Gj hx];cases number (q+1) w with
        |error e=>rfl
        |ok z=>
         obtain⟨d,z,t⟩:=z;dsimp only;by_cases hd:2<=d/\AN n.natAbs d=1
         ·rw[Gj hd,Gj hd]
         ·rw[Gi hd,Gi hd]
       ·rw[Gi hx,Gi hx];by_cases hn:n=0\/n=1
        ·rw[Gj hn,Gj hn]
        ·rw[Gi hn,Gi hn]
    ·rw[Gi hb,Nr hi hb]
theorem RT:∀(f n p:Nat) (t:Bytes) (v q:Nat) (u:Bytes),n<10 ^ (4-f)->f<=4->moreDigits f n p t=.ok (v,q,u)->v<10000
 |f,n,p,[],v,q,u,hn,hf,h=>by unfold moreDigits at h;cases h;exact Ap hn (E3 (by decide) (show 4-f<=4 by lia))
 |f,n,p,c::r,v,q,u,hn,hf,h=>by
  unfold moreDigits at h;cases hd:digit c with
  |none=>rw[hd] at h;cases h;exact Ap hn (E3 (by decide) (show 4-f<=4 by lia))
  |some x=>
   rw[hd] at h;cases f with
   |zero=>cases h
   |succ f=>
    dsimp only at h;have hx:x<10:=by
     rw[LG] at hd;split at hd
     ·cases hd;lia
     ·cases hd
    refine RT f (10*n+x) (p+1) r v q u ?_ (by lia) h;have e:4-f=(4-(f+1))+1:=by lia
    rw[e,CP]
    lia
theorem Md{p:Nat}{t:Bytes}{v q:Nat}{u:Bytes}(h:number p t=.ok (v,q,u)):v<10000:=by
 unfold number at h;cases t with
 |nil=>cases h
 |cons c r=>
  dsimp only at h;cases hd:digit c with
  |none=>rw[hd] at h;cases h
  |some x=>
   rw[hd] at h;have hx:x<10:=by
    rw[LG] at hd;split at hd
    ·cases hd;lia
    ·cases hd
   cases x with
   |zero=>
    cases r with
    |nil=>
     have h':(.ok (0,p+1,[]):Rd Nat)=.ok (v,q,u):=h;cases h'
     decide
    |cons y r=>
     have h':(if (digit y).isSome=true then .error (p+1) else .ok (0,p+1,y::r):Rd Nat)=.ok (v,q,u):=h;split at h'
     ·cases h'
     ·cases h'
      decide
   |succ x=>exact RT 3 (x+1) (p+1) r v q u (by simpa using hx) (by decide) h
theorem S0{p:Nat}{t:Bytes}{v:Int}{q:Nat}{u:Bytes}(h:signed p t=.ok (v,q,u)):-10000<v/\v<10000:=by
 cases t with
 |nil=>cases h
 |cons c r=>
  by_cases hc:c=45
  ·subst hc;rw[Lg] at h;split at h
   ·cases h
   ·cases hn:number (p+1) r with
    |error e=>rw[hn] at h;cases h
    |ok z=>
     obtain⟨n,q',u'⟩:=z;rw[hn] at h;have:=Md hn;cases h
     lia
  ·rw[Ll (fun c' u' e=>by cases e;exact hc)] at h;cases hn:number p (c::r) with
   |error e=>rw[hn] at h;cases h
   |ok z=>
    obtain⟨n,q',u'⟩:=z;rw[hn] at h;have:=Md hn;cases h
    lia
def MQ(n:Int)(d:Nat):Prop:=1<=d/\d<10000/\-10000<n/\n<10000/\AN n.natAbs d=1
theorem Vn{s p:Nat}{t:Bytes}{n:Int}{d q:Nat}{u:Bytes}(h:Km s p t=.ok ((n,d),q,u)):MQ n d:=by
 have one:MQ 1 1:=by unfold MQ;decide
 cases t with
 |nil=>cases h;exact one
 |cons c r=>
  unfold Km at h;dsimp only at h;split at h
  ·cases hs:signed (p+1) r with
   |error e=>rw[hs] at h;cases h
   |ok z=>
    obtain⟨n1,q1,v1⟩:=z;have hl:=S0 hs;rw[hs] at h;dsimp only at h;have fin:(n,d)=(n1,1)->MQ n d:=fun z=>by cases z;exact⟨by decide,by decide,hl.1,hl.2,Nat.gcd_one_right _⟩
    cases v1 with
    |nil=>
     dsimp only at h;split at h
     ·cases h
     ·cases h;exact fin rfl
    |cons b w=>
     dsimp only at h;split at h
     ·cases hn:number (q1+1) w with
      |error e=>rw[hn] at h;cases h
      |ok z=>
       obtain⟨d1,z1,t1⟩:=z;have hd:=Md hn;rw[hn] at h;dsimp only at h;split at h
       ·rename_i hg;cases h;exact⟨by lia,hd,hl.1,hl.2,hg.2⟩
       ·cases h
     ·split at h
      ·cases h
      ·cases h;exact fin rfl
  ·cases h;exact one
theorem Kv{p:Prop}[Decidable p](h:¬(!decide p)=true):p:=by
 by_cases z:p
 ·exact z
 ·exact absurd (by rw[decide_eq_false z];rfl) h
theorem Lc{p:Prop}[Decidable p](h:(!decide p)=true):¬p:=fun z=>by rw[decide_eq_true z] at h;exact absurd h (by decide)
theorem TZ(p:Nat)(t:Bytes):Front p t (KN p t):=by
 intro v q u h;cases t with
 |nil=>cases h
 |cons c r=>
  unfold KN at h;dsimp only at h;split at h
  ·cases h
  ·cases h;simp
theorem Yz{p:Nat}{t:Bytes}{k q:Nat}{u:Bytes}(h:KN p t=.ok (k,q,u)):k<4/\q=p+1:=by
 cases t with
 |nil=>cases h
 |cons c r=>
  unfold KN at h;dsimp only at h;split at h
  ·cases h
  ·rename_i k' hk;cases h;refine⟨?_,rfl⟩;obtain⟨h1,_⟩:=Ci.mp (show Ew (fun x=>x==c) [(50:UInt8),51,53,55]=some k by simpa [EW] using hk);simpa using h1
def XQ(K:Gh)(B C:FP):Sp:=fun vs H Q E=>∃(c a:FP) (t:Bytes) (p e s:Nat),vs=[.ref c,.int (s:Int)]/\Cur K B H c a t p e ∧
 match Km s p (st t p e) with
 |.error x=>Err C E x
 |.ok (nd,q,_)=>∀(H':Hp) (b:FP),Cur K B H' c a t q e->Keep H H' c->H' b=some (.tup [.int nd.1,.int (nd.2:Int)])->Q (.ref b) H'
section
variable{P:FU}{w:F0}{K:Gh}{mg:Str->Option FO}{base:Heap}{B C:FP}
theorem Zy:FnScope ["cursor","digit"] ["cursor"] (Gq Hk):=⟨rfl,rfl,rfl,by decide +kernel,rfl,by decide +kernel,by decide +kernel⟩
theorem UD{f:FP}{fd:FZ}(F:Fun K "read_digit_of_factor" "read_digit_of_factor" Hk f fd)(T:Txt K mg B C)(M:Crs P w K mg base B C):
  FnOk P w K mg base (CXF P w C) 3 f fd ["cursor"] (JW K B C PL KN):=by
 refine F.okX Zy (fun vs H Q E h=>?_) (fun cdv A outer s H vs Q E hr h=>?_)
 ·obtain⟨c,a,t,p,e,rfl,_⟩:=h;rfl
 ·obtain⟨c,a,t,p,e,rfl,u,k⟩:=h;obtain⟨dx,hc⟩:=u.at_;obtain⟨af,hf,hD⟩:=T.fac;have hr1:=hr.mono (show 1<=2 by decide);refine⟨_,Gm (Gw (i:=1) Zy.nd rfl (Or.inl rfl) (GH M.byte hr1 (pv 0)))
   (Gm (GS (RH (N2 hD (pv 1) (Gx hf))) (Gp (GT T.xt hr rfl T.mC (G2 (pv 0) rfl))) GD)
   (Gm (GB (GH M.adv hr1 (pv 0)))
   (Gp (Gz (Qg hD (Gx hf) (pv 1) (fun _ _=>rfl)))))),?_⟩
  refine⟨_,rfl,c,dx,_,rfl,hc,GO _ _ _ (by decide) (by decide) (by decide),c,a,t,p,e,rfl,u,?_⟩;refine⟨_,rfl,_,rfl,rfl,_,rfl,?_⟩;cases hr0:st t p e with
  |nil=>rw[hr0] at k;show if (!(AQ (-1:Int) _).isSome)=true then _ else _;rw[Vz];exact⟨_,rfl,c,B,dx,_,_,rfl,hc,T.cl,T.nP,GM _ _ _,_,rfl,fun d hd=>k _ d Gn⟩
  |cons z r=>
   rw[hr0] at k;have hlt:=IV u.len hr0;show if (!(AQ (z.toNat:Int) _).isSome)=true then _ else _;unfold KN at k;dsimp only at k;cases hi:[(50:UInt8),51,53,55].idxOf? z with
   |none=>rw[hi] at k;rw[Qn,hi];exact⟨_,rfl,c,B,dx,_,_,rfl,hc,T.cl,T.nP,GM _ _ _,_,rfl,fun d hd=>k _ d Gn⟩
   |some j=>rw[hi] at k;have hl:=Qn z;rw[hi] at hl;rw[hl];refine⟨_,rfl,c,dx,_,rfl,hc,GO _ _ _ (by decide) (by decide) (by decide),c,dx,a,p,e,rfl,hc,fun H1 h1 h2=>?_⟩;refine⟨_,rfl,_,_,rfl,rfl,hl,?_⟩;exact k H1 _ (u.move h2 ⟨dx,h1⟩ hlt) h2 rfl
theorem X0:FnScope ["cursor","start","n","d"] ["cursor","start"] (Gq IY):=⟨rfl,rfl,rfl,by decide +kernel,rfl,by decide +kernel,by decide +kernel⟩
theorem UZ{f:FP}{fd:FZ}(F:Fun K "read_power" "read_power" IY f fd)(T:Txt K mg B C)(M:Crs P w K mg base B C)(DN:Dfn P w K mg base C 3 "read_number" ["cursor"] (JW K B C PL number))
  (DS:Dfn P w K mg base C 4 "read_signed_number" ["cursor"] (JW K B C Zd signed)) (DG:Dfn P w K mg base C 1 "common_factor" ["a","b"] Us):
  FnOk P w K mg base (CXF P w C) 5 f fd ["cursor","start"] (XQ K B C):=by
 refine F.okX X0 (fun vs H Q E h=>?_) (fun cdv A outer s H vs Q E hr h=>?_)
 ·obtain⟨c,a,t,p,e,s,rfl,_⟩:=h;rfl
 ·obtain⟨c,a,t,p,e,s',rfl,u,k⟩:=h;obtain⟨dx,hc⟩:=u.at_;have hr1:=hr.mono (show 1<=4 by decide);have hr2:=hr.mono (show 2<=4 by decide);have hr3:=hr.mono (show 3<=4 by decide);refine⟨_,Gm (GS (Gy JP (GH M.byte hr1 (pv 0)) (Gx T.cCARET) (GC _)) (Gp (Gz (Hn (Gk Gv (Gk Gv Go))))) GD)
   (Gm (GB (GH M.adv hr1 (pv 0)))
   (Gm (Gw (i:=2) X0.nd rfl (Or.inl rfl) (GQ DS hr rfl (Gk (pv 0) Go)))
   (Gm (GS (Gy JP (GH M.byte hr1 (pv 0)) (Gx T.cSLASH) (GC _))
    (Gm (GS (PW.pt (OH (Gy Ho (pv 2) Gv (GC _)) (LP (Gy Ho (pv 2) Gv (GC _))))) (Gp (GT T.xt hr2 rfl T.mC (pv 1))) GD) (Gp (Gz (Hn (Gk (pv 2) (Gk Gv Go)))))) GD)
   (Gm (GB (GH M.adv hr1 (pv 0)))
   (Gm (Gw (i:=3) X0.nd rfl (Or.inl rfl) (GQ DN hr3 rfl (Gk (pv 0) Go)))
   (Gm (GS (PW.pt (OH (Gy XV (pv 3) Gv (GC _)) (LP (Gy JP (GQ DG hr1 rfl (Gk (pv 2) (Gk (pv 3) Go))) Gv (GC _))))) (Gp (GT T.xt hr2 rfl T.mC (pv 1))) GD)
   (Gp (Gz (Hn (Gk (pv 2) (Gk (pv 3) Go))))))))))),?_⟩
  refine⟨_,rfl,c,dx,_,rfl,hc,GO _ _ _ (by decide) (by decide) (by decide),c,a,t,p,e,rfl,u,rfl,_,rfl,?_⟩;rw[HB];have pair:∀{H1:Hp} {b:FP} {o:HO},H1 b=Option.none->Keep H1 (upd H1 b o) c:=fun{H1 b o} hb x o' hx _=>by rw[Gr (Gs hx hb)];exact hx
  refine GV (fun h=>?_) fun h=>?_
  ·have hne:¬GA (st t p e)=((94:UInt8).toNat:Int):=Lc h;have e1:Km s' p (st t p e)=.ok ((1,1),p,st t p e):=by
    cases hr0:st t p e with
    |nil=>rfl
    |cons z r=>unfold Km;dsimp only;rw[Gi (HK hne z r hr0)]
   rw[e1] at k;refine⟨(by show 2<=FT;decide),fun b hb=>?_⟩;exact k _ b (u.same (fun x o hx=>by rw[Gr (Gs hx hb)];exact hx)) (pair hb) Gn
  ·have heq:GA (st t p e)=((94:UInt8).toNat:Int):=Kv h;obtain⟨r,hr0⟩:=GP heq;have hst:=HE hr0;have hlt:=IV u.len hr0;rw[hr0] at k;unfold Km at k;dsimp only at k;rw[Gj rfl] at k;refine⟨_,rfl,c,dx,_,rfl,hc,GO _ _ _ (by decide) (by decide) (by decide),c,dx,a,p,e,rfl,hc,fun H1 h1 h2=>?_⟩;have u1:=u.move h2 ⟨dx,h1⟩ hlt;refine⟨_,rfl,c,a,t,p+1,e,rfl,u1,?_⟩;rw[hst];cases hs:signed (p+1) r with
   |error x=>rw[hs] at k;exact k
   |ok z=>
    obtain⟨n,q,v⟩:=z;rw[hs] at k;dsimp only at k;intro H2 y u2 k2 hy;obtain rfl:y=.int n:=hy;obtain⟨a1,a2,a3⟩:=Front.at_ u.len hlt (by rw[hst];exact JY (p+1) r) hs;subst a3;obtain⟨dx2,hc2⟩:=u2.at_;have hgt:∀(R:Prop),R->R:=fun _ r=>r;refine⟨_,rfl,c,dx2,_,rfl,hc2,GO _ _ _ (by decide) (by decide) (by decide),c,a,t,q,e,rfl,u2,rfl,_,rfl,?_⟩;rw[HB];refine GV (fun h=>?_) fun h=>?_
    ·have hne:¬GA (st t q e)=((47:UInt8).toNat:Int):=Lc h;have k':match (if n=0\/n=1 then .error s' else .ok ((n,1),q,st t q e):Rd (Int×Nat)) with
       |.error x=>Err C E x
       |.ok (nd,q,_)=>∀(H':Hp) (b:FP),Cur K B H' c a t q e->Keep H H' c->H' b=some (.tup [.int nd.1,.int (nd.2:Int)])->Q (.ref b) H':=by
      cases hq:st t q e with
      |nil=>rw[hq] at k;exact k
      |cons b w=>rw[hq] at k;dsimp only at k;rw[Gi (HK hne b w hq)] at k;exact k
     refine⟨_,rfl,rfl,_,rfl,Lx (b2:=decide (n=1)) (fun Q' q'=>⟨_,rfl,rfl,_,rfl,by rw[HB];exact q'⟩) ?_⟩;rw[HB];refine GV (fun h=>?_) fun h=>?_
     ·rw[Bn,decide_eq_true_eq,decide_eq_true_eq] at h;rw[Gj h] at k';exact⟨_,rfl,_,rfl,fun d hd=>k' _ d Gn⟩
     ·rw[Bn,decide_eq_true_eq,decide_eq_true_eq] at h;rw[Gi h] at k';refine⟨_,rfl,(by show 2<=FT;decide),fun b hb=>?_⟩;exact k' _ b (u2.same (fun x o hx=>by rw[Gr (Gs hx hb)];exact hx)) ((h2.trans k2).trans (pair hb)) Gn
    ·have heq:GA (st t q e)=((47:UInt8).toNat:Int):=Kv h;obtain⟨w',hr1'⟩:=GP heq;have hst2:=HE hr1';have hlt2:=IV u.len hr1';rw[hr1'] at k;dsimp only at k;rw[Gj rfl] at k;refine⟨_,rfl,c,dx2,_,rfl,hc2,GO _ _ _ (by decide) (by decide) (by decide),c,dx2,a,q,e,rfl,hc2,fun H3 h3 k3=>?_⟩;have u3:=u2.move k3 ⟨dx2,h3⟩ hlt2;refine⟨_,rfl,c,a,t,q+1,e,rfl,u3,?_⟩;rw[hst2];cases hn:number (q+1) w' with
     |error x=>rw[hn] at k;exact k
     |ok z=>
      obtain⟨d,z1,t1⟩:=z;rw[hn] at k;dsimp only at k;intro H4 y u4 k4 hy;obtain rfl:y=.int (d:Int):=hy;refine⟨_,rfl,_,_,rfl,rfl,_,rfl,Lx (b2:=!decide (((B9 n (d:Int):Nat):Int)=1)) (fun Q' q'=>⟨_,rfl,_,rfl,n,(d:Int),rfl,by lia,rfl,_,rfl,by rw[HB];exact q'⟩) ?_⟩;have hg:B9 n (d:Int)=AN n.natAbs d:=rfl;refine GV (fun h=>?_) fun h=>?_
      ·rw[Bn,decide_eq_true_eq] at h;rw[Gi (by
        rintro⟨g1,g2⟩;rcases h with h | h
        ·lia
        ·exact Lc h (by rw[hg,g2];rfl))] at k
       exact⟨_,rfl,_,rfl,fun d' hd'=>k _ d' Gn⟩
      ·rw[Bn,decide_eq_true_eq] at h;have h1':¬((d:Int)<2):=fun z=>h (.inl z);have h2':((B9 n (d:Int):Nat):Int)=1:=Kv fun z=>h (.inr z);rw[Gj ⟨by lia,by rw[<-hg];lia⟩] at k;refine⟨_,rfl,_,rfl,(by show 2<=FT;decide),fun b hb=>?_⟩;exact k _ b (u4.same (fun x o hx=>by rw[Gr (Gs hx hb)];exact hx)) (((h2.trans k2).trans (k3.trans k4)).trans (pair hb)) Gn
end
def QQ(y:Iv)(q:Nat):Bytes->Except Nat Iv
 |[]=>if y.ok=true then .ok y else .error q
 |_::_=>.error q
theorem U3(least:Nat)(x:Iv)(p:Nat)(t:Bytes):fa least x p t=match Sg p t with
  |.error e=>.error e
  |.ok ((k,n,d),q,u)=>if k<least then .error p else match u with
   |[]=>QQ (x.plus (powerOf k n d)) q []
   |c::v=>if c=32 then fa (k+1) (x.plus (powerOf k n d)) (q+1) v else .error q:=by
 rw[ZO,PB];cases factorAt p t with
 |error e=>rfl
 |ok z=>
  obtain⟨⟨k,w⟩,q,u⟩:=z;cases w with
  |none=>dsimp only;split <;> rfl
  |some nd=>obtain⟨n,d⟩:=nd;rfl
def PowAt(H:Hp)(l:FP)(P:JQ):Prop:=∃b0 b1 b2 b3:FP,H l=some (.lst [.ref b0,.ref b1,.ref b2,.ref b3])/\H b0=some (.tup [.int (P 0).1,.int ((P 0).2:Int)])/\H b1=some (.tup [.int (P 1).1,.int ((P 1).2:Int)]) ∧
 H b2=some (.tup [.int (P 2).1,.int ((P 2).2:Int)])/\H b3=some (.tup [.int (P 3).1,.int ((P 3).2:Int)])
def Keep2(H H':Hp)(c l:FP):Prop:=∀b o,H b=some o->b≠c->b≠l->H' b=some o
theorem Keep2.refl(H:Hp)(c l:FP):Keep2 H H c l:=fun _ _ h _ _=>h
theorem Keep2.trans{H H1 H2:Hp}{c l:FP}(a:Keep2 H H1 c l)(b:Keep2 H1 H2 c l):Keep2 H H2 c l:=fun x o h h1 h2=>b x o (a x o h h1 h2) h1 h2
theorem Keep2.of{H H':Hp}{c l:FP}(a:Keep H H' c):Keep2 H H' c l:=fun x o h h1 _=>a x o h h1
theorem PowAt.keep{H H':Hp}{c l:FP}{P:JQ}{B dx:FP}{fs:List (Str×V)}(h:PowAt H l P)(k:Keep H H' c)(hc:H c=some (.ins B dx fs)):PowAt H' l P:=by obtain⟨b0,b1,b2,b3,h0,h1,h2,h3,h4⟩:=h;exact⟨b0,b1,b2,b3,k _ _ h0 (GE h0 hc (by intro z;cases z)),k _ _ h1 (GE h1 hc (by intro z;cases z)),k _ _ h2 (GE h2 hc (by intro z;cases z)),k _ _ h3 (GE h3 hc (by intro z;cases z)),k _ _ h4 (GE h4 hc (by intro z;cases z))⟩
theorem PowAt.set{H:Hp}{l b:FP}{P:JQ}{k:Nat}{n:Int}{d:Nat}{xs:List V}(h:PowAt H l P)(hx:H l=some (.lst xs))(hk:k<4)(hb:H b=some (.tup [.int n,.int (d:Int)])):PowAt (upd H l (.lst (xs.set k (.ref b)))) l (Le P k (n,d)):=by
 obtain⟨b0,b1,b2,b3,h0,h1,h2,h3,h4⟩:=h;rw[h0] at hx;cases hx;have n0:=GE h1 h0 (by intro z;cases z);have n1:=GE h2 h0 (by intro z;cases z);have n2:=GE h3 h0 (by intro z;cases z);have n3:=GE h4 h0 (by intro z;cases z);have nb:=GE hb h0 (by intro z;cases z);have c:k=0\/k=1\/k=2\/k=3:=by lia
 rcases c with rfl | rfl | rfl | rfl
 ·exact⟨b,b1,b2,b3,Gn,by rw[Gr nb];exact hb,by rw[Gr n1];exact h2,by rw[Gr n2];exact h3,by rw[Gr n3];exact h4⟩
 ·exact⟨b0,b,b2,b3,Gn,by rw[Gr n0];exact h1,by rw[Gr nb];exact hb,by rw[Gr n2];exact h3,by rw[Gr n3];exact h4⟩
 ·exact⟨b0,b1,b,b3,Gn,by rw[Gr n0];exact h1,by rw[Gr n1];exact h2,by rw[Gr nb];exact hb,by rw[Gr n3];exact h4⟩
 ·exact⟨b0,b1,b2,b,Gn,by rw[Gr n0];exact h1,by rw[Gr n1];exact h2,by rw[Gr n2];exact h3,by rw[Gr nb];exact hb⟩
def Small(P:JQ):Prop:=∀j,(P j).2<10000/\-10000<(P j).1/\(P j).1<10000
theorem P6:Small noP:=fun _=>by unfold noP;decide
theorem Small.set{P:JQ}{k:Nat}{n:Int}{d:Nat}(h:Small P)(hd:d<10000)(h1:-10000<n)(h2:n<10000):Small (Le P k (n,d)):=fun j=>by
 unfold Le;split
 ·exact⟨hd,h1,h2⟩
 ·exact h j
def Os(K:Gh)(B C:FP):Sp:=fun vs H Q E=>∃(c a l:FP) (t:Bytes) (p e:Nat),vs=[.ref c,.ref l]/\Cur K B H c a t p e/\PowAt H l noP ∧
 (∀x,fa 0 unison p (st t p e)=.error x->Err C E x) ∧
 (∀(H':Hp) (P:JQ) (k q:Nat),Cur K B H' c a t q e->PowAt H' l P->PowsOk P k->Small P->fa 0 unison p (st t p e)=QQ (com P) q (st t q e)->Keep2 H H' c l->Q .non H')
section
variable{P:FU}{w:F0}{K:Gh}{mg:Str->Option FO}{base:Heap}{B C:FP}
theorem P4:FnScope ["cursor","powers","before","more","start","which","power"] ["cursor","powers"] (Gq Iq):=⟨rfl,rfl,rfl,by decide +kernel,rfl,by decide +kernel,by decide +kernel⟩
theorem Q3{f:FP}{fd:FZ}(F:Fun K "read_factors" "read_factors" Iq f fd)(T:Txt K mg B C)(M:Crs P w K mg base B C)(DD:Dfn P w K mg base C 3 "read_digit_of_factor" ["cursor"] (JW K B C PL KN))
  (DP:Dfn P w K mg base C 5 "read_power" ["cursor","start"] (XQ K B C)):
  FnOk P w K mg base (CXF P w C) 6 f fd ["cursor","powers"] (Os K B C):=by
 refine F.okX P4 (fun vs H Q E h=>?_) (fun cdv A outer s H vs Q E hr h=>?_)
 ·obtain⟨c,a,l,t,p,e,rfl,_⟩:=h;rfl
 ·obtain⟨c,a,l,t,p,e,rfl,u,hP,kE,kQ⟩:=h;have hr1:=hr.mono (show 1<=5 by decide);have hr2:=hr.mono (show 2<=5 by decide);have hr3:=hr.mono (show 3<=5 by decide);refine⟨_,Gm (Gw (i:=2) P4.nd rfl (Or.inl rfl) (Sb Pr Gv))
   (Gm (Gw (i:=3) P4.nd rfl (Or.inl rfl) Xy)
   (Gp (HN IC (MR (pv 3))
    (Gm (Gw (i:=4) P4.nd rfl (Or.inl rfl) (G2 (pv 0) rfl))
    (Gm (Gw (i:=5) P4.nd rfl (Or.inl rfl) (GQ DD hr3 rfl (Gk (pv 0) Go)))
    (Gm (Gw (i:=6) P4.nd rfl (Or.inl rfl) (GQ DP hr rfl (Gk (pv 0) (Gk (pv 4) Go))))
    (Gm (GS (Gy KO (pv 5) (pv 2) (GC _)) (Gp (GT T.xt hr2 rfl T.mC (pv 4))) GD)
    (Gm (Yb (pv 6) (YQ (pv 1) (pv 5) T9))
    (Gm (Gw (i:=2) P4.nd rfl (Or.inl rfl) (pv 5))
    (Gm (Gw (i:=3) P4.nd rfl (Or.inl rfl) (MJ Ho (GH M.byte hr1 (pv 0)) (Gx T.cBI) (GC _)))
    (Gp (GS (MR (pv 3)) (Gp (GB (GH M.adv hr1 (pv 0)))) GD))))))))))))
   ,?_⟩
  refine⟨_,rfl,?_⟩;refine⟨fun m σ H'=>∃(more:Bool) (least pos:Nat) (PP:JQ) (v4 v5 v6:Option V),m=(if more=true then e-pos+1 else 0)/\σ=[some (.ref c),some (.ref l),some (.int ((least:Int)-1)),some (.bl more),v4,v5,v6]/\Cur K B H' c a t pos e/\PowAt H' l PP/\PowsOk PP least/\Small PP/\Keep2 H H' c l ∧
    fa 0 unison p (st t p e)=(if more=true then fa least (com PP) pos (st t pos e) else QQ (com PP) pos (st t pos e)),
   ⟨_,true,0,p,noP,none,none,none,rfl,rfl,u,hP,Vy,P6,Keep2.refl _ _ _,by rw[SB];rfl⟩,?_⟩
  rintro m σ H1 ⟨more,least,pos,PP,v4,v5,v6,rfl,rfl,u1,hP1,ok1,sm1,kp1,inv⟩;refine⟨_,rfl,_,rfl,?_⟩;cases more with
  |false=>exact kQ H1 PP least pos u1 hP1 ok1 sm1 inv kp1
  |true=>
   rw[Gj rfl] at inv ⊢;obtain⟨dx,hc⟩:=u1.at_;refine⟨fun σ' H'=>∃(more:Bool) (least q:Nat) (PP:JQ) (v4 v5 v6:Option V),pos<q/\σ'=[some (.ref c),some (.ref l),some (.int ((least:Int)-1)),some (.bl more),v4,v5,v6]/\Cur K B H' c a t q e/\PowAt H' l PP/\PowsOk PP least/\Small PP/\Keep2 H H' c l ∧
    fa 0 unison p (st t p e)=(if more=true then fa least (com PP) q (st t q e) else QQ (com PP) q (st t q e)),?_,?_⟩
   ·rintro σ' H' ⟨more,least,q,PP,v4,v5,v6,hq,rfl,a1,a2,a3,a4,a5,a6⟩;refine⟨_,?_,more,least,q,PP,v4,v5,v6,rfl,rfl,a1,a2,a3,a4,a5,a6⟩;have:=a1.le;show(if more=true then e-q+1 else 0)<e-pos+1;split <;> lia
   ·refine⟨_,rfl,c,B,dx,_,_,rfl,hc,T.cl,T.nP,GM _ _ _,?_⟩;refine⟨_,rfl,c,a,t,pos,e,rfl,u1,?_⟩;rw[U3 least (com PP) pos (st t pos e)] at inv;unfold Sg at inv;cases hd:KN pos (st t pos e) with
    |error x=>rw[hd] at inv;exact kE x inv
    |ok z=>
     obtain⟨k,q1,r1⟩:=z;obtain⟨hk4,rfl⟩:=Yz hd;obtain⟨a1,a2,a3⟩:=Front.at_ u1.len u1.le (TZ pos (st t pos e)) hd;subst a3;rw[hd] at inv;dsimp only at inv;intro H2 y u2 k2 hy;obtain rfl:y=.int (k:Int):=hy;refine⟨_,rfl,_,rfl,c,a,t,pos+1,e,pos,rfl,u2,?_⟩;cases hp:Km pos (pos+1) (st t (pos+1) e) with
     |error x=>rw[hp] at inv;exact kE x inv
     |ok z=>
      obtain⟨⟨n,d⟩,q2,r2⟩:=z;have pf:=Vn hp;obtain⟨b1,b2,b3⟩:=Front.at_ u1.len u2.le (Tl pos (pos+1) (st t (pos+1) e)) hp;subst b3;rw[hp] at inv;dsimp only at inv;intro H3 b u3 k3 hb;have hP2:=hP1.keep k2 hc;obtain⟨dx2,hc2⟩:=u2.at_;have hP3:=hP2.keep k3 hc2;obtain⟨dx3,hc3⟩:=u3.at_;refine⟨_,rfl,_,rfl,_,_,rfl,rfl,_,rfl,?_⟩;refine GV (fun h=>?_) fun h=>?_
      ·have hlt:(k:Int)<=(least:Int)-1:=of_decide_eq_true h;rw[Gj (by lia)] at inv;exact⟨_,rfl,_,rfl,fun d' hd'=>kE pos inv _ d' Gn⟩
      ·have hge:¬(k:Int)<=(least:Int)-1:=fun z=>h (decide_eq_true z);rw[Gi (by lia)] at inv;obtain⟨xs,hxs,hlen⟩:∃xs,H3 l=some (.lst xs)/\xs.length=4:=by obtain⟨b0,b1,b2,b3,h0,_⟩:=hP3;exact⟨_,h0,rfl⟩
       have hix:ixN xs.length (k:Int)=some k:=by unfold ixN;rw[Gj (by lia),Gj (by rw[hlen];lia)];rfl
       refine⟨_,rfl,_,rfl,_,rfl,l,xs,_,k,rfl,rfl,hxs,hix,?_⟩;have hP4:=hP3.set hxs hk4 hb;have ncl:c≠l:=GE hc3 hxs (by intro z;cases z);obtain⟨cs1,cs2⟩:=UX ok1 (show least<=k by lia) hk4 pf.1 pf.2.2.2.2;have sm4:=Small.set (k:=k) sm1 pf.2.1 pf.2.2.1 pf.2.2.2.1;have u4:Cur K B (upd H3 l (.lst (xs.set k (.ref b)))) c a t q2 e:=by
        refine⟨⟨dx3,by rw[Gr ncl];exact hc3⟩,?_,u3.le,u3.len⟩;rcases u3.txt with (h | ⟨o,h⟩) | h
        ·by_cases z:a=l
         ·exfalso
          obtain⟨b0,b1,b2,b3,h0,_⟩:=hP3;rw[z,h0] at h;have h':[V.ref b0,.ref b1,.ref b2,.ref b3]=tx t:=by injection h with h;injection h
          unfold tx at h';cases t with
          |nil=>cases h'
          |cons x r=>injection h' with h' _;cases h'
         ·exact .inl (.inl (by rw[Gr z];exact h))
        ·exact .inl (.inr ⟨o,by rw[Gr (GE h hxs (by intro z;cases z))];exact h⟩)
        ·exact .inr h
       have kp4:Keep2 H (upd H3 l (.lst (xs.set k (.ref b)))) c l:=fun x o hx n1 n2=>by rw[Gr n2];exact k3 _ _ (k2 _ _ (kp1 _ _ hx n1 n2) n1) n1
       obtain⟨dx4,hc4⟩:=u4.at_;refine⟨_,rfl,?_⟩;refine⟨_,rfl,c,dx4,_,rfl,hc4,GO _ _ _ (by decide) (by decide) (by decide),c,a,t,q2,e,rfl,u4,rfl,?_⟩;rw[HB];refine⟨_,rfl,_,rfl,?_⟩;have vals:∀(mm:Bool),([some (V.ref c),some (.ref l),some (.int ((k:Int))),some (.bl mm),some (.int (pos:Int)),some (.int (k:Int)),some (.ref b)]:List (Option V))=[some (V.ref c),some (.ref l),some (.int (((k+1:Nat):Int)-1)),some (.bl mm),some (.int (pos:Int)),some (.int (k:Int)),some (.ref b)]:=fun mm=>by rw[show(((k+1:Nat):Int)-1)=(k:Int) by lia]
       refine GV (fun h=>?_) fun h=>?_
       ·have heq:GA (st t q2 e)=((32:UInt8).toNat:Int):=of_decide_eq_true h;obtain⟨r,hr0⟩:=GP heq;have hst:=HE hr0;have hlt:=IV u1.len hr0;rw[hr0] at inv;dsimp only at inv;rw[Gj rfl,cs1] at inv;refine⟨_,rfl,c,dx4,_,rfl,hc4,GO _ _ _ (by decide) (by decide) (by decide),c,dx4,a,q2,e,rfl,hc4,fun H5 h5 k5=>?_⟩;refine⟨true,k+1,q2+1,_,some (.int (pos:Int)),some (.int (k:Int)),some (.ref b),by lia,?_,u4.move k5 ⟨dx4,h5⟩ hlt,hP4.keep k5 hc4,cs2,sm4,kp4.trans (Keep2.of k5),?_⟩
        ·rw[<-vals true];show _=[some (V.ref c),some (.ref l),some (.int ((k:Int))),some (.bl true),some (.int (pos:Int)),some (.int (k:Int)),some (.ref b)];rw[show(decide (GA (st t q2 e)=32))=true from h];rfl
        ·rw[hst];exact inv
       ·have hne:¬GA (st t q2 e)=((32:UInt8).toNat:Int):=fun z=>h (decide_eq_true z);refine⟨false,k+1,q2,_,some (.int (pos:Int)),some (.int (k:Int)),some (.ref b),by lia,?_,u4,hP4,cs2,sm4,kp4,?_⟩
        ·rw[<-vals false];show _=[some (V.ref c),some (.ref l),some (.int ((k:Int))),some (.bl false),some (.int (pos:Int)),some (.int (k:Int)),some (.ref b)];have hf:(decide (GA (st t q2 e)=32))=false:=decide_eq_false hne;rw[hf];rfl
        ·show _=QQ _ _ _;rw[inv,<-cs1];cases hr0:st t q2 e with
         |nil=>rfl
         |cons z r=>dsimp only;rw[Gi (HK hne z r hr0)];rfl
end
end Lu
namespace LZ
open PySem
inductive Src where
 |lst (a:FP) | tup (a:FP) | txt (x:Str) (t:Tok)
def Src.has:Src->FP->Prop
 |.lst a,l=>l=a
 |.tup a,l=>l=a
 |.txt _ _,_=>False
def Src.val:Src->FO
 |.lst a=>.ref a
 |.tup a=>.ref a
 |.txt x t=>.str x t
def Src.ty:Src->String
 |.lst _=>"list_iterator"
 |.tup _=>"tuple_iterator"
 |.txt _ _=>"str_ascii_iterator"
abbrev Src.obj(r:Src):Obj:={ cls:=.type r.ty,data:=.fields #[r.val,.int 0 0] }
def Iter(h:Heap)(it:FP):Src->Nat->Prop
 |.lst a,i=>h.IsListIter it a i
 |.tup a,i=>h.IsTupleIter it a i
 |.txt x t,i=>h.IsStrIter it "str_ascii_iterator" x t i
def At(h:Heap):Src->List L2.V->Prop
 |.lst a,vs=>∃us:List FO,L2.Vals vs us/\h.IsList a us.toArray
 |.tup a,vs=>∃us:List FO,L2.Vals vs us/\h.IsTuple a us.toArray
 |.txt x _,vs=>x.cps.all (·<128)=true/\vs=x.cps.toList.map fun c=>L2.V.str ⟨#[c]⟩
theorem At.keeps{h h':Heap}{r:Src}{vs:List L2.V}(x:At h r vs)(k:∀l o,r.has l->h.get? l=some o->h'.get? l=some o):At h' r vs:=by
 cases r with
 |lst a=>obtain⟨us,r,o,ho,c⟩:=x;exact⟨us,r,o,k a o rfl ho,c⟩
 |tup a=>obtain⟨us,r,o,ho,c⟩:=x;exact⟨us,r,o,k a o rfl ho,c⟩
 |txt x t=>exact x
theorem Iter.at_{h h':Heap}{it:FP}{r:Src}{i:Nat}(x:Iter h it r i)(k:∀o,h.get? it=some o->h'.get? it=some o):Iter h' it r i:=by
 cases r with
 |lst a=>obtain⟨o,ho,c⟩:=x;exact⟨o,k o ho,c⟩
 |tup a=>obtain⟨o,ho,c⟩:=x;exact⟨o,k o ho,c⟩
 |txt x t=>obtain⟨o,ho,c⟩:=x;exact⟨o,k o ho,c⟩
theorem Iter.some_{h:Heap}{it:FP}{r:Src}{i:Nat}(x:Iter h it r i):∃o,h.get? it=some o/\∀v,o.data≠.cell v:=by
 cases r with
 |lst a=>obtain⟨o,ho,_,d⟩:=x;exact⟨o,ho,fun v q=>by rw[d] at q;cases q⟩
 |tup a=>obtain⟨o,ho,_,d⟩:=x;exact⟨o,ho,fun v q=>by rw[d] at q;cases q⟩
 |txt x t=>obtain⟨o,ho,_,d⟩:=x;exact⟨o,ho,fun v q=>by rw[d] at q;cases q⟩
section
variable{prog:FU}{w:F0}{A:F4}{E:FO->FS->Prop}{s:FS}
theorem Yw{it l:FP}{i:Nat}{vs:Array FO}{x:FO}{Q:FO->FS->Prop}(a:s.heap.IsTupleIter it l i)(b:s.heap.IsTuple l vs)(e:vs[i]?=some x)
  (k:∀h',h'.IsTupleIter it l (i+1)->Heap.SameBut it s.heap h'->Q x { s with heap:=h' }):FW (model prog w) A (Builtin.SmallTypes.nextOf (.ref it)) Q E s:=by
 obtain⟨o,h1,h2,h3⟩:=id a;obtain⟨ol,g1,_,nl,g2⟩:=b;unfold Builtin.SmallTypes.nextOf;refine FQ (wpAny_callSpecial?_slot (name:=Str.ofString "__next__") a.typeIs F.slot_tuple_iterator_next (wpAny_call_entry F.slot_tuple_iterator_next a.typeIs F.entry_tuple_iterator_next ?_ (F.args_tuple_iterator_next_1 _)));show FW _ _ (field (.ref it) 0 >>= _) _ _ s;refine FQ (F5 h1 h3 (x:=.ref l) rfl ?_);show FW _ _ (if (FO.ref l==FO.none)=true then _ else _) _ _ s;rw[Gi (show ¬((FO.ref l==FO.none)=true) from Ag)];show FW _ _ (field (.ref it) 1 >>= _) _ _ s;refine FQ (F5 h1 h3 (x:=.int i 0) rfl ?_);show FW _ _ (seqItems? (.ref l) >>= _) _ _ s;refine FQ (wpAny_seqItems g1 g2 ?_);simp only[Db,e];refine FQ (wpAny_setField h1 h3 (by simp) (FV ⟨x,rfl,FV (k _ ?_ (Heap.SameBut.update ..))⟩));refine⟨_,Bx _ h1 (Obj.isFreed_of_fields (Obj.data_mapFields h3 _)),(Obj.cls_mapFields ..).trans h2,?_⟩;rw[Obj.data_mapFields h3];simp[rawInt]
theorem RD{it l:FP}{i:Nat}{vs:Array FO}{Q:FO->FS->Prop}(hh:A.handled=none)(a:s.heap.IsTupleIter it l i)(b:s.heap.IsTuple l vs)(e:vs[i]?=none)
  (k:∀h' x,Heap.ExtBut it s.heap h'->(∃o,h'.get? x=some o/\o.cls=.type "StopIteration")->E (.ref x) { s with heap:=h' }):FW (model prog w) A (Builtin.SmallTypes.nextOf (.ref it)) Q E s:=by
 obtain⟨o,h1,h2,h3⟩:=id a;obtain⟨ol,g1,_,nl,g2⟩:=b;unfold Builtin.SmallTypes.nextOf;refine FQ (wpAny_callSpecial?_slot (name:=Str.ofString "__next__") a.typeIs F.slot_tuple_iterator_next (wpAny_call_entry F.slot_tuple_iterator_next a.typeIs F.entry_tuple_iterator_next ?_ (F.args_tuple_iterator_next_1 _)));show FW _ _ (field (.ref it) 0 >>= _) _ _ s;refine FQ (F5 h1 h3 (x:=.ref l) rfl ?_);show FW _ _ (if (FO.ref l==FO.none)=true then _ else _) _ _ s;rw[Gi (show ¬((FO.ref l==FO.none)=true) from Ag)];show FW _ _ (field (.ref it) 1 >>= _) _ _ s;refine FQ (F5 h1 h3 (x:=.int i 0) rfl ?_);show FW _ _ (seqItems? (.ref l) >>= _) _ _ s;refine FQ (wpAny_seqItems g1 g2 ?_);simp only[Db,e];refine FQ (wpAny_rule (FQ (wpAny_setField h1 h3 (by simp) ?_)));show FW _ _ (newExc (.type "StopIteration") [] >>= _) _ _ _;refine FQ ?_;simp only[newExc,newTuple];refine FQ (Ge ?_ (by size_fits));refine FQ (m:=firstArgMember _ _) (wpAny_of_eq (a:=FO.none) (by first | rfl | (simp only[firstArgMember];rfl)) ?_)
 refine Ge ?_ (by size_fits);simp only[raiseNew];refine FQ (wpAny_handled ?_);first | rw[show A.in1.handled=none from hh] | rw[hh]
 exact FQ (FV (wpAny_throw (k _ _ (((Heap.SameBut.update ..).extBut.push _).push _) ⟨_,Au _ rfl,rfl⟩)))
theorem Rf{it:FP}{r:Src}{i:Nat}{vs:List L2.V}{x:L2.V}{Q:FO->FS->Prop}(a:Iter s.heap it r i)(b:At s.heap r vs)(e:vs[i]?=some x)
  (k:∀u h' tk,L2.RelV x u->Iter h' it r (i+1)->Heap.SameBut it s.heap h'->Q u { s with heap:=h',toks:=tk }):FW (model prog w) A (Builtin.SmallTypes.nextOf (.ref it)) Q E s:=by
 cases r with
 |lst l=>obtain⟨us,rv,hl⟩:=b;obtain⟨u,hu,ru⟩:=rv.get e;exact wpAny_nextOf_list_item a hl (x:=u) (by simpa using hu) fun h' t sb=>k u h' s.toks ru t sb
 |tup l=>obtain⟨us,rv,hl⟩:=b;obtain⟨u,hu,ru⟩:=rv.get e;exact Yw a hl (x:=u) (by simpa using hu) fun h' t sb=>k u h' s.toks ru t sb
 |txt y t=>
  obtain⟨_,rfl⟩:=b;rw[Al] at e;cases hc:y.cps.toList[i]? with
  |none=>rw[hc] at e;cases e
  |some c=>rw[hc] at e;cases e;exact wpAny_nextOf_ascii_item a (c:=c) (by simpa using hc) fun h' t' sb=>k _ h' _ ⟨_,rfl⟩ t' sb
theorem Nk{it:FP}{r:Src}{i:Nat}{vs:List L2.V}{Q:FO->FS->Prop}(hh:A.handled=none)(a:Iter s.heap it r i)(b:At s.heap r vs)(e:vs[i]?=none)
  (k:∀h' x,Heap.ExtBut it s.heap h'->(∃o,h'.get? x=some o/\o.cls=.type "StopIteration")->E (.ref x) { s with heap:=h' }):FW (model prog w) A (Builtin.SmallTypes.nextOf (.ref it)) Q E s:=by
 cases r with
 |lst l=>obtain⟨us,rv,hl⟩:=b;have:=rv.length;have e':=Cg.mp e;exact wpAny_nextOf_list_end hh a hl (by simp;lia) k
 |tup l=>obtain⟨us,rv,hl⟩:=b;have:=rv.length;have e':=Cg.mp e;exact RD hh a hl (by simp;lia) k
 |txt y t=>obtain⟨_,rfl⟩:=b;have e':=Cg.mp e;rw[Aa] at e';exact wpAny_nextOf_ascii_end hh a (EF (by simpa using e')) k
theorem Ks{r:Src}{vs:List L2.V}{Q:FO->FS->Prop}(b:At s.heap r vs)(h:Q (.ref s.heap.objs.size) { s with heap:=s.heap.push r.obj }):FW (model prog w) A (pyIter r.val) Q E s:=by
 cases r with
 |lst l=>obtain⟨us,rv,hl⟩:=b;exact wpAny_pyIter_list hl h
 |tup l=>obtain⟨us,rv,hl⟩:=b;exact wpAny_pyIter_tuple hl h
 |txt y t=>exact wpAny_pyIter_ascii b.1 h
theorem Iter.zero{h:Heap}{it:FP}{r:Src}(e:h.get? it=some r.obj):Iter h it r 0:=by
 cases r with
 |lst l=>exact⟨_,e,rfl,rfl⟩
 |tup l=>exact⟨_,e,rfl,rfl⟩
 |txt y t=>exact⟨_,e,rfl,rfl⟩
structure Apart(z TI TO i1 i2:FP)(r1 r2:Src):Prop where
 TIz:TI≠z
 TOz:TO≠z
 i1z:i1≠z
 i2z:i2≠z
 TITO:TI≠TO
 TIi1:TI≠i1
 TIi2:TI≠i2
 TOi1:TO≠i1
 TOi2:TO≠i2
 i12:i1≠i2
 r1:∀l,r1.has l->l≠z/\l≠TO/\l≠i1/\l≠i2
 r2:∀l,r2.has l->l≠z/\l≠TO/\l≠i1/\l≠i2
theorem U0{z TI TO i1 i2:FP}{r1 r2:Src}{k1 k2:Nat}{xs ys:List L2.V}{x y:L2.V}{a b:FO}{Q:FO->FS->Prop}(D:Apart z TI TO i1 i2 r1 r2)
  (hz:IsZip s.heap z TI TO .none) (hTI:IsPair s.heap TI (.ref i1) (.ref i2)) (hTO:IsPair s.heap TO a b) (h1:Iter s.heap i1 r1 k1) (h2:Iter s.heap i2 r2 k2) (hl1:At s.heap r1 xs) (hl2:At s.heap r2 ys) (hx:xs[k1]?=some x) (hy:ys[k2]?=some y)
  (hQ:∀u v h' tk,L2.RelV x u->L2.RelV y v->IsZip h' z TI TO (rawInt s.heap.objs.size)->IsPair h' TO u v->Iter h' i1 r1 (k1+1)->Iter h' i2 r2 (k2+1)->IsPair h' s.heap.objs.size u v->h'.objs.size=s.heap.objs.size+1->(∀c o,c≠z->c≠TO->c≠i1->c≠i2->s.heap.get? c=some o->h'.get? c=some o)->Q (.ref s.heap.objs.size) { s with heap:=h',toks:=tk }):
  FW (model prog w) A (Builtin.«zip.__next__» ⟨[.ref z],[]⟩) (fun fin s'=>∃v,fin=.done (.ret v)/\Q v s') E s:=by
 show FW _ _ (field (.ref z) 2 >>= _) _ _ _;refine FQ (F5 hz rfl (x:=.bool false) rfl ?_);show FW _ _ (field (.ref z) 3 >>= _) _ _ _;refine FQ (F5 hz rfl (x:=.ref TI) rfl ?_);refine FQ (wpAny_seqItems hTI rfl ?_);show FW _ _ (Builtin.SmallTypes.ownedTupleIsFree (.ref z) >>= _) _ _ _;refine FQ ?_;unfold Builtin.SmallTypes.ownedTupleIsFree;refine FQ (F5 hz rfl (x:=.none) rfl (FV ?_));simp only[if_true];refine FQ (wpAny_rule ?_);refine FQ (F5 hz rfl (x:=.ref TO) rfl ?_);refine FQ (F8 hz (by simp) fun g1 z1 s1=>?_);replace z1:IsZip g1 z TI TO .ellipsis:=z1;refine FQ ?_;simp only[Fy,FD,Em,DH];refine FQ (FQ (wpAny_onRaise ?_));show FW _ _ (Builtin.SmallTypes.nextOf (.ref i1) >>= _) _ _ _;refine FQ (Rf (h1.at_ fun o e=>s1.extBut _ _ D.i1z e) (hl1.keeps fun l o hl e=>s1.extBut _ _ (D.r1 l hl).1 e) hx fun u g2 tk2 ru t2 s2=>FV ?_);have o2:IsPair g2 TO a b:=s2.extBut _ _ D.TOi1 (s1.extBut _ _ D.TOz hTO);refine FQ (wpAny_seqItems o2 rfl ?_);refine FQ (wpAny_updateSeq_pair o2 fun g3 o3 s3=>?_);replace o3:IsPair g3 TO u b:=o3;refine FQ (wpAny_letGo (FV ?_));refine FQ (FQ (wpAny_onRaise ?_));show FW _ _ (Builtin.SmallTypes.nextOf (.ref i2) >>= _) _ _ _;refine FQ (Rf (r:=r2) (h2.at_ fun o e=>s3.extBut _ _ D.TOi2.symm (s2.extBut _ _ D.i12.symm (s1.extBut _ _ D.i2z e))) (hl2.keeps fun l o hl e=>s3.extBut _ _ (D.r2 l hl).2.1 (s2.extBut _ _ (D.r2 l hl).2.2.1 (s1.extBut _ _ (D.r2 l hl).1 e))) hy fun v g4 tk4 rv t4 s4=>FV ?_);have o4:IsPair g4 TO u b:=s4.extBut _ _ D.TOi2 o3;refine FQ (wpAny_seqItems o4 rfl ?_);refine FQ (wpAny_updateSeq_pair o4 fun g5 o5 s5=>?_);replace o5:IsPair g5 TO u v:=o5;refine FQ (wpAny_letGo (FV (FV ?_)));refine FQ (wpAny_seqItems o5 rfl ?_);refine FQ (wpAny_newTuple ?_);have sz:g5.objs.size=s.heap.objs.size:=by rw[s5.1,s4.1,s3.1,s2.1,s1.1]
 have z5:IsZip g5 z TI TO .ellipsis:=s5.extBut _ _ D.TOz.symm (s4.extBut _ _ D.i2z.symm (s3.extBut _ _ D.TOz.symm (s2.extBut _ _ D.i1z.symm z1)));have k5:∀c o,c≠z->c≠TO->c≠i1->c≠i2->s.heap.get? c=some o->g5.get? c=some o:=fun c o c1 c2 c3 c4 e=>s5.extBut _ _ c2 (s4.extBut _ _ c4 (s3.extBut _ _ c2 (s2.extBut _ _ c3 (s1.extBut _ _ c1 e))));have t15:Iter g5 i1 r1 (k1+1):=t2.at_ fun o e=>s5.extBut _ _ D.TOi1.symm (s4.extBut _ _ D.i12 (s3.extBut _ _ D.TOi1.symm e));have t25:Iter g5 i2 r2 (k2+1):=t4.at_ fun o e=>s5.extBut _ _ D.TOi2.symm e;have zl:z<g5.objs.size:=Am z5;show FW _ _ (Builtin.SmallTypes.ownedTupleHandOut (.ref z) (.ref g5.objs.size) >>= _) _ _ _;refine FQ ?_;unfold Builtin.SmallTypes.ownedTupleHandOut;have z6:IsZip (g5.push { cls:=.type "tuple",data:=.seq #[u,v] }) z TI TO .ellipsis:=Ab _ z5;refine FQ (F8 z6 (by simp) fun g7 z7 s7=>?_);replace z7:IsZip g7 z TI TO (rawInt g5.objs.size):=z7;refine F8 z7 (by simp) fun g8 z8 s8=>?_;replace z8:IsZip g8 z TI TO (rawInt g5.objs.size):=z8;have up:∀c o,c≠z->g5.get? c=some o->g8.get? c=some o:=fun c o c1 e=>s8.extBut _ _ c1 (s7.extBut _ _ c1 (Ab _ e));have T8:IsPair g8 g5.objs.size u v:=s8.extBut _ _ (Cs zl) (s7.extBut _ _ (Cs zl) (Au _ rfl));have n8:g8.objs.size=g5.objs.size+1:=by rw[s8.1,s7.1,AL]
 rw[sz] at z8 T8 n8;refine FV ⟨_,rfl,?_⟩;show Q (.ref g5.objs.size) _;rw[sz];exact hQ u v g8 _ ru rv z8 (up _ _ D.TOz o5) (t15.at_ fun o e=>up _ o D.i1z e) (t25.at_ fun o e=>up _ o D.i2z e) T8 n8 fun c o c1 c2 c3 c4 e=>up c o c1 (k5 c o c1 c2 c3 c4 e)
theorem WQ{z TI TO i1 i2:FP}{r1 r2:Src}{k1:Nat}{xs:List L2.V}{a b:FO}{Q:Fin->FS->Prop}(hh:A.handled=none)(D:Apart z TI TO i1 i2 r1 r2)
  (hz:IsZip s.heap z TI TO .none) (hTI:IsPair s.heap TI (.ref i1) (.ref i2)) (hTO:IsPair s.heap TO a b) (h1:Iter s.heap i1 r1 k1) (hl1:At s.heap r1 xs) (hx:xs[k1]?=none)
  (hE:∀h' e,(∀c o,c≠z->c≠TO->c≠i1->c≠i2->s.heap.get? c=some o->h'.get? c=some o)->(∃o,h'.get? e=some o/\o.cls=.type "StopIteration")->E (.ref e) { s with heap:=h' }):
  FW (model prog w) A (Builtin.«zip.__next__» ⟨[.ref z],[]⟩) Q E s:=by
 show FW _ _ (field (.ref z) 2 >>= _) _ _ _;refine FQ (F5 hz rfl (x:=.bool false) rfl ?_);show FW _ _ (field (.ref z) 3 >>= _) _ _ _;refine FQ (F5 hz rfl (x:=.ref TI) rfl ?_);refine FQ (wpAny_seqItems hTI rfl ?_);show FW _ _ (Builtin.SmallTypes.ownedTupleIsFree (.ref z) >>= _) _ _ _;refine FQ ?_;unfold Builtin.SmallTypes.ownedTupleIsFree;refine FQ (F5 hz rfl (x:=.none) rfl (FV ?_));simp only[if_true];refine FQ (wpAny_rule ?_);refine FQ (F5 hz rfl (x:=.ref TO) rfl ?_);refine FQ (F8 hz (by simp) fun g1 z1 s1=>?_);replace z1:IsZip g1 z TI TO .ellipsis:=z1;refine FQ ?_;simp only[Fy,FD,Em,DH];refine FQ (FQ (wpAny_onRaise ?_));show FW _ _ (Builtin.SmallTypes.nextOf (.ref i1) >>= _) _ _ _;refine FQ (Nk hh (h1.at_ fun o e=>s1.extBut _ _ D.i1z e) (hl1.keeps fun l o hl e=>s1.extBut _ _ (D.r1 l hl).1 e) hx fun g2 e s2 he=>?_);obtain⟨oe,p1,p2⟩:=he;have z2:IsZip g2 z TI TO .ellipsis:=s2 _ _ D.i1z.symm z1;have ez:e≠z:=fun q=>by subst q;rw[z2] at p1;cases p1;simp at p2
 exact F8 z2 (by simp) fun g3 _ s3=>hE g3 e (fun c o c1 _ c3 _ q=>s3.extBut _ _ c1 (s2 _ _ c3 (s1.extBut _ _ c1 q))) ⟨oe,s3.extBut _ _ ez p1,p2⟩
theorem py_item{z TI TO i1 i2:FP}{r1 r2:Src}{k1 k2:Nat}{xs ys:List L2.V}{x y:L2.V}{a b:FO}{Q:Option FO->FS->Prop}(D:Apart z TI TO i1 i2 r1 r2)
  (hz:IsZip s.heap z TI TO .none) (hTI:IsPair s.heap TI (.ref i1) (.ref i2)) (hTO:IsPair s.heap TO a b) (h1:Iter s.heap i1 r1 k1) (h2:Iter s.heap i2 r2 k2) (hl1:At s.heap r1 xs) (hl2:At s.heap r2 ys) (hx:xs[k1]?=some x) (hy:ys[k2]?=some y)
  (hQ:∀u v h' tk,L2.RelV x u->L2.RelV y v->IsZip h' z TI TO (rawInt s.heap.objs.size)->IsPair h' TO u v->Iter h' i1 r1 (k1+1)->Iter h' i2 r2 (k2+1)->IsPair h' s.heap.objs.size u v->h'.objs.size=s.heap.objs.size+1->(∀c o,c≠z->c≠TO->c≠i1->c≠i2->s.heap.get? c=some o->h'.get? c=some o)->Q (some (.ref s.heap.objs.size)) { s with heap:=h',toks:=tk }):
  FW (model prog w) A (pyNext (.ref z)) Q E s:=by
 have hT:s.TypeIs (.ref z) "zip":=⟨_,hz,rfl⟩;unfold pyNext;exact FQ (wpAny_attempt (wpAny_callSpecial?_slot (name:=Str.ofString "__next__") hT F.slot_zip_next (wpAny_call_entry F.slot_zip_next hT F.entry_zip_next (U0 D hz hTI hTO h1 h2 hl1 hl2 hx hy fun u v h' tk b1 b2 a1 a2 a3 a4 a5 a6 a7=>FV (hQ u v h' tk b1 b2 a1 a2 a3 a4 a5 a6 a7)) (F.args_zip_next_1 _))))
theorem py_end{z TI TO i1 i2:FP}{r1 r2:Src}{k1:Nat}{xs:List L2.V}{a b:FO}{Q:Option FO->FS->Prop}(hh:A.handled=none)(D:Apart z TI TO i1 i2 r1 r2)
  (hz:IsZip s.heap z TI TO .none) (hTI:IsPair s.heap TI (.ref i1) (.ref i2)) (hTO:IsPair s.heap TO a b) (h1:Iter s.heap i1 r1 k1) (hl1:At s.heap r1 xs) (hx:xs[k1]?=none)
  (hQ:∀h',(∀c o,c≠z->c≠TO->c≠i1->c≠i2->s.heap.get? c=some o->h'.get? c=some o)->Q none { s with heap:=h' }):FW (model prog w) A (pyNext (.ref z)) Q E s:=by
 have hT:s.TypeIs (.ref z) "zip":=⟨_,hz,rfl⟩;unfold pyNext;refine FQ (wpAny_attempt (wpAny_callSpecial?_slot (name:=Str.ofString "__next__") hT F.slot_zip_next (wpAny_call_entry F.slot_zip_next hT F.entry_zip_next (WQ hh D hz hTI hTO h1 hl1 hx fun h' e hk he=>?_) (F.args_zip_next_1 _))));obtain⟨o,ho,hc⟩:=he;exact FQ (wpAny_isInstance (T:="StopIteration") (b:=true) ⟨o,ho,hc⟩ isSubtype_stop (FV (hQ _ hk)))
end
abbrev g1(h:Heap)(a:Src):Heap:=h.push a.obj
abbrev g2(h:Heap)(a b:Src):Heap:=(g1 h a).push b.obj
abbrev g3(h:Heap)(a b:Src):Heap:=(g2 h a b).push { cls:=.type "tuple",data:=.seq #[.ref h.objs.size,.ref (g1 h a).objs.size] }
abbrev g4(h:Heap)(a b:Src):Heap:=(g3 h a b).push { cls:=.type "tuple",data:=.seq #[.none,.none] }
abbrev g5(h:Heap)(a b:Src):Heap:=(g4 h a b).push { cls:=.type "zip",data:=.fields #[.none,.bool false,.bool false,.ref (g2 h a b).objs.size,.ref (g3 h a b).objs.size] }
theorem SH(a b:Src)(xs ys:List L2.V):Meets (Builtin.«zip.__new__» ⟨[.type "zip",a.val,b.val],[]⟩) (fun _ R s=>At s.heap a xs/\At s.heap b ys/\R (.ok (.ret (.ref (g4 s.heap a b).objs.size))) { s with heap:=g5 s.heap a b }):=
 .of_wp fun prog w A R s h=>by
  obtain⟨hp,g,d,tk,os⟩:=s;obtain⟨k1,k2,h⟩:=h;have hsub:=sub_zip;have L1:At (FS.heap ⟨hp,g,d,tk,os⟩) a xs:=k1;have L2:At (FS.heap ⟨hp.push a.obj,g,d,tk,os⟩) b ys:=k2.keeps fun l o _ e=>Ab _ e
  wp_walk using Ks L1,Ks L2
  exact⟨_,rfl,h⟩
section
variable{prog:FU}{w:F0}{A:F4}{E:FO->FS->Prop}{s:FS}
theorem call_zip{a b:Src}{xs ys:List L2.V}{Q:FO->FS->Prop}(k1:At s.heap a xs)(k2:At s.heap b ys)
  (h:∀h',IsZip h' (s.heap.objs.size+4) (s.heap.objs.size+2) (s.heap.objs.size+3) .none->IsPair h' (s.heap.objs.size+2) (.ref s.heap.objs.size) (.ref (s.heap.objs.size+1))->IsPair h' (s.heap.objs.size+3) .none .none->Iter h' s.heap.objs.size a 0->Iter h' (s.heap.objs.size+1) b 0->h'.objs.size=s.heap.objs.size+5->(∀c o,s.heap.get? c=some o->h'.get? c=some o)->Q (.ref (s.heap.objs.size+4)) { s with heap:=h' }):
  FW (model prog w) A (call (.type "zip") [a.val,b.val]) Q E s:=by
 refine callType_new F.called_zip (by decide) (F.typeCall_zip_2 _ _) (F.newCall_zip_2 _ _) (fun obj=>F.args_object_init_3 obj _ _) F.entry_zip_new (SH a b xs ys) ⟨k1,k2,?_⟩;have z1:(g1 s.heap a).objs.size=s.heap.objs.size+1:=AL ..;have z2:(g2 s.heap a b).objs.size=s.heap.objs.size+2:=by rw[AL,z1]
 have z3:(g3 s.heap a b).objs.size=s.heap.objs.size+3:=by rw[AL,z2]
 have z4:(g4 s.heap a b).objs.size=s.heap.objs.size+4:=by rw[AL,z3]
 have z5:(g5 s.heap a b).objs.size=s.heap.objs.size+5:=by rw[AL,z4]
 have e5:(g5 s.heap a b).get? (g4 s.heap a b).objs.size=some _:=Au _ rfl;have e4:(g5 s.heap a b).get? (g3 s.heap a b).objs.size=some _:=Ab _ (Au _ rfl);have e3:(g5 s.heap a b).get? (g2 s.heap a b).objs.size=some _:=Ab _ (Ab _ (Au _ rfl));have e2:(g5 s.heap a b).get? (g1 s.heap a).objs.size=some b.obj:=Ab _ (Ab _ (Ab _ (Au _ rfl)));have e1:(g5 s.heap a b).get? s.heap.objs.size=some a.obj:=Ab _ (Ab _ (Ab _ (Ab _ (Au _ rfl))));show _/\_;rw[z2,z3,z4] at e5;rw[z1,z2] at e3;rw[z3] at e4;rw[z1] at e2;rw[z4];exact⟨⟨_,e5,rfl⟩,h _ e5 e3 e4 (.zero e1) (.zero e2) z5 fun c o q=>Ab _ (Ab _ (Ab _ (Ab _ (Ab _ q))))⟩
end
end LZ
namespace L2
open PySem PySem.Spec PyProof.Rows
open LZ (Src)
def SrcV(K:Gh)(H:Hp):Src->List V->Prop
 |.lst a,xs=>SqL K H a xs
 |.tup a,xs=>SqT K H a xs
 |.txt x _,xs=>x.cps.all (·<128)=true/\xs=x.cps.toList.map fun c=>V.str ⟨#[c]⟩
theorem Inv.src{X:Cx}{pins:List (FP×Obj)}{σ:St}{H:Hp}{s:FS}{r:Src}{xs:List V}(I:Inv X pins σ H s)(h:SrcV X.K H r xs):LZ.At s.heap r xs:=by
 cases r with
 |lst a=>obtain⟨its,rv,p,_⟩:=I.list h;exact⟨its,rv,p.isList⟩
 |tup a=>obtain⟨its,rv,p,_⟩:=I.tuple h;exact⟨its,rv,p⟩
 |txt x t=>exact h
theorem Inv.src_inj{X:Cx}{pins:List (FP×Obj)}{σ:St}{H:Hp}{s:FS}{r:Src}{xs ys:List V}(I:Inv X pins σ H s)(h:SrcV X.K H r xs)(h':SrcV X.K H r ys):xs=ys:=by
 cases r with
 |lst a=>exact I.list_inj h h'
 |tup a=>exact I.tuple_inj h h'
 |txt x t=>exact h.2.trans h'.2.symm
def Nb(K:Gh)(a b:Src):It:=
 ⟨fun i H=>∃(xs ys:List V) (x y:V),SrcV K H a xs/\SrcV K H b ys/\xs[i]?=some x/\ys[i]?=some y,
  fun i H v H'=>∃T x y,v=.ref T/\H T=none/\H'=upd H T (.tup [x,y])/\(∀xs,SrcV K H a xs->xs[i]?=some x)/\∀ys,SrcV K H b ys->ys[i]?=some y,
  fun i H=>∃xs ys:List V,SrcV K H a xs/\SrcV K H b ys/\xs.length<=i⟩
theorem Tj{P:FU}{w:F0}{K:Gh}{elts:List F3}{kk:Nat}{tpos:Pos}{a b:Src}{z TI TO i1 i2:FP}(D:LZ.Apart z TI TO i1 i2 a b):
  Turn P w K (.Tuple elts kk tpos) (Nb K a b) [z,TI,TO,i1,i2] z (fun i h=>IsZip h z TI TO .none/\IsPair h TI (.ref i1) (.ref i2)/\(∃x y,IsPair h TO x y)/\LZ.Iter h i1 a i/\LZ.Iter h i2 b i) where
 mem:=by simp
 obj:=fun i h st c hc=>by
  obtain⟨hz,hTI,⟨x,y,hTO⟩,h1,h2⟩:=st;have e':c=z\/c=TI\/c=TO\/c=i1\/c=i2:=by simpa using hc
  rcases e' with q | q | q | q | q
  ·rw[q];exact⟨_,hz,fun v q=>nomatch q⟩
  ·rw[q];exact⟨_,hTI,fun v q=>nomatch q⟩
  ·rw[q];exact⟨_,hTO,fun v q=>nomatch q⟩
  ·rw[q];exact h1.some_
  ·rw[q];exact h2.some_
 keep:=fun i h h' st k=>by obtain⟨hz,hTI,⟨x,y,hTO⟩,h1,h2⟩:=st;exact⟨k z (by simp) _ hz,k TI (by simp) _ hTI,⟨x,y,k TO (by simp) _ hTO⟩,h1.at_ fun o q=>k i1 (by simp) o q,h2.at_ fun o q=>k i2 (by simp) o q⟩
 item:=by
  intro X hP hw hK hc i pins s σ H E I hf st hg;subst hP hw hK;obtain⟨hz,hTI,⟨x0,y0,hTO⟩,h1,h2⟩:=st;obtain⟨xs,ys,x,y,hqx,hqy,hx,hy⟩:=hg;have hzl:z<s.heap.objs.size:=Am hz;refine LZ.py_item D hz hTI hTO h1 h2 (I.src hqx) (I.src hqy) hx hy fun u u2 h' tk ru ru2 z' TO' h1' h2' hT hsz hk=>?_;refine⟨_,rfl,wpAny_letOwnedTupleGo_zip (s:={ s with heap:=h',toks:=tk }) z' fun h'' z'' sb=>?_⟩;have hT2:h''.get? s.heap.objs.size=some { cls:=.type "tuple",data:=.seq #[u,u2] }:=(sb.2 _ (Cs hzl)).trans hT;have new:ObjOk X.prog X.w (upd H s.heap.objs.size (.tup [x,y])) h'' s.heap.objs.size (.tup [x,y]):=⟨by show 2<=FT;decide,[u,u2],.cons ru (.cons ru2 .nil),⟨_,hT2,rfl,_,rfl⟩⟩
  have I1:Inv X pins σ (upd H s.heap.objs.size (.tup [x,y])) { s with heap:=h'',toks:=tk }:=I.turnedNew (t':=tk) (ch:=[z,TI,TO,i1,i2]) (fun c o hb q=>(sb.2 c (fun q'=>hb (by simp[q']))).trans (hk c o (fun q'=>hb (by simp[q'])) (fun q'=>hb (by simp[q'])) (fun q'=>hb (by simp[q'])) (fun q'=>hb (by simp[q'])) q)) hf (Ah _) new
  refine⟨.ref s.heap.objs.size,_,I1,rfl,⟨_,x,y,rfl,I.hok.fresh (Ah _),rfl,fun l hl=>by rw[I.src_inj hl hqx];exact hx,fun l hl=>by rw[I.src_inj hl hqy];exact hy⟩,⟨z'',?_,⟨u,u2,?_⟩,?_,?_⟩,fun c hcm=>?_⟩
  ·exact(sb.2 _ D.TIz).trans (hk _ _ D.TIz D.TITO D.TIi1 D.TIi2 hTI)
  ·exact(sb.2 _ D.TOz).trans TO'
  ·exact h1'.at_ fun o q=>(sb.2 _ D.i1z).trans q
  ·exact h2'.at_ fun o q=>(sb.2 _ D.i2z).trans q
  ·have hlt:c<s.heap.objs.size:=by
    have e':c=z\/c=TI\/c=TO\/c=i1\/c=i2:=by simpa using hcm
    rcases e' with q | q | q | q | q
    ·rw[q];exact hzl
    ·rw[q];exact Am hTI
    ·rw[q];exact Am hTO
    ·rw[q];obtain⟨_,e1,_⟩:=h1.some_;exact Am e1
    ·rw[q];obtain⟨_,e2,_⟩:=h2.some_;exact Am e2
   rw[Gr (AH hlt)];exact(hf c hcm).1
 done:=by intro X hP hw hK hc i pins s σ H E I hf st hg;subst hP hw hK;obtain⟨hz,hTI,⟨x0,y0,hTO⟩,h1,h2⟩:=st;obtain⟨xs,ys,hqx,hqy,hend⟩:=hg;exact LZ.py_end (I.ok.hd hc) D hz hTI hTO h1 (I.src hqx) (Cw hend) fun h' hk=>⟨rfl,I.turnedL (t':=s.toks) (ch:=[z,TI,TO,i1,i2]) (fun c o hb q=>hk c o (fun q'=>hb (by simp[q'])) (fun q'=>hb (by simp[q'])) (fun q'=>hb (by simp[q'])) (fun q'=>hb (by simp[q'])) q) hf⟩
 self:=fun A i s Q E st h=>wpAny_pyIter_zip st.1 h
def SA(cond:List V->Hp->(It->Hp->Prop)->Prop)(ta:TA):TI:=fun σ H R=>ta σ H fun vs H1=>cond vs H1 R
theorem Ps{X:Cx}{cond:List V->Hp->(It->Hp->Prop)->Prop}{e e2:F3}{ta:TA}{p pos tpos:Pos}{elts:List F3}{kk:Nat}(hc:∀vs H1 R,cond vs H1 R->∃v1 v2,vs=[v1,v2]/\∀u1 u2,RelV v1 u1->RelV v2 u2->∃a b xs ys,Src.val a=u1/\Src.val b=u2/\SrcV X.K H1 a xs/\SrcV X.K H1 b ys/\R (Nb X.K a b) H1)(hg:Gl X "zip")(hm:X.mg "zip"=none)(ha:PA X [e,e2] ta)
  (hs:FY [e,e2] X.env=(false,eval e X.env)::FY [e2] X.env:=by rfl) (hpl:(backTo pos (FY [e2] X.env)).any (·.1)=false:=by rfl):
  PI X (.Tuple elts kk tpos) (.Call (.Name "zip" p) [e,e2] [] pos) (SA cond ta):=by
 intro pins s σ H R I h;refine Call_ (K7 I hg hm TN (BC (thn (ha pos pins s σ H _ I h) fun us s1 ⟨vs,H1,I1,r1,q1⟩=>?_) hs hpl));obtain⟨v1,v2,ex,q2⟩:=hc _ _ _ q1;clear q1;subst ex;cases r1 with
 |cons r rr=>
  cases rr with
  |cons r' rr=>
   cases rr;obtain⟨a,b,xs,ys,e1,e2,hqx,hqy,q⟩:=q2 _ _ r r';subst e1 e2;have lt_of:∀{c:Src} {zs:List V} {l:FP},SrcV X.K H1 c zs->c.has l->l<s1.heap.objs.size:=fun{c zs l} hc hl=>by
    have at_:=I1.src hc;cases c with
    |lst a=>cases hl;obtain⟨_,_,o,ho,_⟩:=at_;exact Am ho
    |tup a=>cases hl;obtain⟨_,_,o,ho,_⟩:=at_;exact Am ho
    |txt x t=>exact hl.elim
   refine LZ.call_zip (I1.src hqx) (I1.src hqy) fun h' hz hTI hTO h1 h2 hsz hk=>wpAny_pyIter_zip hz ?_;have I2:Inv X pins σ H1 { s1 with heap:=h' }:=I1.kept (t':=s1.toks) hk;have D:LZ.Apart (s1.heap.objs.size+4) (s1.heap.objs.size+2) (s1.heap.objs.size+3) s1.heap.objs.size (s1.heap.objs.size+1) a b:=by
    have ne:∀{x y:Nat},x<y\/y<x->(x:FP)≠y:=fun h q=>by
     have q:(_:Nat)=_:=q
     lia
    have n4:∀l:Nat,l<s1.heap.objs.size->(l:FP)≠s1.heap.objs.size+4/\(l:FP)≠s1.heap.objs.size+3/\(l:FP)≠s1.heap.objs.size/\(l:FP)≠s1.heap.objs.size+1:=fun l h=>⟨ne (.inl (by lia)),ne (.inl (by lia)),ne (.inl h),ne (.inl (by lia))⟩;exact⟨ne (.inl (by lia)),ne (.inl (by lia)),ne (.inl (by lia)),ne (.inl (by lia)),ne (.inl (by lia)),ne (.inr (by lia)),ne (.inr (by lia)),ne (.inr (by lia)),ne (.inr (by lia)),ne (.inl (by lia)),fun l hl=>n4 l (lt_of hqx hl),fun l hl=>n4 l (lt_of hqy hl)⟩
   refine⟨s1.heap.objs.size+4,[s1.heap.objs.size+4,s1.heap.objs.size+2,s1.heap.objs.size+3,s1.heap.objs.size,s1.heap.objs.size+1],_,_,H1,rfl,I2,Tj D,⟨hz,hTI,⟨_,_,hTO⟩,h1,h2⟩,fun c hcm=>?_,q⟩;have e':c=s1.heap.objs.size+4\/c=s1.heap.objs.size+2\/c=s1.heap.objs.size+3\/c=s1.heap.objs.size\/c=s1.heap.objs.size+1:=by simpa using hcm
   have hle:s1.heap.objs.size<=c:=by
    rcases e' with z | z | z | z | z
    ·rw[z];exact Ce _ _
    ·rw[z];exact Ce _ _
    ·rw[z];exact Ce _ _
    ·rw[z];exact Ah _
    ·rw[z];exact Ce _ _
   exact I1.fpOk hle (I1.hok.fresh hle)
abbrev W7(K:Gh)(a b:FP):It:=Nb K (.tup a) (.tup b)
def Zj(K:Gh)(ta:TA):TI:=SA (fun vs H1 R=>∃a b xs ys,vs=[.ref a,.ref b]/\SqT K H1 a xs/\SqT K H1 b ys/\R (W7 K a b) H1) ta
theorem V5{X:Cx}{e e2:F3}{ta:TA}{p pos tpos:Pos}{elts:List F3}{kk:Nat}(hg:Gl X "zip")(hm:X.mg "zip"=none)(ha:PA X [e,e2] ta)
  (hs:FY [e,e2] X.env=(false,eval e X.env)::FY [e2] X.env:=by rfl) (hpl:(backTo pos (FY [e2] X.env)).any (·.1)=false:=by rfl):
  PI X (.Tuple elts kk tpos) (.Call (.Name "zip" p) [e,e2] [] pos) (Zj X.K ta):=
 Ps (fun vs H1 R ⟨a,b,xs,ys,e,h1,h2,q⟩=>⟨_,_,e,fun u1 u2 r1 r2=>⟨.tup a,.tup b,xs,ys,r1.symm,r2.symm,h1,h2,q⟩⟩) hg hm ha hs hpl
def YD(K:Gh)(ta:TA):TI:=SA (fun vs H1 R=>∃(x:Str) (b:FP) (ys:List V),vs=[.str x,.ref b]/\x.cps.all (·<128)=true/\SqT K H1 b ys/\∀t,R (Nb K (.txt x t) (.tup b)) H1) ta
theorem UL{X:Cx}{e e2:F3}{ta:TA}{p pos tpos:Pos}{elts:List F3}{kk:Nat}(hg:Gl X "zip")(hm:X.mg "zip"=none)(ha:PA X [e,e2] ta)
  (hs:FY [e,e2] X.env=(false,eval e X.env)::FY [e2] X.env:=by rfl) (hpl:(backTo pos (FY [e2] X.env)).any (·.1)=false:=by rfl):
  PI X (.Tuple elts kk tpos) (.Call (.Name "zip" p) [e,e2] [] pos) (YD X.K ta):=
 Ps (fun vs H1 R ⟨x,b,ys,e,h1,h2,q⟩=>⟨_,_,e,fun u1 u2 ⟨t,r1⟩ r2=>⟨.txt x t,.tup b,_,ys,r1.symm,r2.symm,⟨h1,rfl⟩,h2,q t⟩⟩) hg hm ha hs hpl
end L2
namespace L2
open PySem PySem.Spec PyProof.Rows
theorem Yp{K:Gh}{a:FP}{xs ys:List V}{g:TG}{te:TE}{σ:List (Option V)}{vs:List Nat}{Qd:Hp->Prop}{H1:Hp}{D:FP}(hS:SqL K H1 a xs)(hl:ys.length=xs.length)(hz:ys.length<=1000)(hD:H1 D=none)
  (step:∀(i:Nat) (x y:V) (Hi:Hp),xs[i]?=some x->ys[i]?=some y->Same H1 Hi->∀(R:VK) (Z:Hp->Prop),R y Hi->g x (Hl σ vs) Hi fun σ2 H2=>Hl σ2 vs=Hl σ vs/\Rs σ2 H2 fun b H3=>if b=true then te σ2 H3 R else Z H3)
  (hQ:∀H',Same H1 H'->H' D=some (.lst ys)->Qd H'):
  ∃W:Nat->Nat->Hp->Prop,(∃m,W 0 m (upd H1 D (.lst [])))/\∀i m H,W i m H->((Itl K a).stop i H/\Qd H)\/((Itl K a).go i H/\∃Nx:Hp->Prop,(∀H',Nx H'->∃m',m'<m/\W (i+1) m' H') ∧
   ∀x H',(Itl K a).yld i H x H'->g x (Hl σ vs) H' fun σ2 H2=>Hl σ2 vs=Hl σ vs/\Rs σ2 H2 fun b H3=>if b=true then te σ2 H3 fun y H4=>∃acc,H4 D=some (.lst acc)/\acc.length<FT/\Nx (upd H4 D (.lst (acc++[y]))) else Nx H3):=by
 refine⟨fun i m H=>m=xs.length-i/\i<=xs.length/\Same H1 H/\H D=some (.lst (ys.take i)),⟨xs.length,by simp,AD _,fun b o h=>by rw[Gr (Gs h hD)];exact h,Gn⟩,?_⟩;rintro i m H ⟨rfl,hi,sm,hd⟩;by_cases hlt:i<xs.length
 ·have hy:ys[i]?=some (ys[i]'(by lia)):=Ae _;refine .inr ⟨⟨xs,xs[i],sm.seq hS,by simp[hlt]⟩,fun H'=>Same H1 H'/\H' D=some (.lst (ys.take (i+1))),fun H' ⟨h1,h2⟩=>⟨xs.length-(i+1),by lia,rfl,hlt,h1,h2⟩,fun x H' yl=>?_⟩;obtain⟨e,yl⟩:=yl;subst e;refine step i x _ _ (yl xs (sm.seq hS)) hy sm _ _ ⟨_,hd,?_,fun b o h=>?_,?_⟩
  ·rw[Ax];exact Ar (Bc _ _) (JJ hz)
  ·rw[Gr (Gs h hD)];exact sm _ _ h
  ·rw[Gn,B8,hy];rfl
 ·have e:i=xs.length:=by lia
  subst e;refine .inl ⟨⟨xs,sm.seq hS,Ah _⟩,hQ H sm ?_⟩;rw[hd,<-hl,AU]
end L2
namespace Lu
open PySem PySem.Spec PyProof.Rows L2 Lute LuR LuW
def ivV(x:Iv):List V:=[.int x.a,.int x.b,.int x.c,.int x.e,.int (x.d:Int)]
def dN(P:JQ):Nat->Nat
 |0=>1
 |i+1=>Bw (dN P i) (P i).2
theorem PowAt.items{H:Hp}{l:FP}{P:JQ}(h:PowAt H l P):∃bs:List FP,H l=some (.lst (bs.map V.ref))/\bs.length=4/\∀i b,bs[i]?=some b->H b=some (.tup [.int (P i).1,.int ((P i).2:Int)]):=by
 obtain⟨b0,b1,b2,b3,h0,h1,h2,h3,h4⟩:=h;refine⟨[b0,b1,b2,b3],h0,rfl,fun i b hb=>?_⟩
 match i,hb with
 |0,hb=>cases hb;exact h1
 |1,hb=>cases hb;exact h2
 |2,hb=>cases hb;exact h3
 |3,hb=>cases hb;exact h4
 |i+4,hb=>simp at hb
def NK(K:Gh):Sp:=fun vs H Q _=>∃(l:FP) (P:JQ),vs=[.ref l]/\PowAt H l P/\(∀j,1<=(P j).2)/\Small P/\∀(H':Hp) (b:FP),Same H H'->H' b=some (.tup (ivV (com P)))->Q (.ref b) H'
section
variable{P:FU}{w:F0}{K:Gh}{mg:Str->Option FO}{base:Heap}{B C:FP}
theorem Tw:FnScope ["powers","d","power","numbers"] ["powers"] (Gq He):=⟨rfl,rfl,rfl,by decide +kernel,rfl,by decide +kernel,by decide +kernel⟩
theorem Tq{f:FP}{fd:FZ}(F:Fun K "with_common_parts" "with_common_parts" He f fd)(T:Txt K mg B C)(DG:Dfn P w K mg base C 1 "common_factor" ["a","b"] Us):
  FnOk P w K mg base (CXF P w C) 2 f fd ["powers"] (NK K):=by
 refine F.okX Tw (fun vs H Q E h=>?_) (fun cdv A outer s H vs Q E hr h=>?_)
 ·obtain⟨l,PP,rfl,_⟩:=h;rfl
 ·obtain⟨l,PP,rfl,hP,pos,sm,k⟩:=h;refine⟨_,Gm (Gw (i:=1) Tw.nd rfl (Or.inr rfl) Gv)
   (Gm (Ic IC rfl (Ik (pv 0)) (GJ (i:=2) Tw.nd rfl (Or.inl rfl))
    (Gp (Gw (i:=1) Tw.nd rfl (Or.inr rfl) (GU Jt (GU JB (pv 1) (HJ IS (pv 2) Gv (fun _ _=>rfl))) (GQ DG hr rfl (Gk (pv 1) (Gk (HJ IS (pv 2) Gv (fun _ _=>rfl)) Go)))))))
   (Gm (Nw (i:=3) (own:=[("power",2)]) (te:=tOp (rI CMul fun i j=>.int (i*j)) (tOp (Vr K) (Hw 2) (tC (.int 0))) (tOp (rI YS fun i j=>.int (i / j)) (Hw 1) (tOp (Vr K) (Hw 2) (tC (.int 1))))) rfl Tw.nd rfl rfl rfl (Ik (pv 0)) (show BlkOk ["powers","d","power","numbers"] (Gq He) _ [("power",2)] from ⟨rfl,by decide +kernel,by decide +kernel,by decide +kernel,by decide +kernel⟩)
    (fun _ _ _ _ _=>GJ (i:=2) Tw.nd rfl (Or.inl rfl)) (fun _ _ _ _ _=>Ip)
    (fun _ _ _ _ _=>GU JB (HJ IS (pv 2) Gv (fun _ _=>rfl)) (GU Jt (pv 1) (HJ IS (pv 2) Gv (fun _ _=>rfl)))))
   (Gp (Gz (Hn (Gk (HJ Iu (pv 3) Gv (fun _ _=>rfl)) (Gk (HJ Iu (pv 3) Gv (fun _ _=>rfl)) (Gk (HJ Iu (pv 3) Gv (fun _ _=>rfl)) (Gk (HJ Iu (pv 3) Gv (fun _ _=>rfl)) (Gk (pv 1) Go))))))))))
   ,?_⟩
  obtain⟨bs,hl,hlen,hb⟩:=hP.items;have item:∀(i:Nat) (y:V),(bs.map V.ref)[i]?=some y->∃b,y=.ref b/\i<4/\H b=some (.tup [.int (PP i).1,.int ((PP i).2:Int)]):=fun i y hy=>by
   rw[Al] at hy;cases hb':bs[i]? with
   |none=>rw[hb'] at hy;cases hy
   |some b=>rw[hb'] at hy;exact⟨b,(Option.some.inj hy).symm,by rw[<-hlen];exact(Ai.mp hb').1,hb i b hb'⟩
  refine⟨_,rfl,l,rfl,⟨_,SqL.of hl⟩,Jn (K:=K) (a:=l) (xs:=bs.map V.ref) (fun i σ H'=>∃v2:Option V,σ=[some (.ref l),some (.int ((dN PP i:Nat):Int)),v2,none]/\H'=H) ⟨none,rfl,rfl⟩ (fun i σ H' _ ⟨_,_,e⟩=>by rw[e];exact SqL.of hl) ?_ ?_⟩
  ·rintro i y σ H' hi ⟨v2,rfl,rfl⟩;obtain⟨b,rfl,hi4,hbi⟩:=item i y hi;have p1:=pos i;have s1:=sm i;have hg:B9 ((dN PP i:Nat):Int) ((PP i).2:Int)=AN (dN PP i) (PP i).2:=rfl;have g1:1<=AN (dN PP i) (PP i).2:=Ez _ p1;have g2:AN (dN PP i) (PP i).2<=(PP i).2:=Nat.gcd_le_right _ p1;refine⟨_,rfl,_,rfl,b,_,_,_,rfl,rfl,SqT.of hbi,Ie (j:=1) rfl rfl,_,_,rfl,rfl,.inr ⟨by lia,by lia⟩,?_⟩;refine⟨_,rfl,_,rfl,b,_,_,_,rfl,rfl,SqT.of hbi,Ie (j:=1) rfl rfl,_,_,rfl,by lia,_,_,rfl,rfl,⟨by rw[hg];lia,by rw[hg];lia⟩,?_⟩;refine⟨some (.ref b),?_,rfl⟩;have e:((dN PP i:Nat):Int)*((PP i).2:Int) / ((B9 ((dN PP i:Nat):Int) ((PP i).2:Int):Nat):Int)=((dN PP (i+1):Nat):Int):=by rw[hg];show _=((Bw (dN PP i) (PP i).2:Nat):Int);unfold Bw;rw[BV,B5]
   rw[<-e];rfl
  ·rintro σ H1 ⟨v2,rfl,rfl⟩;have e4:(bs.map V.ref).length=4:=by rw[Aa,hlen]
   rw[e4];have eD:dN PP 4=Jk PP:=rfl;rw[eD];have cp:=Nm pos;refine⟨_,rfl,l,rfl,⟨_,SqL.of hl⟩,fun D hD=>Yp (K:=K) (xs:=bs.map V.ref) (ys:=[.int (com PP).a,.int (com PP).b,.int (com PP).c,.int (com PP).e]) (SqL.of hl) (by rw[e4];rfl) (by show 4<=1000;decide) hD ?_ ?_⟩
   ·intro i x y Hi hx hy sm' R Z hR;obtain⟨b,rfl,hi4,hbi⟩:=item i x hx;have p1:=pos i;have s1:=sm i;refine⟨rfl,?_⟩;have ey:y=.int ((PP i).1*(((Jk PP:Nat):Int) / ((PP i).2:Int))):=by
     match i,hi4,hy with
     |0,_,hy=>cases hy;show V.int ((PP 0).1*((Jk PP / (PP 0).2:Nat):Int))=_;rw[BV]
     |1,_,hy=>cases hy;show V.int ((PP 1).1*((Jk PP / (PP 1).2:Nat):Int))=_;rw[BV]
     |2,_,hy=>cases hy;show V.int ((PP 2).1*((Jk PP / (PP 2).2:Nat):Int))=_;rw[BV]
     |3,_,hy=>cases hy;show V.int ((PP 3).1*((Jk PP / (PP 3).2:Nat):Int))=_;rw[BV]
    rw[ey] at hR;exact⟨_,rfl,b,_,_,_,rfl,rfl,SqT.of (sm' _ _ hbi),Ie (j:=0) rfl rfl,_,rfl,_,rfl,b,_,_,_,rfl,rfl,SqT.of (sm' _ _ hbi),Ie (j:=1) rfl rfl,_,_,rfl,rfl,⟨by lia,by lia⟩,_,_,rfl,rfl,.inl ⟨by lia,by lia⟩,hR⟩
   ·intro H' sm' hd;refine⟨_,rfl,D,_,_,_,rfl,rfl,SqL.of hd,Ie (j:=0) rfl rfl,_,rfl,D,_,_,_,rfl,rfl,SqL.of hd,Ie (j:=1) rfl rfl,_,rfl,D,_,_,_,rfl,rfl,SqL.of hd,Ie (j:=2) rfl rfl,_,rfl,D,_,_,_,rfl,rfl,SqL.of hd,Ie (j:=3) rfl rfl,_,rfl,(by show 5<=FT;decide),fun b hb=>?_⟩;exact k _ b (fun x o hx=>by rw[Gr (Gs (sm' _ _ hx) hb)];exact sm' _ _ hx) Gn
end
end Lu
namespace L2
open PySem PySem.Spec PyProof.Rows
theorem Same.tup{K:Gh}{H H':Hp}{a:FP}{xs:List V}(e:Same H H')(h:SqT K H a xs):SqT K H' a xs:=by
 rcases h with (h | ⟨o,h⟩) | h
 ·exact .inl (.inl (e _ _ h))
 ·exact .inl (.inr ⟨o,e _ _ h⟩)
 ·exact .inr h
theorem Wv{K:Gh}{a b:FP}{xs ys zs:List V}{g:TG}{te:TE}{σ:List (Option V)}{vs:List Nat}{Qd:Hp->Prop}{H1:Hp}{D:FP}(hA:SqT K H1 a xs)(hB:SqT K H1 b ys)(h1:ys.length=xs.length)(hl:zs.length=xs.length)(hz:zs.length<=1000)(hD:H1 D=none)
  (step:∀(i:Nat) (x y z:V) (Hi:Hp) (T:FP),xs[i]?=some x->ys[i]?=some y->zs[i]?=some z->Hi T=some (.tup [x,y])->∀(R:VK) (Z:Hp->Prop),R z Hi->g (.ref T) (Hl σ vs) Hi fun σ2 H2=>Hl σ2 vs=Hl σ vs/\Rs σ2 H2 fun b H3=>if b=true then te σ2 H3 R else Z H3)
  (hQ:∀H',Same H1 H'->H' D=some (.lst zs)->Qd H'):
  ∃W:Nat->Nat->Hp->Prop,(∃m,W 0 m (upd H1 D (.lst [])))/\∀i m H,W i m H->((W7 K a b).stop i H/\Qd H)\/((W7 K a b).go i H/\∃Nx:Hp->Prop,(∀H',Nx H'->∃m',m'<m/\W (i+1) m' H') ∧
   ∀x H',(W7 K a b).yld i H x H'->g x (Hl σ vs) H' fun σ2 H2=>Hl σ2 vs=Hl σ vs/\Rs σ2 H2 fun b H3=>if b=true then te σ2 H3 fun y H4=>∃acc,H4 D=some (.lst acc)/\acc.length<FT/\Nx (upd H4 D (.lst (acc++[y]))) else Nx H3):=by
 refine⟨fun i m H=>m=xs.length-i/\i<=xs.length/\Same H1 H/\H D=some (.lst (zs.take i)),⟨xs.length,by simp,AD _,fun b o h=>by rw[Gr (Gs h hD)];exact h,Gn⟩,?_⟩;rintro i m H ⟨rfl,hi,sm,hd⟩;by_cases hlt:i<xs.length
 ·have hzi:zs[i]?=some (zs[i]'(by lia)):=Ae _;refine .inr ⟨⟨xs,ys,xs[i],ys[i]'(by lia),sm.tup hA,sm.tup hB,by simp[hlt],Ae _⟩,fun H'=>Same H1 H'/\H' D=some (.lst (zs.take (i+1))),fun H' ⟨h1,h2⟩=>⟨xs.length-(i+1),by lia,rfl,hlt,h1,h2⟩,fun v H' yl=>?_⟩;obtain⟨T,x,y,rfl,hT,rfl,hx,hy⟩:=yl;have nT:D≠T:=Gs hd hT;refine step i x y _ _ T (hx xs (sm.tup hA)) (hy ys (sm.tup hB)) hzi Gn _ _ ⟨_,by rw[Gr nT];exact hd,?_,fun b o h=>?_,?_⟩
  ·rw[Ax];exact Ar (Bc _ _) (JJ hz)
  ·rw[Gr (Gs h hD),Gr (Gs (sm _ _ h) hT)];exact sm _ _ h
  ·rw[Gn,B8,hzi];rfl
 ·have e:i=xs.length:=by lia
  subst e;refine .inl ⟨⟨xs,ys,sm.tup hA,sm.tup hB,Ah _⟩,hQ H sm ?_⟩;rw[hd,<-hl,AU]
end L2
namespace Lu
open PySem PySem.Spec PyProof.Rows L2 Lute LuR LuW
def okB(x:Iv):Bool:=decide (-99<=x.a/\x.a<=99)&&(decide (-99<=x.b/\x.b<=99)&&(decide (-99<=x.c/\x.c<=99)&&(decide (-99<=x.e/\x.e<=99)&&decide (x.d<=24))))
theorem VF{x:Iv}(h1:x.common=1)(h2:1<=x.d):okB x=x.ok:=by
 have w:∀z:Int,within z=decide (-99<=z/\z<=99):=fun z=>by unfold within MOST;rw[BH];simp
 unfold okB Iv.ok;rw[w,w,w,w,h1,decide_eq_true h2];simp only[CB,beq_self_eq_true,Ex];rfl
def Lj(K:Gh):Sp:=fun vs H Q _=>∃(b:FP) (x:Iv),vs=[.ref b]/\SqT K H b (ivV x)/\∀H',Same H H'->Q (.bl (okB x)) H'
def Lp(K:Gh):Sp:=fun vs H Q _=>∃(b:FP) (x:Iv),vs=[.ref b]/\SqT K H b (ivV x)/\x.ok=true/\∀H',Same H H'->Q (.int (width x)) H'
theorem TR(x:Iv):Nv (ivV x) none (some 4)=[.int x.a,.int x.b,.int x.c,.int x.e]:=by unfold Nv ivV;rw[show(some (4:Int))=some ((4:Nat):Int) from rfl,HT.sIx_none,HT.sIx_nat];rfl
theorem LJ(x:Iv):¬(HT.sIx (ivV x).length 0 none=0/\HT.sIx (ivV x).length (ivV x).length (some 4)=(ivV x).length):=by rw[show(some (4:Int))=some ((4:Nat):Int) from rfl,HT.sIx_none,HT.sIx_nat];unfold ivV;simp
section
variable{P:FU}{w:F0}{K:Gh}{mg:Str->Option FO}{base:Heap}{B C:FP}
theorem Aao:FnScope ["numbers","power"] ["numbers"] (Gq HG):=⟨rfl,rfl,rfl,by decide +kernel,rfl,by decide +kernel,by decide +kernel⟩
theorem SO{f:FP}{fd:FZ}(F:Fun K "is_within_bounds" "is_within_bounds" HG f fd)(T:Txt K mg B C):FnOk P w K mg base (CXF P w C) 1 f fd ["numbers"] (Lj K):=by
 refine F.okX Aao (fun vs H Q E h=>?_) (fun cdv A outer s H vs Q E hr h=>?_)
 ·obtain⟨b,x,rfl,_⟩:=h;rfl
 ·obtain⟨b,x,rfl,hb,k⟩:=h;refine⟨_,Gm (Ic IC rfl (Vw (JN LS (pv 0) KC (KB Gv))) (GJ (i:=1) Aao.nd rfl (Or.inl rfl))
    (Gp (GS (Gy Oz (G1 Q1 (by rfl) T.abs P7 (Gk (pv 1) Go)) (Gx T.cMP) (GC _)) (Gp (Gz Xy)) GD)))
   (Gp (Gz (MJ KO (HJ IS (pv 0) Gv (fun _ _=>rfl)) (Gx T.cMA) (GC _)))),?_⟩
  refine⟨_,rfl,_,rfl,b,_,rfl,hb,LJ x,fun p hp=>?_⟩;rw[TR];have sm:Same H (upd H p (.tup [.int x.a,.int x.b,.int x.c,.int x.e])):=fun c o h=>by rw[Gr (Gs h hp)];exact h
  have bad:∀z:Int,99<(if z<0 then -z else z)->¬(-99<=z/\z<=99):=fun z h q=>by split at h <;> lia
  have fine:∀z:Int,¬99<(if z<0 then -z else z)->(-99<=z/\z<=99):=fun z h=>by split at h <;> lia
  refine⟨p,rfl,⟨_,SqT.of Gn⟩,R0 (K:=K) (a:=p) (xs:=[.int x.a,.int x.b,.int x.c,.int x.e]) (fun i σ H'=>∃v:Option V,σ=[some (.ref b),v]/\H'=upd H p (.tup [.int x.a,.int x.b,.int x.c,.int x.e])/\∀j,j<i->∀z,[x.a,x.b,x.c,x.e][j]?=some z->(-99<=z/\z<=99)) ⟨none,rfl,rfl,fun j hj=>by lia⟩ (fun i σ H' _ ⟨_,_,e,_⟩=>by rw[e];exact SqT.of Gn) ?_ ?_⟩
  ·rintro i y σ H' hi ⟨v,rfl,rfl,all⟩;obtain⟨z,hz,rfl⟩:∃z,[x.a,x.b,x.c,x.e][i]?=some z/\y=.int z:=by
    match i,hi with
    |0,hi=>cases hi;exact⟨_,rfl,rfl⟩
    |1,hi=>cases hi;exact⟨_,rfl,rfl⟩
    |2,hi=>cases hi;exact⟨_,rfl,rfl⟩
    |3,hi=>cases hi;exact⟨_,rfl,rfl⟩
    |i+4,hi=>simp at hi
   refine⟨_,rfl,_,rfl,_,_,rfl,rfl,_,rfl,?_⟩;refine GV (fun h=>?_) fun h=>?_
   ·have h':=bad z (of_decide_eq_true h);have e:okB x=false:=by
     unfold okB
     match i,hz with
     |0,hz=>cases hz;rw[decide_eq_false h'];rfl
     |1,hz=>cases hz;rw[decide_eq_false h'];simp
     |2,hz=>cases hz;rw[decide_eq_false h'];simp
     |3,hz=>cases hz;rw[decide_eq_false h'];simp
     |i+4,hz=>simp at hz
    have:=k _ sm;rw[e] at this;exact this
   ·refine⟨some (.int z),rfl,rfl,fun j hj z' hz'=>?_⟩;by_cases q:j=i
    ·subst q;rw[hz] at hz';cases hz';exact fine z fun z=>h (decide_eq_true z)
    ·exact all j (by lia) z' hz'
  ·rintro σ H' ⟨v,rfl,rfl,all⟩;refine⟨_,rfl,b,_,_,_,rfl,rfl,sm.tup hb,Ie (j:=4) rfl rfl,_,_,rfl,rfl,?_⟩;have e:okB x=decide ((x.d:Int)<=24):=by
    unfold okB;rw[decide_eq_true (all 0 (by simp) _ rfl),decide_eq_true (all 1 (by simp) _ rfl),decide_eq_true (all 2 (by simp) _ rfl),decide_eq_true (all 3 (by simp) _ rfl)];simp only[CB];rw[BH,decide_eq_true_eq,decide_eq_true_eq]
    lia
   have:=k _ sm;rw[e] at this;exact this
theorem SN:FnScope ["interval","powers","total","power","logarithm"] ["interval"] (Gq Lo):=⟨rfl,rfl,rfl,by decide +kernel,rfl,by decide +kernel,by decide +kernel⟩
theorem SL:Gf "sum"=some (.builtin "sum"):=by decide +kernel
theorem Vf{f:FP}{fd:FZ}(F:Fun K "width" "width" Lo f fd)(T:Txt K mg B C):FnOk P w K mg base (CXF P w C) 1 f fd ["interval"] (Lp K):=by
 refine F.okX SN (fun vs H Q E h=>?_) (fun cdv A outer s H vs Q E hr h=>?_)
 ·obtain⟨b,x,rfl,_⟩:=h;rfl
 ·obtain⟨b,x,rfl,hb,hok,k⟩:=h;obtain⟨al,hal,hL⟩:=T.log;obtain⟨ba,bb,bc,be,d1,d2,_⟩:=HV hok;refine⟨_,Gm (Gw (i:=1) SN.nd rfl (Or.inl rfl) (JN LS (pv 0) KC (KB Gv)))
   (Gm (Gw (i:=2) SN.nd rfl (Or.inl rfl) (G1 (YK rfl) (by rfl) T.sum SL (Gk (Mu (own:=[("power",3),("logarithm",4)]) (g:=RF K 2 (JH (HY 3) (JH (HY 4) Rb))) (te:=tOp (rI CMul fun i j=>.int (i*j)) (Hw 3) (Hw 4)) rfl SN.nd (V5 (by rfl) T.zip (Gk (pv 1) (Gk (Gx hal) Go)))
     (show BlkOk ["interval","powers","total","power","logarithm"] (Gq Lo) _ [("power",3),("logarithm",4)] from ⟨rfl,by decide +kernel,by decide +kernel,by decide +kernel,by decide +kernel⟩)
     (fun _ _ _ _ _=>Jm rfl (GX (GJ (i:=3) SN.nd rfl (Or.inl rfl)) (GX (GJ (i:=4) SN.nd rfl (Or.inl rfl)) Il))) (fun _ _ _ _ _=>Ip)
     (fun _ _ _ _ _=>GU JB (pv 3) (pv 4))) Go)))
   (Gp (Gz (GU JB (pv 2) (GU Jt (Gx T.cCP) (HJ IS (pv 0) Gv (fun _ _=>rfl))))))),?_⟩
  refine⟨_,rfl,_,rfl,b,_,rfl,hb,LJ x,fun p hp=>?_⟩;rw[TR];have sm:Same H (upd H p (.tup [.int x.a,.int x.b,.int x.c,.int x.e])):=fun c o h=>by rw[Gr (Gs h hp)];exact h
  generalize hl0:(6931471805599453094172321214581765680755:Int)=l0 at *;generalize hl1:(10986122886681096913952452369225257046474:Int)=l1 at *;generalize hl2:(16094379124341003746007593332261876395256:Int)=l2 at *;generalize hl3:(19459101490553133051053527434431797296370:Int)=l3 at *;refine⟨_,rfl,p,al,_,_,rfl,SqT.of Gn,hL _,fun D hD=>Wv (K:=K) (a:=p) (b:=al) (xs:=[.int x.a,.int x.b,.int x.c,.int x.e]) (ys:=[.int l0,.int l1,.int l2,.int l3]) (zs:=[x.a*l0,x.b*l1,x.c*l2,x.e*l3].map V.int) (SqT.of Gn) (hL _) rfl rfl (by show 4<=1000;decide) hD ?_ ?_⟩
  ·intro i u v z Hi TT hu hv hz hT R Z hR;obtain⟨n,m,rfl,rfl,rfl,hn⟩:∃n m:Int,u=.int n/\v=.int m/\z=.int (n*m)/\(-99<=n/\n<=99):=by
    match i,hu,hv,hz with
    |0,hu,hv,hz=>cases hu;cases hv;cases hz;exact⟨_,_,rfl,rfl,rfl,ba⟩
    |1,hu,hv,hz=>cases hu;cases hv;cases hz;exact⟨_,_,rfl,rfl,rfl,bb⟩
    |2,hu,hv,hz=>cases hu;cases hv;cases hz;exact⟨_,_,rfl,rfl,rfl,bc⟩
    |3,hu,hv,hz=>cases hu;cases hv;cases hz;exact⟨_,_,rfl,rfl,rfl,be⟩
    |i+4,hu,_,_=>simp at hu
   exact⟨TT,_,rfl,SqT.of hT,rfl,_,_,rfl,_,_,rfl,rfl,rfl,_,rfl,_,rfl,_,_,rfl,rfl,.inl ⟨by lia,by lia⟩,hR⟩
  ·intro H' sm' hd;refine⟨D,[x.a*l0,x.b*l1,x.c*l2,x.e*l3],rfl,SqL.of hd,?_⟩;refine⟨_,rfl,_,rfl,b,_,_,_,rfl,rfl,(sm.trans sm').tup hb,Ie (j:=4) rfl rfl,_,_,rfl,rfl,⟨by lia,by lia⟩,_,_,rfl,rfl,.inr ?_,?_⟩
   ·have h0:(0:Int)<=5354228880 / (x.d:Int):=Int.ediv_nonneg (by decide) (by lia);have h1:(5354228880:Int) / (x.d:Int)<=5354228880:=Int.ediv_le_self _ (by decide);exact⟨by lia,by lia⟩
   ·have e:[x.a*l0,x.b*l1,x.c*l2,x.e*l3].sum*(5354228880 / (x.d:Int))=width x:=by
     unfold width dot;rw[hl0,hl1,hl2,hl3];congr 1;simp only[FM,List.sum_nil]
     lia
    have q:=k _ (sm.trans sm');rw[<-e] at q;exact q
end
theorem Gu{H:Hp}{b:FP}{o:HO}(h:H b=none):Same H (upd H b o):=fun c u hc=>by rw[Gr (Gs hc h)];exact hc
theorem Kw{r:Bytes}(h:GA r=-1):r=[]:=by
 cases r with
 |nil=>rfl
 |cons c u=>
  have:(c.toNat:Int)=-1:=h
  lia
theorem La{r:Bytes}(h:¬GA r=-1):∃c u,r=c::u:=by
 cases r with
 |nil=>exact absurd rfl h
 |cons c u=>exact⟨c,u,rfl⟩
theorem YW(p:Nat):fa 0 unison p []=.error p:=by rw[U3];rfl
def MY(K:Gh)(C:FP):Sp:=fun vs H Q E=>∃(a:FP) (t:Bytes) (s e:Nat),vs=[.ref a,.int (s:Int),.int (e:Int)]/\SqL K H a (tx t)/\s<=e/\e<=t.length ∧
 match HD s (st t s e) with
 |.error x=>Err C E x
 |.ok x=>∀(H':Hp) (b:FP),Same H H'->H' b=some (.tup (ivV x))->x.ok=true->Q (.ref b) H'
section
variable{P:FU}{w:F0}{K:Gh}{mg:Str->Option FO}{base:Heap}{B C:FP}
theorem Wo:FnScope ["text","start","end","cursor","powers","interval"] ["text","start","end"] (Gq Ia):=⟨rfl,rfl,rfl,by decide +kernel,rfl,by decide +kernel,by decide +kernel⟩
theorem Qi{f:FP}{fd:FZ}(F:Fun K "read_interval" "read_interval" Ia f fd)(T:Txt K mg B C)(M:Crs P w K mg base B C)(DI:Mke P w K mg base C B 1 "Cursor" ["self","text","place","end"] (MV B))
  (DF:Dfn P w K mg base C 6 "read_factors" ["cursor","powers"] (Os K B C)) (DC:Dfn P w K mg base C 2 "with_common_parts" ["powers"] (NK K)) (DB:Dfn P w K mg base C 1 "is_within_bounds" ["numbers"] (Lj K)):
  FnOk P w K mg base (CXF P w C) 7 f fd ["text","start","end"] (MY K C):=by
 refine F.okX Wo (fun vs H Q E h=>?_) (fun cdv A outer s H vs Q E hr h=>?_)
 ·obtain⟨a,t,s,e,rfl,_⟩:=h;rfl
 ·obtain⟨a,t,s0,e,rfl,hS,hse,hel,k⟩:=h;have hr1:=hr.mono (show 1<=6 by decide);have hr2:=hr.mono (show 2<=6 by decide);have nz:∀{i:Int} {j:Nat} {q:Pos} (v:F3) (p:Pos),F3.Constant (.int i) j q≠.Starred v p:=fun v p h=>by cases h
  have nt:∀{l:List F3} {j:Nat} {q:Pos} (v:F3) (p:Pos),F3.Tuple l j q≠.Starred v p:=fun v p h=>by cases h
  refine⟨_,PSsx.h (PSsx.cons ⟨Gw (i:=3) Wo.nd rfl (Or.inl rfl) (U9 DI hr2 rfl (Gk (pv 0) (Gk (pv 1) (Gk (pv 2) Go))))⟩
   (PSsx.cons (PSx.set (i:=4) Wo.nd rfl (Or.inl rfl) (PEx.lst4 nt nt nt nt (PEx.tup2 nz nz PEx.int PEx.int) (PEx.tup2 nz nz PEx.int PEx.int) (PEx.tup2 nz nz PEx.int PEx.int) (PEx.tup2 nz nz PEx.int PEx.int)) WA (.inl rfl))
   (PSsx.cons ⟨GS (Gy Ho (GH M.byte hr1 (pv 3)) (Gx T.cONE) (GC _)) (Gp (GB (GH M.adv hr1 (pv 3)))) (Gp (GB (GQ DF hr rfl (Gk (pv 3) (Gk (pv 4) Go)))))⟩
   (PSsx.cons ⟨GS (Gy JP (GH M.byte hr1 (pv 3)) (Gx T.cEND) (GC _)) (Gp (GT T.xt hr2 rfl T.mC (G2 (pv 3) rfl))) GD⟩
   (PSsx.cons ⟨Gw (i:=5) Wo.nd rfl (Or.inl rfl) (GQ DC hr2 rfl (Gk (pv 4) Go))⟩
   (PSsx.cons ⟨GS (NI (MR (GQ DB hr1 rfl (Gk (pv 5) Go)))) (Gp (GT T.xt hr2 rfl T.mC (pv 2))) GD⟩
   (PSsx.one ⟨Gz (pv 5)⟩))))))),?_⟩
  refine⟨_,rfl,_,rfl,_,rfl,fun c dx hc0 hdx hne=>?_⟩;refine⟨c,dx,a,s0,e,rfl,Gn,fun H1 hc1 k1=>⟨rfl,?_⟩⟩;have s1:Same H H1:=Same.made hc0 hdx k1;refine⟨(by show 2<=FT;decide),fun b0 h0=>⟨(by show 2<=FT;decide),fun b1 h1=>⟨(by show 2<=FT;decide),fun b2 h2=>⟨(by show 2<=FT;decide),fun b3 h3=>⟨(by show 4<=FT;decide),fun l hl=>?_⟩⟩⟩⟩⟩;generalize hA1:upd H1 b0 (.tup [.int 0,.int 1])=A1 at *;generalize hA2:upd A1 b1 (.tup [.int 0,.int 1])=A2 at *;generalize hA3:upd A2 b2 (.tup [.int 0,.int 1])=A3 at *;generalize hA4:upd A3 b3 (.tup [.int 0,.int 1])=A4 at *;have t1:Same H1 A1:=by rw[<-hA1];exact Gu h0
  have t2:Same A1 A2:=by rw[<-hA2];exact Gu h1
  have t3:Same A2 A3:=by rw[<-hA3];exact Gu h2
  have t4:Same A3 A4:=by rw[<-hA4];exact Gu h3
  have t5:Same A4 (upd A4 l (.lst [.ref b0,.ref b1,.ref b2,.ref b3])):=Gu hl;have e0:A1 b0=some (.tup [.int 0,.int 1]):=by rw[<-hA1];exact Gn
  have e1:A2 b1=some (.tup [.int 0,.int 1]):=by rw[<-hA2];exact Gn
  have e2:A3 b2=some (.tup [.int 0,.int 1]):=by rw[<-hA3];exact Gn
  have e3:A4 b3=some (.tup [.int 0,.int 1]):=by rw[<-hA4];exact Gn
  have hP:PowAt (upd A4 l (.lst [.ref b0,.ref b1,.ref b2,.ref b3])) l noP:=⟨b0,b1,b2,b3,Gn,t5 _ _ (t4 _ _ (t3 _ _ (t2 _ _ e0))),t5 _ _ (t4 _ _ (t3 _ _ e1)),t5 _ _ (t4 _ _ e2),t5 _ _ e3⟩;have sA:Same H1 (upd A4 l (.lst [.ref b0,.ref b1,.ref b2,.ref b3])):=((((t1.trans t2).trans t3).trans t4).trans t5);have hlH:H l=Option.none:=(s1.trans (((t1.trans t2).trans t3).trans t4)).free hl;generalize upd A4 l (.lst [.ref b0,.ref b1,.ref b2,.ref b3])=H5 at *;have u5:Cur K B H5 c a t s0 e:=⟨⟨dx,sA _ _ hc1⟩,sA.seq (s1.seq hS),hse,hel⟩;have s5:Same H H5:=s1.trans sA;have hc5:H5 c=some (.ins B dx (cf a s0 e)):=sA _ _ hc1;have rest:∀(H':Hp) (PP:JQ) (kk q:Nat),Cur K B H' c a t q e->PowAt H' l PP->PowsOk PP kk->Small PP->HD s0 (st t s0 e)=QQ (com PP) q (st t q e)->Same H H'->
    P8 (Vv (QE (tOp rNe (Mj B "byte" (Pj K B) [] E (Hw 3) IR) (tC (.int (-1))))) (M5 C E (Ys K (Hw 3) "place")) Qy) (P8 (Vo (Lv (NK K) [] E (Hm (Hw 4) IR)) (HY 5)) (P8 (Vv (Z9 (tB (Lv (Lj K) [] E (Hm (Hw 5) IR)))) (M5 C E (Hw 2)) Qy) (W9 (Hw 5))))
     { nx:=fun _ H'=>Q .non H',rt:=Q } [some (.ref a),some (.int (s0:Int)),some (.int (e:Int)),some (.ref c),some (.ref l),none] H':=by
   intro H' PP kk q u' hP' ok' sm' hR sH;obtain⟨dx',hc'⟩:=u'.at_;refine⟨_,rfl,c,dx',_,rfl,hc',GO _ _ _ (by decide) (by decide) (by decide),c,a,t,q,e,rfl,u',rfl,_,rfl,?_⟩;rw[HB];refine GV (fun h=>?_) fun h=>?_
   ·obtain⟨z,r,hz⟩:=La (Lc h);rw[hR,hz] at k;exact⟨_,rfl,c,B,dx',_,_,rfl,hc',T.cl,T.nP,GM _ _ _,_,rfl,fun d hd=>k _ d Gn⟩
   ·have hz:=Kw (Kv h);have hq:q=e:=(Rq u'.len u'.le).mp hz;rw[hR,hz] at k;refine⟨_,rfl,l,PP,rfl,hP',ok'.pos,sm',fun H2 b s2 hb=>?_⟩;have eok:okB (com PP)=(com PP).ok:=VF ok'.low (Nm ok'.pos);refine⟨_,rfl,b,com PP,rfl,SqT.of hb,fun H3 s3=>⟨_,rfl,?_⟩⟩;rw[eok];cases hok:(com PP).ok with
    |false=>unfold QQ at k;rw[hok] at k;refine⟨_,rfl,_,rfl,fun d hd=>?_⟩;rw[<-hq];exact k _ d Gn
    |true=>unfold QQ at k;rw[hok] at k;exact⟨_,rfl,k H3 b ((sH.trans s2).trans s3) (s3 _ _ hb) hok⟩
  refine⟨_,rfl,c,dx,_,rfl,hc5,GO _ _ _ (by decide) (by decide) (by decide),c,a,t,s0,e,rfl,u5,rfl,_,rfl,?_⟩;rw[HB];refine GV (fun h=>?_) fun h=>?_
  ·have heq:GA (st t s0 e)=((49:UInt8).toNat:Int):=of_decide_eq_true h;obtain⟨r,hr0⟩:=GP heq;have hst:=HE hr0;have hlt:=IV hel hr0;refine⟨_,rfl,c,dx,_,rfl,hc5,GO _ _ _ (by decide) (by decide) (by decide),c,dx,a,s0,e,rfl,hc5,fun H6 h6 k6=>?_⟩;refine rest H6 noP 0 (s0+1) (u5.move k6 ⟨dx,h6⟩ hlt) (hP.keep k6 hc5) Vy P6 ?_ (fun b o hb=>k6 _ _ (s5 _ _ hb) (fun z=>by rw[z,hc0] at hb;cases hb));rw[Ox,hr0,hst,SB];dsimp only;rw[Gj rfl];cases r with
   |nil=>rfl
   |cons z r=>rfl
  ·have hne:¬GA (st t s0 e)=((49:UInt8).toNat:Int):=fun z=>h (decide_eq_true z);have eR:HD s0 (st t s0 e)=fa 0 unison s0 (st t s0 e):=by
    rw[Ox];cases hz:st t s0 e with
    |nil=>rw[YW]
    |cons z r=>dsimp only;rw[Gi (HK hne z r hz)]
   refine⟨_,rfl,_,rfl,c,a,l,t,s0,e,rfl,u5,hP,fun x hx=>?_,fun H6 PP kk q u6 hP6 ok6 sm6 hf k6=>?_⟩
   ·rw[eR,hx] at k;exact k
   ·exact rest H6 PP kk q u6 hP6 ok6 sm6 (eR.trans hf) (fun b o hb=>k6 _ _ (s5 _ _ hb) (fun z=>by rw[z,hc0] at hb;cases hb) (fun z=>by rw[z,hlH] at hb;cases hb))
end
theorem Xk{t:Bytes}{p q e:Nat}(hq:q<=e):(st t p e).take (q-p)=st t p q:=by
 unfold st;rw[List.take_drop,List.take_take];by_cases h:p<=q
 ·rw[show p+(q-p)=q by lia,Du hq]
 ·rw[show p+(q-p)=p by lia,EK (by rw[Ax];lia),EK (by rw[Ax];lia)]
section
variable{P:FU}{w:F0}{K:Gh}{mg:Str->Option FO}{base:Heap}{B C:FP}
end
def NotesAt(H:Hp)(m:FP)(l:List Iv):Prop:=∃bs:List FP,H m=some (.lst (bs.map V.ref))/\bs.length=l.length/\∀(i:Nat) (b:FP) (x:Iv),bs[i]?=some b->l[i]?=some x->H b=some (.tup (ivV x))
theorem NotesAt.move{H H':Hp}{m:FP}{l:List Iv}(h:NotesAt H m l)(k:∀b o,H b=some o->(∃xs,o=.lst xs)\/(∃xs,o=.tup xs)->H' b=some o):NotesAt H' m l:=by obtain⟨bs,h1,h2,h3⟩:=h;exact⟨bs,k _ _ h1 (.inl ⟨_,rfl⟩),h2,fun i b x hb hx=>k _ _ (h3 i b x hb hx) (.inr ⟨_,rfl⟩)⟩
theorem NotesAt.same{H H':Hp}{m:FP}{l:List Iv}(h:NotesAt H m l)(k:Same H H'):NotesAt H' m l:=h.move fun b o hb _=>k b o hb
theorem NotesAt.keep{H H':Hp}{m c:FP}{l:List Iv}{B dx:FP}{fs:List (Str×V)}(h:NotesAt H m l)(k:Keep H H' c)(hc:H c=some (.ins B dx fs)):NotesAt H' m l:=h.move fun b o hb hk=>k b o hb (GE hb hc (by rintro rfl;rcases hk with ⟨_,z⟩ | ⟨_,z⟩ <;> cases z))
theorem NotesAt.snoc{H:Hp}{m b:FP}{l:List Iv}{x:Iv}{xs:List V}(h:NotesAt H m l)(hx:H m=some (.lst xs))(hb:H b=some (.tup (ivV x))):NotesAt (upd H m (.lst (xs++[.ref b]))) m (l++[x]):=by
 obtain⟨bs,h1,h2,h3⟩:=h;rw[h1] at hx;cases hx;refine⟨bs++[b],by rw[Gn,An];rfl,by rw[Ac,Ac,h2];rfl,fun i b' x' hb' hx'=>?_⟩;have key:H b'=some (.tup (ivV x')):=by
  by_cases hi:i<bs.length
  ·rw[AF hi] at hb';rw[AF (by lia)] at hx';exact h3 i b' x' hb' hx'
  ·rw[Ay (by lia)] at hb';rw[Ay (by lia)] at hx';have hi0:i-bs.length=0:=by
    have:=(Ai.mp hb').1;simp at this
    lia
   rw[hi0] at hb';rw[show i-l.length=0 by lia] at hx';cases hb';cases hx';exact hb
 rw[Gr (GE key h1 (by intro z;cases z))];exact key
theorem NotesAt.len{H:Hp}{m:FP}{l:List Iv}(h:NotesAt H m l):∃xs,H m=some (.lst xs)/\xs.length=l.length:=by obtain⟨bs,h1,h2,_⟩:=h;exact⟨_,h1,by rw[Aa,h2]⟩
theorem NotesAt.last{H:Hp}{m:FP}{l:List Iv}{y:Iv}(h:NotesAt H m (l++[y])):∃(xs:List V) (b:FP),H m=some (.lst xs)/\atI xs (-1)=some (.ref b)/\H b=some (.tup (ivV y)):=by
 obtain⟨bs,h1,h2,h3⟩:=h;rw[Ac] at h2;have h2':bs.length=l.length+1:=h2;obtain⟨as,b,rfl⟩:∃as b,bs=as++[b]:=by
  rcases B6 bs with e | ⟨as,b,e⟩
  ·rw[e] at h2';simp at h2'
  ·exact⟨as,b,by rw[e,B7]⟩
 have hl:as.length=l.length:=by rw[Ac] at h2';simpa using h2'
 refine⟨_,b,h1,by rw[An];exact PX _ _,h3 l.length b y ?_ ?_⟩
 ·rw[Ay (by lia),hl,B4];rfl
 ·rw[Ay (Ah _),B4];rfl
theorem Jg{H H':Hp}{c m:FP}(k:Keep H H' c)(hc:∃o,H' c=some o)(h:H' m=none):H m=none:=by
 cases q:H m with
 |none=>rfl
 |some o=>
  by_cases z:m=c
  ·obtain⟨o',hc⟩:=hc;rw[z,hc] at h;cases h
  ·rw[k _ _ q z] at h;cases h
section
variable{P:FU}{w:F0}{K:Gh}{mg:Str->Option FO}{base:Heap}{B C:FP}
end
abbrev Qt:List UInt8:=[120,116,115,101,113,104,119]
abbrev VI:List (Int×Int):=[(120,1),(116,2),(115,4),(101,8),(113,16),(104,32),(119,64)]
theorem Ue(c:UInt8):AQ (c.toNat:Int) VI=(Qt.idxOf? c).map fun k=>((2 ^ k:Nat):Int):=by
 have h:∀n:Fin 256,AQ ((Bg n.val).toNat:Int) VI=(Qt.idxOf? (Bg n.val)).map fun k=>((2 ^ k:Nat):Int):=by decide +kernel
 have e:=h ⟨c.toNat,c.toNat_lt⟩;simpa using e
theorem VD:AQ (-1:Int) VI=none:=by decide +kernel
theorem Yk{c:UInt8}{i:Nat}(h:Qt.idxOf? c=some i):i<7:=by obtain⟨h1,_⟩:=Ci.mp (show Ew (fun x=>x==c) Qt=some i by simpa [EW] using h);simpa using h1
def Jl(p:Nat):Bytes->Rd Nat
 |[]=>.error p
 |c::r=>match Qt.idxOf? c with
  |none=>.error p
  |some i=>match r with
   |[]=>.ok (2 ^ i,p+1,[])
   |b::u=>if b=46/\i≠0 then .ok (2 ^ i+2 ^ (i-1),p+2,u) else .ok (2 ^ i,p+1,b::u)
theorem Rt(p:Nat)(t:Bytes):Front p t (Jl p t):=by
 intro v q u h;cases t with
 |nil=>cases h
 |cons c r=>
  unfold Jl at h;dsimp only at h;split at h
  ·cases h
  ·cases r with
   |nil=>cases h;simp
   |cons b u=>
    dsimp only at h;split at h
    ·cases h;refine⟨by lia,by simp,?_⟩;rw[show p+2-p=2 by lia];rfl
    ·cases h;refine⟨by lia,by simp,?_⟩;rw[show p+1-p=1 by lia];rfl
theorem Yv{p:Nat}{c:UInt8}{i:Nat}(hi:Qt.idxOf? c=some i)(r:Bytes):A6 p (c::r)=match r with
  |[]=>.error (p+1)
  |b::u=>if b=46 then (match u with
    |[]=>if i=0 then .error (p+1) else .error (p+2)
    |d::v=>if d=32 then (if i=0 then .error (p+1) else .ok (2 ^ i+2 ^ (i-1),p+3,v)) else if i=0 then .error (p+1) else .error (p+2))
   else if b=32 then .ok (2 ^ i,p+2,u) else .error (p+1):=by
 have hi':[(120:UInt8),116,115,101,113,104,119].idxOf? c=some i:=hi;unfold A6;dsimp only;rw[hi'];dsimp only;cases r with
 |nil=>rfl
 |cons b u=>
  dsimp only;by_cases hb:b=46
  ·rw[Gj hb];cases u with
   |nil=>rw[hb];rfl
   |cons d v=>
    dsimp only;by_cases hd:d=32
    ·rw[Gj hd,hb,hd];rfl
    ·rw[Gi hd,hb];split
     ·rename_i h;injection h with _ h;injection h with h _;exact absurd h hd
     ·rfl
     ·rename_i h;injection h with h _;exact absurd h (by decide)
     ·rename_i h _;exact absurd rfl (h _)
  ·rw[Gi hb];by_cases hb2:b=32
   ·rw[Gj hb2,hb2];rfl
   ·rw[Gi hb2];split
    ·rename_i h;injection h with h _;exact absurd h hb
    ·rename_i h;injection h with h _;exact absurd h hb
    ·rename_i h;injection h with h _;exact absurd h hb2
    ·rfl
theorem Qw(p:Nat)(t:Bytes):A6 p t=match Jl p t with
  |.error e=>.error e
  |.ok (n,q,u)=>match u with
   |[]=>.error q
   |b::v=>if b=32 then .ok (n,q+1,v) else .error q:=by
 cases t with
 |nil=>rfl
 |cons c r=>
  cases hi:Qt.idxOf? c with
  |none=>have hi':[(120:UInt8),116,115,101,113,104,119].idxOf? c=none:=hi;unfold A6 Jl;dsimp only;rw[hi']
  |some i=>
   rw[Yv hi];unfold Jl;dsimp only;rw[hi];dsimp only;cases r with
   |nil=>rfl
   |cons b u=>
    dsimp only;by_cases hb:b=46
    ·rw[Gj hb];by_cases i0:i=0
     ·subst i0;rw[Gi (show ¬(b=46/\0≠0) from fun h=>h.2 rfl)];dsimp only;rw[Gi (show ¬b=32 by rw[hb];decide)];cases u with
      |nil=>rfl
      |cons d v=>dsimp only;split <;> rfl
     ·rw[Gj (show b=46/\i≠0 from ⟨hb,i0⟩)];cases u with
      |nil=>dsimp only;rw[Gi i0]
      |cons d v=>dsimp only;rw[Gi i0,Gi i0]
    ·rw[Gi hb,Gi (show ¬(b=46/\i≠0) from fun h=>hb h.1)]
section
variable{P:FU}{w:F0}{K:Gh}{mg:Str->Option FO}{base:Heap}{B C:FP}
theorem X5:FnScope ["cursor","letter","length"] ["cursor"] (Gq HI):=⟨rfl,rfl,rfl,by decide +kernel,rfl,by decide +kernel,by decide +kernel⟩
theorem WF{f:FP}{fd:FZ}(F:Fun K "read_length_sign" "read_length_sign" HI f fd)(T:Txt K mg B C)(M:Crs P w K mg base B C):
  FnOk P w K mg base (CXF P w C) 3 f fd ["cursor"] (JW K B C PL Jl):=by
 refine F.okX X5 (fun vs H Q E h=>?_) (fun cdv A outer s H vs Q E hr h=>?_)
 ·obtain⟨c,a,t,p,e,rfl,_⟩:=h;rfl
 ·obtain⟨c,a,t,p,e,rfl,u,k⟩:=h;obtain⟨dx,hc⟩:=u.at_;obtain⟨af,hf,hD⟩:=T.lgs;have hr1:=hr.mono (show 1<=2 by decide);refine⟨_,Gm (Gw (i:=1) X5.nd rfl (Or.inl rfl) (GH M.byte hr1 (pv 0)))
   (Gm (GS (RH (N2 hD (pv 1) (Gx hf))) (Gp (GT T.xt hr rfl T.mC (G2 (pv 0) rfl))) GD)
   (Gm (GB (GH M.adv hr1 (pv 0)))
   (Gm (Gw (i:=2) X5.nd rfl (Or.inl rfl) (Qg hD (Gx hf) (pv 1) (fun _ _=>rfl)))
   (Gm (GS (PW.pt (OH (Gy Ho (pv 2) Gv (GC _)) (LP (Gy JP (GH M.byte hr1 (pv 0)) (Gx T.cPO) (GC _))))) (Gp (Gz (pv 2))) GD)
   (Gm (GB (GH M.adv hr1 (pv 0)))
   (Gp (Gz (GU Kl (pv 2) (GU Jt (pv 2) Gv))))))))),?_⟩
  refine⟨_,rfl,c,dx,_,rfl,hc,GO _ _ _ (by decide) (by decide) (by decide),c,a,t,p,e,rfl,u,?_⟩;refine⟨_,rfl,_,rfl,rfl,_,rfl,?_⟩;cases hr0:st t p e with
  |nil=>rw[hr0] at k;show if (!(AQ (-1:Int) VI).isSome)=true then _ else _;rw[VD];exact⟨_,rfl,c,B,dx,_,_,rfl,hc,T.cl,T.nP,GM _ _ _,_,rfl,fun d hd=>k _ d Gn⟩
  |cons z r=>
   rw[hr0] at k;have hlt:=IV u.len hr0;have hst:=HE hr0;show if (!(AQ (z.toNat:Int) VI).isSome)=true then _ else _;unfold Jl at k;dsimp only at k;have hl:=Ue z;cases hi:Qt.idxOf? z with
   |none=>rw[hi] at k hl;rw[hl];exact⟨_,rfl,c,B,dx,_,_,rfl,hc,T.cl,T.nP,GM _ _ _,_,rfl,fun d hd=>k _ d Gn⟩
   |some j=>
    have hj:=Yk hi;rw[hi] at k hl;rw[hl];dsimp only at k;refine⟨_,rfl,c,dx,_,rfl,hc,GO _ _ _ (by decide) (by decide) (by decide),c,dx,a,p,e,rfl,hc,fun H1 h1 h2=>?_⟩;have u1:=u.move h2 ⟨dx,h1⟩ hlt;refine⟨_,rfl,_,_,rfl,rfl,hl,?_⟩;refine⟨_,rfl,rfl,_,rfl,Lx (b2:=!decide (GA (st t (p+1) e)=46)) (fun Q' q'=>⟨_,rfl,c,dx,_,rfl,h1,GO _ _ _ (by decide) (by decide) (by decide),c,a,t,p+1,e,rfl,u1,rfl,_,rfl,by rw[HB];exact q'⟩) ?_⟩;rw[HB,hst];have hp1:((2 ^ j:Nat):Int)=1↔j=0:=by
     match j,hj with
     |0,_=>decide
     |1,_=>decide
     |2,_=>decide
     |3,_=>decide
     |4,_=>decide
     |5,_=>decide
     |6,_=>decide
    refine GV (fun h=>?_) fun h=>?_
    ·rw[Bn,decide_eq_true_eq] at h;have k':∀(H':Hp) (y:V),Cur K B H' c a t (p+1) e->Keep H H' c->PL (2 ^ j) y H'->Q y H':=by
      cases r with
      |nil=>exact k
      |cons b v=>
       dsimp only at k;rw[Gi (by
        rintro⟨g1,g2⟩;rcases h with h | h
        ·exact g2 (hp1.mp h)
        ·exact Lc h (by rw[g1];rfl))] at k
       exact k
     exact⟨_,rfl,k' H1 _ u1 h2 rfl⟩
    ·rw[Bn,decide_eq_true_eq] at h;have j0:j≠0:=fun z=>h (.inl (hp1.mpr z));have hb:GA r=((46:UInt8).toNat:Int):=Kv fun z=>h (.inr z);obtain⟨v,hv⟩:=GP hb;subst hv;dsimp only at k;rw[Gj ⟨rfl,j0⟩] at k;have hlt2:=IV u.len hst;refine⟨_,rfl,c,dx,_,rfl,h1,GO _ _ _ (by decide) (by decide) (by decide),c,dx,a,p+1,e,rfl,h1,fun H2 h3 h4=>?_⟩;refine⟨_,rfl,_,rfl,_,_,rfl,rfl,⟨by decide,by decide⟩,_,_,rfl,rfl,?_⟩;have ev:((2 ^ j:Nat):Int)+((2 ^ j:Nat):Int) / 2=((2 ^ j+2 ^ (j-1):Nat):Int):=by
      match j,hj,j0 with
      |0,_,q=>exact absurd rfl q
      |1,_,_=>decide
      |2,_,_=>decide
      |3,_,_=>decide
      |4,_,_=>decide
      |5,_,_=>decide
      |6,_,_=>decide
     exact k H2 _ (u1.move h4 ⟨dx,h3⟩ hlt2) (h2.trans h4) (by unfold PL;rw[<-ev])
def P0(K:Gh)(B C:FP):Sp:=fun vs H Q E=>∃(c a:FP) (t:Bytes) (p e last:Nat),vs=[.ref c,.int (last:Int)]/\Cur K B H c a t p e ∧
 (∀x,J7 last p (st t p e)=.error x->Err C E x) ∧
 ∀n q w,J7 last p (st t p e)=.ok (n,q,w)->∀H':Hp,Cur K B H' c a t q e->Keep H H' c->Q (.int (n:Int)) H'
theorem Yd:FnScope ["cursor","before","start","length"] ["cursor","before"] (Gq IK):=⟨rfl,rfl,rfl,by decide +kernel,rfl,by decide +kernel,by decide +kernel⟩
theorem Ti{f:FP}{fd:FZ}(F:Fun K "read_length" "read_length" IK f fd)(T:Txt K mg B C)(M:Crs P w K mg base B C)(MT:Mth P w K mg base C B 3 "take" ["self","wanted"] (IB K B C))
  (DS:Dfn P w K mg base C 3 "read_length_sign" ["cursor"] (JW K B C PL Jl)):
  FnOk P w K mg base (CXF P w C) 4 f fd ["cursor","before"] (P0 K B C):=by
 refine F.okX Yd (fun vs H Q E h=>?_) (fun cdv A outer s H vs Q E hr h=>?_)
 ·obtain⟨c,a,t,p,e,last,rfl,_⟩:=h;rfl
 ·obtain⟨c,a,t,p,e,last,rfl,u,kE,kQ⟩:=h;obtain⟨dx,hc⟩:=u.at_;have hr1:=hr.mono (show 1<=3 by decide);have hr2:=hr.mono (show 2<=3 by decide);refine⟨_,Gm (Gw (i:=2) Yd.nd rfl (Or.inl rfl) (G2 (pv 0) rfl))
   (Gm (GS (PW.pt (UG (Gy Ho (GH M.byte hr1 (pv 0)) (Gx T.cBT) (GC _)) (RY (Gy JP (pv 1) Gv (GC _))))) (Gm (GB (GH M.adv hr1 (pv 0))) (Gp (Gz (pv 1)))) GD)
   (Gm (Gw (i:=3) Yd.nd rfl (Or.inl rfl) (GQ DS hr rfl (Gk (pv 0) Go)))
   (Gm (GB (Kr MT hr (pv 0) (Gk (Gx T.cBT) Go)))
   (Gm (GS (Gy Ho (pv 3) (pv 1) (GC _)) (Gp (GT T.xt hr2 rfl T.mC (pv 2))) GD)
   (Gp (Gz (pv 3))))))),?_⟩
  refine⟨_,rfl,c,B,dx,_,_,rfl,hc,T.cl,T.nP,GM _ _ _,?_⟩;refine⟨_,rfl,c,dx,_,rfl,hc,GO _ _ _ (by decide) (by decide) (by decide),c,a,t,p,e,rfl,u,rfl,_,rfl,Vc (b2:=!decide ((last:Int)=0)) (fun Q' q'=>⟨_,rfl,rfl,_,rfl,by rw[HB];exact q'⟩) ?_⟩;rw[HB];refine GV (fun h=>?_) fun h=>?_
  ·rw[Av,decide_eq_true_eq] at h;have heq:GA (st t p e)=((32:UInt8).toNat:Int):=h.1;have hl:last≠0:=fun z=>Lc h.2 (by rw[z];rfl);obtain⟨r,hr0⟩:=GP heq;have hlt:=IV u.len hr0;have eL:J7 last p (st t p e)=.ok (last,p+1,r):=by rw[hr0];unfold J7;dsimp only;rw[Gj ⟨rfl,hl⟩]
   refine⟨_,rfl,c,dx,_,rfl,hc,GO _ _ _ (by decide) (by decide) (by decide),c,dx,a,p,e,rfl,hc,fun H1 h1 h2=>?_⟩;exact⟨_,rfl,kQ _ _ _ eL H1 (u.move h2 ⟨dx,h1⟩ hlt) h2⟩
  ·rw[Av,decide_eq_true_eq] at h;have eL:J7 last p (st t p e)=match Jl p (st t p e) with
     |.error e=>.error e
     |.ok (n,q,u)=>match u with
      |[]=>.error q
      |b::v=>if b=32 then (if n=last then .error p else .ok (n,q+1,v)) else .error q:=by
    cases hz:st t p e with
    |nil=>rfl
    |cons z r=>
     unfold J7;dsimp only;rw[Gi (by rintro⟨g1,g2⟩;refine h ⟨by rw[hz,g1];rfl,?_⟩;rw[decide_eq_false (by lia)];rfl),Qw]
     cases Jl p (z::r) with
     |error e=>rfl
     |ok y=>
      obtain⟨n,q,v⟩:=y;dsimp only;cases v with
      |nil=>rfl
      |cons b v=>
       dsimp only;by_cases hb:b=32
       ·rw[Gj hb,Gj hb]
       ·rw[Gi hb,Gi hb]
   refine⟨_,rfl,c,a,t,p,e,rfl,u,?_⟩;cases hs:Jl p (st t p e) with
   |error x=>rw[hs] at eL;exact kE x eL
   |ok y=>
    obtain⟨n,q,v⟩:=y;obtain⟨a1,a2,a3⟩:=Front.at_ u.len u.le (Rt p (st t p e)) hs;subst a3;rw[hs] at eL;dsimp only at eL;intro H1 y u1 k1 hy;obtain rfl:y=.int (n:Int):=hy;obtain⟨dx1,hc1⟩:=u1.at_;refine⟨_,rfl,c,dx1,_,rfl,hc1,GO _ _ _ (by decide) (by decide) (by decide),c,a,t,q,e,32,rfl,u1,fun hB=>?_,fun hB=>?_⟩
    ·intro H2 u2 k2;obtain⟨v,hv⟩:=GP hB;rw[hv] at eL;dsimp only at eL;rw[Gj rfl] at eL;refine⟨_,rfl,_,rfl,rfl,_,rfl,?_⟩;rw[HB];refine GV (fun h=>?_) fun h=>?_
     ·have h':(n:Int)=(last:Int):=of_decide_eq_true h;rw[Gj (by lia)] at eL;exact⟨_,rfl,_,rfl,fun d hd=>kE _ eL _ d Gn⟩
     ·have h':¬(n:Int)=(last:Int):=fun z=>h (decide_eq_true z);rw[Gi (by lia)] at eL;exact⟨_,rfl,kQ _ _ _ eL H2 u2 (k1.trans k2)⟩
    ·refine kE q ?_;rw[eL];cases hv:st t q e with
     |nil=>rfl
     |cons b v=>dsimp only;rw[Gi (HK hB b v hv)]
end
open PySem PySem.Spec PyProof.Rows L2 Lute LuR LuW LuteSong
theorem Zx{t:Bytes}{bs:List FP}(h:t≠[]):tx t≠bs.map V.ref:=fun z=>by
 cases t with
 |nil=>exact h rfl
 |cons x r=>
  cases bs with
  |nil=>cases z
  |cons b bs=>injection z with z _;cases z
theorem Cur.write{K:Gh}{B:FP}{H:Hp}{c a m:FP}{t:Bytes}{p e:Nat}{bs:List FP}{o:HO}(u:Cur K B H c a t p e)(hm:H m=some (.lst (bs.map V.ref)))(ht:t≠[]):Cur K B (upd H m o) c a t p e:=by
 obtain⟨⟨dx,hc⟩,tx',le,len⟩:=u;refine⟨⟨dx,by rw[Gr (GE hc hm (by intro z;cases z))];exact hc⟩,?_,le,len⟩;rcases tx' with (hz | ⟨o',hz⟩) | hz
 ·refine .inl (.inl ?_);rw[Gr (fun z=>by rw[z,hm] at hz;exact Zx ht (by injection hz with hz;injection hz with hz;exact hz.symm))]
  exact hz
 ·exact .inl (.inr ⟨o',by rw[Gr (GE hz hm (by intro z;cases z))];exact hz⟩)
 ·exact .inr hz
theorem Ny(t:Bytes)(p:Nat):st t p t.length=t.drop p:=by unfold st;rw[AU]
theorem Jh(z:UInt8)(l:Bytes)(p:Nat)(t:Bytes):Af (z::l) p t=if GA t=(z.toNat:Int) then Af l (p+1) (t.drop 1) else .error p:=by
 cases t with
 |nil=>rw[Gi (by show ¬(-1:Int)=(z.toNat:Int);lia)];rfl
 |cons c r=>
  by_cases h:c=z
  ·rw[Gj (by rw[h];rfl)]
   conv=>lhs;unfold Af
   rw[Gj h];rfl
  ·rw[Gi (fun q=>h (A9.mp (by have q':(c.toNat:Int)=(z.toNat:Int):=q;lia)))];unfold Af;rw[Gi h]
theorem WS{x:Str}{g:TG}{tb:TS}{D:Ends}{σ:L2.St}{H:Hp}(Pv:Nat->L2.St->Hp->Prop)(h0:Pv 0 σ H)
  (hs:∀i c σ H,x.cps[i]?=some c->Pv i σ H->g (.str ⟨#[c]⟩) σ H fun σ2 H2=>tb { D with nx:=Pv (i+1),ct:=Pv (i+1),bk:=D.nx } σ2 H2) (hd:∀σ H,Pv x.cps.size σ H->D.nx σ H):
  ∃W:Nat->Nat->L2.St->Hp->Prop,(∃m,W 0 m σ H)/\∀i m σ H,W i m σ H->
   ((Its x).stop i H/\D.nx σ H)\/((Its x).go i H/\∃N:L2.St->Hp->Prop,(∀σ' H',N σ' H'->∃m',m'<m/\W (i+1) m' σ' H')/\∀v H',(Its x).yld i H v H'->g v σ H' fun σ2 H2=>tb { D with nx:=N,ct:=N,bk:=D.nx } σ2 H2):=by
 refine⟨fun i m σ H=>m=x.cps.size-i/\i<=x.cps.size/\Pv i σ H,⟨x.cps.size,by simp,AD _,h0⟩,?_⟩;rintro i m σ H ⟨rfl,hi,p⟩;by_cases hlt:i<x.cps.size
 ·refine .inr ⟨hlt,Pv (i+1),fun σ' H' p'=>⟨x.cps.size-(i+1),by lia,rfl,hlt,p'⟩,fun v H' y=>?_⟩;obtain⟨e,c,hc,ev⟩:=y;subst e ev;exact hs i c σ _ hc p
 ·have e:i=x.cps.size:=by lia
  subst e;exact .inl ⟨Ah _,hd σ H p⟩
def Wd(x:Str)(l:Bytes):Prop:=x.cps.toList=l.map (·.toNat)
theorem Uu{l m:Bytes}:∀{p:Nat} {t:Bytes} {y:Nat},Af l p t=.error y->Af (l++m) p t=.error y:=by
 induction l with
 |nil=>intro p t y h;cases h
 |cons z l ih=>
  intro p t y h;cases t with
  |nil=>cases h;rfl
  |cons c r=>
   unfold Af at h;show(if c=z then Af (l++m) (p+1) r else .error p)=_;by_cases hc:c=z
   ·rw[Gj hc] at h ⊢;exact ih h
   ·rw[Gi hc] at h ⊢;exact h
theorem WX{l m:Bytes}:∀{p:Nat} {t:Bytes} {q:Nat} {u:Bytes},Af l p t=.ok ((),q,u)->Af (l++m) p t=Af m q u:=by
 induction l with
 |nil=>intro p t q u h;unfold Af at h;cases h;rfl
 |cons z l ih=>
  intro p t q u h;cases t with
  |nil=>cases h
  |cons c r=>
   unfold Af at h;show(if c=z then Af (l++m) (p+1) r else .error p)=_;by_cases hc:c=z
   ·rw[Gj hc] at h ⊢;exact ih h
   ·rw[Gi hc] at h;cases h
def Pe(K:Gh)(B C:FP):Sp:=fun vs H Q E=>∃(c a:FP) (t:Bytes) (p e:Nat) (x:Str) (l:Bytes),vs=[.ref c,.str x]/\Wd x l/\Cur K B H c a t p e/\(∀y,Af l p (st t p e)=.error y->Err C E y) ∧
 ∀q u,Af l p (st t p e)=.ok ((),q,u)->∀H':Hp,Cur K B H' c a t q e->Keep H H' c->u=st t q e->Q .non H'
section
variable{P:FU}{w:F0}{K:Gh}{mg:Str->Option FO}{base:Heap}{B C:FP}
theorem Z0:FnScope ["self","word","sign"] ["self","word"] (Gq HF):=⟨rfl,rfl,rfl,by decide +kernel,rfl,by decide +kernel,by decide +kernel⟩
theorem Vu{f:FP}{fd:FZ}(F:Fun K "take_word" "Cursor.take_word" HF f fd)(T:Txt K mg B C)(MT:Mth P w K mg base C B 3 "take" ["self","wanted"] (IB K B C)):
  FnOk P w K mg base (CXF P w C) 4 f fd ["self","word"] (Pe K B C):=by
 refine F.okX Z0 (fun vs H Q E h=>?_) (fun cdv A outer s H vs Q E hr h=>?_)
 ·obtain⟨c,a,t,p,e,x,l,rfl,_⟩:=h;rfl
 ·obtain⟨c,a,t,p,e,x,l,rfl,hw,u,kE,kQ⟩:=h;refine⟨_,Gp (Ic IC rfl (RI (pv 1)) (GJ (i:=2) Z0.nd rfl (Or.inl rfl)) (Gp (GB (Kr MT hr (pv 0) (Gk (G1 NP (by rfl) T.ord boot_ord (Gk (pv 2) Go)) Go))))),?_⟩;have hsz:x.cps.size=l.length:=by have:=congrArg Eh hw;rw[Aa] at this;simpa using this
  refine⟨_,rfl,x,rfl,WS (fun i σ H'=>∃v:Option V,σ=[some (.ref c),some (.str x),v]/\Cur K B H' c a t (p+i) e/\Keep H H' c/\Af l p (st t p e)=Af (l.drop i) (p+i) (st t (p+i) e)) ⟨none,rfl,u,Keep.refl _ _,rfl⟩ ?_ ?_⟩
  ·rintro i ch σ H' hi ⟨v,rfl,u',k',inv⟩;obtain⟨z,hz,hz2⟩:∃z:UInt8,ch=z.toNat/\l.drop i=z::l.drop (i+1):=by
    have h1:x.cps.toList[i]?=some ch:=by simpa using hi
    rw[show x.cps.toList=l.map (·.toNat) from hw,Al] at h1;cases hli:l[i]? with
    |none=>rw[hli] at h1;cases h1
    |some z=>rw[hli] at h1;obtain⟨hlt,hge⟩:=Ai.mp hli;exact⟨z,by simpa using h1.symm,by rw[<-hge];exact C0 hlt⟩
   subst hz;obtain⟨dx',hc'⟩:=u'.at_;rw[hz2,Jh] at inv;refine⟨_,rfl,c,dx',_,rfl,hc',GO _ _ _ (by decide) (by decide) (by decide),_,rfl,_,rfl,rfl,c,a,t,p+i,e,z,rfl,u',fun hB=>?_,fun hB=>?_⟩
   ·intro H2 u2 k2;rw[Gj hB,Hg] at inv;exact⟨_,rfl,u2,k'.trans k2,inv⟩
   ·rw[Gi hB] at inv;exact kE _ inv
  ·rintro σ H2 ⟨v,rfl,u2,k2,inv⟩;rw[hsz] at u2 inv;rw[Fz] at inv;exact kQ _ _ inv H2 u2 k2 rfl
end
section
variable{β:Type}(f:β->List V)(ok:List β->Prop)
def TupsAt(H:Hp)(m:FP)(l:List β):Prop:=∃bs:List FP,H m=some (.lst (bs.map V.ref))/\bs.length=l.length/\∀(i:Nat) (b:FP) (x:β),bs[i]?=some b->l[i]?=some x->H b=some (.tup (f x))
def LineAt(H:Hp)(m b:FP):Ln β->Prop
 |none=>∃nl,H b=some (.tup [.int 0,.ref nl])/\nl≠m/\H nl=some (.lst [])
 |some (n,l)=>∃nl,H b=some (.tup [.int (n:Int),.ref nl])/\nl≠m/\TupsAt f H nl l/\ok l
def LinesAt(H:Hp)(m:FP)(s:List (Ln β)):Prop:=∃bs:List FP,H m=some (.lst (bs.map V.ref))/\bs.length=s.length/\∀(i:Nat) (b:FP) (v:Ln β),bs[i]?=some b->s[i]?=some v->LineAt f ok H m b v
variable{f ok}{H H':Hp}{m b:FP}
theorem TupsAt.move{l:List β}(h:TupsAt f H m l)(k:∀b o,H b=some o->(∃xs,o=.lst xs)\/(∃xs,o=.tup xs)->H' b=some o):TupsAt f H' m l:=by obtain⟨bs,h1,h2,h3⟩:=h;exact⟨bs,k _ _ h1 (.inl ⟨_,rfl⟩),h2,fun i b x hb hx=>k _ _ (h3 i b x hb hx) (.inr ⟨_,rfl⟩)⟩
theorem TupsAt.same{l:List β}(h:TupsAt f H m l)(k:Same H H'):TupsAt f H' m l:=h.move fun b o hb _=>k b o hb
theorem TupsAt.keep{c:FP}{l:List β}{B dx:FP}{fs:List (Str×V)}(h:TupsAt f H m l)(k:Keep H H' c)(hc:H c=some (.ins B dx fs)):TupsAt f H' m l:=h.move fun b o hb hk=>k b o hb (GE hb hc (by rintro rfl;rcases hk with ⟨_,z⟩ | ⟨_,z⟩ <;> cases z))
theorem LineAt.move{v:Ln β}(h:LineAt f ok H m b v)(k:∀b o,H b=some o->b≠m->(∃xs,o=.lst xs)\/(∃xs,o=.tup xs)->H' b=some o)(nm:∀xs,H m≠some (.tup xs)):LineAt f ok H' m b v:=by
 cases v with
 |none=>obtain⟨nl,h1,h2,h3⟩:=h;exact⟨nl,k _ _ h1 (fun z=>by rw[z] at h1;exact nm _ h1) (.inr ⟨_,rfl⟩),h2,k _ _ h3 h2 (.inl ⟨_,rfl⟩)⟩
 |some nl=>obtain⟨n,l⟩:=nl;obtain⟨nl,h1,h2,⟨bs,g1,g2,g3⟩,h4⟩:=h;exact⟨nl,k _ _ h1 (fun z=>by rw[z] at h1;exact nm _ h1) (.inr ⟨_,rfl⟩),h2,⟨bs,k _ _ g1 h2 (.inl ⟨_,rfl⟩),g2,fun i b x hb hx=>k _ _ (g3 i b x hb hx) (fun z=>by have:=g3 i b x hb hx;rw[z] at this;exact nm _ this) (.inr ⟨_,rfl⟩)⟩,h4⟩
theorem LinesAt.nt{s:List (Ln β)}(h:LinesAt f ok H m s):∀xs,H m≠some (.tup xs):=fun xs z=>by obtain⟨bs,h1,_⟩:=h;rw[h1] at z;cases z
theorem LinesAt.move{s:List (Ln β)}(h:LinesAt f ok H m s)(k:∀b o,H b=some o->(∃xs,o=.lst xs)\/(∃xs,o=.tup xs)->H' b=some o):LinesAt f ok H' m s:=by have nt:=h.nt;obtain⟨bs,h1,h2,h3⟩:=h;exact⟨bs,k _ _ h1 (.inl ⟨_,rfl⟩),h2,fun i b v hb hv=>(h3 i b v hb hv).move (fun b o ho _ q=>k b o ho q) nt⟩
theorem LinesAt.same{s:List (Ln β)}(h:LinesAt f ok H m s)(k:Same H H'):LinesAt f ok H' m s:=h.move fun b o hb _=>k b o hb
theorem LinesAt.keep{c:FP}{s:List (Ln β)}{B dx:FP}{fs:List (Str×V)}(h:LinesAt f ok H m s)(k:Keep H H' c)(hc:H c=some (.ins B dx fs)):LinesAt f ok H' m s:=h.move fun b o hb hk=>k b o hb (GE hb hc (by rintro rfl;rcases hk with ⟨_,z⟩ | ⟨_,z⟩ <;> cases z))
theorem LinesAt.len{s:List (Ln β)}(h:LinesAt f ok H m s):∃bs:List FP,H m=some (.lst (bs.map V.ref))/\bs.length=s.length:=by obtain⟨bs,h1,h2,_⟩:=h;exact⟨bs,h1,h2⟩
theorem LinesAt.snoc{s:List (Ln β)}{v:Ln β}{bs:List FP}(h:LinesAt f ok H m s)(hx:H m=some (.lst (bs.map V.ref)))(hb:LineAt f ok H m b v):LinesAt f ok (upd H m (.lst (bs.map V.ref++[.ref b]))) m (s++[v]):=by
 have nt:=h.nt;obtain⟨bs',h1,h2,h3⟩:=h;have e:bs'=bs:=by
  rw[h1] at hx;have:bs'.map V.ref=bs.map V.ref:=by injection hx with hx;injection hx
  exact Fj (fun x y h=>by injection h) |>.mp this
 subst e;refine⟨bs'++[b],by rw[Gn,An];rfl,by rw[Ac,Ac,h2];rfl,fun i b' v' hb' hv'=>?_⟩;have key:LineAt f ok H m b' v':=by
  by_cases hi:i<bs'.length
  ·rw[AF hi] at hb';rw[AF (by lia)] at hv';exact h3 i b' v' hb' hv'
  ·rw[Ay (by lia)] at hb';rw[Ay (by lia)] at hv';have hi0:i-bs'.length=0:=by
    have:=(Ai.mp hb').1;simp at this
    lia
   rw[hi0] at hb';rw[show i-s.length=0 by lia] at hv';cases hb';cases hv';exact hb
 exact key.move (fun x o ho hn _=>by rw[Gr hn];exact ho) nt
end
def Yo(K:Gh)(B C:FP)(H0:Hp){β:Type}(fv:β->List V)(ok:List β->Prop)(rd:Nat->Bytes->Rd (List β)):Sp:=fun vs H Q E=>∃(c a:FP) (t:Bytes) (p e:Nat),vs=[.ref c]/\Cur K B H c a t p e/\Keep H0 H c/\(∃dx fs,H0 c=some (.ins B dx fs))/\(∀x,rd p (st t p e)=.error x->Err C E x) ∧
 ∀l q u,rd p (st t p e)=.ok (l,q,u)->∀(H':Hp) (nl:FP),Cur K B H' c a t q e->Keep H H' c->H nl=none->TupsAt fv H' nl l->ok l->Q (.ref nl) H'
def Ph(P:FU)(w:F0)(K:Gh)(mg:Str->Option FO)(base:Heap)(B C:FP):Sp:=fun vs H Q E=>∃(β:Type) (fv:β->List V) (ok:List β->Prop) (rd:Nat->Bytes->Rd (List β)) (c g a:FP) (t:Bytes) (p:Nat),
 vs=[.ref c,.ref g]/\Cur K B H c a t p t.length/\0<p/\(∀p t,Front p t (rd p t))/\Clb P w K mg base C 13 H g 1 (Yo K B C H fv ok rd)/\(∀x,la rd 0 0 p (st t p t.length)=.error x->Err C E x) ∧
 ∀s,la rd 0 0 p (st t p t.length)=.ok s->∀(H':Hp) (m:FP),Keep H H' c->H m=none->LinesAt fv ok H' m s->Q (.ref m) H'
section
variable{P:FU}{w:F0}{K:Gh}{mg:Str->Option FO}{base:Heap}{B C:FP}
theorem Keep.frz{H H':Hp}{c:FP}{B dx:FP}{fs:List (Str×V)}(k:Keep H H' c)(hc:H c=some (.ins B dx fs)):Frz H H':=fun b o u h=>k b _ h (fun z=>by rw[z,hc] at h;cases h)
theorem WL:FnScope ["cursor","read_content","lines","length"] ["cursor","read_content"] (Gq Jc):=⟨rfl,rfl,rfl,by decide +kernel,rfl,by decide +kernel,by decide +kernel⟩
theorem Vj{f:FP}{fd:FZ}(F:Fun K "read_lines" "read_lines" Jc f fd)(T:Txt K mg B C)(M:Crs P w K mg base B C)(MT:Mth P w K mg base C B 3 "take" ["self","wanted"] (IB K B C))
  (DL:Dfn P w K mg base C 4 "read_length" ["cursor","before"] (P0 K B C)):
  FnOk P w K mg base (CXF P w C) 14 f fd ["cursor","read_content"] (Ph P w K mg base B C):=by
 refine F.okX WL (fun vs H Q E h=>?_) (fun cdv A outer s H vs Q E hr h=>?_)
 ·obtain⟨β,fv,ok,rd,c,g,a,t,p,rfl,_⟩:=h;rfl
 ·obtain⟨β,fv,ok,rd,c,g,a,t,p0,rfl,u2,hp0,FR,CL,kE,kQ⟩:=h;have hr1:=hr.mono (show 1<=13 by decide);have hr2:=hr.mono (show 2<=13 by decide);have hr3:=hr.mono (show 3<=13 by decide);have hr4:=hr.mono (show 4<=13 by decide);have nz:∀{i:Int} {j:Nat} {q:Pos} (v:F3) (p:Pos),F3.Constant (.int i) j q≠.Starred v p:=fun v p h=>by cases h
  have nl:∀{l:List F3} {q:Pos} (v:F3) (p:Pos),F3.List l q≠.Starred v p:=fun v p h=>by cases h
  refine⟨_,(Gm (Gw (i:=2) WL.nd rfl (Or.inl rfl) (Hx Go))
    (Gm (Gw (i:=3) WL.nd rfl (Or.inl rfl) Gv)
    (Gm (HN IC (Gy JP (GH M.byte hr1 (pv 0)) (Gx T.cEND) (GC _)) (Gm (GS (Gy Ho (G1 GY (by rfl) T.len PySem.boot_len (Gk (pv 2) Go)) (Gx T.cML) (GC _)) (Gp (GT T.xt hr2 rfl T.mC (G2 (pv 0) rfl))) GD)
    (Gm (GS (Gy Ho (GH M.byte hr1 (pv 0)) (Gx T.cBS) (GC _)) (Gm (GB (GH M.adv hr1 (pv 0)))
    (Gp (GB (IN AC AB AA G6 (pv 2) (Gk (Sc nz nl Gv (Hx Go)) Go))))) (Gm (Gw (i:=3) WL.nd rfl (Or.inl rfl) (GQ DL hr4 rfl (Gk (pv 0) (Gk (pv 3) Go))))
    (Gp (GB (IN AC AB AA G6 (pv 2) (Gk (Hn (Gk (pv 3) (Gk (PF (P:=P) (w:=w) (K:=K) (mg:=mg) (base:=base) (i:=1) (C:=C) (k:=13) (E:=E) rfl (Or.inl rfl) hr Mx (Gk (pv 0) Go)) Go))) Go))))))
    (Gp (GB (Kr MT hr3 (pv 0) (Gk (Gx T.cNL) Go)))))))
    (Gm (GS (Gy Ho (pv 3) Gv (GC _)) (Gp (GT T.xt hr2 rfl T.mC (G2 (pv 0) rfl))) GD)
    (Gp (Gz (pv 2))))))),?_⟩
  have ht:t≠[]:=fun z=>by
   have:=u2.le;rw[z] at this;simp at this
   lia
  obtain⟨dx2,hc2⟩:=u2.at_;refine⟨AD _,fun m hm=>?_⟩;have sm:=Gu (o:=.lst []) hm;have mc:m≠c:=fun z=>by rw[z,hc2] at hm;cases hm
  refine⟨fun mm σ H'=>∃(acc:List (Ln β)) (last pos:Nat),mm=t.length-pos/\σ=[some (.ref c),some (.ref g),some (.ref m),some (.int (last:Int))]/\Cur K B H' c a t pos t.length/\LinesAt fv ok H' m acc/\Keep H H' c/\acc.length<=512/\la rd 0 0 p0 (st t p0 t.length)=JL acc (la rd last acc.length pos (st t pos t.length)),
   ⟨_,[],0,p0,rfl,rfl,u2.same sm,⟨[],Gn,rfl,fun i b v hb=>by simp at hb⟩,Keep.of sm,by simp,(S4 _).symm⟩,?_⟩
  rintro mm σ H3 ⟨acc,last,pos,rfl,rfl,u3,hS3,sH3,hl3,inv⟩;obtain⟨dx3,hc3⟩:=u3.at_;refine⟨_,rfl,c,dx3,_,rfl,hc3,GO _ _ _ (by decide) (by decide) (by decide),c,a,t,pos,t.length,rfl,u3,rfl,_,rfl,?_⟩;rw[HB];refine GV (fun h=>?_) fun h=>?_
  ·obtain⟨ch,r,hz⟩:=La (Lc h);have hst:=HE hz;have hlt3:=IV u3.len hz;obtain⟨bs,hbs,hbl⟩:=hS3.len;refine⟨fun σ' H'=>∃(acc:List (Ln β)) (last pos':Nat),pos<pos'/\σ'=[some (.ref c),some (.ref g),some (.ref m),some (.int (last:Int))]/\Cur K B H' c a t pos' t.length/\LinesAt fv ok H' m acc/\Keep H H' c/\acc.length<=512/\la rd 0 0 p0 (st t p0 t.length)=JL acc (la rd last acc.length pos' (st t pos' t.length)),?_,?_⟩
   ·rintro σ' H' ⟨acc,last,pos',hp,rfl,b1,b2,b3,b4,b5⟩;have:=b1.le;exact⟨t.length-pos',by lia,acc,last,pos',rfl,rfl,b1,b2,b3,b4,b5⟩
   ·-- 512 lines
    refine⟨_,rfl,m,_,rfl,.inl (SqL.of hbs),rfl,_,rfl,?_⟩;rw[HB,Aa];refine GV (fun h5=>?_) fun h5=>?_
    ·have h5':(bs.length:Int)=512:=of_decide_eq_true h5;rw[hz,LF FR,Gj (by lia)] at inv;exact⟨_,rfl,c,B,dx3,_,_,rfl,hc3,T.cl,T.nP,GM _ _ _,_,rfl,fun d hd=>kE pos inv _ d Gn⟩
    ·have h5':¬(bs.length:Int)=512:=fun z=>h5 (decide_eq_true z);have h512:¬512<=acc.length:=by lia
     have tail:∀(H':Hp) (acc':List (Ln β)) (last' pos':Nat),Cur K B H' c a t pos' t.length->LinesAt fv ok H' m acc'->Keep H H' c->pos<pos'->acc'.length=acc.length+1->la rd 0 0 p0 (st t p0 t.length)=JL acc' (match Pl pos' (st t pos' t.length) with
        |.error e=>.error e
        |.ok (q,u)=>la rd last' (acc.length+1) q u)->
       Mj B "take" (IB K B C) [] E (Hw 0) (Hm (tC (.int 10)) IR) [some (.ref c),some (.ref g),some (.ref m),some (.int (last':Int))] H' (fun _ H1=>∃(acc:List (Ln β)) (last pos':Nat),pos<pos'/\[some (V.ref c),some (.ref g),some (.ref m),some (.int (last':Int))]=[some (.ref c),some (.ref g),some (.ref m),some (.int (last:Int))]/\Cur K B H1 c a t pos' t.length/\LinesAt fv ok H1 m acc/\Keep H H1 c/\acc.length<=512/\la rd 0 0 p0 (st t p0 t.length)=JL acc (la rd last acc.length pos' (st t pos' t.length))):=by
      intro H' acc' last' pos' u' hS' sH' hp hl' inv';obtain⟨dx',hc'⟩:=u'.at_;refine⟨_,rfl,c,dx',_,rfl,hc',GO _ _ _ (by decide) (by decide) (by decide),c,a,t,pos',t.length,10,rfl,u',fun hB=>?_,fun hB=>?_⟩
      ·intro H4 u4 k4;obtain⟨r',hr'⟩:=GP hB;have hst':=HE hr';rw[hr'] at inv';unfold Pl at inv';dsimp only at inv';rw[Gj rfl] at inv';refine⟨acc',last',pos'+1,by lia,rfl,u4,hS'.keep k4 hc',sH'.trans k4,by lia,?_⟩;rw[hst',hl'];exact inv'
      ·refine kE pos' ?_;rw[inv'];cases hr':st t pos' t.length with
       |nil=>rfl
       |cons d r'=>unfold Pl;dsimp only;rw[Gi (HK hB d r' hr')];rfl
     refine⟨_,rfl,c,dx3,_,rfl,hc3,GO _ _ _ (by decide) (by decide) (by decide),c,a,t,pos,t.length,rfl,u3,rfl,_,rfl,?_⟩;rw[HB];refine GV (fun hb=>?_) fun hb=>?_
     ·have heq:GA (st t pos t.length)=((124:UInt8).toNat:Int):=of_decide_eq_true hb;obtain⟨r',hr'⟩:=GP heq;have hst':=HE hr';refine⟨_,rfl,c,dx3,_,rfl,hc3,GO _ _ _ (by decide) (by decide) (by decide),c,dx3,a,pos,t.length,rfl,hc3,fun H4 h4 k4=>?_⟩;have u4:=u3.move k4 ⟨dx3,h4⟩ hlt3;have hS4:=hS3.keep k4 hc3;have hm4:H4 m=some (.lst (bs.map V.ref)):=k4 _ _ hbs (GE hbs hc3 (by intro z;cases z));refine⟨_,rfl,.inl ⟨rfl,_,SqL.of hm4⟩,?_⟩;refine⟨AD _,fun nl hnl=>⟨(by show 2<=FT;decide),fun b hb=>?_⟩⟩;have s5:=Gu (o:=.lst []) hnl;have s6:=Gu (o:=.tup [.int 0,.ref nl]) hb;have s46:=s5.trans s6;have nm:nl≠m:=fun z=>by rw[z,hm4] at hnl;cases hnl
      refine⟨m,_,_,rfl,rfl,s46 _ _ hm4,?_,?_⟩
      ·rw[Aa];exact Ap (show bs.length<513 by lia) (by decide)
      ·have sH6:Keep H (upd (upd H4 nl (.lst [])) b (.tup [.int 0,.ref nl])) c:=(sH3.trans k4).trans (Keep.of s46);refine tail _ (acc++[none]) last (pos+1) ((u4.same s46).write (s46 _ _ hm4) ht) ((hS4.same s46).snoc (s46 _ _ hm4) (show LineAt fv ok _ m b none from ⟨nl,Gn,nm,s6 _ _ Gn⟩)) (fun x o hx hxc=>?_) (by lia) (by rw[Ac];rfl) ?_
       ·rw[Gr (fun z=>by rw[z,hm] at hx;cases hx)];exact sH6 x o hx hxc
       ·rw[hst',inv,hr',YC FR _ _ _ _ _ h512]
        all_goals (cases Pl (pos+1) r' <;> rfl)
     ·have hne2:¬GA (st t pos t.length)=((124:UInt8).toNat:Int):=fun z=>hb (decide_eq_true z);have hch:=HK hne2 ch r hz;refine⟨_,rfl,_,rfl,c,a,t,pos,t.length,last,rfl,u3,fun x hx=>?_,fun n q w hL H4 u4 k4=>?_⟩
      ·rw[hz] at hx;exact kE x (by rw[inv,hz,Wc FR _ h512 hch hx])
      ·obtain⟨f1,f2,f3,f4⟩:=KS last pos (st t pos t.length) _ _ _ hL;have hw:w=st t q t.length:=by
        rw[f3,Hg];congr 1
        lia
       obtain⟨dx4,hc4⟩:=u4.at_;have hm4:H4 m=some (.lst (bs.map V.ref)):=k4 _ _ hbs (GE hbs hc3 (by intro z;cases z));have hS4:=hS3.keep k4 hc3;have k04:=sH3.trans k4;refine⟨_,rfl,.inl ⟨rfl,_,SqL.of hm4⟩,?_⟩;refine⟨_,rfl,g,rfl,_,rfl,1,_,CL.on (k04.frz hc2),c,a,t,q,t.length,rfl,u4,k04,⟨_,_,hc2⟩,fun x hx=>?_,fun l q2 w2 hM H5 nl u5 k5 hnl hN5 hok5=>?_⟩
       ·rw[hz,hw] at hL;exact kE x (by rw[inv,hz,WY FR _ h512 hch hL hx])
       ·obtain⟨g1,g2,g3⟩:=Front.at_ u4.len u4.le (FR q (st t q t.length)) hM;refine⟨(by show 2<=FT;decide),fun b hb=>?_⟩;have hm5:H5 m=some (.lst (bs.map V.ref)):=k5 _ _ hm4 (GE hm4 hc4 (by intro z;cases z));have nm:nl≠m:=fun z=>by rw[z,hm4] at hnl;cases hnl
        have s6:=Gu (o:=.tup [.int (n:Int),.ref nl]) hb;refine⟨m,_,_,rfl,rfl,s6 _ _ hm5,?_,?_⟩
        ·rw[Aa];exact Ap (show bs.length<513 by lia) (by decide)
        ·have sH6:Keep H (upd H5 b (.tup [.int (n:Int),.ref nl])) c:=(k04.trans k5).trans (Keep.of s6);refine tail _ (acc++[some (n,l)]) n q2 ((u5.same s6).write (s6 _ _ hm5) ht) (((hS4.keep k5 hc4).same s6).snoc (s6 _ _ hm5) (show LineAt fv ok _ m b (some (n,l)) from ⟨nl,Gn,nm,hN5.same s6,hok5⟩)) (fun x o hx hxc=>?_) (by lia) (by rw[Ac];rfl) ?_
         ·rw[Gr (fun z=>by rw[z,hm] at hx;cases hx)];exact sH6 x o hx hxc
         ·rw[hz,hw] at hL;rw[g3] at hM;rw[inv,hz,S2 FR _ h512 hch hL hM]
          all_goals (cases Pl q2 (st t q2 t.length) <;> rfl)
  ·have hnil:=Kw (Kv h);rw[hnil,Zc] at inv;refine⟨_,rfl,rfl,_,rfl,?_⟩;rw[HB];refine GV (fun h0=>?_) fun h0=>?_
   ·have h0':(last:Int)=0:=of_decide_eq_true h0;rw[Gj (by lia)] at inv;exact⟨_,rfl,c,B,dx3,_,_,rfl,hc3,T.cl,T.nP,GM _ _ _,_,rfl,fun d hd=>kE pos inv _ d Gn⟩
   ·have h0':¬(last:Int)=0:=fun z=>h0 (decide_eq_true z);rw[Gi (by lia)] at inv;have inv':la rd 0 0 p0 (st t p0 t.length)=.ok acc:=by rw[inv];show Except.ok (acc++[])=_;rw[AX]
    exact⟨_,rfl,kQ acc inv' H3 m sH3 hm hS3⟩
end
end Lu
section
namespace L2
open PySem PySem.Spec PyProof.Rows
open PySem.W (WData Codec OpenSpec Well WellAll ReadsW ReadsAllW)
mutual
inductive Dw(K:Gh)(H:Hp):V->WData->Prop
 |non:Dw K H .non .none
 |bl (b:Bool):Dw K H (.bl b) (.bool b)
 |int (i:Int):Dw K H (.int i) (.int i)
 |str (x:Str):Dw K H (.str x) (.str x)
 |byt (b:Array UInt8):Dw K H (.byt b) (.bytes b.toList)
 |lst {a:FP} {xs:List V} {ds:List WData}:SqL K H a xs->DwAll K H xs ds->Dw K H (.ref a) (.list ds)
 |tup {a:FP} {xs:List V} {ds:List WData}:SqT K H a xs->DwAll K H xs ds->Dw K H (.ref a) (.tuple ds)
inductive DwAll(K:Gh)(H:Hp):List V->List WData->Prop
 |nil:DwAll K H [] []
 |cons {v:V} {vs:List V} {d:WData} {ds:List WData}:Dw K H v d->DwAll K H vs ds->DwAll K H (v::vs) (d::ds)
end
theorem dw_ints{K:Gh}{H:Hp}:∀ns:List Int,DwAll K H (ns.map V.int) (ns.map WData.int)
 |[]=>.nil
 |n::r=>.cons (.int n) (dw_ints r)
theorem ints_dw{K:Gh}{H:Hp}:∀(ns:List Int) (xs:List V),DwAll K H xs (ns.map WData.int)->xs=ns.map V.int
 |[],xs,h=>by cases h;rfl
 |n::r,xs,h=>by
  cases h with
  |cons h1 h2=>cases h1;rw[ints_dw r _ h2] <;> rfl
section
variable{P:FU}{w:F0}{K:Gh}{H:Hp}{h:Heap}{R:PySem.W.WRecords}{cl:Str->Option FP}
theorem Y1{a:FP}{xs:List V}(hok:HOk P w H h)(KX:K.In h)(q:SqL K H a xs):∃(its:List FO) (o:Obj) (n:Nat),Vals xs its/\h.get? a=some o/\o.cls=.type "list"/\o.data=.seq its.toArray n:=by
 rcases q with q | ⟨o,its,n,e,hc,_,hd,_,hv⟩
 ·obtain⟨_,its,n,hv,e⟩:=(show ObjOk P w H h a (.lst xs) from q.ok hok);exact⟨its,_,n,hv,e,rfl,rfl⟩
 ·exact⟨its.toList,o,n,hv,KX _ _ e,hc,by simp[hd]⟩
theorem XY{a:FP}{xs:List V}(hok:HOk P w H h)(KX:K.In h)(q:SqT K H a xs):∃(its:List FO) (o:Obj) (n:Nat),Vals xs its/\h.get? a=some o/\o.cls=.type "tuple"/\o.data=.seq its.toArray n:=by
 rcases q with q | ⟨o,its,n,e,hc,hd,_,hv⟩
 ·obtain⟨_,its,hv,o,e,hc,n,hd⟩:=(show ObjOk P w H h a (.tup xs) from q.ok hok);exact⟨its,o,n,hv,e,hc,hd⟩
 ·exact⟨its.toList,o,n,hv,KX _ _ e,hc,by simp[hd]⟩
mutual
theorem Dw.reads(hok:HOk P w H h)(KX:K.In h):∀(d:WData) (v:V) (u:FO),Dw K H v d->RelV v u->∃as,ReadsW R cl h u d as
 |.none,_,_,x,r=>by cases x;cases r;exact⟨_,ReadsW.none⟩
 |.bool b,_,_,x,r=>by cases x;cases r;exact⟨_,ReadsW.bool b⟩
 |.int i,_,_,x,r=>by cases x;obtain⟨t,rfl⟩:=r;exact⟨_,ReadsW.int i t⟩
 |.str s,_,_,x,r=>by cases x;obtain⟨t,rfl⟩:=r;exact⟨_,ReadsW.str s t⟩
 |.bytes b,_,_,x,r=>by cases x;obtain⟨t,rfl⟩:=r;exact⟨_,ReadsW.bytes _ t⟩
 |.list ds,_,_,x,r=>by
  cases x with
  |lst hs ha=>cases r;obtain⟨its,o,n,rv,ho,hc,hd⟩:=Y1 hok KX hs;obtain⟨as,hr⟩:=Dw.readsAll hok KX ds _ its ha rv;exact⟨_,ReadsW.list ho hc hd hr⟩
 |.tuple ds,_,_,x,r=>by
  cases x with
  |tup hs ha=>cases r;obtain⟨its,o,n,rv,ho,hc,hd⟩:=XY hok KX hs;obtain⟨as,hr⟩:=Dw.readsAll hok KX ds _ its ha rv;exact⟨_,ReadsW.tuple ho hc hd hr⟩
 |.float _,_,_,x,_=>by cases x
 |.dict _,_,_,x,_=>by cases x
 |.bytearray _,_,_,x,_=>by cases x
 |.set _,_,_,x,_=>by cases x
 |.frozenset _,_,_,x,_=>by cases x
 |.obj _ _,_,_,x,_=>by cases x
theorem Dw.readsAll(hok:HOk P w H h)(KX:K.In h):∀(ds:List WData) (vs:List V) (us:List FO),DwAll K H vs ds->Vals vs us->∃as,ReadsAllW R cl h us ds as
 |[],_,_,x,r=>by cases x;cases r;exact⟨_,ReadsAllW.nil⟩
 |d::ds,_,_,x,r=>by
  cases x with
  |cons h1 h2=>
   cases r with
   |cons r1 r2=>obtain⟨as,q1⟩:=Dw.reads hok KX d _ _ h1 r1;obtain⟨bs,q2⟩:=Dw.readsAll hok KX ds _ _ h2 r2;exact⟨_,ReadsAllW.cons q1 q2⟩
end
end
mutual
def plW:WData->Bool
 |.none=>true
 |.bool _=>true
 |.int _=>true
 |.str _=>true
 |.bytes _=>true
 |.list xs=>MA xs
 |.tuple xs=>MA xs
 |_=>false
def MA:List WData->Bool
 |[]=>true
 |x::r=>plW x&&MA r
end
theorem QV{α:Type}{f:α->WData}(h:∀a,plW (f a)=true):∀l:List α,MA (l.map f)=true
 |[]=>rfl
 |x::r=>by show(plW (f x)&&MA (r.map f))=true;rw[h x,QV h r] <;> rfl
theorem Kg:∀(c:Codec) (a:c.denote),plW (c.enc a)=true
 |.unit,_=>rfl
 |.bool,_=>rfl
 |.int _ _,_=>rfl
 |.nat _ _,_=>rfl
 |.u8,_=>rfl
 |.bytes _ _,_=>rfl
 |.text _ _ _ _,_=>rfl
 |.list _ _ c,a=>QV (fun x=>Kg c x) a
 |.pair c d,a=>by show(plW (c.enc a.1)&&(plW (d.enc a.2)&&true))=true;rw[Kg c a.1,Kg d a.2] <;> rfl
 |.triple c d e,a=>by show(plW (c.enc a.1)&&(plW (d.enc a.2.1)&&(plW (e.enc a.2.2)&&true)))=true;rw[Kg c a.1,Kg d a.2.1,Kg e a.2.2] <;> rfl
 |.option c,none=>rfl
 |.option c,some x=>Kg c x
theorem OQ:∀(cs:List Codec) (a:Codec.denoteAll cs),MA (Codec.encAll cs a)=true
 |[],_=>rfl
 |c::cs,a=>by show(plW (c.enc a.1)&&MA (Codec.encAll cs a.2))=true;rw[Kg c a.1,OQ cs a.2] <;> rfl
theorem K8:∀{xs:List WData} {d:WData},d∈xs->d.weight<=WData.weightAll xs
 |[],d,h=>absurd h (by simp)
 |x::r,d,h=>by
  show d.weight<=x.weight+1+WData.weightAll r;rcases Ao.mp h with e | m
  ·rw[e]
   lia
  ·have z:=K8 m
   lia
def toV:FO->V
 |.none=>.non
 |.bool b=>.bl b
 |.int i _=>.int i
 |.str x _=>.str x
 |.bytes b _=>.byt b
 |.ref a=>.ref a
 |_=>.non
def OkU(A:List FP):FO->Prop
 |.none=>True
 |.bool _=>True
 |.int _ _=>True
 |.str _ _=>True
 |.bytes _ _=>True
 |.ref a=>a∈A
 |_=>False
theorem OkU.mono{A B:List FP}(h:∀a∈A,a∈B):∀{u:FO},OkU A u->OkU B u:=fun{u} x=>by
 cases u with
 |ref a=>exact h a x
 |none=>trivial
 |bool b=>trivial
 |int i t=>trivial
 |str s t=>trivial
 |bytes b t=>trivial
 |_=>exact False.elim x
theorem Uj{A:List FP}{u:FO}(x:OkU A u):RelV (toV u) u:=by
 cases u with
 |ref a=>rfl
 |none=>rfl
 |bool b=>rfl
 |int i t=>exact⟨t,rfl⟩
 |str s t=>exact⟨t,rfl⟩
 |bytes b t=>exact⟨t,rfl⟩
 |_=>exact False.elim x
theorem JM{A:List FP}:∀{vs:List FO},(∀u∈vs,OkU A u)->Vals (vs.map toV) vs
 |[],_=>.nil
 |u::r,h=>.cons (Uj (h u (AE ..))) (JM fun x hx=>h x (Aw _ hx))
def ArgOb(h:Heap)(A:List FP)(a:FP):Prop:=∃vs:List FO,vs.length<=FT/\(∀u∈vs,OkU A u) ∧
 (h.get? a=some { cls:=.type "list",data:=.seq vs.toArray }\/h.get? a=some { cls:=.type "tuple",data:=.seq vs.toArray })
theorem ArgOb.mono{h:Heap}{A B:List FP}{a:FP}(k:∀a∈A,a∈B)(x:ArgOb h A a):ArgOb h B a:=by obtain⟨vs,h1,h2,h3⟩:=x;exact⟨vs,h1,fun u hu=>(h2 u hu).mono k,h3⟩
theorem Js{P:Params}{h:Heap}:∀{vs:List FO} {ds:List WData},WellAll P h vs ds->vs.length=ds.length
 |_,_,.nil=>rfl
 |_,_,.cons _ b=>by show _+1=_+1;rw[Js b]
theorem OI{P:Params}{h:Heap}{v:FO}{ds:List WData}(x:Well P h v (.list ds)):∃(a:FP) (vs:List FO),v=.ref a/\h.get? a=some { cls:=.type "list",data:=.seq vs.toArray }/\WellAll P h vs ds:=by
 cases x with
 |list ho hall=>exact⟨_,_,rfl,ho,hall⟩
theorem NL{P:Params}{h:Heap}{v:FO}{ds:List WData}(x:Well P h v (.tuple ds)):∃(a:FP) (vs:List FO),v=.ref a/\h.get? a=some { cls:=.type "tuple",data:=.seq vs.toArray }/\WellAll P h vs ds:=by
 cases x with
 |tuple ho hall=>exact⟨_,_,rfl,ho,hall⟩
theorem Ov{P:Params}{h:Heap}{us:List FO}{d:WData}{ds:List WData}(x:WellAll P h us (d::ds)):∃(v:FO) (vs:List FO),us=v::vs/\Well P h v d/\WellAll P h vs ds:=by
 cases x with
 |cons a b=>exact⟨_,_,rfl,a,b⟩
theorem R9{n:Nat}(h:n<=1048576):n<=FT:=Ak h (by decide)
section
variable{P:Params}{h:Heap}
mutual
theorem VH:∀(d:WData) (v:FO),Well P h v d->plW d=true->d.weight<=1048576->∃A:List FP,OkU A v/\∀a∈A,ArgOb h A a
 |.none,_,x,_,_=>by cases x;exact⟨[],trivial,fun a m=>absurd m (by simp)⟩
 |.bool b,_,x,_,_=>by cases x;exact⟨[],trivial,fun a m=>absurd m (by simp)⟩
 |.int i,_,x,_,_=>by cases x;exact⟨[],trivial,fun a m=>absurd m (by simp)⟩
 |.str s,_,x,_,_=>by cases x;exact⟨[],trivial,fun a m=>absurd m (by simp)⟩
 |.bytes b,_,x,_,_=>by cases x;exact⟨[],trivial,fun a m=>absurd m (by simp)⟩
 |.list ds,_,x,p,z=>by
  obtain⟨a,vs,rfl,ho,hall⟩:=OI x;have z2:WData.weightAll ds<=1048576:=z;obtain⟨A,h1,h2⟩:=Lm ds _ hall p fun d hd=>Ak (K8 hd) z2;have k:∀b∈A,b∈a::A:=fun b hb=>Aw _ hb;refine⟨a::A,AE ..,fun b hb=>?_⟩;rcases Ao.mp hb with e | m
  ·rw[e];exact⟨vs,R9 (by rw[Js hall];exact Ak (D5 ds) z2),fun u hu=>(h1 u hu).mono k,.inl ho⟩
  ·exact(h2 b m).mono k
 |.tuple ds,_,x,p,z=>by
  obtain⟨a,vs,rfl,ho,hall⟩:=NL x;have z2:WData.weightAll ds<=1048576:=z;obtain⟨A,h1,h2⟩:=Lm ds _ hall p fun d hd=>Ak (K8 hd) z2;have k:∀b∈A,b∈a::A:=fun b hb=>Aw _ hb;refine⟨a::A,AE ..,fun b hb=>?_⟩;rcases Ao.mp hb with e | m
  ·rw[e];exact⟨vs,R9 (by rw[Js hall];exact Ak (D5 ds) z2),fun u hu=>(h1 u hu).mono k,.inr ho⟩
  ·exact(h2 b m).mono k
 |.float _,_,_,p,_=>AY (show false=true from p)
 |.dict _,_,_,p,_=>AY (show false=true from p)
 |.bytearray _,_,_,p,_=>AY (show false=true from p)
 |.set _,_,_,p,_=>AY (show false=true from p)
 |.frozenset _,_,_,p,_=>AY (show false=true from p)
 |.obj _ _,_,_,p,_=>AY (show false=true from p)
theorem Lm:∀(ds:List WData) (vs:List FO),WellAll P h vs ds->MA ds=true->(∀d∈ds,d.weight<=1048576)->∃A:List FP,(∀u∈vs,OkU A u)/\∀a∈A,ArgOb h A a
 |[],_,x,_,_=>by cases x;exact⟨[],fun u m=>absurd m (by simp),fun a m=>absurd m (by simp)⟩
 |d::ds,_,x,p,z=>by
  obtain⟨v,vs,rfl,x1,x2⟩:=Ov x;have q:plW d=true/\MA ds=true:=EY.mp p;obtain⟨A,a1,a2⟩:=VH d v x1 q.1 (z d (AE ..));obtain⟨B,b1,b2⟩:=Lm ds vs x2 q.2 fun e he=>z e (Aw _ he);have kA:∀b∈A,b∈A++B:=fun b hb=>AK.mpr (.inl hb);have kB:∀b∈B,b∈A++B:=fun b hb=>AK.mpr (.inr hb);refine⟨A++B,fun u hu=>?_,fun b hb=>?_⟩
  ·rcases Ao.mp hu with e | m
   ·rw[e];exact a1.mono kA
   ·exact(b1 u m).mono kB
  ·rcases AK.mp hb with m | m
   ·exact(a2 b m).mono kA
   ·exact(b2 b m).mono kB
end
end
def Wf(o:Obj):Option HO:=match o.data with
 |.seq vs _=>if (o.cls==FO.type "list")=true then some (.frz o (.lst (vs.toList.map toV))) else some (.frz o (.tup (vs.toList.map toV)))
 |_=>none
def JF(K:Gh)(h:Heap)(A:List FP):Hp:=fun b=>if b∈A then (if (K.lookup b).isNone=true then (h.get? b).bind Wf else none) else none
def ZX(H:Hp):Prop:=∀b,H b=none\/∃o u,H b=some (.frz o u)
theorem QB(vs:List FO):Wf { cls:=.type "list",data:=.seq vs.toArray }=some (.frz { cls:=.type "list",data:=.seq vs.toArray } (.lst (vs.map toV))):=by show(if (FO.type "list"==FO.type "list")=true then some (HO.frz { cls:=.type "list",data:=.seq vs.toArray } (.lst (vs.toArray.toList.map toV))) else some (HO.frz { cls:=.type "list",data:=.seq vs.toArray } (.tup (vs.toArray.toList.map toV))))=_;rw[Gj (beq_self_eq_true _)]
theorem Q0(vs:List FO):Wf { cls:=.type "tuple",data:=.seq vs.toArray }=some (.frz { cls:=.type "tuple",data:=.seq vs.toArray } (.tup (vs.map toV))):=by show(if (FO.type "tuple"==FO.type "list")=true then some (HO.frz { cls:=.type "tuple",data:=.seq vs.toArray } (.lst (vs.toArray.toList.map toV))) else some (HO.frz { cls:=.type "tuple",data:=.seq vs.toArray } (.tup (vs.toArray.toList.map toV))))=_;rw[Gi (by decide)]
section
variable{P:FU}{w:F0}{K:Gh}{h:Heap}{A:List FP}
theorem MK{b:FP}{o:Obj}(hb:b∈A)(hk:K.lookup b=none)(e:h.get? b=some o):JF K h A b=Wf o:=by unfold JF;rw[Gj hb,hk,Gj (show(none:Option Obj).isNone=true from rfl),e] <;> rfl
theorem WG{b:FP}{u:HO}(q:JF K h A b=some u):b∈A/\K.lookup b=none:=by
 unfold JF at q;by_cases hb:b∈A
 ·rw[Gj hb] at q;cases hk:K.lookup b with
  |none=>exact⟨hb,rfl⟩
  |some o=>rw[hk,Gi (by simp)] at q;cases q
 ·rw[Gi hb] at q;cases q
theorem LK(ar:∀a∈A,ArgOb h A a){b:FP}{u:HO}(q:JF K h A b=some u):K.lookup b=none/\∃vs:List FO,vs.length<=FT/\(∀u∈vs,OkU A u) ∧
  ((h.get? b=some { cls:=.type "list",data:=.seq vs.toArray }/\u=.frz { cls:=.type "list",data:=.seq vs.toArray } (.lst (vs.map toV))) ∨
   (h.get? b=some { cls:=.type "tuple",data:=.seq vs.toArray }/\u=.frz { cls:=.type "tuple",data:=.seq vs.toArray } (.tup (vs.map toV)))):=by
 obtain⟨hb,hk⟩:=WG q;obtain⟨vs,h1,h2,h3⟩:=ar b hb;refine⟨hk,vs,h1,h2,?_⟩;rcases h3 with e | e
 ·rw[MK hb hk e,QB] at q;exact .inl ⟨e,(Option.some.inj q).symm⟩
 ·rw[MK hb hk e,Q0] at q;exact .inr ⟨e,(Option.some.inj q).symm⟩
theorem S6(ar:∀a∈A,ArgOb h A a):ZX (JF K h A):=fun b=>by
 cases q:JF K h A b with
 |none=>exact .inl rfl
 |some u=>
  obtain⟨_,vs,_,_,⟨_,e⟩ | ⟨_,e⟩⟩:=LK ar q
  ·exact .inr ⟨_,_,by rw[e]⟩
  ·exact .inr ⟨_,_,by rw[e]⟩
theorem WM(ar:∀a∈A,ArgOb h A a):HOk P w (JF K h A) h:=fun b u q=>by
 obtain⟨_,vs,h1,h2,⟨e,rfl⟩ | ⟨e,rfl⟩⟩:=LK ar q
 ·exact⟨e,by rw[Aa];exact h1,vs,_,JM h2,e⟩
 ·exact⟨e,by rw[Aa];exact h1,vs,JM h2,_,e,rfl,_,rfl⟩
theorem MF{c c':FO}{vs us:List FO}(e:(some { cls:=c,data:=.seq vs.toArray }:Option Obj)=some { cls:=c',data:=.seq us.toArray }):c=c'/\vs=us:=by have e1:=Option.some.inj e;have e2:c=c':=congrArg Obj.cls e1;have e3:Data.seq vs.toArray=Data.seq us.toArray:=congrArg Obj.data e1;injection e3 with e4;refine⟨e2,?_⟩;have e5:=congrArg EE e4;simpa using e5
theorem AaT(KX:K.In h)(ar:∀a∈A,ArgOb h A a){a:FP}{vs:List FO}(ha:a∈A)(e:h.get? a=some { cls:=.type "list",data:=.seq vs.toArray }):(∀u∈vs,OkU A u)/\SqL K (JF K h A) a (vs.map toV):=by
 obtain⟨us,h1,h2,h3⟩:=ar a ha;have hu:us=vs:=by
  rcases h3 with q | q
  ·rw[e] at q;exact(MF q).2.symm
  ·rw[e] at q;exact absurd (FO.type.inj (MF q).1) (by decide)
 subst hu;refine⟨h2,?_⟩;cases hk:K.lookup a with
 |none=>exact .inl (.inr ⟨_,by rw[MK ha hk e,QB]⟩)
 |some o=>have e2:=KX a o hk;rw[e] at e2;obtain rfl:=Option.some.inj e2;exact .inr ⟨_,us.toArray,_,hk,rfl,rfl,rfl,by rw[Aq];exact h1,by simpa using JM h2⟩
theorem AaH(KX:K.In h)(ar:∀a∈A,ArgOb h A a){a:FP}{vs:List FO}(ha:a∈A)(e:h.get? a=some { cls:=.type "tuple",data:=.seq vs.toArray }):(∀u∈vs,OkU A u)/\SqT K (JF K h A) a (vs.map toV):=by
 obtain⟨us,h1,h2,h3⟩:=ar a ha;have hu:us=vs:=by
  rcases h3 with q | q
  ·rw[e] at q;exact absurd (FO.type.inj (MF q).1) (by decide)
  ·rw[e] at q;exact(MF q).2.symm
 subst hu;refine⟨h2,?_⟩;cases hk:K.lookup a with
 |none=>exact .inl (.inr ⟨_,by rw[MK ha hk e,Q0]⟩)
 |some o=>have e2:=KX a o hk;rw[e] at e2;obtain rfl:=Option.some.inj e2;exact .inr ⟨_,us.toArray,_,hk,rfl,rfl,by rw[Aq];exact h1,by simpa using JM h2⟩
mutual
theorem YT{Pm:Params}(KX:K.In h)(ar:∀a∈A,ArgOb h A a):∀(d:WData) (v:FO),Well Pm h v d->plW d=true->OkU A v->Dw K (JF K h A) (toV v) d
 |.none,_,x,_,_=>by cases x;exact .non
 |.bool b,_,x,_,_=>by cases x;exact .bl b
 |.int i,_,x,_,_=>by cases x;exact .int i
 |.str s,_,x,_,_=>by cases x;exact .str s
 |.bytes b,_,x,_,_=>by cases x;have z:=Dw.byt (K:=K) (H:=JF K h A) b.toArray;exact z
 |.list ds,_,x,p,hu=>by obtain⟨a,vs,rfl,ho,hall⟩:=OI x;obtain⟨h2,hs⟩:=AaT KX ar hu ho;exact .lst hs (PQ KX ar ds _ hall p h2)
 |.tuple ds,_,x,p,hu=>by obtain⟨a,vs,rfl,ho,hall⟩:=NL x;obtain⟨h2,hs⟩:=AaH KX ar hu ho;exact .tup hs (PQ KX ar ds _ hall p h2)
 |.float _,_,_,p,_=>AY (show false=true from p)
 |.dict _,_,_,p,_=>AY (show false=true from p)
 |.bytearray _,_,_,p,_=>AY (show false=true from p)
 |.set _,_,_,p,_=>AY (show false=true from p)
 |.frozenset _,_,_,p,_=>AY (show false=true from p)
 |.obj _ _,_,_,p,_=>AY (show false=true from p)
theorem PQ{Pm:Params}(KX:K.In h)(ar:∀a∈A,ArgOb h A a):∀(ds:List WData) (vs:List FO),WellAll Pm h vs ds->MA ds=true->(∀u∈vs,OkU A u)->DwAll K (JF K h A) (vs.map toV) ds
 |[],_,x,_,_=>by cases x;exact .nil
 |d::ds,_,x,p,hu=>by obtain⟨v,vs,rfl,x1,x2⟩:=Ov x;have q:plW d=true/\MA ds=true:=EY.mp p;exact .cons (YT KX ar d v x1 q.1 (hu _ (AE ..))) (PQ KX ar ds vs x2 q.2 fun u m=>hu u (Aw _ m))
end
end
theorem NA{ds:List WData}(h:WData.layableAll ds=true):∀d∈ds,d.weight<=1048576:=fun d hd=>(PySem.W.layableW_iff.mp (AI.mp h d hd)).2.2
theorem NR:∀(cs:List Codec) (a:Codec.denoteAll cs),(Codec.encAll cs a).length=cs.length
 |[],_=>rfl
 |c::cs,a=>by show(Codec.encAll cs a.2).length+1=cs.length+1;rw[NR cs a.2]
end L2
end
namespace L2
open PySem PySem.Spec PyProof.Rows
open PySem.W (WData Codec OpenSpec Well WellAll ReadsW ReadsAllW)
theorem SqL.same'{K:Gh}{H H':Hp}{a:FP}{xs:List V}(e:Same H H')(h:SqL K H a xs):SqL K H' a xs:=e.seq h
theorem SqT.same'{K:Gh}{H H':Hp}{a:FP}{xs:List V}(e:Same H H')(h:SqT K H a xs):SqT K H' a xs:=by
 rcases h with (h | ⟨o,h⟩) | h
 ·exact .inl (.inl (e _ _ h))
 ·exact .inl (.inr ⟨o,e _ _ h⟩)
 ·exact .inr h
mutual
theorem Dw.same{K:Gh}{H H':Hp}(e:Same H H'):∀(d:WData) (v:V),Dw K H v d->Dw K H' v d
 |_,_,.non=>.non
 |_,_,.bl b=>.bl b
 |_,_,.int i=>.int i
 |_,_,.str x=>.str x
 |_,_,.byt b=>.byt b
 |_,_,.lst h a=>.lst (SqL.same' e h) (DwAll.same e _ _ a)
 |_,_,.tup h a=>.tup (SqT.same' e h) (DwAll.same e _ _ a)
theorem DwAll.same{K:Gh}{H H':Hp}(e:Same H H'):∀(ds:List WData) (vs:List V),DwAll K H vs ds->DwAll K H' vs ds
 |_,_,.nil=>.nil
 |_,_,.cons h a=>.cons (Dw.same e _ _ h) (DwAll.same e _ _ a)
end
def J9(K:Gh)(h:Heap)(A:List FP)(tabs:List (FP×FP)):Hp:=fun b=>if b∈tabs.map (·.2) then some (.tbl #[]) else JF K h A b
theorem RA{P:FU}{w:F0}{K:Gh}{mg mb:Str->Option FO}{CX:CXT}{k:Nat}{fa:FP}{fd:FZ}{ps:List Str}{sp:Sp}{s₁:FS}{vals:List FO}{ds:List WData}{R:PySem.W.WRecords}{cl:Str->Option FP}{d0:WData}{tabs:List (FP×FP)}
  (KX:K.In s₁.heap) (hns:s₁.heap.Ns FX mg) (hb:s₁.heap.Ns builtinsNs mb) (hbb:∀x:Str,x≠"__name__"->mb x=Gf x) (hlim:s₁.heap.NoLimit) (hg:s₁.gens=#[])
  (hwl:WellAll w.params s₁.heap vals ds) (hpl:MA ds=true) (hwt:∀d∈ds,d.weight<=1048576) (hr:Room k callerA)
  (hT:PySem.W.TabsAt tabs s₁.heap) (hnT:Fn K=true) (hbm:QX s₁.heap mg)
  (F:∀base:Heap,K.In base->base.Ns FX mg->QX base mg->FnOk P w K mg base CX k fa fd ps sp) (hbind:∀(s:FS) (us:List FO),us.length=ps.length->BindsTo s fd ⟨us,[]⟩ (ps.zip us)) (hlen:ds.length=ps.length)
  (hsp:∀(H:Hp) (xs:List V),(∀q∈tabs,H q.2=some (.tbl #[]))->DwAll K H xs ds->sp xs H (fun v H'=>Dw K H' v d0) fun _ _ _=>False)
  (hCX:∀H e s',CX [] H s₁ (fun _ _ _=>False) e s'->False):
  codeAny (model P w) callerA (.call (.ref fa) ⟨vals,[]⟩) (fun r s'=>∃u as,r=.ok (.ret u)/\ReadsW R cl s'.heap u d0 as/\OldK s₁.heap s'.heap/\s'.os=s₁.os/\AllBare s'.gens) s₁:=by
 obtain⟨A,ho,ar⟩:=Lm ds vals hwl hpl hwt;have hokA:HOk P w (JF K s₁.heap A) s₁.heap:=WM ar;have hV:=JM ho;have tget:∀b,b∈tabs.map (·.2)->s₁.heap.get? b=some (Dl #[]):=fun b hb=>by obtain⟨q,hq,rfl⟩:=AZ.mp hb;exact(hT q hq).2
 have tH:∀b,b∈tabs.map (·.2)->J9 K s₁.heap A tabs b=some (.tbl #[]):=fun b hb=>by unfold J9;rw[Gj hb]
 have oH:∀b,b∉tabs.map (·.2)->J9 K s₁.heap A tabs b=JF K s₁.heap A b:=fun b hb=>by unfold J9;rw[Gi hb]
 have noAt:∀b u,JF K s₁.heap A b=some u->b∉tabs.map (·.2):=fun b u q hb=>by
  obtain⟨_,vs,_,_,⟨e2,_⟩ | ⟨e2,_⟩⟩:=LK ar q
  ·rw[tget b hb] at e2;cases e2
  ·rw[tget b hb] at e2;cases e2
 have sA:Same (JF K s₁.heap A) (J9 K s₁.heap A tabs):=fun b u q=>by rw[oH b (noAt b u q)];exact q
 have hS:=DwAll.same sA _ _ (PQ KX ar ds vals hwl hpl ho);have hok:HOk P w (J9 K s₁.heap A tabs) s₁.heap:=fun b u q=>by
  by_cases hb:b∈tabs.map (·.2)
  ·rw[tH b hb] at q;cases q;exact tget b hb
  ·rw[oH b hb] at q;exact(hokA b u q).stay (fun _ _ _ z=>z) (fun d hd=>sA _ _ hd) fun d xs hd=>sA _ _ hd
 have hKA:∀b u,JF K s₁.heap A b=some u->K.lookup b=none:=fun b u q=>(LK ar q).1;have noA:∀{b:FP} {o:Obj},s₁.heap.get? b=some o->(∀vs:List FO,o≠{ cls:=.type "list",data:=.seq vs.toArray })->(∀vs:List FO,o≠{ cls:=.type "tuple",data:=.seq vs.toArray })->o≠Dl #[]->J9 K s₁.heap A tabs b=none:=fun{b o} e n1 n2 n3=>by
  by_cases hb:b∈tabs.map (·.2)
  ·rw[tget b hb] at e;cases e;exact absurd rfl n3
  ·rw[oH b hb];cases q:JF K s₁.heap A b with
   |none=>rfl
   |some u=>
    obtain⟨_,vs,_,_,⟨e2,_⟩ | ⟨e2,_⟩⟩:=LK ar q
    ·rw[e2] at e;cases e;exact absurd rfl (n1 vs)
    ·rw[e2] at e;cases e;exact absurd rfl (n2 vs)
 have htabs:∀q∈tabs,J9 K s₁.heap A tabs q.2=some (.tbl #[]):=fun q hq=>tH _ (CJ hq);have onlyF:∀b,b∉tabs.map (·.2)->J9 K s₁.heap A tabs b=none\/∃o u,J9 K s₁.heap A tabs b=some (.frz o u):=fun b hb=>by rw[oH b hb];exact S6 ar b
 have nKt:∀b o,K.lookup b=some o->b∉tabs.map (·.2):=fun b o e hb=>by have e2:=KX b o e;rw[tget b hb] at e2;have h2:=AI.mp hnT (b,o) (PySem.W.mem_of_lookupK e);cases e2;exact absurd (show false=true from h2) Ag
 have nK:∀b o,K.lookup b=some o->J9 K s₁.heap A tabs b=none:=fun b o e=>by
  rw[oH b (nKt b o e)];cases q:JF K s₁.heap A b with
  |none=>rfl
  |some u=>rw[hKA b u q] at e;cases e
 generalize J9 K s₁.heap A tabs=H at *;have base_of:∀{b:FP} {o:Obj},s₁.heap.get? b=some o->H b=none->(N6 s₁.heap H).get? b=some o:=fun e n=>VS e n;have dno:∀{o:Obj} {es:Array Gb} {ep:Nat},o.data=.dict es ep->(∀vs:List FO,o≠{ cls:=.type "list",data:=.seq vs.toArray })/\(∀vs:List FO,o≠{ cls:=.type "tuple",data:=.seq vs.toArray })/\o≠Dl #[]:=fun{o es ep} d=>⟨fun vs z=>absurd d (by rw[z];intro q;cases q),fun vs z=>absurd d (by rw[z];intro q;cases q),fun z=>absurd d (by rw[z];intro q;cases q)⟩
 have nsK:∀{b:FP} {m:Str->Option FO},s₁.heap.Ns b m->(N6 s₁.heap H).Ns b m:=fun{b m} ⟨o,es,ep,e,d,r⟩=>⟨o,es,ep,base_of e (noA e (dno d).1 (dno d).2.1 (dno d).2.2),d,r⟩;have hKb:K.In (N6 s₁.heap H):=fun b o e=>base_of (KX b o e) (nK b o e);have hM:Mod K mg (N6 s₁.heap H):=⟨hKb,nsK hns,⟨mb,nsK hb,hbb⟩,let ⟨mc,h1,h2⟩:=hlim;⟨mc,nsK h1,h2⟩⟩;have hBM:QX (N6 s₁.heap H) mg:=by obtain⟨bm,ob,b1,b2,b3,b4,b5,b6⟩:=hbm;refine⟨bm,ob,b1,b2,base_of b3 (noA b3 (fun vs z=>by rw[z] at b6;cases b6) (fun vs z=>by rw[z] at b6;cases b6) fun z=>by rw[z] at b6;cases b6),b4,b5,b6⟩
 have e0:Env0 P w K mg (N6 s₁.heap H) callerA [] s₁ H:=⟨rfl,hM,fun b o e=>V8 e,CQ (TM _ _),trivial,fun b hb=>absurd (show b∈([]:List FP) from hb) (by simp),hok,.of_eq hg⟩;have hl:vals.length=ps.length:=by rw[Js hwl];exact hlen
 refine codeAny_mono ((F _ hKb (nsK hns) hBM).run callerA [] s₁ H ⟨vals,[]⟩ vals (vals.map toV) _ _ hr e0 (hbind s₁ vals hl) hV (hsp H _ htabs hS)) fun r s' x=>?_;cases r with
 |error e=>exact(hCX H e s' x).elim
 |ok fl=>
  cases fl with
  |next=>exact False.elim x
  |brk=>exact False.elim x
  |cont=>exact False.elim x
  |ret u=>
   obtain⟨v,H',os,bare,un,hok',r',q⟩:=x;have kept:∀b o,b∉tabs.map (·.2)->s₁.heap.get? b=some o->s'.heap.get? b=some o:=fun b o nb e=>by
    rcases onlyF b nb with z | ⟨ob,u3,z⟩
    ·exact un.keep b o e z (by intro z;exact absurd (show b∈([]:List FP) from z) (by simp)) (by simp)
    ·have z2:=un.frzs b ob _ z;obtain⟨e1,_⟩:=hok b _ z;obtain⟨e2,_⟩:=hok' b _ z2;rw[e] at e1;cases e1;exact e2
   have grown:∀b,b∈tabs.map (·.2)->∃more,s'.heap.get? b=some { cls:=.none,data:=.fields (#[]++more) }:=fun b hb=>by obtain⟨more,z⟩:=un.tbls b #[] (tH b hb);exact⟨more,hok' b _ z⟩
   have KX':K.In s'.heap:=fun b o e=>kept b o (nKt b o e) (KX b o e);obtain⟨as,hrd⟩:=Dw.reads (R:=R) (cl:=cl) hok' KX' d0 v u q r';refine⟨u,as,rfl,hrd,⟨fun b o e=>?_,fun b o e=>?_⟩,os,bare⟩
   ·by_cases hb:b∈tabs.map (·.2)
    ·obtain⟨more,z⟩:=grown b hb;rw[tget b hb] at e;cases e;obtain⟨q,hq,rfl⟩:=AZ.mp hb;exact .inr (.inl ⟨((hT q hq).1.tab (hT q hq).2).isCodeTable,rfl,#[],more,rfl,z⟩)
    ·exact .inl (kept b o hb e)
   ·by_cases hb:b∈tabs.map (·.2)
    ·obtain⟨more,z⟩:=grown b hb;exact⟨_,z⟩
    ·exact⟨o,kept b o hb e⟩
theorem walk_specT{r:OpenSpec}{k:Nat}{q:FU}{loose:List Str}{XP:(Str->Option FO)->Heap->Prop}{YP:F0->Heap->Prop}{d:DefRec}{K:Params->Gh}{CX:CXT}{ps:List Str}{sp:Gh->Sp}(names:List Str)
  (hwell:r.wellSaid=true) (hdf:d.params.defaults=[]) (hlen:r.args.length=ps.length) (hr:Room k callerA)
  (hY:∀(w:F0) (h:Heap),YP w h->(K w.params).In h) (hnT:∀w:F0,Fn (K w.params)=true) (hrec:names.all (fun x=>((recsOf q).find? fun e=>e.name==x).isSome)=true)
  (F:∀(w:F0) (mg:Str->Option FO) (fa:FP) (h:Heap),YP w h->(K w.params).In h->h.Ns FX mg->mg d.name=some (.ref fa)->
   ∃fd:FZ,(∀(s:FS) (us:List FO),us.length=ps.length->BindsTo s fd ⟨us,[]⟩ (ps.zip us)) ∧
    ∀base:Heap,(K w.params).In base->base.Ns FX mg->QX base mg->FnOk r.prog w (K w.params) mg base CX k fa fd ps (sp (K w.params)))
  (hsp:∀(K:Gh) (H:Hp) (xs:List V) (a:Codec.denoteAll r.args),(∀x c Pt,x∈names->Bl K x=some (c,Pt)->H Pt=some (.tbl #[]))->Codec.withinAll r.args a=true->Codec.app r.args r.asked a=true->DwAll K H xs (Codec.encAll r.args a)->
   sp K xs H (fun v H'=>Dw K H' v (r.ret.enc (Codec.app r.args r.f a))) fun _ _ _=>False)
  (hCX:∀(H:Hp) (s:FS) (e:FO) (s':FS),CX [] H s (fun _ _ _=>False) e s'->False):
  PySem.W.WalkOS q loose XP YP r d [] (fun f vs=>PySem.call f vs):=by
 intro w s_0 s₁ mg mb G Y fa o pm cd doc dV kV ho hd hcd hD hmg hg args vals as hpre hlay hrd hwl hlo;obtain⟨a,e1,e2⟩:=PySem.W.os_pre_some hpre;obtain⟨e3,hwi⟩:=Codec.encAll_of_decAll r.args args a e1;subst e3;have KX:=hY w _ Y;obtain⟨fd,hb,hF⟩:=F w mg fa _ Y KX G.T.g hmg;have hT:PySem.W.TabsAt (names.filterMap fun x=>Bl (K w.params) x) s₁.heap:=fun p hp=>by obtain⟨x,hx,ex⟩:=BY.mp hp;obtain⟨dr,hdr⟩:=Eo.mp (AI.mp hrec x hx);exact PySem.W.tab_of (c:=p.1) (P:=p.2) G.T KX hdr ex
 refine PySem.W.enter_call (codeAny_mono (RA (R:=[]) (cl:=classAt s_0.heap) (d0:=r.ret.enc (Codec.app r.args r.f a)) KX G.T.g G.T.b G.T.builtins G.T.nolimit hg hwl (OQ _ _) (NA hlay) hr hT (hnT w) G.T.bmain hF hb (by rw[NR];exact hlen)
  (fun H xs hO hS=>hsp (K w.params) H xs a (fun x c Pt hx ex=>hO (c,Pt) (BY.mpr ⟨x,hx,ex⟩)) hwi e2 hS) fun H e s'=>hCX H s₁ e s') fun r' s' hq=>?_)
 obtain⟨u,as',rfl,h1,h2,h3,h4⟩:=hq;exact⟨.inl ⟨u,_,as',rfl,fun _=>rfl,h1,(OpenSpec.post_iff hwell hwi _ _).mpr rfl,fun z=>AY (show false=true from z)⟩,h2,h3,h4⟩
end L2
namespace L2
open PySem PySem.Spec PyProof.Rows
def Wm(P:FU)(w:F0)(K:Gh)(mg:Str->Option FO)(base:Heap)(k:Nat)(x:Str)(ps:List Str)(sp:Sp):Prop:=∃f fd,FnOk P w K mg base CX0 k f fd ps sp/\mg x=some (.ref f)/\AG K (.ref f)=true/\Binds K fd ps []
theorem RL{X:Cx}{k:Nat}{x:Str}{ps:List Str}{sp:Sp}{p pos:Pos}{e:F3}{es:List F3}{t:TA}(D:Wm X.prog X.w X.K X.mg X.base k x ps sp)(hr:Room k X.A)(hg:Gl X x)(ha:PA X (e::es) t)(hdb:(x==("__debug__":Str))=false:=by decide)
  (he:FY (e::es) X.env=(false,eval e X.env)::FY es X.env:=by rfl) (hpl:(backTo pos (FY es X.env)).any (·.1)=false:=by rfl):PE X (.Call (.Name x p) (e::es) [] pos) (Lv sp [] E0 t):=by
 obtain⟨g,fd,G,hm,hk,hb⟩:=D;exact LI G hr hg hm hk hb .nil Aaj ha hdb he hpl
end L2
namespace Lu
open PySem PySem.Spec PyProof.Rows L2 Lute LuR LuW LuteSong
structure Txt2(mg:Str->Option FO):Prop where
 cTL:Cst mg "TOO_LONG" (.int (-2))
 cNS:Cst mg "NO_FIRST_TEXT" (.int (-6))
 cMB:Cst mg "MOST_BYTES" (.int 65536)
theorem QY{ns:List Int}(h:∀z∈ns,0<=z/\z<=255):tx (LuSongNeutral.bytes ns)=ns.map V.int:=by
 unfold tx LuSongNeutral.bytes;rw[A0];refine CK fun z hz=>?_;obtain⟨h1,h2⟩:=h z hz;show V.int ((Bg z.toNat).toNat:Int)=V.int z;rw[DX,Ef (by lia)];congr 1
 lia
def XM(P:FU)(w:F0)(K:Gh)(mg:Str->Option FO)(base:Heap)(C:FP):Sp:=fun vs H Q _=>∃(g a:FP) (n:Nat) (sp':Sp),vs=[.ref g,.ref a]/\Clb P w K mg base C 19 H g n sp'/\sp' [.ref a] H Q fun _ _ H'=>Q .non H'
section
variable{P:FU}{w:F0}{K:Gh}{mg:Str->Option FO}{base:Heap}{B C:FP}
theorem Zf:FnScope ["read","text"] ["read","text"] (Gq Iw):=⟨rfl,rfl,rfl,by decide +kernel,rfl,by decide +kernel,by decide +kernel⟩
theorem X6{f:FP}{fd:FZ}(F:Fun K "read_or_none" "read_or_none" Iw f fd)(T:Txt K mg B C):FnOk P w K mg base CX0 20 f fd ["read","text"] (XM P w K mg base C):=by
 refine F.ok Zf (fun vs H Q E h=>?_) (fun cdv A outer s H vs Q E hr h=>?_)
 ·obtain⟨g,a,n,sp',rfl,_⟩:=h;rfl
 ·obtain⟨g,a,n,sp',rfl,CL,hs⟩:=h;refine⟨_,Gp (WE (C:=C) (E:=fun _ _ H'=>Q .non H') T.xt rfl rfl rfl rfl T.mC
    (fun pn=>Gp (Gz (PF (P:=P) (w:=w) (K:=K) (mg:=mg) (base:=base) (C:=C) (i:=0) (k:=19) (E:=fun _ _ H'=>Q .non H') rfl (Or.inl rfl) hr (S8 rfl rfl rfl) (Gk (pv 1) Go))))
    (fun pn ea d vs sl=>Gp (Gz Lb))),?_⟩
  exact⟨⟨g,rfl,_,rfl,n,sp',CL,hs⟩,fun d H' i hd hE=>hE⟩
end
def K4(l:List Int):Nat:=l.foldl (fun c n=>B9 (c:Int) n) 0
theorem QW(l:List Int)(n:Int):K4 (l++[n])=B9 (K4 l:Int) n:=by unfold K4;rw[List.foldl_append];rfl
theorem Ta(a b c e:Int)(d:Nat):K4 [a,b,c,e,(d:Int)]=(⟨a,b,c,e,d⟩:Iv).common:=by
 unfold K4 Iv.common;simp only[FF,List.foldl_nil,B9,Bo,Int.natAbs_zero,Nat.gcd_zero_left];have:∀p q r s t:Nat,AN (AN (AN (AN p q) r) s) t=AN t (AN p (AN q (AN r s))):=fun p q r s t=>by rw[Nat.gcd_comm _ t,Nat.gcd_assoc,Nat.gcd_assoc]
 first | exact this _ _ _ _ _ | simpa using this a.natAbs b.natAbs c.natAbs e.natAbs d
def XS(K:Gh):Sp:=fun vs H Q _=>∃(a:FP) (ns:List Int),vs=[.ref a]/\SqL K H a (ns.map V.int)/\Q (.int (K4 ns:Int)) H
section
variable{P:FU}{w:F0}{K:Gh}{mg:Str->Option FO}{base:Heap}{B C:FP}
theorem PR:FnScope ["numbers","common","number"] ["numbers"] (Gq Hf):=⟨rfl,rfl,rfl,by decide +kernel,rfl,by decide +kernel,by decide +kernel⟩
theorem YB{f:FP}{fd:FZ}(F:Fun K "common_factor_of_all" "common_factor_of_all" Hf f fd)(DG:Dfn P w K mg base C 1 "common_factor" ["a","b"] Rj):FnOk P w K mg base (CXF P w C) 2 f fd ["numbers"] (XS K):=by
 refine F.okX PR (fun vs H Q E h=>?_) (fun cdv A outer s H vs Q E hr h=>?_)
 ·obtain⟨a,ns,rfl,_⟩:=h;rfl
 ·obtain⟨a,ns,rfl,hS,k⟩:=h;refine⟨_,Gm (Gw (i:=1) PR.nd rfl (Or.inl rfl) Gv)
   (Gm (Ic IC rfl (Ik (pv 0)) (GJ (i:=2) PR.nd rfl (Or.inl rfl)) (Gp (Gw (i:=1) PR.nd rfl (Or.inl rfl) (GQ DG hr rfl (Gk (pv 1) (Gk (pv 2) Go))))))
   (Gp (Gz (pv 1)))),?_⟩
  refine⟨_,rfl,a,rfl,⟨_,hS⟩,Jn (K:=K) (a:=a) (xs:=ns.map V.int) (fun i σ H'=>∃v:Option V,σ=[some (.ref a),some (.int (K4 (ns.take i):Int)),v]/\H'=H) ⟨none,rfl,rfl⟩ (fun i σ H' _ ⟨_,_,e⟩=>by rw[e];exact hS) ?_ ?_⟩
  ·rintro i x σ H' hx ⟨v,rfl,rfl⟩;rw[Al] at hx;cases hn:ns[i]? with
   |none=>rw[hn] at hx;cases hx
   |some n=>
    rw[hn] at hx;cases hx;refine⟨_,rfl,_,rfl,_,n,rfl,?_⟩;refine⟨some (.int n),?_,rfl⟩;have e:ns.take (i+1)=ns.take i++[n]:=by rw[Bh,hn];rfl
    rw[e,QW];rfl
  ·rintro σ H' ⟨v,rfl,rfl⟩;rw[Aa,AU];exact⟨_,rfl,k⟩
end
end Lu
namespace L2
open PySem PySem.Spec PyProof.Rows
open LZ (Src)
theorem SrcV.same{K:Gh}{H H':Hp}{r:Src}{xs:List V}(e:Same H H')(h:SrcV K H r xs):SrcV K H' r xs:=by
 cases r with
 |lst a=>exact e.seq h
 |tup a=>exact e.tup h
 |txt x t=>exact h
theorem Wl{K:Gh}{a b:Src}{xs ys zs:List V}{g:TG}{te:TE}{σ:List (Option V)}{vs:List Nat}{Qd:Hp->Prop}{H1:Hp}{D:FP}(hA:SrcV K H1 a xs)(hB:SrcV K H1 b ys)(h1:ys.length=xs.length)(hl:zs.length=xs.length)(hz:zs.length<=1000)(hD:H1 D=none)
  (step:∀(i:Nat) (x y z:V) (Hi:Hp) (T:FP),xs[i]?=some x->ys[i]?=some y->zs[i]?=some z->Same H1 Hi->Hi T=some (.tup [x,y])->∀(R:VK) (Z:Hp->Prop),R z Hi->g (.ref T) (Hl σ vs) Hi fun σ2 H2=>Hl σ2 vs=Hl σ vs/\Rs σ2 H2 fun b H3=>if b=true then te σ2 H3 R else Z H3)
  (hQ:∀H',Same H1 H'->H' D=some (.lst zs)->Qd H'):
  ∃W:Nat->Nat->Hp->Prop,(∃m,W 0 m (upd H1 D (.lst [])))/\∀i m H,W i m H->((Nb K a b).stop i H/\Qd H)\/((Nb K a b).go i H/\∃Nx:Hp->Prop,(∀H',Nx H'->∃m',m'<m/\W (i+1) m' H') ∧
   ∀x H',(Nb K a b).yld i H x H'->g x (Hl σ vs) H' fun σ2 H2=>Hl σ2 vs=Hl σ vs/\Rs σ2 H2 fun b H3=>if b=true then te σ2 H3 fun y H4=>∃acc,H4 D=some (.lst acc)/\acc.length<FT/\Nx (upd H4 D (.lst (acc++[y]))) else Nx H3):=by
 refine⟨fun i m H=>m=xs.length-i/\i<=xs.length/\Same H1 H/\H D=some (.lst (zs.take i)),⟨xs.length,by simp,AD _,fun b o h=>by rw[Gr (Gs h hD)];exact h,Gn⟩,?_⟩;rintro i m H ⟨rfl,hi,sm,hd⟩;by_cases hlt:i<xs.length
 ·have hzi:zs[i]?=some (zs[i]'(by lia)):=Ae _;refine .inr ⟨⟨xs,ys,xs[i],ys[i]'(by lia),hA.same sm,hB.same sm,by simp[hlt],Ae _⟩,fun H'=>Same H1 H'/\H' D=some (.lst (zs.take (i+1))),fun H' ⟨h1,h2⟩=>⟨xs.length-(i+1),by lia,rfl,hlt,h1,h2⟩,fun v H' yl=>?_⟩;obtain⟨T,x,y,rfl,hT,rfl,hx,hy⟩:=yl;have nT:D≠T:=Gs hd hT;have sT:Same H1 (upd H T (.tup [x,y])):=fun b o h=>by rw[Gr (Gs (sm _ _ h) hT)];exact sm _ _ h
  refine step i x y _ _ T (hx xs (hA.same sm)) (hy ys (hB.same sm)) hzi sT Gn _ _ ⟨_,by rw[Gr nT];exact hd,?_,fun b o h=>?_,?_⟩
  ·rw[Ax];exact Ar (Bc _ _) (JJ hz)
  ·rw[Gr (Gs h hD)];exact sT _ _ h
  ·rw[Gn,B8,hzi];rfl
 ·have e:i=xs.length:=by lia
  subst e;refine .inl ⟨⟨xs,ys,hA.same sm,hB.same sm,Ah _⟩,hQ H sm ?_⟩;rw[hd,<-hl,AU]
def ZF(K:Gh)(ta:TA):TI:=SA (fun vs H1 R=>∃(a b:FP) (xs ys:List V),vs=[.ref a,.ref b]/\∃r1 r2:Src,(r1=.lst a\/r1=.tup a)/\(r2=.lst b\/r2=.tup b)/\SrcV K H1 r1 xs/\SrcV K H1 r2 ys/\R (Nb K r1 r2) H1) ta
theorem W6{X:Cx}{e e2:F3}{ta:TA}{p pos tpos:Pos}{elts:List F3}{kk:Nat}(hg:Gl X "zip")(hm:X.mg "zip"=none)(ha:PA X [e,e2] ta)
  (hs:FY [e,e2] X.env=(false,eval e X.env)::FY [e2] X.env:=by rfl) (hpl:(backTo pos (FY [e2] X.env)).any (·.1)=false:=by rfl):
  PI X (.Tuple elts kk tpos) (.Call (.Name "zip" p) [e,e2] [] pos) (ZF X.K ta):=
 Ps (fun vs H1 R ⟨a,b,xs,ys,e,r1,r2,h1,h2,s1,s2,q⟩=>⟨_,_,e,fun u1 u2 e1 e2=>⟨r1,r2,xs,ys,(by rcases h1 with rfl | rfl <;> exact e1.symm),(by rcases h2 with rfl | rfl <;> exact e2.symm),s1,s2,q⟩⟩) hg hm ha hs hpl
end L2
namespace Lu
open PySem PySem.Spec PyProof.Rows L2 Lute LuR LuW LuteSong
def VC(K:Gh):Sp:=fun vs H Q _=>∃(a b:FP) (x y:Iv),vs=[.ref a,.ref b]/\(SqL K H a (ivV x)\/SqT K H a (ivV x))/\SqT K H b (ivV y)/\x.ok=true/\y.ok=true/\∀(H':Hp) (p:FP),Same H H'->H p=none->H' p=some (.tup (ivV (y.plus x)))->Q (.ref p) H'
section
variable{P:FU}{w:F0}{K:Gh}{mg:Str->Option FO}{base:Heap}{B C:FP}
theorem sl4{K:Gh}{H:Hp}{a:FP}{x:Iv}{Q:VK}(hx:SqL K H a (ivV x)\/SqT K H a (ivV x))(h:∀(p:FP) (H1:Hp) (r1:LZ.Src),Same H H1->(r1=.lst p\/r1=.tup p)->SrcV K H1 r1 [.int x.a,.int x.b,.int x.c,.int x.e]->Q (.ref p) H1):
  Aak K (.ref a) none (some 4) H Q\/ZU K (.ref a) none (some 4) H Q:=by
 rcases hx with hx | hx
 ·refine .inl ⟨a,_,rfl,hx,fun p hp=>?_⟩;rw[TR];exact h p _ (.lst p) (Gu hp) (.inl rfl) (SqL.of Gn)
 ·refine .inr ⟨a,_,rfl,hx,LJ x,fun p hp=>?_⟩;rw[TR];exact h p _ (.tup p) (Gu hp) (.inr rfl) (SqT.of Gn)
theorem ix4{K:Gh}{H:Hp}{a:FP}{x:Iv}{Q:VK}(hx:SqL K H a (ivV x)\/SqT K H a (ivV x))(h:Q (.int (x.d:Int)) H):rIx K (.ref a) (.int 4) H Q:=by
 rcases hx with hx | hx
 ·exact .inl ⟨a,_,_,_,rfl,rfl,hx,Ie (j:=4) rfl rfl,h⟩
 ·exact .inr (.inl ⟨a,_,_,_,rfl,rfl,hx,Ie (j:=4) rfl rfl,h⟩)
theorem Mi{K:Gh}{H H':Hp}{a:FP}{xs:List V}(e:Same H H')(h:SqL K H a xs\/SqT K H a xs):SqL K H' a xs\/SqT K H' a xs:=h.imp (fun q=>e.seq q) fun q=>e.tup q
def GF(x y:Iv):Iv:=⟨y.a*(x.d:Int)+x.a*(y.d:Int),y.b*(x.d:Int)+x.b*(y.d:Int),y.c*(x.d:Int)+x.c*(y.d:Int),y.e*(x.d:Int)+x.e*(y.d:Int),y.d*x.d⟩
theorem W2(x y:Iv):y.plus x=(GF x y).low:=rfl
theorem Aad(z:Iv):[z.a / (z.common:Int),z.b / (z.common:Int),z.c / (z.common:Int),z.e / (z.common:Int),(z.d:Int) / (z.common:Int)].map V.int=ivV z.low:=by show[V.int _,.int _,.int _,.int _,.int _]=[V.int _,.int _,.int _,.int _,.int _];rw[<-BV];rfl
abbrev upN:List Str:=["x","y","numbers","common","a","b","number"]
theorem Nd:FnScope upN ["x","y"] (Gq LV):=⟨rfl,rfl,rfl,by decide +kernel,rfl,by decide +kernel,by decide +kernel⟩
theorem Mh:Gf "tuple"=some (.type "tuple"):=by decide +kernel
theorem V3{f:FP}{fd:FZ}(F:Fun K "upon" "upon" LV f fd)(T:Txt K mg B C)(zt:mg "tuple"=none)(DC:Dfn P w K mg base C 2 "common_factor_of_all" ["numbers"] (XS K)):
  FnOk P w K mg base (CXF P w C) 3 f fd ["x","y"] (VC K):=by
 refine F.okX Nd (fun vs H Q E h=>?_) (fun cdv A outer s H vs Q E hr h=>?_)
 ·obtain⟨a,b,x,y,rfl,_⟩:=h;rfl
 ·obtain⟨a,b,x,y,rfl,hx,hy,okx,oky,kQ⟩:=h;obtain⟨xa,xb,xc,xe,xd1,xd2,_⟩:=HV okx;obtain⟨ya,yb,yc,ye,yd1,yd2,_⟩:=HV oky;refine⟨_,Gm (Nw (i:=2) (own:=[("a",4),("b",5)]) (g:=RF K 2 (JH (HY 4) (JH (HY 5) Rb))) (te:=tOp (rI0 fun i j=>.int (i+j)) (tOp (rI CMul fun i j=>.int (i*j)) (Hw 4) (tOp (Vr K) (Hw 1) (tC (.int 4)))) (tOp (rI CMul fun i j=>.int (i*j)) (Hw 5) (tOp (rIx K) (Hw 0) (tC (.int 4))))) rfl Nd.nd rfl rfl rfl
     (W6 (by rfl) T.zip (Gk (JN (WZ.or LS) (pv 0) KC (KB Gv)) (Gk (JN LS (pv 1) KC (KB Gv)) Go)))
     (show BlkOk upN (Gq LV) _ [("a",4),("b",5)] from ⟨rfl,by decide +kernel,by decide +kernel,by decide +kernel,by decide +kernel⟩)
     (fun _ _ _ _ _=>Jm rfl (GX (GJ (i:=4) Nd.nd rfl (Or.inl rfl)) (GX (GJ (i:=5) Nd.nd rfl (Or.inl rfl)) Il))) (fun _ _ _ _ _=>Ip)
     (fun _ _ _ _ _=>GU Kl (GU JB (pv 4) (HJ IS (pv 1) Gv (fun _ _=>rfl))) (GU JB (pv 5) (HJ UN (pv 0) Gv (fun _ _=>rfl)))))
   (Gm (GB (IN AC AB AA G6 (pv 2) (Gk (GU JB (HJ UN (pv 0) Gv (fun _ _=>rfl)) (HJ IS (pv 1) Gv (fun _ _=>rfl))) Go)))
   (Gm (Gw (i:=3) Nd.nd rfl (Or.inr rfl) (GQ DC hr rfl (Gk (pv 2) Go)))
   (Gp (Gz (LY KM (by rfl) zt Mh (Gk (Mu (own:=[("number",6)]) (g:=HY 6) (te:=tOp (rI YS fun i j=>.int (i / j)) (Hw 6) (Hw 3)) rfl Nd.nd (Ik (pv 2))
     (show BlkOk upN (Gq LV) _ [("number",6)] from ⟨rfl,by decide +kernel,by decide +kernel,by decide +kernel,by decide +kernel⟩)
     (fun _ _ _ _ _=>GJ (i:=6) Nd.nd rfl (Or.inl rfl)) (fun _ _ _ _ _=>Ip)
     (fun _ _ _ _ _=>GU Jt (pv 6) (pv 3))) Go)))))),?_⟩
  have hr4:∀{H1:Hp},Same H H1->SqT K H1 b (ivV y):=fun sm=>sm.tup hy;refine⟨_,rfl,_,rfl,sl4 hx fun p H1 r1 s1 hr1 hs1=>?_⟩;refine⟨_,rfl,_,rfl,b,_,rfl,hr4 s1,LJ y,fun p2 hp2=>?_⟩;rw[TR];have s12:=Gu (o:=.tup [.int y.a,.int y.b,.int y.c,.int y.e]) hp2;have s2:=s1.trans s12;have nms:[x.a*(y.d:Int)+y.a*(x.d:Int),x.b*(y.d:Int)+y.b*(x.d:Int),x.c*(y.d:Int)+y.c*(x.d:Int),x.e*(y.d:Int)+y.e*(x.d:Int)]=[(GF x y).a,(GF x y).b,(GF x y).c,(GF x y).e]:=by unfold GF;simp only[Int.add_comm]
  refine⟨p,p2,_,_,rfl,r1,.tup p2,hr1,.inr rfl,hs1.same s12,SqT.of Gn,fun D hD=>Wl (K:=K) (xs:=[.int x.a,.int x.b,.int x.c,.int x.e]) (ys:=[.int y.a,.int y.b,.int y.c,.int y.e]) (zs:=[(GF x y).a,(GF x y).b,(GF x y).c,(GF x y).e].map V.int) (hs1.same s12) (SqT.of Gn) rfl rfl (by show 4<=1000;decide) hD ?_ ?_⟩
  ·intro i u v z Hi TT hu hv hz sHi hT R Z hR;obtain⟨n,m,rfl,rfl,rfl,hn,hm⟩:∃n m:Int,u=.int n/\v=.int m/\z=.int (n*(y.d:Int)+m*(x.d:Int))/\(-99<=n/\n<=99)/\(-99<=m/\m<=99):=by
    rw[<-nms] at hz
    match i,hu,hv,hz with
    |0,hu,hv,hz=>cases hu;cases hv;cases hz;exact⟨_,_,rfl,rfl,rfl,xa,ya⟩
    |1,hu,hv,hz=>cases hu;cases hv;cases hz;exact⟨_,_,rfl,rfl,rfl,xb,yb⟩
    |2,hu,hv,hz=>cases hu;cases hv;cases hz;exact⟨_,_,rfl,rfl,rfl,xc,yc⟩
    |3,hu,hv,hz=>cases hu;cases hv;cases hz;exact⟨_,_,rfl,rfl,rfl,xe,ye⟩
    |i+4,hu,_,_=>simp at hu
   have sI:=s2.trans sHi;refine⟨TT,_,rfl,SqT.of hT,rfl,_,_,rfl,_,_,rfl,rfl,rfl,?_⟩;refine⟨_,rfl,_,rfl,b,_,_,_,rfl,rfl,hr4 sI,Ie (j:=4) rfl rfl,_,_,rfl,rfl,.inl ⟨by lia,by lia⟩,?_⟩;exact⟨_,rfl,_,rfl,ix4 (Mi sI hx) ⟨_,_,rfl,rfl,.inl ⟨by lia,by lia⟩,_,_,rfl,rfl,hR⟩⟩
  ·intro H2 sm2 hd;have s3:=s2.trans sm2;have dD:H D=none:=by
    cases q:H D with
    |none=>rfl
    |some o=>rw[s2 _ _ q] at hD;cases hD
   refine⟨_,rfl,.inl ⟨rfl,_,SqL.of hd⟩,?_⟩;refine⟨_,rfl,ix4 (Mi s3 hx) ⟨_,rfl,b,_,_,_,rfl,rfl,hr4 s3,Ie (j:=4) rfl rfl,_,_,rfl,rfl,.inl ⟨by lia,by lia⟩,?_⟩⟩;refine⟨D,_,_,rfl,rfl,hd,(by show 4<FT;decide),?_⟩;have e5:([(GF x y).a,(GF x y).b,(GF x y).c,(GF x y).e].map V.int++[V.int ((x.d:Int)*(y.d:Int))])=[(GF x y).a,(GF x y).b,(GF x y).c,(GF x y).e,((GF x y).d:Int)].map V.int:=by show _=[V.int _,.int _,.int _,.int _,.int ((y.d*x.d:Nat):Int)];rw[B5,Int.mul_comm (y.d:Int)];rfl
   rw[e5];generalize hH3:upd H2 D (.lst ([(GF x y).a,(GF x y).b,(GF x y).c,(GF x y).e,((GF x y).d:Int)].map V.int))=H3;have hd3:H3 D=some (.lst ([(GF x y).a,(GF x y).b,(GF x y).c,(GF x y).e,((GF x y).d:Int)].map V.int)):=by rw[<-hH3];exact Gn
   have s3':Same H H3:=fun c o hc=>by rw[<-hH3,Gr (Gs hc dD)];exact s3 _ _ hc
   refine⟨_,rfl,D,_,rfl,SqL.of hd3,?_⟩;rw[Ta];have eU:(⟨(GF x y).a,(GF x y).b,(GF x y).c,(GF x y).e,(GF x y).d⟩:Iv)=GF x y:=rfl;rw[eU];have c1:=(KR (GF x y)).1;have dpos:0<(GF x y).d:=E4 yd1 xd1;have cpos:0<(GF x y).common:=ET c1 dpos;have cle:(GF x y).common<=576:=Ak (Ey dpos c1) (Ak (Cu yd2 xd2) (by decide));refine⟨_,rfl,D,rfl,⟨_,SqL.of hd3⟩,fun D2 hD2=>Pc (K:=K) (a:=D) (xs:=[(GF x y).a,(GF x y).b,(GF x y).c,(GF x y).e,((GF x y).d:Int)].map V.int) (fun i H'=>Same H3 H'/\H' D2=some (.lst ((([(GF x y).a / ((GF x y).common:Int),(GF x y).b / ((GF x y).common:Int),(GF x y).c / ((GF x y).common:Int),(GF x y).e / ((GF x y).common:Int),((GF x y).d:Int) / ((GF x y).common:Int)]).map V.int).take i))) ⟨Gu hD2,Gn⟩ (fun i H' _ q=>SqL.of (q.1 _ _ hd3)) ?_ ?_⟩
   ·rintro i v H' hv ⟨sm4,hd4⟩;obtain⟨n,rfl,hn⟩:∃n:Int,v=.int n/\(([(GF x y).a / ((GF x y).common:Int),(GF x y).b / ((GF x y).common:Int),(GF x y).c / ((GF x y).common:Int),(GF x y).e / ((GF x y).common:Int),((GF x y).d:Int) / ((GF x y).common:Int)]).map V.int)[i]?=some (.int (n / ((GF x y).common:Int))):=by
     match i,hv with
     |0,hv=>cases hv;exact⟨_,rfl,rfl⟩
     |1,hv=>cases hv;exact⟨_,rfl,rfl⟩
     |2,hv=>cases hv;exact⟨_,rfl,rfl⟩
     |3,hv=>cases hv;exact⟨_,rfl,rfl⟩
     |4,hv=>cases hv;exact⟨_,rfl,rfl⟩
     |i+5,hv=>simp at hv
    refine⟨rfl,_,rfl,_,rfl,_,_,rfl,rfl,⟨by lia,by lia⟩,_,hd4,?_,fun c o hc=>?_,?_⟩
    ·rw[Ax];exact Ar (Bc _ _) (by show 5<FT;decide)
    ·rw[Gr (Gs hc hD2)];exact sm4 _ _ hc
    ·rw[Gn,B8,hn];rfl
   ·rintro H' ⟨sm4,hd4⟩;have s5:=s3'.trans sm4;refine⟨D2,_,rfl,.inl ⟨SqL.of hd4,fun l hl=>?_⟩⟩;have nl:H l=none:=by
     cases q:H l with
     |none=>rfl
     |some o=>rw[s5 _ _ q] at hl;cases hl
    refine kQ _ l (s5.trans (Gu hl)) nl ?_;rw[Gn,W2,<-Aad];rfl
end
end Lu
namespace Lu
open PySem PySem.Spec PyProof.Rows L2 Lute LuR LuW LuI
def N9(C:FP)(E:XK):Prop:=∀x:Nat,Err C E x
structure TxI(K:Gh)(mg:Str->Option FO):Prop where
 cMLD:Cst mg "MOST_LENGTH_DIGITS" (.int 7)
 cLL:Cst mg "LEAST_LENGTH" (.int 10000)
 cMLG:Cst mg "MOST_LENGTH" (.int 200000)
 cMF:Cst mg "MOST_FRETS" (.int 15)
 cMC:Cst mg "MOST_COURSES" (.int 14)
 cSC:Cst mg "STOPPED_COURSES" (.int 6)
 cLB:Cst mg "LETTER_B" (.int 98)
 cLC:Cst mg "LETTER_C" (.int 99)
 cLF:Cst mg "LETTER_F" (.int 102)
 uni:∃a,Cst mg "UNISON" (.ref a)/\∀H,SqT K H a (ivV unison)
theorem Ur(t:Bytes):t.take (lnT t).length=lnT t:=by unfold lnT;have h:=congrArg (List.take (t.takeWhile fun c:UInt8=>c != 10).length) (List.takeWhile_append_dropWhile (p:=fun c:UInt8=>c != 10) (l:=t));rw[List.take_left] at h;exact h.symm
theorem UK{c:UInt8}{r:Bytes}(h:c≠10):lnT (c::r)=c::lnT r:=by unfold lnT;rw[E8,Gj (bne_iff_ne.mpr h)]
theorem Wt{r:Bytes}:lnT (10::r)=[]:=by unfold lnT;rw[E8,Gi (by decide)]
theorem AaB(h:Int):inV (.int h) [.int 10,.int (-1)]=(decide (h=10) || decide (h=-1)):=by
 unfold inV;simp only[Cz,List.any_nil,FN,eqV];rw[BH];simp only[Bn,beq_iff_eq,decide_eq_true_eq]
 lia
def V0(K:Gh)(B C:FP):Sp:=fun vs H Q E=>∃(c a:FP) (t:Bytes) (p e:Nat),vs=[.ref c]/\Cur K B H c a t p e ∧
 match HD p (lnT (st t p e)) with
 |.error x=>Err C E x
 |.ok x=>∀(H':Hp) (b:FP),Cur K B H' c a t (p+(lnT (st t p e)).length) e->Keep H H' c->H' b=some (.tup (ivV x))->x.ok=true->Q (.ref b) H'
def Xt(K:Gh)(B C:FP):Sp:=fun vs H Q E=>∃(c a:FP) (t:Bytes) (p e:Nat) (x:Str) (l:Bytes) (n k:Int),vs=[.ref c,.str x,.int n,.int k]/\Wd x l/\Cur K B H c a t p e/\(n=k->N9 C E) ∧
 (∀y,Af (l++[32]) p (st t p e)=.error y->N9 C E) ∧
 ∀q u,n≠k->Af (l++[32]) p (st t p e)=.ok ((),q,u)->∀H':Hp,Cur K B H' c a t q e->Keep H H' c->u=st t q e->Q .non H'
def Z6(K:Gh)(B C:FP):Sp:=fun vs H Q E=>∃(c a:FP) (t:Bytes),vs=[.ref c]/\Cur K B H c a t 0 t.length ∧
 (∀y,KU t=.error y->N9 C E)/\∀n q u,KU t=.ok (n,q,u)->∀H':Hp,Cur K B H' c a t q t.length->Keep H H' c->u=st t q t.length->Q .non H'
def O2(k n pos:Nat)(r:Bytes):Rd Nat:=if k=0 then longNumber pos r else moreDigits (7-k) n pos r
theorem Tc{n pos:Nat}{b:UInt8}{r:Bytes}(b1:48<=b.toNat)(b2:b.toNat<=57):O2 7 n pos (b::r)=.error pos:=by unfold O2;rw[Gi (by decide)];show moreDigits 0 n pos (b::r)=_;unfold moreDigits;rw[Ji b1 b2]
theorem Tp{k n pos:Nat}{b:UInt8}{r:Bytes}(b1:48<=b.toNat)(b2:b.toNat<=57)(hk:k<7)(h0:k=0->n=0/\b≠48):O2 k n pos (b::r)=O2 (k+1) (n*10+(b.toNat-48)) (pos+1) r:=by
 unfold O2;rw[Gi (Ee k)];by_cases k0:k=0
 ·obtain⟨n0,hb⟩:=h0 k0;rw[Gj k0,k0,n0];unfold longNumber;dsimp only;rw[Ji b1 b2];have:b.toNat≠48:=fun z=>hb (A9.mp z);obtain⟨m,hm⟩:∃m,b.toNat-48=m+1:=⟨b.toNat-49,by lia⟩;rw[hm];show moreDigits 6 (m+1) (pos+1) r=moreDigits 6 (0*10+(m+1)) (pos+1) r;rw[show 0*10+(m+1)=m+1 by lia]
 ·rw[Gi k0];obtain⟨f,hf⟩:∃f,7-k=f+1:=⟨6-k,by lia⟩;rw[hf]
  conv=>lhs;unfold moreDigits
  rw[Ji b1 b2];show moreDigits f (10*n+(b.toNat-48)) (pos+1) r=_;rw[Do 10 n,show 7-(k+1)=f by lia]
theorem Uy{k n pos:Nat}{r:Bytes}(h:∀c u,r=c::u->¬(48<=c.toNat/\c.toNat<=57)):O2 k n pos r=if k=0 then .error pos else .ok (n,pos,r):=by
 unfold O2;by_cases k0:k=0
 ·rw[Gj k0,Gj k0];cases r with
  |nil=>rfl
  |cons c u=>unfold longNumber;dsimp only;rw[Kt (h c u rfl)]
 ·rw[Gi k0,Gi k0];cases r with
  |nil=>unfold moreDigits;rfl
  |cons c u=>unfold moreDigits;rw[Kt (h c u rfl)]
section
variable{P:FU}{w:F0}{K:Gh}{mg:Str->Option FO}{base:Heap}{B C:FP}
theorem ZI:FnScope ["cursor","start"] ["cursor"] (Gq Hu):=⟨rfl,rfl,rfl,by decide +kernel,rfl,by decide +kernel,by decide +kernel⟩
theorem YE{f:FP}{fd:FZ}(F:Fun K "read_line_interval" "read_line_interval" Hu f fd)(T:Txt K mg B C)(M:Crs P w K mg base B C)(DV:Dfn P w K mg base C 7 "read_interval" ["text","start","end"] (MY K C)):
  FnOk P w K mg base (CXF P w C) 8 f fd ["cursor"] (V0 K B C):=by
 refine F.okX ZI (fun vs H Q E h=>?_) (fun cdv A outer s H vs Q E hr h=>?_)
 ·obtain⟨c,a,t,p,e,rfl,_⟩:=h;rfl
 ·obtain⟨c,a,t,p,e,rfl,u,k⟩:=h;obtain⟨dx,hc⟩:=u.at_;have hr1:=hr.mono (show 1<=7 by decide);refine⟨_,Gm (Gw (i:=1) ZI.nd rfl (Or.inl rfl) (G2 (pv 0) rfl))
   (Gm (HN IC (Gy Pz (GH M.byte hr1 (pv 0)) (Hn (Gk (Gx T.cNL) (Gk (Gx T.cEND) Go))) (by with_unfolding_all rfl)) (Gp (GB (GH M.adv hr1 (pv 0)))))
   (Gp (Gz (GQ DV hr rfl (Gk (G2 (pv 0) rfl) (Gk (pv 1) (Gk (G2 (pv 0) rfl) Go))))))),?_⟩
  refine⟨_,rfl,c,B,dx,_,_,rfl,hc,T.cl,T.nP,GM _ _ _,?_⟩;refine⟨fun m σ H'=>∃(pos:Nat),m=e-pos/\σ=[some (.ref c),some (.int (p:Int))]/\Cur K B H' c a t pos e/\Keep H H' c/\p<=pos/\(lnT (st t p e)).length=pos-p+(lnT (st t pos e)).length,
   ⟨_,p,rfl,rfl,u,Keep.refl _ _,Ah _,by lia⟩,?_⟩
  rintro m σ H1 ⟨pos,rfl,rfl,u1,kp,hpp,inv⟩;obtain⟨dx1,hc1⟩:=u1.at_;refine⟨_,rfl,c,dx1,_,rfl,hc1,GO _ _ _ (by decide) (by decide) (by decide),c,a,t,pos,e,rfl,u1,(by show 2<=FT;decide),fun b hb=>?_⟩;have s2:Same H1 (upd H1 b (.tup [.int 10,.int (-1)])):=Gu hb;have u2:=u1.same s2;have hc2:=s2 _ _ hc1;refine⟨b,_,rfl,.inr (SqT.of Gn),rfl,rfl,_,rfl,?_⟩;show if (!inV (.int (GA (st t pos e))) [.int 10,.int (-1)])=true then _ else _;rw[AaB];refine GV (fun h=>?_) fun h=>?_
  ·rw[C6,EX,decide_eq_false_iff_not,decide_eq_false_iff_not] at h;obtain⟨z,r,hz⟩:=La h.2;have hst:=HE hz;have hlt:=IV u1.len hz;rw[hz] at h inv;have z2:z≠10:=fun q=>h.1 (by rw[q];rfl);rw[UK z2,Ad] at inv;refine⟨fun σ' H'=>σ'=[some (.ref c),some (.int (p:Int))]/\Cur K B H' c a t (pos+1) e/\Keep H H' c,?_,?_⟩
   ·rintro σ' H' ⟨rfl,u',kp'⟩;exact⟨_,by lia,pos+1,rfl,rfl,u',kp',by lia,by rw[hst];lia⟩
   ·refine⟨_,rfl,c,dx1,_,rfl,hc2,GO _ _ _ (by decide) (by decide) (by decide),c,dx1,a,pos,e,rfl,hc2,fun H3 h3 k3=>?_⟩;exact⟨rfl,u2.move k3 ⟨dx1,h3⟩ hlt,(kp.trans (Keep.of s2)).trans k3⟩
  ·have h':GA (st t pos e)=10\/GA (st t pos e)=-1:=by
    by_cases q:GA (st t pos e)=10\/GA (st t pos e)=-1
    ·exact q
    ·refine absurd ?_ h;rw[C6,EX,decide_eq_false_iff_not,decide_eq_false_iff_not];exact⟨fun z=>q (.inl z),fun z=>q (.inr z)⟩
   have hnil:lnT (st t pos e)=[]:=by
    rcases h' with q | q
    ·obtain⟨r,hr0⟩:=GP (z:=10) q;rw[hr0];exact Wt
    ·rw[Kw q];rfl
   rw[hnil] at inv;have hl:(lnT (st t p e)).length=pos-p:=by simpa using inv
   have en:st t p pos=lnT (st t p e):=by rw[<-Ur,hl,Xk u1.le]
   refine⟨_,rfl,c,B,dx1,_,_,rfl,hc2,T.cl,T.nT,R3 _ _ _,_,rfl,_,rfl,c,B,dx1,_,_,rfl,hc2,T.cl,T.nP,GM _ _ _,a,t,p,pos,rfl,u2.txt,hpp,Ak u1.le u1.len,?_⟩;rw[en];cases hR:HD p (lnT (st t p e)) with
   |error x=>rw[hR] at k;exact k
   |ok x=>rw[hR] at k;intro H' b' s' hb' hok;refine k H' b' ?_ ((kp.trans (Keep.of s2)).trans (Keep.of s')) hb' hok;rw[show p+(lnT (st t p e)).length=pos by lia];exact u2.same s'
theorem ZH:FnScope ["cursor","word","lines_before","most","start"] ["cursor","word","lines_before","most"] (Gq IX):=⟨rfl,rfl,rfl,by decide +kernel,rfl,by decide +kernel,by decide +kernel⟩
theorem Aaa{f:FP}{fd:FZ}(F:Fun K "begin_line" "begin_line" IX f fd)(T:Txt K mg B C)(MT:Mth P w K mg base C B 3 "take" ["self","wanted"] (IB K B C))(MW:Mth P w K mg base C B 4 "take_word" ["self","word"] (Pe K B C)):
  FnOk P w K mg base (CXF P w C) 5 f fd ["cursor","word","lines_before","most"] (Xt K B C):=by
 refine F.okX ZH (fun vs H Q E h=>?_) (fun cdv A outer s H vs Q E hr h=>?_)
 ·obtain⟨c,a,t,p,e,x,l,n,k,rfl,_⟩:=h;rfl
 ·obtain⟨c,a,t,p,e,x,l,n,k,rfl,hw,u,kF,kE,kQ⟩:=h;obtain⟨dx,hc⟩:=u.at_;have hr2:=hr.mono (show 2<=4 by decide);have hr3:=hr.mono (show 3<=4 by decide);refine⟨_,Gm (Gw (i:=4) ZH.nd rfl (Or.inl rfl) (G2 (pv 0) rfl))
   (Gm (GB (Kr MW hr (pv 0) (Gk (pv 1) Go)))
   (Gm (GS (Gy Ho (pv 2) (pv 3) (GC _)) (Gp (GT T.xt hr2 rfl T.mC (pv 4))) GD)
   (Gp (GB (Kr MT hr3 (pv 0) (Gk (Gx T.cBI) Go)))))),?_⟩
  refine⟨_,rfl,c,B,dx,_,_,rfl,hc,T.cl,T.nP,GM _ _ _,?_⟩;refine⟨_,rfl,c,dx,_,rfl,hc,GO _ _ _ (by decide) (by decide) (by decide),_,rfl,c,a,t,p,e,x,l,rfl,hw,u,fun y hy=>kE y (Uu hy) y,fun q v hq H2 u2 k2 hv=>?_⟩;refine⟨_,rfl,_,rfl,rfl,_,rfl,?_⟩;rw[HB];refine GV (fun h=>?_) fun h=>?_
  ·have h':n=k:=of_decide_eq_true h;exact⟨_,rfl,_,rfl,fun d hd=>kF h' p _ d Gn⟩
  ·have h':¬n=k:=fun z=>h (decide_eq_true z);obtain⟨dx2,hc2⟩:=u2.at_;have hj:=WX (m:=[32]) hq;rw[Jh] at hj;subst hv;refine⟨_,rfl,c,dx2,_,rfl,hc2,GO _ _ _ (by decide) (by decide) (by decide),c,a,t,q,e,32,rfl,u2,fun hB=>?_,fun hB=>?_⟩
   ·intro H3 u3 k3;rw[Gj hB,Hg] at hj;exact kQ _ _ h' hj H3 u3 (k2.trans k3) rfl
   ·rw[Gi hB] at hj;exact kE _ hj _
theorem WD:FnScope ["cursor","start","number"] ["cursor"] (Gq Hv):=⟨rfl,rfl,rfl,by decide +kernel,rfl,by decide +kernel,by decide +kernel⟩
theorem ZW{f:FP}{fd:FZ}(F:Fun K "read_string_length" "read_string_length" Hv f fd)(T:Txt K mg B C)(TI:TxI K mg)(M:Crs P w K mg base B C)(MT:Mth P w K mg base C B 3 "take" ["self","wanted"] (IB K B C))(MW:Mth P w K mg base C B 4 "take_word" ["self","word"] (Pe K B C)):
  FnOk P w K mg base (CXF P w C) 5 f fd ["cursor"] (Z6 K B C):=by
 refine F.okX WD (fun vs H Q E h=>?_) (fun cdv A outer s H vs Q E hr h=>?_)
 ·obtain⟨c,a,t,rfl,_⟩:=h;rfl
 ·obtain⟨c,a,t,rfl,u,kE,kQ⟩:=h;obtain⟨dx,hc⟩:=u.at_;have hr1:=hr.mono (show 1<=4 by decide);have hr2:=hr.mono (show 2<=4 by decide);have hr3:=hr.mono (show 3<=4 by decide);refine⟨_,Gm (GB (Kr MW hr (pv 0) (Gk HH Go)))
   (Gm (Gw (i:=1) WD.nd rfl (Or.inl rfl) (G2 (pv 0) rfl))
   (Gm (GS (Gy Ho (GH M.byte hr1 (pv 0)) (Gx T.cZERO) (GC _)) (Gp (GT T.xt hr2 rfl T.mC (pv 1))) GD)
   (Gm (Gw (i:=2) WD.nd rfl (Or.inl rfl) Gv)
   (Gm (HN IC (Ni KO KO (Gx T.cZERO) (GH M.byte hr1 (pv 0)) (Gx T.cNINE))
    (Gm (GS (Gy Ho (GU JC (G2 (pv 0) rfl) (pv 1)) (Gx TI.cMLD) (GC _)) (Gp (GT T.xt hr2 rfl T.mC (G2 (pv 0) rfl))) GD)
    (Gm (Gw (i:=2) WD.nd rfl (Or.inl rfl) (GU JC (GU Kl (GU JB (pv 2) Gv) (GH M.byte hr1 (pv 0))) (Gx T.cZERO)))
    (Gp (GB (GH M.adv hr1 (pv 0)))))))
   (Gm (GS (NI (Ni KO KO (Gx TI.cLL) (pv 2) (Gx TI.cMLG))) (Gp (GT T.xt hr2 rfl T.mC (pv 1))) GD)
   (Gp (GB (Kr MT hr3 (pv 0) (Gk (Gx T.cNL) Go))))))))),?_⟩
  refine⟨_,rfl,c,dx,_,rfl,hc,GO _ _ _ (by decide) (by decide) (by decide),c,a,t,0,t.length,"length ",wL,rfl,(by unfold Wd;decide +kernel),u,fun y hy=>?_,fun q v hq H2 u2 k2 hv=>?_⟩
  ·rw[Ny,CY] at hy;refine kE y ?_ y;unfold KU;rw[hy]
  ·rw[Ny,CY] at hq;subst hv;have eR:KU t=QZ q (st t q t.length):=by unfold KU;rw[hq]
   rw[eR] at kE kQ;clear eR;obtain⟨dx2,hc2⟩:=u2.at_;refine⟨_,rfl,c,B,dx2,_,_,rfl,hc2,T.cl,T.nP,GM _ _ _,?_⟩;refine⟨_,rfl,c,dx2,_,rfl,hc2,GO _ _ _ (by decide) (by decide) (by decide),c,a,t,q,t.length,rfl,u2,rfl,_,rfl,?_⟩;rw[HB];refine GV (fun h=>?_) fun h=>?_
   ·have h':GA (st t q t.length)=((48:UInt8).toNat:Int):=of_decide_eq_true h;obtain⟨r,hr0⟩:=GP h';refine⟨_,rfl,_,rfl,fun d hd=>kE q ?_ q _ d Gn⟩;rw[hr0];rfl
   ·have h48:¬GA (st t q t.length)=((48:UInt8).toNat:Int):=fun z=>h (decide_eq_true z);refine⟨fun m σ H'=>∃(pos n:Nat),m=t.length-pos/\σ=[some (.ref c),some (.int (q:Int)),some (.int (n:Int))]/\Cur K B H' c a t pos t.length/\Keep H H' c/\q<=pos/\pos-q<=7/\(pos-q=0->n=0)/\longNumber q (st t q t.length)=O2 (pos-q) n pos (st t pos t.length),
     ⟨_,q,0,rfl,rfl,u2,k2,Ah _,by lia,fun _=>rfl,by rw[B4];rfl⟩,?_⟩
    rintro m σ H3 ⟨pos,n,rfl,rfl,u3,k3,hpp,h7,h0,inv⟩;obtain⟨dx3,hc3⟩:=u3.at_;refine⟨_,rfl,c,dx3,_,rfl,hc3,GO _ _ _ (by decide) (by decide) (by decide),c,a,t,pos,t.length,rfl,u3,_,_,rfl,rfl,_,rfl,?_⟩;by_cases hdig:48<=GA (st t pos t.length)/\GA (st t pos t.length)<=57
    ·refine GV (fun _=>?_) fun z=>absurd (decide_eq_true hdig.1) z;refine⟨_,_,rfl,rfl,_,rfl,GV (fun _=>?_) fun z=>absurd (decide_eq_true hdig.2) z⟩;obtain⟨b,r,hr0,b1,b2⟩:=OL hdig.1 hdig.2;have hst:=HE hr0;have hlt:=IV u3.len hr0;refine⟨fun σ' H'=>∃(n':Nat),σ'=[some (.ref c),some (.int (q:Int)),some (.int (n':Int))]/\Cur K B H' c a t (pos+1) t.length/\Keep H H' c/\pos+1-q<=7/\longNumber q (st t q t.length)=O2 (pos+1-q) n' (pos+1) (st t (pos+1) t.length),?_,?_⟩
     ·rintro σ' H' ⟨n',rfl,u',kp',hk',inv'⟩;exact⟨t.length-(pos+1),by lia,pos+1,n',rfl,rfl,u',kp',by lia,hk',by lia,inv'⟩
     ·refine⟨_,rfl,c,B,dx3,_,_,rfl,hc3,T.cl,T.nP,GM _ _ _,_,rfl,_,_,rfl,rfl,rfl,_,rfl,?_⟩;rw[HB];refine GV (fun h=>?_) fun h=>?_
      ·have h':(pos:Int)-(q:Int)=7:=of_decide_eq_true h;rw[hr0,show pos-q=7 by lia,Tc b1 b2] at inv;refine⟨_,rfl,c,B,dx3,_,_,rfl,hc3,T.cl,T.nP,GM _ _ _,_,rfl,fun d hd=>kE pos ?_ pos _ d Gn⟩;unfold QZ;rw[inv]
      ·have h':¬(pos:Int)-(q:Int)=7:=fun z=>h (decide_eq_true z);have k0:pos-q=0->n=0/\b≠48:=fun z=>⟨h0 z,fun zz=>by
        have e1:pos=q:=by lia
        rw[<-e1,hr0,zz] at h48;exact h48 rfl⟩
       rw[hr0,Tp b1 b2 (by lia) k0] at inv;refine⟨_,rfl,_,_,rfl,rfl,.inr ⟨by decide,by decide⟩,_,rfl,c,dx3,_,rfl,hc3,GO _ _ _ (by decide) (by decide) (by decide),c,a,t,pos,t.length,rfl,u3,_,_,rfl,rfl,_,_,rfl,rfl,?_⟩;refine⟨_,rfl,c,dx3,_,rfl,hc3,GO _ _ _ (by decide) (by decide) (by decide),c,dx3,a,pos,t.length,rfl,hc3,fun H4 h4 k4=>?_⟩;refine⟨n*10+(b.toNat-48),?_,u3.move k4 ⟨dx3,h4⟩ hlt,k3.trans k4,by lia,?_⟩
       ·rw[hr0];show _=[some (V.ref c),some (V.int (q:Int)),some (V.int ((n*10+(b.toNat-48):Nat):Int))];have:(n:Int)*10+(b.toNat:Int)-48=((n*10+(b.toNat-48):Nat):Int):=by lia
        rw[<-this];rfl
       ·rw[hst,show pos+1-q=pos-q+1 by lia];exact inv
    ·have inv2:=inv.trans (Uy (Mt hdig));have eN:(pos-q=0\/n<10000\/200000<n)->∃x,QZ q (st t q t.length)=.error x:=fun z=>by
      unfold QZ;by_cases k0:pos-q=0
      ·rw[inv2,Gj k0];exact⟨_,rfl⟩
      ·rw[inv2,Gi k0];dsimp only;rw[Gj (z.resolve_left k0)];exact⟨_,rfl⟩
     have fin:∀(hh:¬(n<10000\/200000<n)) (kk:¬pos-q=0),QZ q (st t q t.length)=match Af [10] pos (st t pos t.length) with
       |.error e=>.error e
       |.ok (_,q,v)=>.ok (n,q,v):=fun hh kk=>by
      unfold QZ;rw[inv2,Gi kk];dsimp only;rw[Gi hh]
      all_goals (cases Af [10] pos (st t pos t.length) <;> rfl)
     refine GV (fun _=>?_) fun _=>?_
     ·refine⟨_,_,rfl,rfl,_,rfl,GV (fun z=>?_) fun _=>?_⟩
      ·rename_i hA;exact absurd ⟨of_decide_eq_true hA,of_decide_eq_true z⟩ hdig
      ·refine⟨_,rfl,_,_,rfl,rfl,_,rfl,?_⟩;refine GV (fun hA=>?_) fun hA=>?_
       ·refine⟨_,_,rfl,rfl,_,rfl,?_⟩;refine GV (fun hB=>?_) fun hB=>?_
        ·have hB':¬(n:Int)<=200000:=fun z=>by rw[decide_eq_true z] at hB;cases hB
         obtain⟨x,hx⟩:=eN (.inr (.inr (by lia)));exact⟨_,rfl,_,rfl,fun d hd=>kE x hx q _ d Gn⟩
        ·have hA':(10000:Int)<=(n:Int):=of_decide_eq_true hA;have hB':(n:Int)<=200000:=by
          by_cases z:(n:Int)<=200000
          ·exact z
          ·refine absurd ?_ hB;rw[decide_eq_false z];rfl
         have k0:¬pos-q=0:=fun z=>by
          have:=h0 z
          lia
         have ee:=fin (by lia) k0;rw[Jh] at ee;rw[ee] at kE kQ;refine⟨_,rfl,c,dx3,_,rfl,hc3,GO _ _ _ (by decide) (by decide) (by decide),c,a,t,pos,t.length,10,rfl,u3,fun hB=>?_,fun hB=>?_⟩
         ·intro H4 u4 k4;rw[Gj hB,Hg] at kQ;exact kQ n (pos+1) _ rfl H4 u4 (k3.trans k4) rfl
         ·rw[Gi hB] at kE;exact kE _ rfl _
       ·have hA':¬(10000:Int)<=(n:Int):=fun z=>hA (decide_eq_true z);obtain⟨x,hx⟩:=eN (.inr (.inl (by lia)));refine⟨_,rfl,GV (fun _=>?_) fun z=>absurd (by rfl) z⟩;exact⟨_,rfl,_,rfl,fun d hd=>kE x hx q _ d Gn⟩
     ·refine⟨_,rfl,GV (fun z=>by cases z) fun _=>?_⟩;refine⟨_,rfl,_,_,rfl,rfl,_,rfl,?_⟩;refine GV (fun hA=>?_) fun hA=>?_
      ·refine⟨_,_,rfl,rfl,_,rfl,?_⟩;refine GV (fun hB=>?_) fun hB=>?_
       ·have hB':¬(n:Int)<=200000:=fun z=>by rw[decide_eq_true z] at hB;cases hB
        obtain⟨x,hx⟩:=eN (.inr (.inr (by lia)));exact⟨_,rfl,_,rfl,fun d hd=>kE x hx q _ d Gn⟩
       ·have hA':(10000:Int)<=(n:Int):=of_decide_eq_true hA;have hB':(n:Int)<=200000:=by
         by_cases z:(n:Int)<=200000
         ·exact z
         ·refine absurd ?_ hB;rw[decide_eq_false z];rfl
        have k0:¬pos-q=0:=fun z=>by
         have:=h0 z
         lia
        have ee:=fin (by lia) k0;rw[Jh] at ee;rw[ee] at kE kQ;refine⟨_,rfl,c,dx3,_,rfl,hc3,GO _ _ _ (by decide) (by decide) (by decide),c,a,t,pos,t.length,10,rfl,u3,fun hB=>?_,fun hB=>?_⟩
        ·intro H4 u4 k4;rw[Gj hB,Hg] at kQ;exact kQ n (pos+1) _ rfl H4 u4 (k3.trans k4) rfl
        ·rw[Gi hB] at kE;exact kE _ rfl _
      ·have hA':¬(10000:Int)<=(n:Int):=fun z=>hA (decide_eq_true z);obtain⟨x,hx⟩:=eN (.inr (.inl (by lia)));refine⟨_,rfl,GV (fun _=>?_) fun z=>absurd (by rfl) z⟩;exact⟨_,rfl,_,rfl,fun d hd=>kE x hx q _ d Gn⟩
end
def OS(fs:List Iv)(p:Nat)(u:Bytes):Rd Iv:=lnR wF (decide (15<=fs.length)) (fun x=>(fs.getLastD unison).lt x) p u
def Jd(fs:List Iv)(n p:Nat)(u:Bytes):Rd Iv:=lnR wC (decide (14<=n)) (soundsAll fs) p u
def Nj(n p:Nat)(u:Bytes):Rd Iv:=lnR wB (decide (14<=n)) (fun _=>true) p u
def row(fs:List Iv)(n:Nat)(x:Iv):List Iv:=if n<6 then x::fs.map x.plus else [x]
def UY(K:Gh)(B C:FP):Sp:=fun vs H Q E=>∃(c a m:FP) (t:Bytes) (p e:Nat) (fs:List Iv),vs=[.ref c,.ref m]/\Cur K B H c a t p e/\NotesAt H m fs/\(∀x∈fs,x.ok=true)/\fs.length<=15 ∧
 (∀y,OS fs p (st t p e)=.error y->N9 C E) ∧
 ∀x q u,OS fs p (st t p e)=.ok (x,q,u)->∀(H':Hp) (b:FP),Cur K B H' c a t q e->Keep H H' c->u=st t q e->H' b=some (.tup (ivV x))->x.ok=true->Q (.ref b) H'
def P3(K:Gh)(B C:FP):Sp:=fun vs H Q E=>∃(c a m:FP) (t:Bytes) (p e n:Nat) (fs:List Iv),vs=[.ref c,.ref m,.int (n:Int)]/\Cur K B H c a t p e/\NotesAt H m fs/\(∀x∈fs,x.ok=true)/\fs.length<=15/\n<=14 ∧
 (∀y,Jd fs n p (st t p e)=.error y->N9 C E) ∧
 ∀x q u,Jd fs n p (st t p e)=.ok (x,q,u)->∀(H':Hp) (b:FP),Cur K B H' c a t q e->Keep H H' c->u=st t q e->H b=none->NotesAt H' b (row fs n x)->x.ok=true->Q (.ref b) H'
def Uz(K:Gh)(B C:FP):Sp:=fun vs H Q E=>∃(c a:FP) (t:Bytes) (p e n:Nat),vs=[.ref c,.int (n:Int)]/\Cur K B H c a t p e/\n<=14 ∧
 (∀y,Nj n p (st t p e)=.error y->N9 C E) ∧
 ∀x q u,Nj n p (st t p e)=.ok (x,q,u)->∀(H':Hp) (b:FP),Cur K B H' c a t q e->Keep H H' c->u=st t q e->H b=none->NotesAt H' b [x]->x.ok=true->Q (.ref b) H'
theorem Pa{fine:Iv->Bool}{q x:Nat}{u:Bytes}(h:HD q (lnT u)=.error x):ivT fine q u=.error x:=by unfold ivT;rw[h]
theorem Sq{fine:Iv->Bool}{q:Nat}{x:Iv}{u:Bytes}(h:HD q (lnT u)=.ok x)(hf:fine x=false):ivT fine q u=.error q:=by unfold ivT;rw[h];dsimp only;rw[hf,Gj rfl]
theorem Pq{fine:Iv->Bool}{q:Nat}{x:Iv}{u:Bytes}(h:HD q (lnT u)=.ok x)(hf:fine x=true):ivT fine q u=if GA (u.drop (lnT u).length)=((10:UInt8).toNat:Int) then .ok (x,q+(lnT u).length+1,(u.drop (lnT u).length).drop 1) else .error (q+(lnT u).length):=by
 unfold ivT;rw[h];dsimp only;rw[hf,Gi (by decide),Jh];by_cases z:GA (u.drop (lnT u).length)=((10:UInt8).toNat:Int)
 ·rw[Gj z,Gj z];rfl
 ·rw[Gi z,Gi z]
theorem NotesAt.one{H:Hp}{m b:FP}{x:Iv}(hm:H m=some (.lst [.ref b]))(hb:H b=some (.tup (ivV x))):NotesAt H m [x]:=
 ⟨[b],hm,rfl,fun i b' x' hb' hx'=>match i,hb',hx' with
  |0,hb',hx'=>by cases hb';cases hx';exact hb
  |i+1,hb',_=>by simp at hb'⟩
section
variable{P:FU}{w:F0}{K:Gh}{mg:Str->Option FO}{base:Heap}{B C:FP}
theorem WI:FnScope ["cursor","frets","start","fret","before"] ["cursor","frets"] (Gq Jy):=⟨rfl,rfl,rfl,by decide +kernel,rfl,by decide +kernel,by decide +kernel⟩
theorem WH{f:FP}{fd:FZ}(F:Fun K "read_fret" "read_fret" Jy f fd)(T:Txt K mg B C)(TI:TxI K mg)(MT:Mth P w K mg base C B 3 "take" ["self","wanted"] (IB K B C))
  (DB:Dfn P w K mg base C 5 "begin_line" ["cursor","word","lines_before","most"] (Xt K B C)) (DL:Dfn P w K mg base C 8 "read_line_interval" ["cursor"] (V0 K B C)) (DW:Dfn P w K mg base C 1 "width" ["interval"] (Lp K)):
  FnOk P w K mg base (CXF P w C) 9 f fd ["cursor","frets"] (UY K B C):=by
 refine F.okX WI (fun vs H Q E h=>?_) (fun cdv A outer s H vs Q E hr h=>?_)
 ·obtain⟨c,a,m,t,p,e,fs,rfl,_⟩:=h;rfl
 ·obtain⟨c,a,m,t,p,e,fs,rfl,u,hN,hok,h15,kE,kQ⟩:=h;obtain⟨dx,hc⟩:=u.at_;obtain⟨au,hau,hU⟩:=TI.uni;have hr1:=hr.mono (show 1<=8 by decide);have hr2:=hr.mono (show 2<=8 by decide);have hr3:=hr.mono (show 3<=8 by decide);have hr5:=hr.mono (show 5<=8 by decide);refine⟨_,Gm (GB (GQ DB hr5 rfl (Gk (pv 0) (Gk HH (Gk (G1 GY (by rfl) T.len PySem.boot_len (Gk (pv 1) Go)) (Gk (Gx TI.cMF) Go))))))
   (Gm (Gw (i:=2) WI.nd rfl (Or.inl rfl) (G2 (pv 0) rfl))
   (Gm (Gw (i:=3) WI.nd rfl (Or.inl rfl) (GQ DL hr rfl (Gk (pv 0) Go)))
   (Gm (Gw (i:=4) WI.nd rfl (Or.inl rfl) (QG (Li (pv 1) (fun _=>rfl)) (HJ Iu (pv 1) (Sb Pr Gv) (fun _ _=>rfl)) (Gx hau)))
   (Gm (GS (Gy KO (GQ DW hr1 rfl (Gk (pv 3) Go)) (GQ DW hr1 rfl (Gk (pv 4) Go)) (GC _)) (Gp (GT T.xt hr2 rfl T.mC (pv 2))) GD)
   (Gm (GB (Kr MT hr3 (pv 0) (Gk (Gx T.cNL) Go)))
   (Gp (Gz (pv 3)))))))),?_⟩
  obtain⟨xs,hxs,hxl⟩:=hN.len;have full:fs.length=15->N9 C E:=fun z=>by obtain⟨y,hy⟩:=Nh wF (fun x=>(fs.getLastD unison).lt x) p (st t p e);refine kE y ?_;unfold OS;rw[decide_eq_true (by lia),hy]
  have less:fs.length≠15->OS fs p (st t p e)=match Af (wF++[32]) p (st t p e) with
    |.error e=>.error e
    |.ok (_,q,u)=>ivT (fun x=>(fs.getLastD unison).lt x) q u:=fun z=>by
   unfold OS;rw[decide_eq_false (by lia)];exact Ro _ _ _ _
  refine⟨_,rfl,_,rfl,m,xs,rfl,.inl (SqL.of hxs),c,a,t,p,e,"fret",wF,(xs.length:Int),15,rfl,(by unfold Wd;decide +kernel),u,fun h=>full (by lia),fun y hy=>?_,fun q v hn hq H1 u1 k1 hv=>?_⟩
  ·by_cases z:fs.length=15
   ·exact full z
   ·exact kE y (by rw[less z,hy])
  ·have hne:fs.length≠15:=fun z=>hn (by rw[hxl,z];rfl);have ee:=less hne;rw[hq] at ee;dsimp only at ee;subst hv;obtain⟨dx1,hc1⟩:=u1.at_;have hN1:=hN.keep k1 hc;refine⟨_,rfl,c,B,dx1,_,_,rfl,hc1,T.cl,T.nP,GM _ _ _,?_⟩;refine⟨_,rfl,c,a,t,q,e,rfl,u1,?_⟩;cases hR:HD q (lnT (st t q e)) with
   |error x=>exact kE x (by rw[ee,Pa hR]) x
   |ok x=>
    intro H2 b u2 k2 hb hokx;have hN2:=hN1.keep k2 hc1;obtain⟨xs2,hxs2,hxl2⟩:=hN2.len;have go:∀b':FP,SqT K H2 b' (ivV (fs.getLastD unison))->(fs.getLastD unison).ok=true->∀xs':List V,H2 m=some (.lst xs')->P8 (Vv (QE (tOp (rI0 fun i j=>.bl (decide (i<=j))) (Lv (Lp K) [] E (Hm (Hw 3) IR)) (Lv (Lp K) [] E (Hm (Hw 4) IR)))) (M5 C E (Hw 2)) Qy)
      (P8 (XN (Mj B "take" (IB K B C) [] E (Hw 0) (Hm (tC (.int 10)) IR))) (W9 (Hw 3))) { nx:=fun _ H'=>Q .non H',rt:=Q } [some (.ref c),some (.ref m),some (.int (q:Int)),some (.ref b),some (.ref b')] H2:=by
     intro b' hb' hokp xs' _;refine⟨_,rfl,b,x,rfl,SqT.of hb,hokx,fun H3 s3=>?_⟩;refine⟨_,rfl,b',_,rfl,s3.tup hb',hokp,fun H4 s4=>?_⟩;have hlw:=Qa hokp hokx;refine⟨_,_,rfl,rfl,_,rfl,?_⟩;refine GV (fun h=>?_) fun h=>?_
     ·have h':width x<=width (fs.getLastD unison):=of_decide_eq_true h;have hf:(fs.getLastD unison).lt x=false:=by rw[hlw];exact decide_eq_false (by lia)
      exact⟨_,rfl,_,rfl,fun d hd=>kE q (by rw[ee,Sq hR hf]) _ _ d Gn⟩
     ·have h':¬width x<=width (fs.getLastD unison):=fun z=>h (decide_eq_true z);have hf:(fs.getLastD unison).lt x=true:=by rw[hlw];exact decide_eq_true (by lia)
      rw[Pq (fine:=fun x=>(fs.getLastD unison).lt x) hR hf,Hg] at ee;have u4:=(u2.same s3).same s4;obtain⟨dx4,hc4⟩:=u4.at_;refine⟨_,rfl,c,dx4,_,rfl,hc4,GO _ _ _ (by decide) (by decide) (by decide),c,a,t,_,e,10,rfl,u4,fun hB=>?_,fun hB=>?_⟩
      ·intro H5 u5 k5;rw[Gj hB,Hg] at ee;exact⟨_,rfl,kQ x _ _ ee H5 b u5 (((k1.trans k2).trans (Keep.of (s3.trans s4))).trans k5) rfl (k5 _ _ (s4 _ _ (s3 _ _ hb)) (GE (s4 _ _ (s3 _ _ hb)) hc4 (by intro z;cases z))) hokx⟩
      ·rw[Gi hB] at ee;exact kE _ ee _
    rcases B6 fs with e0 | ⟨l,y,e0⟩
    ·have ex:xs2=[]:=Cp.mp (by rw[hxl2,e0];rfl);refine⟨_,rfl,_,.inl ⟨_,SqL.of hxs2,rfl⟩,?_⟩;rw[ex];refine Rc ?_;exact go au (by rw[e0];exact hU H2) (by rw[e0];decide +kernel) xs2 hxs2
    ·rw[B7] at e0;obtain⟨xs3,b3,hx3,ha3,hb3⟩:=NotesAt.last (l:=l) (y:=y) (by rw[<-e0];exact hN2);have ne3:(!xs3.isEmpty)=true:=by
      cases xs3 with
      |nil=>cases ha3
      |cons z r=>rfl
     refine⟨_,rfl,_,.inl ⟨_,SqL.of hx3,rfl⟩,?_⟩;rw[ne3];refine Xd ?_;refine⟨_,rfl,_,rfl,m,xs3,_,_,rfl,rfl,SqL.of hx3,ha3,?_⟩;have el:fs.getLastD unison=y:=by rw[e0];simp
     exact go b3 (by rw[el];exact SqT.of hb3) (by rw[el];exact hok y (by rw[e0];simp)) xs3 hx3
theorem ZQ:FnScope ["cursor","courses_before","string"] ["cursor","courses_before"] (Gq Jr):=⟨rfl,rfl,rfl,by decide +kernel,rfl,by decide +kernel,by decide +kernel⟩
theorem WO{f:FP}{fd:FZ}(F:Fun K "read_bass" "read_bass" Jr f fd)(T:Txt K mg B C)(TI:TxI K mg)(MT:Mth P w K mg base C B 3 "take" ["self","wanted"] (IB K B C))
  (DB:Dfn P w K mg base C 5 "begin_line" ["cursor","word","lines_before","most"] (Xt K B C)) (DL:Dfn P w K mg base C 8 "read_line_interval" ["cursor"] (V0 K B C)):
  FnOk P w K mg base (CXF P w C) 9 f fd ["cursor","courses_before"] (Uz K B C):=by
 refine F.okX ZQ (fun vs H Q E h=>?_) (fun cdv A outer s H vs Q E hr h=>?_)
 ·obtain⟨c,a,t,p,e,n,rfl,_⟩:=h;rfl
 ·obtain⟨c,a,t,p,e,n,rfl,u,h14,kE,kQ⟩:=h;obtain⟨dx,hc⟩:=u.at_;have hr3:=hr.mono (show 3<=8 by decide);have hr5:=hr.mono (show 5<=8 by decide);refine⟨_,Gm (GB (GQ DB hr5 rfl (Gk (pv 0) (Gk HH (Gk (pv 1) (Gk (Gx TI.cMC) Go))))))
   (Gm (Gw (i:=2) ZQ.nd rfl (Or.inl rfl) (GQ DL hr rfl (Gk (pv 0) Go)))
   (Gm (GB (Kr MT hr3 (pv 0) (Gk (Gx T.cNL) Go)))
   (Gp (Gz (Hx (Gk (pv 2) Go)))))),?_⟩
  have full:n=14->N9 C E:=fun z=>by obtain⟨y,hy⟩:=Nh wB (fun _=>true) p (st t p e);refine kE y ?_;unfold Nj;rw[decide_eq_true (by lia),hy]
  have less:n≠14->Nj n p (st t p e)=match Af (wB++[32]) p (st t p e) with
    |.error e=>.error e
    |.ok (_,q,u)=>ivT (fun _=>true) q u:=fun z=>by
   unfold Nj;rw[decide_eq_false (by lia)];exact Ro _ _ _ _
  refine⟨_,rfl,_,rfl,c,a,t,p,e,"bass",wB,(n:Int),14,rfl,(by unfold Wd;decide +kernel),u,fun h=>full (by lia),fun y hy=>?_,fun q v hn hq H1 u1 k1 hv=>?_⟩
  ·by_cases z:n=14
   ·exact full z
   ·exact kE y (by rw[less z,hy])
  ·have ee:=less (fun z=>hn (by rw[z];rfl));rw[hq] at ee;dsimp only at ee;subst hv;refine⟨_,rfl,c,a,t,q,e,rfl,u1,?_⟩;cases hR:HD q (lnT (st t q e)) with
   |error x=>exact kE x (by rw[ee,Pa hR]) x
   |ok x=>
    intro H2 b u2 k2 hb hokx;rw[Pq (fine:=fun _=>true) hR rfl,Hg] at ee;obtain⟨dx2,hc2⟩:=u2.at_;refine⟨_,rfl,c,dx2,_,rfl,hc2,GO _ _ _ (by decide) (by decide) (by decide),c,a,t,_,e,10,rfl,u2,fun hB=>?_,fun hB=>?_⟩
    ·intro H3 u3 k3;rw[Gj hB,Hg] at ee;have hb3:=k3 _ _ hb (GE hb hc2 (by intro z;cases z));refine⟨_,rfl,(by show 1<=FT;decide),fun m hm=>?_⟩;have sm:=Gu (o:=.lst [.ref b]) hm;exact kQ x _ _ ee _ m (u3.same sm) (((k1.trans k2).trans k3).trans (Keep.of sm)) rfl (Jg ((k1.trans k2).trans k3) (let ⟨_,z⟩:=u3.at_;⟨_,z⟩) hm) (NotesAt.one Gn (sm _ _ hb3)) hokx
    ·rw[Gi hB] at ee;exact kE _ ee _
theorem Tu:FnScope ["cursor","frets","courses_before","start","string","sounds","fret","sound"] ["cursor","frets","courses_before"] (Gq II):=⟨rfl,rfl,rfl,by decide +kernel,rfl,by decide +kernel,by decide +kernel⟩
theorem To{f:FP}{fd:FZ}(F:Fun K "read_course" "read_course" II f fd)(T:Txt K mg B C)(TI:TxI K mg)(MT:Mth P w K mg base C B 3 "take" ["self","wanted"] (IB K B C))
  (DB:Dfn P w K mg base C 5 "begin_line" ["cursor","word","lines_before","most"] (Xt K B C)) (DL:Dfn P w K mg base C 8 "read_line_interval" ["cursor"] (V0 K B C))
  (DU:Dfn P w K mg base C 3 "upon" ["x","y"] (VC K)) (DI:Dfn P w K mg base C 1 "is_within_bounds" ["numbers"] (Lj K)):
  FnOk P w K mg base (CXF P w C) 9 f fd ["cursor","frets","courses_before"] (P3 K B C):=by
 refine F.okX Tu (fun vs H Q E h=>?_) (fun cdv A outer s H vs Q E hr h=>?_)
 ·obtain⟨c,a,m,t,p,e,n,fs,rfl,_⟩:=h;rfl
 ·obtain⟨c,a,m,t,p,e,n,fs,rfl,u,hN,hok,h15,h14,kE,kQ⟩:=h;obtain⟨dx,hc⟩:=u.at_;have hr1:=hr.mono (show 1<=8 by decide);have hr2:=hr.mono (show 2<=8 by decide);have hr3:=hr.mono (show 3<=8 by decide);have hr5:=hr.mono (show 5<=8 by decide);refine⟨_,Gm (GB (GQ DB hr5 rfl (Gk (pv 0) (Gk HH (Gk (pv 2) (Gk (Gx TI.cMC) Go))))))
   (Gm (Gw (i:=3) Tu.nd rfl (Or.inl rfl) (G2 (pv 0) rfl))
   (Gm (Gw (i:=4) Tu.nd rfl (Or.inl rfl) (GQ DL hr rfl (Gk (pv 0) Go)))
   (Gm (Gw (i:=5) Tu.nd rfl (Or.inl rfl) (Hx (Gk (pv 4) Go)))
   (Gm (Ic IC rfl (Ik (pv 1)) (GJ (i:=6) Tu.nd rfl (Or.inl rfl))
    (Gm (Gw (i:=7) Tu.nd rfl (Or.inl rfl) (GQ DU hr3 rfl (Gk (pv 6) (Gk (pv 4) Go))))
    (Gm (GS (NI (MR (GQ DI hr1 rfl (Gk (pv 7) Go)))) (Gp (GT T.xt hr2 rfl T.mC (pv 3))) GD)
    (Gp (GB (IN AC AB AA G6 (pv 5) (Gk (pv 7) Go)))))))
   (Gm (GB (Kr MT hr3 (pv 0) (Gk (Gx T.cNL) Go)))
   (Gm (GS (Gy XV (pv 2) (Gx TI.cSC) (GC _)) (Gp (Gz (pv 5))) GD)
   (Gp (Gz (Hx (Gk (pv 4) Go)))))))))),?_⟩
  have full:n=14->N9 C E:=fun z=>by obtain⟨y,hy⟩:=Nh wC (soundsAll fs) p (st t p e);refine kE y ?_;unfold Jd;rw[decide_eq_true (by lia),hy]
  have less:n≠14->Jd fs n p (st t p e)=match Af (wC++[32]) p (st t p e) with
    |.error e=>.error e
    |.ok (_,q,u)=>ivT (soundsAll fs) q u:=fun z=>by
   unfold Jd;rw[decide_eq_false (by lia)];exact Ro _ _ _ _
  refine⟨_,rfl,_,rfl,c,a,t,p,e,"course",wC,(n:Int),14,rfl,(by unfold Wd;decide +kernel),u,fun h=>full (by lia),fun y hy=>?_,fun q v hn hq H1 u1 k1 hv=>?_⟩
  ·by_cases z:n=14
   ·exact full z
   ·exact kE y (by rw[less z,hy])
  ·have ee:=less (fun z=>hn (by rw[z];rfl));rw[hq] at ee;dsimp only at ee;subst hv;obtain⟨dx1,hc1⟩:=u1.at_;have hN1:=hN.keep k1 hc;refine⟨_,rfl,c,B,dx1,_,_,rfl,hc1,T.cl,T.nP,GM _ _ _,?_⟩;refine⟨_,rfl,c,a,t,q,e,rfl,u1,?_⟩;cases hR:HD q (lnT (st t q e)) with
   |error x=>exact kE x (by rw[ee,Pa hR]) x
   |ok x=>
    intro H2 b u2 k2 hb hokx;have hN2:=hN1.keep k2 hc1;refine⟨_,rfl,(by show 1<=FT;decide),fun ms hms=>?_⟩;have sm:=Gu (o:=.lst [.ref b]) hms;have hfree:H ms=Option.none:=Jg (k1.trans k2) (let ⟨_,z⟩:=u2.at_;⟨_,z⟩) hms;have hNs:NotesAt (upd H2 ms (.lst [.ref b])) ms [x]:=NotesAt.one Gn (sm _ _ hb);obtain⟨bs,g1,g2,g3⟩:=hN2.same sm;have nmm:m≠ms:=fun z=>by have:=hN2.len;obtain⟨_,w1,_⟩:=this;rw[z,hms] at w1;cases w1
    have pc:∀y:Iv,y.ok=true->okB (x.plus y)=(x.plus y).ok:=fun y hy=>by obtain⟨_,_,_,_,hx1,_,_⟩:=HV hokx;obtain⟨_,_,_,_,hy1,_,_⟩:=HV hy;obtain⟨c1,c2⟩:=P1 x y hx1 hy1;exact VF c1 c2
    refine⟨_,rfl,m,rfl,⟨_,SqL.of g1⟩,Jn (K:=K) (a:=m) (xs:=bs.map V.ref) (fun i σ H'=>∃v6 v7:Option V,σ=[some (.ref c),some (.ref m),some (.int (n:Int)),some (.int (q:Int)),some (.ref b),some (.ref ms),v6,v7] ∧
      (∀z o,z≠ms->(upd H2 ms (.lst [.ref b])) z=some o->H' z=some o)/\NotesAt H' ms (x::(fs.take i).map x.plus)/\(fs.take i).all (fun f=>(x.plus f).ok)=true)
     ⟨Option.none,Option.none,rfl,fun z o _ h=>h,hNs,rfl⟩ (fun i σ H' _ ⟨v6,v7,_,hk,_⟩=>SqL.of (hk _ _ nmm g1)) ?_ ?_⟩
    ·rintro i y σ H3 hy ⟨v6,v7,rfl,hk3,hN3,hall⟩;rw[Al] at hy;cases hcb:bs[i]? with
     |none=>rw[hcb] at hy;cases hy
     |some bi=>
      rw[hcb] at hy;cases hy;have hi:i<fs.length:=by rw[<-g2];exact(Ai.mp hcb).1
      have hfi:fs[i]?=some fs[i]:=Ae hi;have hbi:=g3 i bi _ hcb hfi;have nbi:bi≠ms:=GE hbi Gn (by intro z;cases z);have hbi3:=hk3 _ _ nbi hbi;have nb:b≠ms:=fun z=>by rw[z,hms] at hb;cases hb
      have hb3:=hk3 _ _ nb (by rw[Gr nb];exact hb);have tk:fs.take (i+1)=fs.take i++[fs[i]]:=by rw[Bh,hfi];rfl
      have hoki:fs[i].ok=true:=hok _ (Bz hi);generalize fs[i]=y at *;refine⟨_,rfl,_,rfl,bi,b,y,x,rfl,.inr (SqT.of hbi3),SqT.of hb3,hoki,hokx,fun H4 b4 s4 hb4 hn4=>?_⟩;refine⟨_,rfl,b4,_,rfl,SqT.of hn4,fun H5 s5=>?_⟩;refine⟨_,rfl,?_⟩;rw[pc y hoki];refine GV (fun h=>?_) fun h=>?_
      ·have h':(x.plus y).ok=false:=by
        cases hq:(x.plus y).ok with
        |false=>rfl
        |true=>rw[hq] at h;cases h
       have hf:soundsAll fs x=false:=by unfold soundsAll;rw[<-BJ,AI];intro hall;rw[hall y (AO hfi)] at h';cases h'
       exact⟨_,rfl,_,rfl,fun d hd=>kE q (by rw[ee,Sq hR hf]) _ _ d Gn⟩
      ·have h':(x.plus y).ok=true:=by
        cases hq:(x.plus y).ok with
        |true=>rfl
        |false=>rw[hq] at h;exact absurd rfl h
       have hN5:=(hN3.same s4).same s5;obtain⟨xs5,hx5,hl5⟩:=hN5.len;refine⟨_,rfl,.inl ⟨rfl,_,SqL.of hx5⟩,_,rfl,ms,_,_,rfl,rfl,hx5,?_,?_⟩
       ·rw[hl5,Ad,Aa,Ax];exact Ar (show min i fs.length+1<=16 by lia) (by show 16<FT;decide)
       ·refine⟨_,_,rfl,fun z o hz h=>?_,?_,?_⟩
        ·rw[Gr hz];exact s5 _ _ (s4 _ _ (hk3 z o hz h))
        ·have:=hN5.snoc hx5 (s5 _ _ hn4);rw[tk,An];exact this
        ·rw[tk,Ds,hall];simp[h']
    ·rintro σ H3 ⟨v6,v7,rfl,hk3,hN3,hall⟩;rw[Aa,g2,AU] at hN3 hall;have hf:soundsAll fs x=true:=hall;rw[Pq (fine:=soundsAll fs) hR hf,Hg] at ee;have u2':=u2.same sm;obtain⟨dx2,hc2⟩:=u2'.at_;have ncm:c≠ms:=GE hc2 Gn (by intro z;cases z);have hc3:=hk3 _ _ ncm hc2;have nb:b≠ms:=fun z=>by rw[z,hms] at hb;cases hb
     have hb3:=hk3 _ _ nb (by rw[Gr nb];exact hb);have toH3:Keep H H3 c:=fun z o hz hzc=>by
      have nz:z≠ms:=fun w=>by rw[w,hfree] at hz;cases hz
      exact hk3 _ _ nz (by rw[Gr nz];exact k2 _ _ (k1 _ _ hz hzc) hzc)
     have u3:Cur K B H3 c a t (q+(lnT (st t q e)).length) e:=by
      refine⟨⟨dx2,hc3⟩,?_,u2.le,u2.len⟩;have na:∀o,H a=some o->a≠ms:=fun o h z=>by rw[z,hfree] at h;cases h
      rcases u.txt with (hz | ⟨o,hz⟩) | hz
      ·exact .inl (.inl (toH3 _ _ hz (GE hz hc (by intro z;cases z))))
      ·exact .inl (.inr ⟨o,toH3 _ _ hz (GE hz hc (by intro z;cases z))⟩)
      ·exact .inr hz
     refine⟨_,rfl,c,dx2,_,rfl,hc3,GO _ _ _ (by decide) (by decide) (by decide),c,a,t,_,e,10,rfl,u3,fun hB=>?_,fun hB=>?_⟩
     ·intro H4 u4 k4;rw[Gj hB,Hg] at ee;have hN4:=hN3.keep k4 hc3;have hb4:=k4 _ _ hb3 (GE hb3 hc3 (by intro z;cases z));refine⟨_,rfl,_,_,rfl,rfl,_,rfl,?_⟩;refine GV (fun h=>?_) fun h=>?_
      ·have h':(n:Int)<6:=of_decide_eq_true h;refine⟨_,rfl,kQ x _ _ ee H4 ms u4 (toH3.trans k4) rfl hfree ?_ hokx⟩;unfold row;rw[Gj (by lia)];exact hN4
      ·have h':¬(n:Int)<6:=fun z=>h (decide_eq_true z);refine⟨_,rfl,(by show 1<=FT;decide),fun m5 hm5=>?_⟩;have s5:=Gu (o:=.lst [.ref b]) hm5;refine kQ x _ _ ee _ m5 (u4.same s5) ((toH3.trans k4).trans (Keep.of s5)) rfl (Jg (toH3.trans k4) (let ⟨_,z⟩:=u4.at_;⟨_,z⟩) hm5) ?_ hokx;unfold row;rw[Gi (by lia)];exact NotesAt.one Gn (s5 _ _ hb4)
     ·rw[Gi hB] at ee;exact kE _ ee _
end
def TabAt(H:Hp)(m:FP)(ls:List (List Iv)):Prop:=∃bs:List FP,H m=some (.lst (bs.map V.ref))/\bs.length=ls.length/\∀(i:Nat) (b:FP) (l:List Iv),bs[i]?=some b->ls[i]?=some l->b≠m/\NotesAt H b l
theorem TabAt.move{H H':Hp}{m:FP}{l:List (List Iv)}(h:TabAt H m l)(k:∀b o,H b=some o->(∃xs,o=.lst xs)\/(∃xs,o=.tup xs)->H' b=some o):TabAt H' m l:=by obtain⟨bs,h1,h2,h3⟩:=h;exact⟨bs,k _ _ h1 (.inl ⟨_,rfl⟩),h2,fun i b x hb hx=>⟨(h3 i b x hb hx).1,(h3 i b x hb hx).2.move k⟩⟩
theorem TabAt.keep{H H':Hp}{m c:FP}{l:List (List Iv)}{B dx:FP}{fs:List (Str×V)}(h:TabAt H m l)(k:Keep H H' c)(hc:H c=some (.ins B dx fs)):TabAt H' m l:=h.move fun b o hb hk=>k b o hb (GE hb hc (by rintro rfl;rcases hk with ⟨_,z⟩ | ⟨_,z⟩ <;> cases z))
theorem NotesAt.upd{H:Hp}{m b:FP}{l:List Iv}{xs:List V}{o:HO}(h:NotesAt H b l)(hm:H m=some (.lst xs))(hb:b≠m):NotesAt (upd H m o) b l:=by obtain⟨bs,h1,h2,h3⟩:=h;exact⟨bs,by rw[Gr hb];exact h1,h2,fun i b' x hb' hx=>by rw[Gr (GE (h3 i b' x hb' hx) hm (by intro z;cases z))];exact h3 i b' x hb' hx⟩
theorem TabAt.snoc{H:Hp}{m b:FP}{ls:List (List Iv)}{l:List Iv}{xs:List V}(h:TabAt H m ls)(hx:H m=some (.lst xs))(hb:NotesAt H b l)(hbm:b≠m):TabAt (upd H m (.lst (xs++[.ref b]))) m (ls++[l]):=by
 obtain⟨bs,h1,h2,h3⟩:=h;rw[h1] at hx;cases hx;refine⟨bs++[b],by rw[Gn,An];rfl,by rw[Ac,Ac,h2];rfl,fun i b' l' hb' hl'=>?_⟩;have key:b'≠m/\NotesAt H b' l':=by
  by_cases hi:i<bs.length
  ·rw[AF hi] at hb';rw[AF (by lia)] at hl';exact h3 i b' l' hb' hl'
  ·rw[Ay (by lia)] at hb';rw[Ay (by lia)] at hl';have hi0:i-bs.length=0:=by
    have:=(Ai.mp hb').1;simp at this
    lia
   rw[hi0] at hb';rw[show i-ls.length=0 by lia] at hl';cases hb';cases hl';exact⟨hbm,hb⟩
 exact⟨key.1,key.2.upd h1 key.1⟩
theorem TabAt.len{H:Hp}{m:FP}{l:List (List Iv)}(h:TabAt H m l):∃xs,H m=some (.lst xs)/\xs.length=l.length:=by obtain⟨bs,h1,h2,_⟩:=h;exact⟨_,h1,by rw[Aa,h2]⟩
def tab(t:Inst):List (List Iv):=t.courses.mapIdx (row t.frets)++t.basses.map fun x=>[x]
structure InOk(t:Inst):Prop where
 fr:∀x∈t.frets,x.ok=true
 f15:t.frets.length<=15
 co:∀x∈t.courses,x.ok=true
 ba:∀x∈t.basses,x.ok=true
 n14:t.courses.length+t.basses.length<=14
 so:∀x∈t.courses,∀f∈t.frets,(x.plus f).ok=true
def O3(K:Gh)(C:FP):Sp:=fun vs H Q E=>∃(a:FP) (t:Bytes),vs=[.ref a]/\SqL K H a (tx t) ∧
 (∀x,readInst t=.error x->N9 C E)/\∀i,readInst t=.ok i->InOk i->∀(H':Hp) (m:FP),Same H H'->TabAt H' m (tab i)->Q (.ref m) H'
theorem UO{z:UInt8}{l:Bytes}{full:Bool}{fine:Iv->Bool}{p:Nat}{u:Bytes}(h:¬GA u=(z.toNat:Int)):∃y,lnR (z::l) full fine p u=.error y:=by unfold lnR;rw[Jh,Gi h];exact⟨_,rfl⟩
theorem MH{R:Rd Iv}{T:Iv->Inst}{y:Nat}(h:R=.error y):goL R T=.error y:=by rw[h];rfl
theorem O7{R:Rd Iv}{T:Iv->Inst}{x:Iv}{q:Nat}{u:Bytes}(h:R=.ok (x,q,u)):goL R T=li (T x) q u:=by rw[h];rfl
theorem VY{n p:Nat}{fs:List Iv}{u:Bytes}(h:GA u=102):li ⟨n,fs,[],[]⟩ p u=goL (OS fs p u) fun x=>⟨n,fs++[x],[],[]⟩:=by obtain⟨r,rfl⟩:=GP (z:=102) h;rw[Kx,Gj ⟨rfl,rfl⟩];rfl
theorem Vs{n p:Nat}{fs:List Iv}{u:Bytes}(h:¬GA u=102):(∃y,Jd fs 0 p u=.error y/\∃z,li ⟨n,fs,[],[]⟩ p u=.error z)\/li ⟨n,fs,[],[]⟩ p u=goL (Jd fs 0 p u) fun x=>⟨n,fs,[x],[]⟩:=by
 by_cases h2:GA u=99
 ·obtain⟨r,rfl⟩:=GP (z:=99) h2;rw[Kx,Gi (fun q=>absurd q.1 (by decide)),Gj ⟨rfl,rfl⟩];exact .inr rfl
 ·obtain⟨y,hy⟩:=UO (z:=99) (l:=[111,117,114,115,101]) (full:=decide (14<=0)) (fine:=soundsAll fs) (p:=p) (u:=u) h2;refine .inl ⟨y,hy,?_⟩;cases u with
  |nil=>exact⟨p,Vp _ _⟩
  |cons c r=>rw[Kx,Gi (fun q=>h (by rw[q.1];rfl)),Gi (fun q=>h2 (by rw[q.1];rfl)),Gi (fun q=>by cases q.2)];exact⟨_,rfl⟩
theorem Tt{n p:Nat}{fs cs:List Iv}{u:Bytes}(hc:cs≠[])(h:GA u=99):li ⟨n,fs,cs,[]⟩ p u=goL (Jd fs cs.length p u) fun x=>⟨n,fs,cs++[x],[]⟩:=by obtain⟨r,rfl⟩:=GP (z:=99) h;rw[Kx,Gi (fun q=>absurd q.1 (by decide)),Gj ⟨rfl,rfl⟩];unfold Kz Jd Inst.opens;rw[AX]
theorem V9{n p:Nat}{fs cs bs:List Iv}{u:Bytes}(hc:cs≠[])(h:GA u=98):li ⟨n,fs,cs,bs⟩ p u=goL (Nj (cs.length+bs.length) p u) fun x=>⟨n,fs,cs,bs++[x]⟩:=by
 obtain⟨r,rfl⟩:=GP (z:=98) h;have he:cs.isEmpty=false:=by cases cs with | nil=>exact absurd rfl hc | cons=>rfl
 rw[Kx,Gi (fun q=>absurd q.1 (by decide)),Gi (fun q=>absurd q.1 (by decide)),Gj ⟨rfl,he⟩];unfold Ow Nj Inst.opens;rw[Ac]
theorem Yl{n p:Nat}{fs cs bs:List Iv}{u:Bytes}(hc:cs≠[])(hb:bs=[]->¬GA u=99)(h:¬GA u=98):(GA u=-1->li ⟨n,fs,cs,bs⟩ p u=.ok ⟨n,fs,cs,bs⟩)/\(¬GA u=-1->∃y,li ⟨n,fs,cs,bs⟩ p u=.error y):=by
 have he:cs.isEmpty=false:=by cases cs with | nil=>exact absurd rfl hc | cons=>rfl
 refine⟨fun q=>?_,fun q=>?_⟩
 ·rw[Kw q,Vp,Gi (by show ¬cs.isEmpty=true;rw[he];exact Ag)]
 ·cases u with
  |nil=>exact absurd rfl q
  |cons c r=>refine⟨p,?_⟩;rw[Kx,Gi (fun z=>by have z2:cs.isEmpty=true:=z.2;rw[he] at z2;cases z2),Gi (fun z=>hb (List.isEmpty_iff.mp z.2) (by rw[z.1];rfl)),Gi (fun z=>h (by rw[z.1];rfl))]
theorem Q2{K:Gh}{B:FP}{H H':Hp}{c a dx:FP}{t:Bytes}{p e:Nat}(hc:H' c=some (.ins B dx (cf a p e)))(s:Same H H')(hS:SqL K H a (tx t))(hp:p<=e)(he:e<=t.length):Cur K B H' c a t p e:=⟨⟨dx,hc⟩,s.seq hS,hp,he⟩
section
variable{P:FU}{w:F0}{K:Gh}{mg:Str->Option FO}{base:Heap}{B C:FP}
theorem VV:FnScope ["text","cursor","frets","courses"] ["text"] (Gq HS):=⟨rfl,rfl,rfl,by decide +kernel,rfl,by decide +kernel,by decide +kernel⟩
theorem Wh{f:FP}{fd:FZ}(F:Fun K "read_instrument" "read_instrument" HS f fd)(T:Txt K mg B C)(TI:TxI K mg)(M:Crs P w K mg base B C)
  (DI:Mke P w K mg base C B 1 "Cursor" ["self","text","place","end"] (MV B)) (DS:Dfn P w K mg base C 5 "read_string_length" ["cursor"] (Z6 K B C)) (DF:Dfn P w K mg base C 9 "read_fret" ["cursor","frets"] (UY K B C))
  (DC:Dfn P w K mg base C 9 "read_course" ["cursor","frets","courses_before"] (P3 K B C)) (DB:Dfn P w K mg base C 9 "read_bass" ["cursor","courses_before"] (Uz K B C)):
  FnOk P w K mg base (CXF P w C) 10 f fd ["text"] (O3 K C):=by
 refine F.okX VV (fun vs H Q E h=>?_) (fun cdv A outer s H vs Q E hr h=>?_)
 ·obtain⟨a,t,rfl,_⟩:=h;rfl
 ·obtain⟨a,t,rfl,hS,kE,kQ⟩:=h;have hr1:=hr.mono (show 1<=9 by decide);have hr2:=hr.mono (show 2<=9 by decide);have hr5:=hr.mono (show 5<=9 by decide);refine⟨_,(Gm (Gw (i:=1) VV.nd rfl (Or.inl rfl) (U9 DI hr2 rfl (Gk (pv 0) (Gk Gv (Gk (G1 GY (by rfl) T.len PySem.boot_len (Gk (pv 0) Go)) Go)))))
    (Gm (GB (GQ DS hr5 rfl (Gk (pv 1) Go)))
    (Gm (Gw (i:=2) VV.nd rfl (Or.inl rfl) (Hx Go))
    (Gm (HN IC (Gy Ho (GH M.byte hr1 (pv 1)) (Gx TI.cLF) (GC _)) (Gp (GB (IN AC AB AA G6 (pv 2) (Gk (GQ DF hr rfl (Gk (pv 1) (Gk (pv 2) Go))) Go)))))
    (Gm (Gw (i:=3) VV.nd rfl (Or.inl rfl) (Hx (Gk (GQ DC hr rfl (Gk (pv 1) (Gk (pv 2) (Gk Gv Go)))) Go)))
    (Gm (HN IC (Gy Ho (GH M.byte hr1 (pv 1)) (Gx TI.cLC) (GC _)) (Gp (GB (IN AC AB AA G6 (pv 3) (Gk (GQ DC hr rfl (Gk (pv 1) (Gk (pv 2) (Gk (G1 GY (by rfl) T.len PySem.boot_len (Gk (pv 3) Go)) Go)))) Go)))))
    (Gm (HN IC (Gy Ho (GH M.byte hr1 (pv 1)) (Gx TI.cLB) (GC _)) (Gp (GB (IN AC AB AA G6 (pv 3) (Gk (GQ DB hr rfl (Gk (pv 1) (Gk (G1 GY (by rfl) T.len PySem.boot_len (Gk (pv 3) Go)) Go))) Go)))))
    (Gm (GS (Gy JP (GH M.byte hr1 (pv 1)) (Gx T.cEND) (GC _)) (Gp (GT T.xt hr2 rfl T.mC (G2 (pv 1) rfl))) GD)
    (Gp (Gz (pv 3))))))))))),?_⟩
  refine⟨_,rfl,_,rfl,a,_,rfl,.inl hS,fun c dx hc0 hdx hne=>?_⟩;have hlt:(tx t).length=t.length:=by unfold tx;rw[Aa]
  refine⟨c,dx,a,0,t.length,by rw[hlt];rfl,Gn,fun H1 hc1 k1=>⟨rfl,?_⟩⟩;have s1:Same H H1:=Same.made hc0 hdx k1;have u1:Cur K B H1 c a t 0 t.length:=⟨⟨dx,hc1⟩,s1.seq hS,AD _,Ah _⟩;have toH:∀{Ha Hb:Hp},Same H Ha->Keep Ha Hb c->Same H Hb:=fun s k b o hb=>k _ _ (s _ _ hb) (fun z=>by rw[z,hc0] at hb;cases hb);have eR:=Qz t;refine⟨_,rfl,c,a,t,rfl,u1,fun y hy=>kE y (by rw[eR,hy]),fun n q0 v0 hq0 H2 u2 k2 hv0=>?_⟩;rw[hq0] at eR;dsimp only at eR;subst hv0;have s2:=toH s1 k2;refine⟨AD _,fun mf hmf=>?_⟩;have smf:=Gu (o:=.lst []) hmf;have fmf:H mf=Option.none:=by
   cases q:H mf with
   |none=>rfl
   |some o=>rw[s2 _ _ q] at hmf;cases hmf
  refine⟨fun mm σ H'=>∃(fs:List Iv) (pos:Nat),mm=t.length-pos/\σ=[some (.ref a),some (.ref c),some (.ref mf),Option.none]/\Cur K B H' c a t pos t.length/\Same H H'/\NotesAt H' mf fs/\(∀x∈fs,x.ok=true)/\fs.length<=15/\readInst t=li ⟨n,fs,[],[]⟩ pos (st t pos t.length),
   ⟨_,[],q0,rfl,rfl,u2.same smf,s2.trans smf,⟨[],Gn,rfl,fun i b x hb=>by simp at hb⟩,(fun x hx=>nomatch hx),AD _,eR⟩,?_⟩
  rintro mm σ H3 ⟨fs,pos,rfl,rfl,u3,s3,hN3,hok3,h15,inv⟩;obtain⟨dx3,hc3⟩:=u3.at_;refine⟨_,rfl,c,dx3,_,rfl,hc3,GO _ _ _ (by decide) (by decide) (by decide),c,a,t,pos,t.length,rfl,u3,rfl,_,rfl,?_⟩;rw[HB];obtain⟨xs3,hx3,hl3⟩:=hN3.len;refine GV (fun h=>?_) fun h=>?_
  ·have h':GA (st t pos t.length)=102:=of_decide_eq_true h;rw[VY h'] at inv;refine⟨fun σ' H'=>∃(fs:List Iv) (q:Nat),pos<q/\σ'=[some (.ref a),some (.ref c),some (.ref mf),Option.none]/\Cur K B H' c a t q t.length/\Same H H'/\NotesAt H' mf fs/\(∀x∈fs,x.ok=true)/\fs.length<=15/\readInst t=li ⟨n,fs,[],[]⟩ q (st t q t.length),?_,?_⟩
   ·rintro σ' H' ⟨fs,q,hq,rfl,a1,a2,a3,a4,a5,a6⟩;have:=a1.le;exact⟨t.length-q,by lia,fs,q,rfl,rfl,a1,a2,a3,a4,a5,a6⟩
   ·refine⟨_,rfl,.inl ⟨rfl,_,SqL.of hx3⟩,_,rfl,_,rfl,c,a,mf,t,pos,t.length,fs,rfl,u3,hN3,hok3,h15,fun y hy=>kE y (by rw[inv,MH hy]),fun x q v hR H4 b u4 k4 hv hb hokx=>?_⟩;subst hv;rw[O7 hR] at inv;have hfull:=(O1 hR).1;have hlt15:¬15<=fs.length:=of_decide_eq_false hfull;have hlen:=Ja hR;rw[JD u3.len,JD u3.len] at hlen;have hN4:=hN3.keep k4 hc3;obtain⟨xs4,hx4,hl4⟩:=hN4.len;have s4:=toH s3 k4;obtain⟨dx4,hc4⟩:=u4.at_;have ncm:c≠mf:=GE hc4 hx4 (by intro z;cases z);have s5:Same H (upd H4 mf (.lst (xs4++[.ref b]))):=fun z o hz=>by rw[Gr (fun w=>by rw[w,fmf] at hz;cases hz)];exact s4 _ _ hz
    refine⟨mf,_,_,rfl,rfl,hx4,(by rw[hl4];exact Ar h15 (by show 15<FT;decide)),?_⟩;refine⟨fs++[x],q,by lia,rfl,Q2 (dx:=dx4) (by rw[Gr ncm];exact hc4) s5 hS u4.le u4.len,s5,hN4.snoc hx4 hb,?_,?_,inv⟩
    ·intro y hy;rcases AK.mp hy with z | z
     ·exact hok3 y z
     ·rw[Aj.mp z];exact hokx
    ·rw[Ac,Be]
     lia
  ·have h102:¬GA (st t pos t.length)=102:=fun z=>h (decide_eq_true z);clear h;have hF:=Vs (n:=n) (p:=pos) (fs:=fs) h102;refine⟨_,rfl,_,rfl,c,a,mf,t,pos,t.length,0,fs,rfl,u3,hN3,hok3,h15,AD _,fun y hy=>?_,fun x q v hR H4 b u4 k4 hv hbf hNb hokx=>?_⟩
   ·rcases hF with ⟨_,_,z,hz⟩ | hF
    ·exact kE z (by rw[inv,hz])
    ·exact kE y (by rw[inv,hF,MH hy])
   ·subst hv;have hF':li ⟨n,fs,[],[]⟩ pos (st t pos t.length)=li ⟨n,fs,[x],[]⟩ q (st t q t.length):=by
     rcases hF with ⟨y,hy,_⟩ | hF
     ·rw[hy] at hR;cases hR
     ·rw[hF,O7 hR]
    rw[hF'] at inv;have hfine:=(O1 hR).2.2;have hN4:=hN3.keep k4 hc3;have s4:=toH s3 k4;refine⟨(by show 1<=FT;decide),fun mc hmc=>?_⟩;have smc:=Gu (o:=.lst [.ref b]) hmc;have fmc:H mc=Option.none:=by
     cases q:H mc with
     |none=>rfl
     |some o=>rw[s4 _ _ q] at hmc;cases hmc
    have nbm:b≠mc:=fun z=>by obtain⟨_,z1,_⟩:=hNb;rw[z,hmc] at z1;cases z1
    have nmm:mf≠mc:=fun z=>by obtain⟨_,z1,_⟩:=hN4.len;rw[z,hmc] at z1;cases z1
    have hT0:TabAt (upd H4 mc (.lst [.ref b])) mc ([x].mapIdx (row fs)):=by
     refine⟨[b],Gn,rfl,fun i b' l' hb' hl'=>?_⟩
     match i,hb',hl' with
     |0,hb',hl'=>cases hb';cases hl';exact⟨nbm,hNb.same smc⟩
     |i+1,hb',_=>simp at hb'
    have hso:∀y∈([x]:List Iv),∀f∈fs,(y.plus f).ok=true:=fun y hy f hf=>by rw[Aj.mp hy];exact AI.mp hfine f hf
    refine⟨fun mm σ H'=>∃(cs:List Iv) (pos:Nat),mm=t.length-pos/\σ=[some (.ref a),some (.ref c),some (.ref mf),some (.ref mc)]/\Cur K B H' c a t pos t.length/\Same H H'/\NotesAt H' mf fs/\TabAt H' mc (cs.mapIdx (row fs))/\cs≠[]/\(∀x∈cs,x.ok=true)/\cs.length<=14/\(∀y∈cs,∀f∈fs,(y.plus f).ok=true)/\readInst t=li ⟨n,fs,cs,[]⟩ pos (st t pos t.length),
     ⟨_,[x],q,rfl,rfl,u4.same smc,s4.trans smc,hN4.same smc,hT0,by simp,fun y hy=>by rw[Aj.mp hy];exact hokx,by show 1<=14;decide,hso,inv⟩,?_⟩
    clear inv hF hF' hT0 hso u4 k4 hR hN4 s4 hNb smc hmc nbm hbf;rintro mm σ H5 ⟨cs,pos5,rfl,rfl,u5,s5,hN5,hT5,hne5,hok5,h14,hso5,inv⟩;obtain⟨dx5,hc5⟩:=u5.at_;obtain⟨xs5,hx5,hl5⟩:=hT5.len;rw[BZ] at hl5;refine⟨_,rfl,c,dx5,_,rfl,hc5,GO _ _ _ (by decide) (by decide) (by decide),c,a,t,pos5,t.length,rfl,u5,rfl,_,rfl,?_⟩;rw[HB];refine GV (fun h=>?_) fun h=>?_
    ·have h':GA (st t pos5 t.length)=99:=of_decide_eq_true h;rw[Tt hne5 h'] at inv;refine⟨fun σ' H'=>∃(cs:List Iv) (q:Nat),pos5<q/\σ'=[some (.ref a),some (.ref c),some (.ref mf),some (.ref mc)]/\Cur K B H' c a t q t.length/\Same H H'/\NotesAt H' mf fs/\TabAt H' mc (cs.mapIdx (row fs))/\cs≠[]/\(∀x∈cs,x.ok=true)/\cs.length<=14/\(∀y∈cs,∀f∈fs,(y.plus f).ok=true)/\readInst t=li ⟨n,fs,cs,[]⟩ q (st t q t.length),?_,?_⟩
     ·rintro σ' H' ⟨cs,q,hq,rfl,a1,a2,a3,a4,a5,a6,a7,a8,a9⟩;have:=a1.le;exact⟨t.length-q,by lia,cs,q,rfl,rfl,a1,a2,a3,a4,a5,a6,a7,a8,a9⟩
     ·refine⟨_,rfl,.inl ⟨rfl,_,SqL.of hx5⟩,_,rfl,_,rfl,_,rfl,mc,_,rfl,.inl (SqL.of hx5),c,a,mf,t,pos5,t.length,cs.length,fs,by rw[hl5];rfl,u5,hN5,hok3,h15,h14,fun y hy=>kE y (by rw[inv,MH hy]),fun x q v hR H6 b u6 k6 hv hbf hNb hokx=>?_⟩;subst hv;rw[O7 hR] at inv;have hR':=O1 hR;have hlt14:¬14<=cs.length:=of_decide_eq_false hR'.1;have hlen:=Ja hR;rw[JD u5.len,JD u5.len] at hlen;have hN6:=hN5.keep k6 hc5;have hT6:=hT5.keep k6 hc5;obtain⟨xs6,hx6,hl6⟩:=hT6.len;rw[BZ] at hl6;have s6:=toH s5 k6;obtain⟨dx6,hc6⟩:=u6.at_;have ncm:c≠mc:=GE hc6 hx6 (by intro z;cases z);have nbm:b≠mc:=fun z=>by rw[z,hx5] at hbf;cases hbf
      have s7:Same H (upd H6 mc (.lst (xs6++[.ref b]))):=fun z o hz=>by rw[Gr (fun w=>by rw[w,fmc] at hz;cases hz)];exact s6 _ _ hz
      refine⟨mc,_,_,rfl,rfl,hx6,(by rw[hl6];exact Ar h14 (by show 14<FT;decide)),?_⟩;refine⟨cs++[x],q,by lia,rfl,Q2 (dx:=dx6) (by rw[Gr ncm];exact hc6) s7 hS u6.le u6.len,s7,hN6.upd hx6 nmm,?_,by simp,?_,?_,?_,inv⟩
      ·rw[List.mapIdx_concat];exact hT6.snoc hx6 hNb nbm
      ·intro y hy;rcases AK.mp hy with z | z
       ·exact hok5 y z
       ·rw[Aj.mp z];exact hokx
      ·rw[Ac,Be]
       lia
      ·intro y hy f hf;rcases AK.mp hy with z | z
       ·exact hso5 y z f hf
       ·rw[Aj.mp z];exact AI.mp hR'.2.2 f hf
    ·have h99:¬GA (st t pos5 t.length)=99:=fun z=>h (decide_eq_true z);clear h;refine⟨fun mm σ H'=>∃(bs:List Iv) (pos:Nat),mm=t.length-pos/\σ=[some (.ref a),some (.ref c),some (.ref mf),some (.ref mc)]/\Cur K B H' c a t pos t.length/\Same H H'/\TabAt H' mc (cs.mapIdx (row fs)++bs.map fun x=>[x])/\(bs=[]->¬GA (st t pos t.length)=99)/\(∀x∈bs,x.ok=true)/\cs.length+bs.length<=14/\readInst t=li ⟨n,fs,cs,bs⟩ pos (st t pos t.length),
      ⟨_,[],pos5,rfl,rfl,u5,s5,by rw[EJ,AX];exact hT5,fun _=>h99,(fun x hx=>nomatch hx),h14,inv⟩,?_⟩
     clear inv;rintro mm σ H6 ⟨bs,pos6,rfl,rfl,u6,s6,hT6,hb99,hokb,hn14,inv⟩;obtain⟨dx6,hc6⟩:=u6.at_;obtain⟨xs6,hx6,hl6⟩:=hT6.len;rw[Ac,BZ,Aa] at hl6;refine⟨_,rfl,c,dx6,_,rfl,hc6,GO _ _ _ (by decide) (by decide) (by decide),c,a,t,pos6,t.length,rfl,u6,rfl,_,rfl,?_⟩;rw[HB];refine GV (fun h=>?_) fun h=>?_
     ·have h':GA (st t pos6 t.length)=98:=of_decide_eq_true h;rw[V9 hne5 h'] at inv;refine⟨fun σ' H'=>∃(bs:List Iv) (q:Nat),pos6<q/\σ'=[some (.ref a),some (.ref c),some (.ref mf),some (.ref mc)]/\Cur K B H' c a t q t.length/\Same H H'/\TabAt H' mc (cs.mapIdx (row fs)++bs.map fun x=>[x])/\(bs=[]->¬GA (st t q t.length)=99)/\(∀x∈bs,x.ok=true)/\cs.length+bs.length<=14/\readInst t=li ⟨n,fs,cs,bs⟩ q (st t q t.length),?_,?_⟩
      ·rintro σ' H' ⟨bs,q,hq,rfl,a1,a2,a3,a4,a5,a6,a7⟩;have:=a1.le;exact⟨t.length-q,by lia,bs,q,rfl,rfl,a1,a2,a3,a4,a5,a6,a7⟩
      ·refine⟨_,rfl,.inl ⟨rfl,_,SqL.of hx6⟩,_,rfl,_,rfl,mc,_,rfl,.inl (SqL.of hx6),c,a,t,pos6,t.length,cs.length+bs.length,by rw[hl6];rfl,u6,hn14,fun y hy=>kE y (by rw[inv,MH hy]),fun x q v hR H7 b u7 k7 hv hbf hNb hokx=>?_⟩;subst hv;rw[O7 hR] at inv;have hlt14:¬14<=cs.length+bs.length:=of_decide_eq_false (O1 hR).1;have hlen:=Ja hR;rw[JD u6.len,JD u6.len] at hlen;have hT7:=hT6.keep k7 hc6;obtain⟨xs7,hx7,hl7⟩:=hT7.len;rw[Ac,BZ,Aa] at hl7;have s7:=toH s6 k7;obtain⟨dx7,hc7⟩:=u7.at_;have ncm:c≠mc:=GE hc7 hx7 (by intro z;cases z);have nbm:b≠mc:=fun z=>by rw[z,hx6] at hbf;cases hbf
       have s8:Same H (upd H7 mc (.lst (xs7++[.ref b]))):=fun z o hz=>by rw[Gr (fun w=>by rw[w,fmc] at hz;cases hz)];exact s7 _ _ hz
       refine⟨mc,_,_,rfl,rfl,hx7,(by rw[hl7];exact Ar hn14 (by show 14<FT;decide)),?_⟩;refine⟨bs++[x],q,by lia,rfl,Q2 (dx:=dx7) (by rw[Gr ncm];exact hc7) s8 hS u7.le u7.len,s8,?_,fun z=>by simp at z,?_,?_,inv⟩
       ·rw[An,<-AT];exact hT7.snoc hx7 hNb nbm
       ·intro y hy;rcases AK.mp hy with z | z
        ·exact hokb y z
        ·rw[Aj.mp z];exact hokx
       ·rw[Ac,Be]
        lia
     ·have h98:¬GA (st t pos6 t.length)=98:=fun z=>h (decide_eq_true z);have hE:=Yl (n:=n) (p:=pos6) (fs:=fs) hne5 hb99 h98;refine⟨_,rfl,c,dx6,_,rfl,hc6,GO _ _ _ (by decide) (by decide) (by decide),c,a,t,pos6,t.length,rfl,u6,rfl,_,rfl,?_⟩;refine GV (fun h=>?_) fun h=>?_
      ·have hne:¬GA (st t pos6 t.length)=-1:=fun z=>by rw[z] at h;exact absurd h (by decide)
       obtain⟨y,hy⟩:=hE.2 hne;exact⟨_,rfl,c,B,dx6,_,_,rfl,hc6,T.cl,T.nP,GM _ _ _,_,rfl,fun d hd=>kE y (by rw[inv,hy]) _ _ d Gn⟩
      ·have heq:GA (st t pos6 t.length)=-1:=by
        by_cases z:GA (st t pos6 t.length)=-1
        ·exact z
        ·refine absurd ?_ h;show(!decide (V.int (GA (st t pos6 t.length))=V.int (-1)))=true;rw[HB,decide_eq_false z];rfl
       rw[hE.1 heq] at inv;exact⟨_,rfl,kQ _ inv ⟨hok3,h15,hok5,hokb,hn14,hso5⟩ H6 mc s6 hT6⟩
end
open PySem PySem.Spec PyProof.Rows L2 Lute LuR LuW LuteSong LuI
def Rdr(sp:Sp)(a:FP)(H:Hp)(ok:V->Hp->Prop)(er:Prop):Prop:=∀(Q:VK) (E:XK),(∀v H1,ok v H1->Q v H1)->(er->∀c d H',E c d H')->sp [.ref a] H Q E
def YM(Q:VK)(z:Int):Prop:=∀(H':Hp) (p:FP),H' p=some (.lst [.int z])->Q (.ref p) H'
section
variable(P:FU)(w:F0)(K:Gh)(mg:Str->Option FO)(base:Heap)(C:FP)(k:Nat)
def Z3:Sp:=fun vs H Q _=>∃(a1 g1 a2 g2 ga:FP) (n1:Nat) (sp1:Sp) (ok1:V->Hp->Prop) (er1:Prop),vs=[.ref a1,.ref g1,.ref a2,.ref g2,.ref ga]/\Clb P w K mg base C 19 H g1 n1 sp1/\Rdr sp1 a1 H ok1 er1/\(er1->YM Q (-6)) ∧
 ∀v1 H1,ok1 v1 H1->∃(m1:FP) (n2:Nat) (sp2:Sp) (ok2:V->Hp->Prop) (er2:Prop),v1=.ref m1/\Clb P w K mg base C 19 H1 g2 n2 sp2/\Rdr sp2 a2 H1 ok2 er2/\(er2->YM Q (-8)) ∧
 ∀v2 H2,ok2 v2 H2->∃(m2:FP) (n:Nat) (sp':Sp),v2=.ref m2/\Clb P w K mg base C k H2 ga n sp'/\sp' [.ref m1,.ref m2] H2 Q E0
end
structure Txt3(mg:Str->Option FO):Prop where
 cN2:Cst mg "NO_SECOND_TEXT" (.int (-8))
 cMI:Cst mg "MOST_INSTRUMENT_BYTES" (.int 4096)
theorem Ut{K:Gh}{C a:FP}{H:Hp}{t:Bytes}(hS:SqL K H a (tx t)):Rdr (O3 K C) a H (fun v H1=>∃m i,v=.ref m/\readInst t=.ok i/\InOk i/\Same H H1/\TabAt H1 m (tab i)) (∃x,readInst t=.error x):=fun Q E hQ hE=>⟨a,t,rfl,hS,fun x hx y H' d _=>hE ⟨x,hx⟩ _ _ _,fun i hi hok H' m sH hA=>hQ _ _ ⟨m,i,rfl,hi,hok,sH,hA⟩⟩
section
variable{P:FU}{w:F0}{K:Gh}{mg:Str->Option FO}{base:Heap}{B C:FP}
theorem X9:FnScope ["first","read_first","second","read_second","answer","told_first","told_second"] ["first","read_first","second","read_second","answer"] (Gq HW):=⟨rfl,rfl,rfl,by decide +kernel,rfl,by decide +kernel,by decide +kernel⟩
theorem SU{k:Nat}(hk:20<=k){f:FP}{fd:FZ}(F:Fun K "asked_of_texts" "asked_of_texts" HW f fd)(T2:Txt2 mg)(T3:Txt3 mg)(DR:Wm P w K mg base 20 "read_or_none" ["read","text"] (XM P w K mg base C)):
  FnOk P w K mg base CX0 (k+1) f fd ["first","read_first","second","read_second","answer"] (Z3 P w K mg base C k):=by
 refine F.ok X9 (fun vs H Q E h=>?_) (fun cdv A outer s H vs Q E hr h=>?_)
 ·obtain⟨a1,g1,a2,g2,ga,n1,sp1,ok1,er1,rfl,_⟩:=h;rfl
 ·obtain⟨a1,g1,a2,g2,ga,n1,sp1,ok1,er1,rfl,C1,R1,e6,nx⟩:=h;refine⟨_,Gm (Gw (i:=5) X9.nd rfl (Or.inl rfl) (RL DR (hr.mono hk) rfl (Gk (pv 1) (Gk (pv 0) Go))))
   (Gm (GS (Gy PD (pv 5) Lb (GC _)) (Gp (Gz (Hx (Gk (Gx T2.cNS) Go)))) GD)
   (Gm (Gw (i:=6) X9.nd rfl (Or.inl rfl) (RL DR (hr.mono hk) rfl (Gk (pv 3) (Gk (pv 2) Go))))
   (Gm (GS (Gy PD (pv 6) Lb (GC _)) (Gp (Gz (Hx (Gk (Gx T3.cN2) Go)))) GD)
   (Gp (Gz (PF (P:=P) (w:=w) (K:=K) (mg:=mg) (base:=base) (C:=C) (i:=4) (k:=k) (E:=E0) rfl (Or.inl rfl) hr Vi (Gk (pv 5) (Gk (pv 6) Go)))))))),?_⟩
  refine⟨_,rfl,_,rfl,g1,a1,n1,sp1,rfl,C1,R1 _ _ (fun v1 H1 hv1=>?_) fun he c d H'=>?_⟩
  ·obtain⟨m1,n2,sp2,ok2,er2,rfl,C2,R2,e8,nx2⟩:=nx v1 H1 hv1;refine⟨_,rfl,rfl,_,rfl,GV (fun z=>?_) fun _=>?_⟩
   ·have z':V.ref m1=V.non:=of_decide_eq_true z;cases z'
   ·refine⟨_,rfl,_,rfl,g2,a2,n2,sp2,rfl,C2,R2 _ _ (fun v2 H2 hv2=>?_) fun he c d H'=>?_⟩
    ·obtain⟨m2,n,sp',rfl,C3,hsp⟩:=nx2 v2 H2 hv2;refine⟨_,rfl,rfl,_,rfl,GV (fun z=>?_) fun _=>?_⟩
     ·have z':V.ref m2=V.non:=of_decide_eq_true z;cases z'
     ·exact⟨ga,rfl,_,rfl,_,rfl,n,sp',C3,hsp⟩
    ·refine⟨_,rfl,rfl,_,rfl,GV (fun _=>?_) fun z=>absurd (decide_eq_true rfl) z⟩;exact⟨(by show 1<=FT;decide),fun p hp=>e8 he _ p Gn⟩
  ·refine⟨_,rfl,rfl,_,rfl,GV (fun _=>?_) fun z=>absurd (decide_eq_true rfl) z⟩;exact⟨(by show 1<=FT;decide),fun p hp=>e6 he _ p Gn⟩
end
end Lu
namespace L2
open PySem PySem.Spec PyProof.Rows TL
def AaD(te:TE):TE:=fun σ H Q=>te σ H fun x H1=>∃i:Int,x=.int i/\i.natAbs.log2<1920/\Q (.str (Str.ofString (toString i))) H1
theorem OZ{X:Cx}{e:F3}{te:TE}{pos:Pos}(h:PE X e te):PE X (.FormattedValue e (-1) none pos) (AaD te):=by intro pins s σ H Q I hq;refine FormattedValue_plain (thn (h pins s σ H _ I hq) fun u s1 ⟨x,H1,I1,r,i,ex,hl,q⟩=>?_);subst ex;obtain⟨t,rfl⟩:=r;exact formatField_int_small hl ⟨.str (Str.ofString (toString i)),H1,I1.tok _,⟨_,rfl⟩,q⟩
abbrev TJ:=Str->TE
def PJ(X:Cx)(es:List F3)(t:TJ):Prop:=∀(out:Str) (pins:List (FP×Obj)) (s:FS) (σ:St) (H:Hp) (Q:VK),Inv X pins σ H s->t out σ H Q->FW (model X.prog X.w) X.A (joinParts out (evalEach es X.env)) (EP X pins σ Q) X.xe s
def AaZ:TJ:=fun out _ H Q=>out.length<=FT/\Q (.str out) H
def Aah(te:TE)(t:TJ):TJ:=fun out σ H Q=>te σ H fun v H1=>∃y,v=.str y/\(out++y).length<=FT/\t (out++y) σ H1 Q
theorem Ra{X:Cx}:PJ X [] AaZ:=fun out pins s σ H Q I ⟨hz,q⟩=>joinParts_nil ⟨.str out,H,I.tok _,⟨_,rfl⟩,q⟩ hz
theorem Ju{X:Cx}{e:F3}{es:List F3}{te:TE}{t:TJ}(he:PE X e te)(hr:PJ X es t):PJ X (e::es) (Aah te t):=by intro out pins s σ H Q I h;show FW _ _ (joinParts out (eval e X.env::evalEach es X.env)) _ _ s;refine joinParts_cons (thn (he pins s σ H _ I h) fun u s1 ⟨v,H1,I1,r,y,ev,hz,q⟩=>?_);subst ev;obtain⟨t',rfl⟩:=r;exact⟨hz,hr _ pins s1 σ H1 Q I1 q⟩
def W1(t:TJ):TE:=fun σ H Q=>t Str.empty σ H Q
theorem L6{X:Cx}{e1 e2:F3}{es:List F3}{t:TJ}{pos:Pos}(h:PJ X (e1::e2::es) t):PE X (.JoinedStr (e1::e2::es) pos) (W1 t):=fun pins s σ H Q I q=>JoinedStr_many (h Str.empty pins s σ H Q I q)
theorem TH{x:Str}{l:List Nat}(h:tl x=l):x.length=l.length:=by rw[<-h];exact TL.len_tl x
end L2
namespace Lu
open PySem L2 Lute LuR TL
def Tb(x:Str)(l:Bytes):Prop:=tl x=l.map (·.toNat)
theorem Tb.app{x y:Str}{l m:Bytes}(h:Tb x l)(k:Tb y m):Tb (x++y) (l++m):=by unfold Tb at *;rw[LL,h,k,An]
theorem Tb.len{x:Str}{l:Bytes}(h:Tb x l):x.length=l.length:=by rw[TH h,Aa]
theorem Tb.empty:Tb Str.empty []:=rfl
theorem RV{n:Nat}(h:n<10):(Bg (48+n)).toNat=48+n:=by rw[DX,Ef (by lia)]
theorem NF:∀(f n:Nat),n<10 ^ f->(digits f n).map (·.toNat)=if f=0 then [] else numL n
 |0,n,h=>by unfold digits;rfl
 |f+1,n,h=>by
  unfold digits;rw[Gi (Ee f)];by_cases h10:n<10
  ·rw[Gj h10,Xu h10];show[(Bg (48+n)).toNat]=_;rw[RV h10]
  ·rw[Gi h10,An,SG (by lia)];have hf:f≠0:=fun z=>by
    subst z;have:n<10:=h
    lia
   rw[NF f (n / 10) (by rw[CP] at h;lia),Gi hf];congr 1;show[(Bg (48+n % 10)).toNat]=_;rw[RV (Nat.mod_lt _ (by decide))]
theorem Rv{n:Nat}(h:n<10 ^ 12):Tb (Str.ofString (toString ((n:Nat):Int))) (decimal n):=by unfold Tb decimal;rw[tl_num,NF 12 n h];rfl
theorem Wg(n:Nat):toString (-((n+1:Nat):Int))="-"++toString (((n+1:Nat)):Int):=rfl
theorem VO{z:Int}(h:z.natAbs<10 ^ 12):Tb (Str.ofString (toString z)) (whole z):=by
 unfold whole;by_cases hz:z<0
 ·rw[Gj hz];obtain⟨n,rfl⟩:∃n:Nat,z=-((n+1:Nat):Int):=⟨z.natAbs-1,by lia⟩;rw[Wg];have e:=Rv (n:=n+1) (by lia);have e2:(-((n+1:Nat):Int)).natAbs=n+1:=by lia
  rw[e2];unfold Tb at *;rw[QR] at *;rw[String.toList_append,An,e];rfl
 ·rw[Gi hz];obtain⟨n,rfl⟩:∃n:Nat,z=((n:Nat):Int):=⟨z.natAbs,by lia⟩;exact Rv (by lia)
end Lu
namespace L2
open PySem PySem.Spec PyProof.Rows
open LZ (Src)
theorem Up{K:Gh}{a b:Src}{xs ys:List V}{g:TG}{tb:TS}{D:Ends}{σ:St}{H:Hp}(Pv:Nat->St->Hp->Prop)(h0:Pv 0 σ H)(hl:∀i σ H,i<=xs.length->Pv i σ H->SrcV K H a xs/\SrcV K H b ys)(hlen:ys.length=xs.length)
  (hs:∀i x y T σ H,xs[i]?=some x->ys[i]?=some y->Pv i σ H->H T=none->g (.ref T) σ (upd H T (.tup [x,y])) fun σ2 H2=>tb { D with nx:=Pv (i+1),ct:=Pv (i+1),bk:=D.nx } σ2 H2) (hd:∀σ H,Pv xs.length σ H->D.nx σ H):
  ∃W:Nat->Nat->St->Hp->Prop,(∃m,W 0 m σ H)/\∀i m σ H,W i m σ H->
   ((Nb K a b).stop i H/\D.nx σ H)\/((Nb K a b).go i H/\∃N:St->Hp->Prop,(∀σ' H',N σ' H'->∃m',m'<m/\W (i+1) m' σ' H')/\∀x H',(Nb K a b).yld i H x H'->g x σ H' fun σ2 H2=>tb { D with nx:=N,ct:=N,bk:=D.nx } σ2 H2):=by
 refine⟨fun i m σ H=>m=xs.length-i/\i<=xs.length/\Pv i σ H,⟨xs.length,by simp,AD _,h0⟩,?_⟩;rintro i m σ H ⟨rfl,hi,p⟩;obtain⟨q1,q2⟩:=hl i σ H hi p;by_cases hlt:i<xs.length
 ·refine .inr ⟨⟨xs,ys,xs[i],ys[i]'(by lia),q1,q2,by simp[hlt],Ae _⟩,Pv (i+1),fun σ' H' p'=>⟨xs.length-(i+1),by lia,rfl,hlt,p'⟩,fun v H' yl=>?_⟩;obtain⟨T,x,y,rfl,hT,rfl,hx,hy⟩:=yl;exact hs i x y T σ H (hx xs q1) (hy ys q2) p hT
 ·have e:i=xs.length:=by lia
  subst e;exact .inl ⟨⟨xs,ys,q1,q2,Ah _⟩,hd σ H p⟩
end L2
namespace Lu
open PySem PySem.Spec PyProof.Rows L2 Lute LuR LuW LuteSong
theorem KD{n:Nat}(h:n<=99):n.log2<1920:=by
 have:∀m:Fin 100,m.val.log2<1920:=by decide
 exact this ⟨n,by lia⟩
def VR:Sp:=fun vs H Q _=>∃(n:Int) (d:Nat),vs=[.int n,.int (d:Int)]/\1<=d/\d<=24/\(-99<=n/\n<=99)/\∀x,Tb x (powerText n d)->Q (.str x) H
section
variable{P:FU}{w:F0}{K:Gh}{mg:Str->Option FO}{base:Heap}{B C:FP}
theorem Sy:FnScope ["power","parts","common","n","d"] ["power","parts"] (Gq IW):=⟨rfl,rfl,rfl,by decide +kernel,rfl,by decide +kernel,by decide +kernel⟩
theorem WC{f:FP}{fd:FZ}(F:Fun K "power_text" "power_text" IW f fd)(DG:Dfn P w K mg base C 1 "common_factor" ["a","b"] Rj):FnOk P w K mg base (CXF P w C) 2 f fd ["power","parts"] VR:=by
 refine F.okX Sy (fun vs H Q E h=>?_) (fun cdv A outer s H vs Q E hr h=>?_)
 ·obtain⟨n,d,rfl,_⟩:=h;rfl
 ·obtain⟨n,d,rfl,hd1,hd2,hn,k⟩:=h;refine⟨_,Gm (Gw (i:=2) Sy.nd rfl (Or.inl rfl) (GQ DG hr rfl (Gk (pv 0) (Gk (pv 1) Go))))
   (Gm (Gw (i:=3) Sy.nd rfl (Or.inl rfl) (GU Jt (pv 0) (pv 2)))
   (Gm (Gw (i:=4) Sy.nd rfl (Or.inl rfl) (GU Jt (pv 1) (pv 2)))
   (Gm (GS (Gy Oz (pv 4) Gv (GC _)) (Gp (Gz (L6 (Ju HH (Ju (OZ (pv 3)) (Ju HH (Ju (OZ (pv 4)) Ra))))))) GD)
   (Gm (GS (Gy Ho (pv 3) Gv (GC _)) (Gp (Gz HH)) GD)
   (Gp (Gz (L6 (Ju HH (Ju (OZ (pv 3)) Ra))))))))),?_⟩
  have hg:B9 n (d:Int)=AN n.natAbs d:=rfl;generalize hgg:AN n.natAbs d=g at *;have g1:0<g:=by rw[<-hgg];exact Ez _ hd1
  have gd:g∣d:=by rw[<-hgg];exact Bm _ _
  have gn:g∣n.natAbs:=by rw[<-hgg];exact BA _ _
  have g2:g<=d:=Ey hd1 gd;have q1:0<d / g:=Nat.div_pos g2 g1;have q2:d / g<=24:=Ak (Nat.div_le_self _ _) hd2;have e4:(d:Int) / (g:Int)=((d / g:Nat):Int):=(BV d g).symm;have mb:(n / (g:Int)).natAbs<=99:=by
   obtain⟨c,hc⟩:=Fv.mpr gn;rw[hc,De _ (by lia)];have:=congrArg Int.natAbs hc;rw[Cc] at this;have h3:c.natAbs<=((g:Nat):Int).natAbs*c.natAbs:=EM _ (by lia)
   lia
  have pt:powerText n d=if d / g=1 then (if n / (g:Int)=1 then [] else 94::whole (n / (g:Int))) else 94::(whole (n / (g:Int))++47::decimal (d / g)):=by unfold powerText;rw[hgg]
  rw[pt] at k;have tw:=VO (z:=n / (g:Int)) (Ar mb (by decide));have td:=Rv (n:=d / g) (Ar q2 (by decide));have c94:Tb ("^":Str) [94]:=by unfold Tb;decide +kernel
  have c47:Tb ("/":Str) [47]:=by unfold Tb;decide +kernel
  have wl:(whole (n / (g:Int))).length<=13:=by
   have:=tw.len;have h3:∀f m,(digits f m).length<=f:=fun f=>by
    induction f with
    |zero=>intro m;exact Ah _
    |succ f ih=>
     intro m;unfold digits;split
     ·simp
     ·rw[Ac];have:=ih (m / 10);simp only[Be]
      lia
   unfold whole decimal;split
   ·have:=h3 12 (n / (g:Int)).natAbs;simp only[Ad]
    lia
   ·exact Ak (h3 12 _) (by decide)
  have dl:(decimal (d / g)).length<=13:=by
   have h3:∀f m,(digits f m).length<=f:=fun f=>by
    induction f with
    |zero=>intro m;exact Ah _
    |succ f ih=>
     intro m;unfold digits;split
     ·simp
     ·rw[Ac];have:=ih (m / 10);simp only[Be]
      lia
   exact Ak (h3 12 _) (by decide)
  refine⟨_,rfl,_,rfl,n,(d:Int),rfl,?_⟩;rw[hg];refine⟨_,rfl,_,rfl,_,_,rfl,rfl,⟨by lia,by lia⟩,?_⟩;refine⟨_,rfl,_,rfl,_,_,rfl,rfl,⟨by lia,by lia⟩,?_⟩;have td':Tb (Str.ofString (toString ((d:Int) / (g:Int)))) (decimal (d / g)):=by rw[e4];exact td
  have T1:Tb (Str.empty++"^") ([]++[94]):=Tb.empty.app c94;have T2:=T1.app tw;have fit:∀{x:Str} {l:Bytes},Tb x l->l.length<=100->x.length<=FT:=fun t h=>by rw[t.len];exact Ak h (by decide)
  refine⟨_,rfl,_,_,rfl,rfl,_,rfl,?_⟩;refine GV (fun h=>?_) fun h=>?_
  ·have h':(1:Int)<(d:Int) / (g:Int):=of_decide_eq_true h;rw[e4] at h';rw[Gi (by lia)] at k;have T3:=T2.app c47;have T4:=T3.app td';refine⟨_,rfl,fit T1 (by simp),_,rfl,_,rfl,KD mb,_,rfl,fit T2 (by simp only[Ac,Ad,Bj];lia),_,rfl,fit T3 (by simp only[Ac,Ad,Bj];lia),_,rfl,_,rfl,KD (by rw[e4,Bo];lia),_,rfl,fit T4 (by simp only[Ac,Ad,Bj];lia),fit T4 (by simp only[Ac,Ad,Bj];lia),k _ ?_⟩;have e:[]++[94]++whole (n / (g:Int))++[47]++decimal (d / g)=94::(whole (n / (g:Int))++47::decimal (d / g)):=by simp[AT]
   rw[<-e];exact T4
  ·have h':¬(1:Int)<(d:Int) / (g:Int):=fun z=>h (decide_eq_true z);rw[e4] at h';rw[Gj (by lia)] at k;refine⟨_,rfl,rfl,_,rfl,?_⟩;rw[HB];refine GV (fun h1=>?_) fun h1=>?_
   ·rw[Gj (of_decide_eq_true h1)] at k;exact k _ Tb.empty
   ·rw[Gi (fun z=>h1 (decide_eq_true z))] at k;refine⟨_,rfl,fit T1 (by simp),_,rfl,_,rfl,KD mb,_,rfl,fit T2 (by simp only[Ac,Ad,Bj];lia),fit T2 (by simp only[Ac,Ad,Bj];lia),k _ ?_⟩;exact T2
def Vd(K:Gh):Sp:=fun vs H Q _=>∃(b:FP) (x:Iv),vs=[.ref b]/\SqT K H b (ivV x)/\x.ok=true/\∀(H':Hp) (y:Str),Same H H'->Tb y x.text->Q (.str y) H'
def IU(x:Iv):Nat->List Bytes
 |0=>[]
 |1=>factorText 50 x.a x.d
 |2=>factorText 50 x.a x.d++factorText 51 x.b x.d
 |3=>factorText 50 x.a x.d++(factorText 51 x.b x.d++factorText 53 x.c x.d)
 |_=>factorText 50 x.a x.d++(factorText 51 x.b x.d++(factorText 53 x.c x.d++factorText 55 x.e x.d))
theorem RK(x:Iv){i:Nat}{c:Nat}{n:Int}(hc:[50,51,53,55][i]?=some c)(hn:[x.a,x.b,x.c,x.e][i]?=some n):IU x (i+1)=IU x i++factorText (Bg c) n x.d:=by
 match i,hc,hn with
 |0,hc,hn=>cases hc;cases hn;rfl
 |1,hc,hn=>cases hc;cases hn;rfl
 |2,hc,hn=>cases hc;cases hn;show _=factorText 50 x.a x.d++factorText 51 x.b x.d++_;rw[AT];rfl
 |3,hc,hn=>cases hc;cases hn;show _=factorText 50 x.a x.d++(factorText 51 x.b x.d++factorText 53 x.c x.d)++_;rw[AT,AT];rfl
 |i+4,hc,hn=>simp at hc
theorem Sz:∀f m,(digits f m).length<=f:=fun f=>by
 induction f with
 |zero=>intro m;exact Ah _
 |succ f ih=>
  intro m;unfold digits;split
  ·simp
  ·rw[Ac];have:=ih (m / 10);simp only[Be]
   lia
theorem Su(n:Int)(d:Nat):(powerText n d).length<=40:=by
 have h1:=fun z:Int=>show(whole z).length<=13 by
  unfold whole decimal;have:=Sz 12 z.natAbs;split
  ·simp only[Ad];lia
  ·lia
 have h2:=Sz 12 (d / AN n.natAbs d);unfold powerText;dsimp only;have:=h1 (n / ((AN n.natAbs d:Nat):Int));split
 ·split
  ·simp
  ·simp only[Ad];lia
 ·simp only[Ad,Ac];unfold decimal
  lia
theorem MP(x:Iv):∀i,(IU x i).length<=4/\∀l∈IU x i,l.length<=41:=by
 have h1:∀(p:UInt8) (n:Int) (d:Nat),(factorText p n d).length<=1/\∀l∈factorText p n d,l.length<=41:=fun p n d=>by
  unfold factorText;split
  ·simp
  ·refine⟨by simp,fun l hl=>?_⟩;rw[Aj.mp hl];have:=Su n d;simp only[Ad]
   lia
 have a:=h1 50 x.a x.d;have b:=h1 51 x.b x.d;have c:=h1 53 x.c x.d;have e:=h1 55 x.e x.d;intro i;have app:∀{l m:List Bytes} {u v:Nat},(l.length<=u/\∀z∈l,z.length<=41)->(m.length<=v/\∀z∈m,z.length<=41)->((l++m).length<=u+v/\∀z∈l++m,z.length<=41):=fun h k=>⟨by rw[Ac];lia,fun z hz=>(AK.mp hz).elim (h.2 z) (k.2 z)⟩
 match i with
 |0=>exact⟨by simp[IU],fun l hl=>by simp[IU] at hl⟩
 |1=>exact⟨Ak a.1 (by decide),a.2⟩
 |2=>exact⟨Ak (app a b).1 (by decide),(app a b).2⟩
 |3=>exact⟨Ak (app a (app b c)).1 (by decide),(app a (app b c)).2⟩
 |i+4=>exact⟨Ak (app a (app b (app c e))).1 (by decide),(app a (app b (app c e))).2⟩
def Tbs(ys:List Str)(ls:List Bytes):Prop:=ys.map (fun y=>TL.tl y)=ls.map fun l=>l.map (·.toNat)
theorem Tbs.snoc{ys:List Str}{ls:List Bytes}{y:Str}{l:Bytes}(h:Tbs ys ls)(k:Tb y l):Tbs (ys++[y]) (ls++[l]):=by unfold Tbs Tb at *;rw[An,An,h];simp[k]
theorem Tbs.len{ys:List Str}{ls:List Bytes}(h:Tbs ys ls):ys.length=ls.length:=by have:=congrArg Eh h;simpa using this
theorem Tbs.each{ys:List Str}{ls:List Bytes}(h:Tbs ys ls){n:Nat}(k:∀l∈ls,l.length<=n):(ys.map (·.length)).sum<=n*ys.length:=by
 induction ys generalizing ls with
 |nil=>simp
 |cons y ys ih=>
  cases ls with
  |nil=>cases h
  |cons l ls=>
   unfold Tbs at h;rw[AM,AM] at h;injection h with h1 h2;have hy:Tb y l:=h1;have:=ih (ls:=ls) h2 fun z hz=>k z (Aw _ hz);have hl:=k l (AE ..);rw[AM,FM,Ad,hy.len,Ct]
   lia
def Jz(s:Bytes):List Bytes->Bytes
 |[]=>[]
 |[p]=>p
 |p::q::r=>p++(s++Jz s (q::r))
theorem So(s:Bytes):∀ls:List Bytes,(Jz s ls).map (·.toNat)=TL.joinL (s.map (·.toNat)) (ls.map fun l=>l.map (·.toNat))
 |[]=>rfl
 |[p]=>rfl
 |p::q::r=>by show(p++(s++Jz s (q::r))).map (·.toNat)=p.map (·.toNat)++(s.map (·.toNat)++TL.joinL (s.map (·.toNat)) ((q::r).map fun l=>l.map (·.toNat)));rw[An,An,So s (q::r)]
theorem Tbs.join{a:Str}{s:Bytes}{ys:List Str}{ls:List Bytes}(ha:Tb a s)(h:Tbs ys ls):Tb (Txt.join a ys) (Jz s ls):=by unfold Tb;rw[TL.join_eq,TL.tl_join,So];unfold Tb at ha;unfold Tbs at h;rw[ha,h]
theorem PV:∀ls:List Bytes,joined ls=Jz [32] ls
 |[]=>rfl
 |[p]=>rfl
 |p::q::r=>by show p++32::joined (q::r)=p++([32]++Jz [32] (q::r));rw[PV (q::r)];rfl
theorem Sx:FnScope ["interval","factors","digit","power"] ["interval"] (Gq Ib):=⟨rfl,rfl,rfl,by decide +kernel,rfl,by decide +kernel,by decide +kernel⟩
theorem Yt{f:FP}{fd:FZ}(F:Fun K "interval_text" "interval_text" Ib f fd)(T:Txt K mg B C)(cFS:Cst mg "FACTOR_SIGNS" (.str "2357"))(DP:Dfn P w K mg base C 2 "power_text" ["power","parts"] VR):FnOk P w K mg base (CXF P w C) 3 f fd ["interval"] (Vd K):=by
 refine F.okX Sx (fun vs H Q E h=>?_) (fun cdv A outer s H vs Q E hr h=>?_)
 ·obtain⟨b,x,rfl,_⟩:=h;rfl
 ·obtain⟨b,x,rfl,hb,hok,k⟩:=h;obtain⟨ba,bb,bc,be,d1,d2,_⟩:=HV hok;refine⟨_,Gm (Gw (i:=1) Sx.nd rfl (Or.inl rfl) (Hx Go))
   (Gm (Ic IC rfl (UL (by rfl) T.zip (Gk (Gx cFS) (Gk (JN LS (pv 0) KC (KB Gv)) Go))) (Jm rfl (GX (GJ (i:=2) Sx.nd rfl (Or.inl rfl)) (GX (GJ (i:=3) Sx.nd rfl (Or.inl rfl)) Il)))
    (Gp (GS (Gy JP (pv 3) Gv (GC _)) (Gp (GB (IN AC AB AA G6 (pv 1) (Gk (GU JT (pv 2) (GQ DP hr rfl (Gk (pv 3) (Gk (HJ IS (pv 0) Gv (fun _ _=>rfl)) Go)))) Go)))) GD)))
   (Gm (GS (NI (Li (pv 1) (fun _=>rfl))) (Gp (Gz HH)) GD)
   (Gp (Gz (Pf HH (pv 1)))))),?_⟩
  have e4:(Str.ofString "2357").cps.toList=[50,51,53,55]:=by decide +kernel
  have eX:(Str.ofString "2357").cps.toList.map (fun c=>V.str ⟨#[c]⟩)=[50,51,53,55].map fun c=>V.str ⟨#[c]⟩:=by rw[e4]
  refine⟨AD _,fun m hm=>?_⟩;have sm:=Gu (o:=.lst []) hm;refine⟨_,rfl,_,rfl,b,_,rfl,sm.tup hb,LJ x,fun p hp=>?_⟩;rw[TR];have sp:=Gu (o:=.tup [.int x.a,.int x.b,.int x.c,.int x.e]) hp;have pm:m≠p:=fun z=>by rw[<-z,Gn] at hp;cases hp
  refine⟨"2357",p,_,rfl,(by decide +kernel),SqT.of Gn,fun t=>Up (K:=K) (a:=.txt "2357" t) (b:=.tup p) (xs:=(Str.ofString "2357").cps.toList.map fun c=>V.str ⟨#[c]⟩) (ys:=[.int x.a,.int x.b,.int x.c,.int x.e]) (fun i σ H'=>∃(v w:Option V) (ys:List Str),σ=[some (.ref b),some (.ref m),v,w]/\Same H H'/\H' p=some (.tup [.int x.a,.int x.b,.int x.c,.int x.e])/\H' m=some (.lst (ys.map V.str))/\Tbs ys (IU x i))
   ⟨none,none,[],rfl,sm.trans sp,Gn,by rw[Gr pm];exact Gn,rfl⟩ (fun i σ H' _ ⟨_,_,_,_,_,hp',_⟩=>⟨⟨by decide +kernel,rfl⟩,SqT.of hp'⟩) (by rw[eX];rfl) ?_ ?_⟩
  ·rintro i u v TT σ H' hu hv ⟨v0,w0,ys,rfl,sH,hp',hm',tb⟩ hT;obtain⟨c,n,rfl,rfl,hc,hn,hc8,hnb⟩:∃(c:Nat) (n:Int),u=.str ⟨#[c]⟩/\v=.int n/\[50,51,53,55][i]?=some c/\[x.a,x.b,x.c,x.e][i]?=some n/\c<256/\(-99<=n/\n<=99):=by
    rw[eX] at hu
    match i,hu,hv with
    |0,hu,hv=>cases hu;cases hv;exact⟨_,_,rfl,rfl,rfl,rfl,by decide,ba⟩
    |1,hu,hv=>cases hu;cases hv;exact⟨_,_,rfl,rfl,rfl,rfl,by decide,bb⟩
    |2,hu,hv=>cases hu;cases hv;exact⟨_,_,rfl,rfl,rfl,rfl,by decide,bc⟩
    |3,hu,hv=>cases hu;cases hv;exact⟨_,_,rfl,rfl,rfl,rfl,by decide,be⟩
    |i+4,hu,hv=>simp at hv
   have sT:=Gu (o:=.tup [.str ⟨#[c]⟩,.int n]) hT;have fs:=RK x hc hn;have fl:=MP x i;refine⟨TT,_,rfl,SqT.of Gn,rfl,_,_,rfl,_,_,rfl,rfl,?_⟩;refine⟨_,rfl,rfl,_,rfl,?_⟩;rw[HB];refine GV (fun h=>?_) fun h=>?_
   ·have hn0:¬n=0:=fun z=>by rw[z] at h;exact absurd h (by decide)
    have ef:factorText (Bg c) n x.d=[Bg c::powerText n x.d]:=by unfold factorText;rw[Gi hn0]
    refine⟨_,rfl,.inl ⟨rfl,_,SqL.of (sT _ _ hm')⟩,?_⟩;refine⟨_,rfl,_,rfl,_,rfl,b,_,_,_,rfl,rfl,sT.tup (sH.tup hb),Ie (j:=4) rfl rfl,n,x.d,rfl,d1,d2,hnb,fun y hy=>?_⟩;have pl:=Su n x.d;have tc:Tb (⟨#[c]⟩:Str) [Bg c]:=by show[c]=[(Bg c).toNat];rw[DX,Ef hc8]
    refine⟨_,_,rfl,rfl,?_,m,_,_,rfl,rfl,sT _ _ hm',?_,?_⟩
    ·rw[tc.len,hy.len];exact Ak (show 1+(powerText n x.d).length<=50 by lia) (by decide)
    ·rw[Aa,tb.len];exact Ar fl.1 (by decide)
    ·refine⟨_,_,ys++[⟨#[c]⟩++y],rfl,fun q o hq=>?_,?_,?_,?_⟩
     ·rw[Gr (fun z=>by rw[z,hm] at hq;cases hq)];exact sT _ _ (sH _ _ hq)
     ·rw[Gr (Ne.symm pm)];exact sT _ _ hp'
     ·rw[Gn,An];rfl
     ·rw[fs,ef];exact tb.snoc (tc.app hy)
   ·have hn0:n=0:=by
     by_cases z:n=0
     ·exact z
     ·exact absurd (by rw[decide_eq_false z];rfl) h
    have ef:factorText (Bg c) n x.d=[]:=by unfold factorText;rw[Gj hn0]
    refine⟨_,_,ys,rfl,sH.trans sT,sT _ _ hp',sT _ _ hm',?_⟩;rw[fs,ef,AX];exact tb
  ·rintro σ H' ⟨v0,w0,ys,rfl,sH,hp',hm',tb⟩;have e5:((Str.ofString "2357").cps.toList.map fun c=>V.str ⟨#[c]⟩).length=4:=by rw[eX];rfl
   rw[e5] at tb;have et:x.text=if (IU x 4).isEmpty=true then [49] else joined (IU x 4):=rfl;have ee:ys.isEmpty=(IU x 4).isEmpty:=by
    have:=tb.len;cases ys with
    |nil=>
     cases hf:IU x 4 with
     |nil=>rfl
     |cons a r=>rw[hf] at this;simp at this
    |cons a r=>
     cases hf:IU x 4 with
     |nil=>rw[hf] at this;simp at this
     |cons a r=>rfl
   refine⟨_,rfl,_,.inl ⟨_,SqL.of hm',rfl⟩,?_⟩;rw[et] at k;have em:(ys.map V.str).isEmpty=ys.isEmpty:=by cases ys <;> rfl
   rw[em,ee];cases hf:(IU x 4).isEmpty with
   |true=>rw[hf] at k;exact k H' "1" sH (by rw[Gj rfl];unfold Tb;decide +kernel)
   |false=>
    rw[hf] at k;refine⟨⟨_,rfl⟩,_,rfl," ",m,ys,rfl,rfl,.inl (SqL.of hm'),?_,k H' _ sH ?_⟩
    ·have h1:=tb.each (n:=41) (MP x 4).2;have h2:=(MP x 4).1;have h3:=tb.len;have h4:(Str.ofString " ").length=1:=by decide +kernel
     rw[h4]
     lia
    ·rw[Gi Ag,PV];exact tb.join (by unfold Tb;decide +kernel)
end
end Lu
namespace L2
open PySem PySem.Spec PyProof.Rows
inductive KPairsS:List Gb->List (Int×Str)->Prop
 |nil:KPairsS [] []
 |cons {k:Int} {x:Str} {t u:Tok} {es:List Gb} {kvs:List (Int×Str)}:KPairsS es kvs->KPairsS (⟨hashInt k,.int k t,.str x u⟩::es) ((k,x)::kvs)
structure KDictS(K:Gh)(a:FP)(kvs:List (Int×Str)):Prop where
 obj:∃(es:Array Gb) (n:Nat),K.lookup a=some ⟨.type "dict",none,.dict es n,#[]⟩/\KPairsS es.toList kvs
 nd:(kvs.map (·.1)).Nodup
 ns:(a==Gd)=false
abbrev kdS(kvs:List (Int×Str)):List (Key×V):=kvs.map fun p=>(Sum.inl p.1,V.str p.2)
theorem V7(kvs:List (Int×Str))(k:Int):Iy (kdS kvs) (Sum.inl k)=(kvs.lookup k).map V.str:=by
 induction kvs with
 |nil=>rfl
 |cons p r ih=>
  obtain⟨a,b⟩:=p;unfold Iy at ih ⊢;simp only[kdS,AM,BO,AQ];by_cases e:a=k
  ·subst e;simp
  ·have e1:¬(Sum.inl a:Key)=Sum.inl k:=fun z=>e (Sum.inl.inj z);have e2:(k==a)=false:=beq_eq_false_iff_ne.mpr (Ne.symm e);simp only[e1,decide_false,e2];exact ih
theorem KDictS.at_{K:Gh}{a:FP}{kvs:List (Int×Str)}{P:FU}{w:F0}{h:Heap}(D:KDictS K a kvs)(X:K.In h):∃vs,KV (kdS kvs) vs/\h.DictOf (G0 P w) a vs:=by
 obtain⟨⟨es,n,lk,ps⟩,nd,_⟩:=D;have ho:=X _ _ lk;have main:∀{l:List Gb} {m:List (Int×Str)},KPairsS l m->∃vs:List (Key×FO),KV (kdS m) vs/\(∀e∈l,∃k,(G0 P w).is k e.key=true/\e.hash=(G0 P w).hash k)/\Pairs (G0 P w) l vs/\vs.map (·.1)=m.map fun p=>Sum.inl p.1:=by
  intro l m q
  induction q with
  |nil=>exact⟨[],.nil,(fun e he=>by cases he),.nil,rfl⟩
  |@cons k v t u es kvs q ih=>
   obtain⟨vs,h1,h2,h3,h4⟩:=ih;refine⟨(Sum.inl k,.str v u)::vs,.cons ⟨rfl,u,rfl⟩ h1,fun e he=>?_,.cons (IM P w k t) rfl h3,by simp[h4]⟩;rcases Ao.mp he with rfl | he
   ·exact⟨Sum.inl k,IM P w k t,rfl⟩
   ·exact h2 e he
 obtain⟨vs,h1,h2,h3,h4⟩:=main ps;refine⟨vs,h1,_,es,n,ho,⟨rfl,rfl,rfl⟩,rfl,fun e he=>h2 e (by simpa using he),h3,?_⟩;rw[h4];have e:(kvs.map fun p=>(Sum.inl p.1:Key))=(kvs.map (·.1)).map Sum.inl:=by rw[A0];rfl
 rw[e];exact List.Pairwise.map _ (fun a b h z=>h (Sum.inl.inj z)) nd
def UR(a:FP)(kvs:List (Int×Str))(td ty:TE):TE:=fun σ H Q=>td σ H fun x H1=>ty σ H1 fun y H2=>∃k v,x=.ref a/\y=.int k/\kvs.lookup k=some v/\Q (.str v) H2
theorem SJ{X:Cx}{a:FP}{kvs:List (Int×Str)}{i o:F3}{pos:Pos}{ty td:TE}(D:KDictS X.K a kvs)(ho:PE X o td)(hi:PE X i ty)(hs:Xf i):PE X (.Subscript o i pos) (UR a kvs td ty):=by
 intro pins s σ H Q I h;refine Py CN.lookup hs (thn (ho pins s σ H _ I h) fun u s1 ⟨x,H1,I1,rx,q1⟩=>thn (hi pins s1 σ H1 _ I1 q1) fun iv s2 ⟨y,H2,I2,ry,k,v,ex,ey,l,q2⟩=>?_);subst ex ey;obtain rfl:u=FO.ref a:=rx;obtain⟨vs,rel,dd⟩:=D.at_ (P:=X.prog) (w:=X.w) I2.kIn;obtain⟨w',hw,rw'⟩:=RelO.some_of (v:=V.str v) (o:=valueAt vs (Sum.inl k)) (by have z:=rel.val (Sum.inl k);rw[V7,l] at z;exact z)
 exact⟨dd.typeIs,wpAny_getItem_of (N1 (k:=Sum.inl k) ry) dd.mapOf hw ⟨.str v,H2,I2.tok _,rw',q2⟩⟩
theorem VN{x:Str}{g:TG}{tt:TT}{te:TE}{vs:List Nat}{σ:St}{H1:Hp}{D:FP}{Qd:Hp->Prop}(Pv:Nat->Hp->Prop)(h0:Pv 0 (upd H1 D (.lst [])))
  (hs:∀i c H,x.cps[i]?=some c->Pv i H->g (.str ⟨#[c]⟩) (Hl σ vs) H fun σ2 H2=>Hl σ2 vs=Hl σ vs/\tt σ2 H2 fun b H3=>if b=true then te σ2 H3 fun y H4=>∃acc,H4 D=some (.lst acc)/\acc.length<FT/\Pv (i+1) (upd H4 D (.lst (acc++[y]))) else Pv (i+1) H3) (hd:∀H,Pv x.cps.size H->Qd H):
  ∃W:Nat->Nat->Hp->Prop,(∃m,W 0 m (upd H1 D (.lst [])))/\∀i m H,W i m H->
   ((Its x).stop i H/\Qd H)\/((Its x).go i H/\∃Nx:Hp->Prop,(∀H',Nx H'->∃m',m'<m/\W (i+1) m' H')/\∀y H',(Its x).yld i H y H'->g y (Hl σ vs) H' fun σ2 H2=>Hl σ2 vs=Hl σ vs/\tt σ2 H2 fun b H3=>
    if b=true then te σ2 H3 fun y H4=>∃acc,H4 D=some (.lst acc)/\acc.length<FT/\Nx (upd H4 D (.lst (acc++[y]))) else Nx H3):=by
 refine⟨fun i m H=>m=x.cps.size-i/\i<=x.cps.size/\Pv i H,⟨x.cps.size,by simp,AD _,h0⟩,?_⟩;rintro i m H ⟨rfl,hi,p⟩;by_cases hlt:i<x.cps.size
 ·refine .inr ⟨hlt,Pv (i+1),fun H' p'=>⟨x.cps.size-(i+1),by lia,rfl,hlt,p'⟩,fun v H' y=>?_⟩;obtain⟨e,c,hc,ev⟩:=y;subst e ev;exact hs i c _ hc p
 ·have e:i=x.cps.size:=by lia
  subst e;exact .inl ⟨Ah _,hd H p⟩
end L2
namespace Lu
open PySem PySem.Spec PyProof.Rows L2 Lute LuR LuW LuteSong
abbrev OB:List (Int×Str):=[(1,"x"),(2,"t"),(4,"s"),(8,"e"),(16,"q"),(32,"h"),(64,"w"),(3,"t."),(6,"s."),(12,"e."),(24,"q."),(48,"h."),(96,"w.")]
theorem LR{n:Nat}(h:n∈AJ):∃x,OB.lookup (n:Int)=some x/\Tb x (AR n)/\(AR n).length<=2:=by
 have h1:∀m∈AJ,(OB.lookup (m:Int)).any (fun x=>decide (TL.tl x=(AR m).map (·.toNat)))=true/\(AR m).length<=2:=by decide +kernel
 obtain⟨h2,h3⟩:=h1 n h;cases q:OB.lookup (n:Int) with
 |none=>rw[q] at h2;cases h2
 |some x=>rw[q] at h2;have h4:TL.tl x=(AR n).map (·.toNat):=of_decide_eq_true h2;exact⟨x,rfl,h4,h3⟩
def Ym{β:Type}(fv:β->List V)(ok:List β->Prop)(ct:List β->Bytes):Sp:=fun vs H Q _=>∃(nl:FP) (l:List β),vs=[.ref nl]/\TupsAt fv H nl l/\ok l/\∀(H':Hp) (y:Str),Same H H'->Tb y (ct l)->Q (.str y) H'
theorem Qc:∀l:List Iv,l≠[]->commas l=Jz [44,32] (l.map Iv.text)
 |[],h=>absurd rfl h
 |[x],_=>rfl
 |x::y::r,_=>by show x.text++(44::32::commas (y::r))=x.text++([44,32]++Jz [44,32] ((y::r).map Iv.text));rw[Qc (y::r) (by simp)];rfl
theorem Nq:∀(ls:List Bytes) (n:Nat),(∀l∈ls,l.length<=n)->(joined ls).length<=(n+1)*ls.length
 |[],n,_=>by simp[joined]
 |[p],n,h=>by
  have:=h p (Aj.mpr rfl);show p.length<=(n+1)*1
  lia
 |p::q::r,n,h=>by
  have h1:=h p (AE ..);have h2:=Nq (q::r) n fun l hl=>h l (Aw _ hl);show(p++32::joined (q::r)).length<=(n+1)*((q::r).length+1);rw[Ac,Ad,Ct]
  lia
theorem Nz(x:Iv):x.text.length<=200:=by
 have et:x.text=if (IU x 4).isEmpty=true then [49] else joined (IU x 4):=rfl;rw[et];obtain⟨h1,h2⟩:=MP x 4;split
 ·simp
 ·have:=Nq (IU x 4) 41 h2;exact Ak this (Ak (D1 _ h1) (by decide))
theorem NS:∀l:List Iv,(commas l).length<=1+202*l.length
 |[]=>by simp[commas]
 |[x]=>by
  have:=Nz x;show x.text.length<=1+202*1
  lia
 |x::y::r=>by
  have h1:=Nz x;have h2:=NS (y::r);show(x.text++(44::32::commas (y::r))).length<=1+202*((y::r).length+1);rw[Ac,Ad,Ad,Ct]
  lia
section
variable{P:FU}{w:F0}{K:Gh}{mg:Str->Option FO}{base:Heap}{B C:FP}
abbrev okN(l:List Iv):Prop:=(∀x∈l,x.ok=true)/\l.length<=14
abbrev ntN:List Str:=["notes","note"]
theorem Uq:FnScope ntN ["notes"] (Gq Ij):=⟨rfl,rfl,rfl,by decide +kernel,rfl,by decide +kernel,by decide +kernel⟩
theorem Wj{f:FP}{fd:FZ}(F:Fun K "notes_text" "notes_text" Ij f fd)(DI:Dfn P w K mg base C 3 "interval_text" ["interval"] (Vd K)):FnOk P w K mg base (CXF P w C) 4 f fd ["notes"] (Ym ivV okN commas):=by
 refine F.okX Uq (fun vs H Q E h=>?_) (fun cdv A outer s H vs Q E hr h=>?_)
 ·obtain⟨nl,l,rfl,_⟩:=h;rfl
 ·obtain⟨nl,l,rfl,hN,hok,k⟩:=h;obtain⟨gi,fdi,GI,hmi,hki,hbi⟩:=DI;refine⟨_,Gm (GS (NI (Li (pv 0) (fun _=>rfl))) (Gp (Gz HH)) GD)
   (Gp (Gz (Pf HH (Mu (own:=[("note",1)]) (g:=HY 1) (te:=Lv (Vd K) [] E0 (Hm (Hw 1) IR)) rfl Uq.nd (Ik (pv 0))
     (show BlkOk ntN (Gq Ij) _ [("note",1)] from ⟨rfl,by decide +kernel,by decide +kernel,by decide +kernel,by decide +kernel⟩)
     (fun _ _ _ _ _=>GJ (i:=1) Uq.nd rfl (Or.inl rfl)) (fun _ _ _ _ _=>Ip)
     (fun _ _ _ _ _=>LI GI hr rfl hmi hki hbi .nil Vi (Gk (pv 1) Go)))))),?_⟩
  obtain⟨bs,h1,h2,h3⟩:=hN;refine⟨_,rfl,_,.inl ⟨_,SqL.of h1,rfl⟩,?_⟩;cases l with
  |nil=>have eb:bs=[]:=Cp.mp h2;rw[eb];exact k H "." (Same.refl _) (by unfold Tb;decide +kernel)
  |cons x0 r0=>
   generalize hl:x0::r0=l at *;have hne:l≠[]:=by rw[<-hl];simp
   have eb:(!(!(bs.map V.ref).isEmpty))=false:=by
    cases bs with
    |nil=>rw[<-hl] at h2;simp at h2
    |cons b r=>rfl
   rw[eb];refine Rc ?_;refine⟨⟨_,rfl⟩,_,rfl,nl,rfl,⟨_,SqL.of h1⟩,fun D hD=>Pc (K:=K) (a:=nl) (xs:=bs.map V.ref) (fun i H'=>Same H H'/\∃ys:List Str,H' D=some (.lst (ys.map V.str))/\Tbs ys ((l.take i).map Iv.text)) ⟨Gu hD,[],Gn,rfl⟩ (fun i H' _ q=>SqL.of (q.1 _ _ h1)) ?_ ?_⟩
   ·rintro i v H' hv ⟨sH,ys,hd,tb⟩;rw[Al] at hv;cases hb:bs[i]? with
    |none=>rw[hb] at hv;cases hv
    |some b=>
     rw[hb] at hv;cases hv;have hi:i<l.length:=by rw[<-h2];exact(Ai.mp hb).1
     have hx:l[i]?=some l[i]:=Ae hi;have tk:l.take (i+1)=l.take i++[l[i]]:=by rw[Bh,hx];rfl
     refine⟨rfl,_,rfl,b,l[i],rfl,SqT.of (sH _ _ (h3 i b _ hb hx)),hok.1 _ (Bz hi),fun H2 y s2 hy=>?_⟩;refine⟨_,s2 _ _ hd,?_,fun c o hc=>?_,ys++[y],?_,?_⟩
     ·rw[Aa,tb.len,Aa,Ax];exact Ar (Ak (Bc _ _) hok.2) (by decide)
     ·rw[Gr (Gs hc hD)];exact s2 _ _ (sH _ _ hc)
     ·rw[Gn,An];rfl
     ·rw[tk,An];exact tb.snoc hy
   ·rintro H' ⟨sH,ys,hd,tb⟩;rw[Aa,h2,AU] at tb;refine⟨", ",D,ys,rfl,rfl,.inl (SqL.of hd),?_,k H' _ sH ?_⟩
    ·have q1:=tb.each (n:=200) (fun z hz=>by obtain⟨x,_,rfl⟩:=AZ.mp hz;exact Nz x)
     have q2:=tb.len;rw[Aa] at q2;have q3:=hok.2;have q4:(Str.ofString ", ").length=2:=by decide +kernel
     rw[q4]
     lia
    ·rw[Qc l hne];exact tb.join (by unfold Tb;decide +kernel)
end
section
variable{β:Type}(ct:List β->Bytes)
def Ld(b:Nat):Ln β->Bytes
 |none=>[124]
 |some (m,l)=>(if m=b then [] else AR m)++32::ct l
def Ig:Nat->List (Ln β)->Nat
 |b,[]=>b
 |b,none::r=>Ig b r
 |_,some (m,_)::r=>Ig m r
def Hy:Nat->List (Ln β)->List Bytes
 |_,[]=>[]
 |b,none::r=>Ld ct b none::Hy b r
 |b,some (m,l)::r=>Ld ct b (some (m,l))::Hy m r
theorem KQ(v:Ln β):∀(ls:List (Ln β)) (b:Nat),Hy ct b (ls++[v])=Hy ct b ls++[Ld ct (Ig b ls) v]
 |[],b=>by
  cases v with
  |none=>rfl
  |some p=>rfl
 |none::r,b=>by show Ld ct b none::Hy ct b (r++[v])=Ld ct b none::(Hy ct b r++[Ld ct (Ig b r) v]);rw[KQ v r b]
 |some (m,l)::r,b=>by show Ld ct b (some (m,l))::Hy ct m (r++[v])=Ld ct b (some (m,l))::(Hy ct m r++[Ld ct (Ig m r) v]);rw[KQ v r m]
theorem KW:∀(ls:List (Ln β)) (b:Nat),Ig b (ls++[none])=Ig b ls
 |[],b=>rfl
 |none::r,b=>KW r b
 |some (m,l)::r,b=>KW r m
theorem KZ(m:Nat)(l:List β):∀(ls:List (Ln β)) (b:Nat),Ig b (ls++[some (m,l)])=m
 |[],b=>rfl
 |none::r,b=>KZ m l r b
 |some (m',l')::r,b=>KZ m l r m'
theorem JS:∀(ls:List (Ln β)) (b:Nat),(Hy ct b ls).length=ls.length
 |[],b=>rfl
 |none::r,b=>by show(Hy ct b r).length+1=r.length+1;rw[JS r b]
 |some (m,l)::r,b=>by show(Hy ct m r).length+1=r.length+1;rw[JS r m]
def Ru(ls:List (Ln β)):Bytes:=(Hy ct 0 ls).flatMap fun q=>q++[10]
end
theorem Qm:∀(p:Bytes) (r:List Bytes),Jz [10] (p::r)++[10]=p++10::r.flatMap fun q=>q++[10]
 |p,[]=>by show p++[10]=p++10::[];rfl
 |p,q::r=>by show(p++([10]++Jz [10] (q::r)))++[10]=p++10::(q++[10]++r.flatMap fun q=>q++[10]);have:=Qm q r;rw[AT,AT,this];simp
theorem Oq(s:Bytes):∀(ls:List Bytes) (n:Nat),(∀l∈ls,l.length<=n)->(Jz s ls).length<=(n+s.length)*ls.length
 |[],n,_=>by simp[Jz]
 |[p],n,h=>by
  have:=h p (Aj.mpr rfl);show p.length<=(n+s.length)*1
  lia
 |p::q::r,n,h=>by
  have h1:=h p (AE ..);have h2:=Oq s (q::r) n fun l hl=>h l (Aw _ hl);show(p++(s++Jz s (q::r))).length<=(n+s.length)*((q::r).length+1);rw[Ac,Ac,Ct]
  lia
def VW:List V->Hp->VK->Prop:=fun xs H Q=>∃x:Str,xs=[.str x]/\x.length=1/\Q (.int (x.cps.getD 0 0:Nat)) H
def Ss(P:FU)(w:F0)(K:Gh)(mg:Str->Option FO)(base:Heap)(C:FP):Sp:=fun vs H Q _=>∃(β:Type) (fv:β->List V) (ok:List β->Prop) (ct:List β->Bytes) (first:Str) (fb:Bytes) (m g:FP) (ls:List (Ln β)),
 vs=[.str first,.ref m,.ref g]/\Tb first fb/\fb.length<=100/\LinesAt fv ok H m ls/\ls.length<=512/\(∀n l,some (n,l)∈ls->n∈AJ)/\(∀l,ok l->(ct l).length<=3000)/\Clb P w K mg base C 20 H g 1 (Ym fv ok ct) ∧
 ∀(H':Hp) (p:FP),Same H H'->H' p=some (.lst (tx (fb++10::Ru ct ls)))->Q (.ref p) H'
section
variable{P:FU}{w:F0}{K:Gh}{mg:Str->Option FO}{base:Heap}{B C:FP}
theorem WN{c:Bool}{Q:VK}{H:Hp}{al:FP}{σ:List (Option V)}{n b:Nat}(hc:c=decide ((n:Int)=(b:Int)))(hn:n∈AJ)(hσ:σ[5]?=some (some (.int (n:Int))))(h:∀sg:Str,Tb sg (if n=b then [] else AR n)->sg.length<=2->Q (.str sg) H):
  if c=true then tC (.str "") σ H Q else UR al OB (tC (.ref al)) (Hw 5) σ H Q:=by
 by_cases e:n=b
 ·have h1:c=true:=by rw[hc];exact decide_eq_true (by lia)
  rw[h1];refine Xd (h "" ?_ (by decide +kernel));rw[Gj e];unfold Tb
  decide +kernel
 ·have h1:c=false:=by rw[hc];exact decide_eq_false (by lia)
  rw[h1];obtain⟨x,q1,q2,q3⟩:=LR hn;refine Rc ⟨_,hσ,(n:Int),x,rfl,rfl,q1,h x ?_ (by rw[q2.len];exact q3)⟩;rw[Gi e];exact q2
theorem Tbs.cons_len{ys:List Str}{fb:Bytes}{rs:List Bytes}(h:Tbs ys (fb::rs)):ys.length=rs.length+1:=by have:=h.len;simpa using this
abbrev wrN:List Str:=["first","lines","content_text","rows","before","length","content","sign"]
theorem Lr:FnScope wrN ["first","lines","content_text"] (Gq HZ):=⟨rfl,rfl,rfl,by decide +kernel,rfl,by decide +kernel,by decide +kernel⟩
theorem UJ{f:FP}{fd:FZ}(F:Fun K "write_lines" "write_lines" HZ f fd)(T:Txt K mg B C)(hLS:∃a,Cst mg "LENGTH_SIGNS" (.ref a)/\KDictS K a OB):FnOk P w K mg base (CXF P w C) 21 f fd ["first","lines","content_text"] (Ss P w K mg base C):=by
 refine F.okX Lr (fun vs H Q E h=>?_) (fun cdv A outer s H vs Q E hr h=>?_)
 ·obtain⟨β,fv,ok,ct,first,fb,m,g,ls,rfl,_⟩:=h
  rfl
 ·obtain⟨β,fv,ok,ct,first,fb,m,g,ls,rfl,hfb,hfl,hL,h512,hlen,hct,CL,kQ⟩:=h
  obtain⟨al,hal,hD⟩:=hLS;refine⟨_,Gm (Gw (i:=3) Lr.nd rfl (Or.inl rfl) (Hx (Gk (pv 0) Go)))
   (Gm (Gw (i:=4) Lr.nd rfl (Or.inl rfl) Gv)
   (Gm (Ic IC rfl (Ik (pv 1)) (Jm rfl (GX (GJ (i:=5) Lr.nd rfl (Or.inl rfl)) (GX (GJ (i:=6) Lr.nd rfl (Or.inl rfl)) Il)))
    (Gp (GS (Gy Ho (pv 5) Gv (GC _))
     (Gp (GB (IN AC AB AA G6 (pv 3) (Gk HH Go))))
     (Gm (Gw (i:=7) Lr.nd rfl (Or.inl rfl) (QG (Gy Ho (pv 5) (pv 4) (GC _)) HH (SJ hD (Gx hal) (pv 5) (fun _ _=>rfl))))
     (Gm (GB (IN AC AB AA G6 (pv 3) (Gk (GU JT (GU JT (pv 7) HH) (PF (P:=P) (w:=w) (K:=K) (mg:=mg) (base:=base) (i:=2) (C:=C) (k:=20) (E:=E0) rfl (Or.inl rfl) hr Vi (Gk (pv 6) Go))) Go)))
     (Gp (Gw (i:=4) Lr.nd rfl (Or.inl rfl) (pv 5))))))))
   (Gp (Gz (Mu (own:=[("sign",7)]) (g:=HY 7) (te:=tCB VW (Hm (Hw 7) IR)) rfl Lr.nd (RI (GU JT (Pf HH (pv 3)) HH))
     (show BlkOk wrN (Gq HZ) _ [("sign",7)] from ⟨rfl,by decide +kernel,by decide +kernel,by decide +kernel,by decide +kernel⟩)
     (fun _ _ _ _ _=>GJ (i:=7) Lr.nd rfl (Or.inl rfl)) (fun _ _ _ _ _=>Ip)
     (fun _ _ _ _ _=>G1 (r:=VW) NP (by rfl) T.ord boot_ord (Gk (pv 7) Go))))))),?_⟩
  have hL':=hL;obtain⟨bs,hbs,hbl,hbv⟩:=hL;have fit:∀{x:Str} {l:Bytes},Tb x l->∀{n:Nat},l.length<=n->x.length<=n:=fun t _ h=>by rw[t.len];exact h
  refine⟨_,rfl,(by show 1<=FT;decide),fun rw hrw=>?_⟩;have srw:=Gu (o:=.lst [.str first]) hrw
  refine⟨_,rfl,m,rfl,⟨_,SqL.of (srw _ _ hbs)⟩,Jn (K:=K) (a:=m) (xs:=bs.map V.ref) (fun i σ H'=>∃(v5 v6 v7:Option V) (ys:List Str),σ=[some (.str first),some (.ref m),some (.ref g),some (.ref rw),some (.int (Ig 0 (ls.take i):Int)),v5,v6,v7]/\Same H H'/\H' rw=some (.lst (ys.map V.str))/\Tbs ys (fb::Hy ct 0 (ls.take i))/\∀l∈Hy ct 0 (ls.take i),l.length<=3010)
   ⟨none,none,none,[first],rfl,srw,Gn,congrArg (fun z=>[z]) hfb,fun l hl=>by simp[Hy] at hl⟩ (fun i σ H' _ ⟨_,_,_,_,_,sH,_⟩=>SqL.of (sH _ _ hbs)) ?_ ?_⟩
  ·rintro i x σ H' hx ⟨v5,v6,v7,ys,rfl,sH,hrw',tb,rl⟩;rw[Al] at hx;cases hb:bs[i]? with
   |none=>rw[hb] at hx;cases hx
   |some b=>
    rw[hb] at hx;cases hx;have hi:i<ls.length:=by rw[<-hbl];exact(Ai.mp hb).1
    have hv:ls[i]?=some ls[i]:=Ae hi;have hin:ls[i]∈ls:=Bz hi;have tk:ls.take (i+1)=ls.take i++[ls[i]]:=by rw[Bh,hv];rfl
    have at_:=hbv i b _ hb hv;have yl:ys.length<=513:=by
     rw[tb.cons_len,JS,Ax]
     lia
    rw[tk,KQ];generalize ls[i]=v at *;have grow:∀(H2:Hp) (y:Str) (b5 b6 b7:Option V) (n:Nat),Same H' H2->Tb y (Ld ct (Ig 0 (ls.take i)) v)->(Ld ct (Ig 0 (ls.take i)) v).length<=3010->n=Ig 0 (ls.take i++[v])->
      ∃(v5 v6 v7:Option V) (ys':List Str),[some (V.str first),some (.ref m),some (.ref g),some (.ref rw),some (.int (n:Int)),b5,b6,b7]=[some (.str first),some (.ref m),some (.ref g),some (.ref rw),some (.int (Ig 0 (ls.take i++[v]):Int)),v5,v6,v7]/\Same H (upd H2 rw (.lst (ys.map V.str++[.str y])))/\(upd H2 rw (.lst (ys.map V.str++[.str y]))) rw=some (.lst (ys'.map V.str))/\Tbs ys' (fb::(Hy ct 0 (ls.take i)++[Ld ct (Ig 0 (ls.take i)) v]))/\∀l∈Hy ct 0 (ls.take i)++[Ld ct (Ig 0 (ls.take i)) v],l.length<=3010:=by
     intro H2 y b5 b6 b7 n s2 hy hyl hn;refine⟨b5,b6,b7,ys++[y],by rw[hn],fun c o hc=>?_,by rw[Gn,An];rfl,tb.snoc hy,fun l hl=>?_⟩
     ·rw[Gr (Gs hc hrw)];exact s2 _ _ (sH _ _ hc)
     ·rcases AK.mp hl with hl | hl
      ·exact rl l hl
      ·rw[Aj.mp hl];exact hyl
    cases v with
    |none=>
     obtain⟨nl,h1,_,_⟩:=at_;refine⟨b,_,rfl,SqT.of (sH _ _ h1),rfl,_,_,rfl,_,_,rfl,rfl,?_⟩;refine⟨_,rfl,rfl,_,rfl,?_⟩;refine GV (fun _=>?_) fun z=>absurd (decide_eq_true rfl) z;refine⟨_,rfl,.inl ⟨rfl,_,SqL.of hrw'⟩,rw,_,_,rfl,rfl,hrw',?_,?_⟩
     ·rw[Aa];exact Ar yl (by decide)
     ·exact grow H' "|" _ _ _ _ (Same.refl _) (by unfold Tb;show _=[124];decide +kernel) (by show 1<=3010;decide) (KW _ _).symm
    |some nl'=>
     obtain⟨n,l⟩:=nl';obtain⟨nl,h1,_,hT,hok⟩:=at_;have hnl:=hlen n l hin;have hn0:=QM hnl;have cl:=hct l hok;have rlen:(Ld ct (Ig 0 (ls.take i)) (some (n,l))).length<=3010:=by
      obtain⟨_,_,_,q3⟩:=LR hnl;show((if n=Ig 0 (ls.take i) then [] else AR n)++32::ct l).length<=3010;rw[Ac,Ad];split
      ·simp only[Bj];lia
      ·lia
     refine⟨b,_,rfl,SqT.of (sH _ _ h1),rfl,_,_,rfl,_,_,rfl,rfl,?_⟩;refine⟨_,rfl,rfl,_,rfl,?_⟩;rw[HB];refine GV (fun z=>?_) fun _=>?_
     ·have z':(n:Int)=0:=of_decide_eq_true z
      lia
     ·refine⟨_,rfl,_,rfl,rfl,_,rfl,?_⟩;rw[HB];refine WN rfl hnl rfl fun sg hsg hsl=>?_;have tsp:Tb (" ":Str) [32]:=by unfold Tb;decide +kernel
      have t1:=hsg.app tsp;have l1:(Str.ofString " ").length=1:=by decide +kernel
      refine⟨_,rfl,.inl ⟨rfl,_,SqL.of hrw'⟩,?_⟩;refine⟨_,rfl,_,_,rfl,rfl,?_,g,rfl,_,rfl,1,_,CL.on (Frz.of sH),nl,l,rfl,hT.same sH,hok,fun H2 y s2 hy=>?_⟩
      ·rw[l1];exact Ak (show sg.length+1<=3 by lia) (by decide)
      ·have t2:=t1.app hy;have e2:(if n=Ig 0 (ls.take i) then [] else AR n)++[32]++ct l=Ld ct (Ig 0 (ls.take i)) (some (n,l)):=by show _=(if n=Ig 0 (ls.take i) then [] else AR n)++32::ct l;rw[AT];rfl
       rw[e2] at t2;refine⟨_,_,rfl,rfl,?_,rw,_,_,rfl,rfl,s2 _ _ hrw',?_,?_⟩
       ·have z1:=t1.len;have z2:=hy.len;have z3:(sg++" ").length<=3:=by
         rw[z1,Ac,<-hsg.len];simp only[Ad,Bj]
         lia
        exact Ak (show(sg++" ").length+y.length<=3010 by lia) (by decide)
       ·rw[Aa];exact Ar yl (by decide)
       ·exact⟨_,rfl,grow H2 _ _ _ _ n s2 t2 rlen (KZ _ _ _ _).symm⟩
  ·rintro σ H' ⟨v5,v6,v7,ys,rfl,sH,hrw',tb,rl⟩;rw[Aa,hbl,AU] at tb rl;have yl:ys.length<=513:=by
    rw[tb.cons_len,JS]
    lia
   have all:∀l∈fb::Hy ct 0 ls,l.length<=3010:=fun l hl=>by
    rcases Ao.mp hl with rfl | hl
    ·lia
    ·exact rl l hl
   have q1:=tb.each (n:=3010) all;have q4:(Str.ofString "\n").length=1:=by decide +kernel
   have tnl:Tb ("\n":Str) [10]:=by unfold Tb;decide +kernel
   have tj:=tb.join tnl;have tall:=tj.app tnl;rw[Qm] at tall;have jl:(Jz [10] (fb::Hy ct 0 ls)).length<=2000000:=by
    have:=Oq [10] _ _ all;have e1:(fb::Hy ct 0 ls).length<=513:=by rw[Ad,JS];lia
    refine Ak this (Ak (D1 _ e1) (by decide))
   refine⟨⟨_,rfl⟩,_,rfl,"\n",rw,ys,rfl,rfl,.inl (SqL.of hrw'),?_,_,_,rfl,rfl,?_,_,rfl,fun D hD'=>VN (fun i H2=>Same H' H2/\H2 D=some (.lst (((TL.tl (Txt.join "\n" ys++"\n")).take i).map fun(c:Nat)=>V.int (c:Int)))) ⟨Gu hD',Gn⟩ ?_ ?_⟩
   ·rw[q4]
    lia
   ·rw[tj.len,q4];exact Ak (FB jl) (by decide)
   ·rintro i c H2 hc ⟨s2,hd⟩;have hc':(TL.tl (Txt.join "\n" ys++"\n"))[i]?=some c:=by simpa using hc
    refine⟨rfl,_,rfl,⟨#[c]⟩,rfl,rfl,_,hd,?_,fun b o hb=>?_,?_⟩
    ·rw[Aa,Ax];have z:=tall.len;have z2:(TL.tl (Txt.join "\n" ys++"\n")).length=(Txt.join "\n" ys++"\n").length:=(TL.len_tl _).symm;have z3:(Txt.join "\n" ys++"\n").length<=2000001:=by rw[(tj.app tnl).len,Ac];exact FB jl
     exact Ar (Ak (Bc _ _) (by rw[z2];exact z3)) (by decide)
    ·rw[Gr (Gs hb hD')];exact s2 _ _ hb
    ·rw[Gn,B8,hc',An];rfl
   ·rintro H2 ⟨s2,hd⟩;refine kQ H2 D (sH.trans s2) ?_;have z:(Txt.join "\n" ys++"\n").cps.size=(TL.tl (Txt.join "\n" ys++"\n")).length:=by simp
    rw[hd,z,AU];unfold Tb at tall;rw[tall,A0];rfl
end
theorem SqL.kb{K:Gh}{H H':Hp}{a Pt:FP}{xs:List V}{ps:Array FO}(h:SqL K H a xs)(k:Lf Pt H H')(hP:H Pt=some (.tbl ps)):SqL K H' a xs:=by
 rcases h with (h | ⟨o,h⟩) | h
 ·exact .inl (.inl (k _ _ h (GE h hP (by intro z;cases z))))
 ·exact .inl (.inr ⟨o,k _ _ h (GE h hP (by intro z;cases z))⟩)
 ·exact .inr h
theorem SqL.ovl{K:Gh}{H:Hp}{a:FP}{xs:List V}{cs:List (FP×Obj)}(h:SqL K H a xs)(n:∀c o,cs.lookup c=some o->H c=none):SqL K (L2.ovl H cs) a xs:=by
 rcases h with (h | ⟨o,h⟩) | h
 ·exact .inl (.inl (G3 n h))
 ·exact .inl (.inr ⟨o,G3 n h⟩)
 ·exact .inr h
def Me(s:F6):F3:=match (G5 s).getLast? with
 |some (.Return (some (.Call _ es _ _)) _)=>es.getLast?.getD (.Constant .none 0 ⟨0,0,0,0⟩)
 |_=>.Constant .none 0 ⟨0,0,0,0⟩
def Mv(e:F3):Scope:=match e with
 |.Lambda _ _ sc _=>sc
 |_=>default
theorem MZ:∀(ls:List (Ln Iv)) (b:Nat),(Hy commas b ls).flatMap (fun q=>q++[10])=versesText b (ls.map Jq)
 |[],b=>rfl
 |none::r,b=>by show[124]++[10]++(Hy commas b r).flatMap (fun q=>q++[10])=124::10::versesText b (r.map Jq);rw[MZ r b];rfl
 |some (m,l)::r,b=>by show((if m=b then [] else AR m)++32::commas l)++[10]++(Hy commas m r).flatMap (fun q=>q++[10])=(if m=b then [] else AR m)++(32::(commas l++10::versesText m (r.map Jq)));rw[MZ r m];simp[AT]
theorem VP(ls:List (Ln Iv)):[115,111,110,103]++10::Ru commas ls=Song.text (ls.map Jq):=by
 unfold Ru;rw[MZ];have e:Fx "song"=[115,111,110,103]:=by decide +kernel
 show _=Fx "song"++10::versesText 0 (ls.map Jq);rw[e]
def R4:Sp:=fun vs H Q _=>∃(m:FP) (ls:List (Ln Iv)),vs=[.ref m]/\LinesAt ivV okN H m ls/\ls.length<=512/\(∀n l,some (n,l)∈ls->n∈AJ)/\∀(H':Hp) (p:FP),Same H H'->H' p=some (.lst (tx (Song.text (ls.map Jq))))->Q (.ref p) H'
def Uo(K:Gh):Sp:=fun vs H Q _=>∃(p:FP) (t:Bytes),vs=[.ref p]/\H p=some (.lst (tx t))/\t.length<=5000000/\∀(H':Hp) (q:FP),Same H H'->H' q=some (.lst ((LuteF.bytesOut t).map V.int))->Q (.ref q) H'
theorem LQ{β:Type}(ct:List β->Bytes){k:Nat}:∀(ls:List (Ln β)) (b:Nat),(∀n l,some (n,l)∈ls->n∈AJ/\(ct l).length<=k)->((Hy ct b ls).flatMap (fun q=>q++[10])).length<=(k+4)*ls.length
 |[],b,_=>by simp[Hy]
 |none::r,b,h=>by
  have:=LQ ct r b fun n l hl=>h n l (Aw _ hl);show([124]++[10]++(Hy ct b r).flatMap (fun q=>q++[10])).length<=(k+4)*(r.length+1);rw[Ac,Ct];show 2+_<=_
  lia
 |some (m,l)::r,b,h=>by
  have:=LQ ct r m fun n l hl=>h n l (Aw _ hl);obtain⟨h1,h2⟩:=h m l (AE ..);obtain⟨_,_,_,q3⟩:=LR h1;show(((if m=b then [] else AR m)++32::ct l)++[10]++(Hy ct m r).flatMap (fun q=>q++[10])).length<=(k+4)*(r.length+1);rw[Ac,Ac,Ac,Ad,Ct];have:(if m=b then [] else AR m).length<=2:=by
   split
   ·simp
   ·exact q3
  simp only[Ad,Bj]
  lia
section
variable{P:FU}{w:F0}{K:Gh}{mg:Str->Option FO}{base:Heap}{B C:FP}
theorem ZM:FnScope ["lines"] ["lines"] (Gq IZ):=⟨rfl,rfl,rfl,by decide +kernel,rfl,by decide +kernel,by decide +kernel⟩
theorem RO(l:List Iv)(h:okN l):(commas l).length<=3000:=by
 have h1:=NS l;have h2:=h.2
 lia
theorem Vq{f:FP}{fd:FZ}(F:Fun K "write_song" "write_song" IZ f fd)(T:Txt K mg B C)(DW:Dfn P w K mg base C 21 "write_lines" ["first","lines","content_text"] (Ss P w K mg base C))(DN:Dfn P w K mg base C 4 "notes_text" ["notes"] (Ym ivV okN commas)):
  FnOk P w K mg base (CXF P w C) 22 f fd ["lines"] R4:=by
 refine F.okX ZM (fun vs H Q E h=>?_) (fun cdv A outer s H vs Q E hr h=>?_)
 ·obtain⟨m,ls,rfl,_⟩:=h;rfl
 ·obtain⟨m,ls,rfl,hL,h512,hlen,kQ⟩:=h;obtain⟨g,hg,CL⟩:=DN.clb;refine⟨_,Gp (Gz (GQ DW hr rfl (Gk (Gx T.fst) (Gk (pv 0) (Gk (Pi hg) Go))))),?_⟩;refine⟨_,rfl,Iv,ivV,okN,commas,"song",[115,111,110,103],m,g,ls,rfl,(by unfold Tb;decide +kernel),(by decide),hL,h512,hlen,RO,(CL H).mono (by decide),fun H' p sH hp=>kQ H' p sH ?_⟩;rw[hp,VP]
theorem Z4:FnScope ["text"] ["text"] (Gq Jv):=⟨rfl,rfl,rfl,by decide +kernel,rfl,by decide +kernel,by decide +kernel⟩
theorem Ws{f:FP}{fd:FZ}(F:Fun K "told_text" "told_text" Jv f fd)(T:Txt K mg B C):FnOk P w K mg base (CXF P w C) 1 f fd ["text"] (Uo K):=by
 refine F.okX Z4 (fun vs H Q E h=>?_) (fun cdv A outer s H vs Q E hr h=>?_)
 ·obtain⟨p,t,rfl,_⟩:=h;rfl
 ·obtain⟨p,t,rfl,hp,hl,kQ⟩:=h;have htx:(tx t).length=t.length:=by unfold tx;rw[Aa]
  refine⟨_,Gp (Gz (GU Va (Hx (Gk (G1 GY (by rfl) T.len PySem.boot_len (Gk (pv 0) Go)) Go)) (pv 0))),?_⟩;refine⟨_,rfl,p,_,rfl,.inl (SqL.of hp),(by show 1<=FT;decide),fun a ha=>?_⟩;have sa:=Gu (o:=.lst [.int ((tx t).length:Int)]) ha;refine⟨_,rfl,a,p,_,_,rfl,rfl,Gn,sa _ _ hp,?_,fun q hq=>?_⟩
  ·rw[htx];exact Ak (show 1+t.length<=5000001 by lia) (by decide)
  ·refine kQ _ q (sa.trans (Gu hq)) ?_;rw[Gn,htx];unfold LuteF.bytesOut tx;rw[AM,A0];rfl
end
end Lu
namespace LuP
open Lute LuR
abbrev Stop:=LuteTab.Stop
abbrev Tb:=List (List Nat×Option Nat)
def look(T:Tb)(k:List Nat):Option (Option Nat):=(T.find? fun p=>p.1==k).map (·.2)
def Rl(T:Tb)(k:List Nat)(i:Nat):Tb:=if T.any (fun e=>e.1==k)=true then T.map (fun e=>if e.1==k then (e.1,some i) else e) else T++[(k,some i)]
def Oe(T:Tb)(k:List Nat):Tb:=if (look T k).isSome=true then T else T++[(k,none)]
def L9(T:Tb)(k:List Nat):Nat->Tb
 |0=>T
 |n+1=>Oe (L9 T k n) (k.take n)
def O8(T:Tb)(k:List Nat)(i:Nat):Tb:=Rl (L9 T k k.length) k i
def Iz:Tb->Nat->List (List Nat)->Tb
 |T,_,[]=>T
 |T,i,k::r=>Iz (O8 T k i) (i+1) r
def fin(T:Tb)(pre:List Nat)(p:Nat)(t:Bytes):Rd Nat:=match look T pre with
 |some (some i)=>.ok (i,p,t)
 |_=>.error p
def GR(T:Tb)(pre:List Nat)(p:Nat):Bytes->Rd Nat
 |[]=>fin T pre p []
 |c::r=>if (look T (pre++[c.toNat])).isSome=true then GR T (pre++[c.toNat]) (p+1) r else fin T pre p (c::r)
def KJ(T:Tb)(pre:List Nat):List Nat:=T.filterMap fun p=>if p.1.length==pre.length+1&&p.1.take pre.length==pre then p.1.getLast? else none
theorem Oo(T:Tb)(pre:List Nat)(n:Nat):(look T (pre++[n])).isSome=true↔n∈KJ T pre:=by
 unfold look KJ;rw[BN,Fu];constructor
 ·rintro⟨p,hp,e⟩;have e':p.1=pre++[n]:=by simpa using e
  refine BY.mpr ⟨p,hp,?_⟩;rw[e'];simp
 ·intro h;obtain⟨p,hp,e⟩:=BY.mp h;refine⟨p,hp,?_⟩;split at e
  ·rename_i hc;rw[Av,beq_iff_eq,beq_iff_eq] at hc;have:p.1=pre++[n]:=by
    have h1:=List.take_append_drop pre.length p.1;rw[hc.2] at h1;have hl:(p.1.drop pre.length).length=1:=by rw[Az,hc.1];lia
    obtain⟨m,hm⟩:=List.length_eq_one_iff.mp hl;rw[hm] at h1;rw[<-h1,CC] at e;simp at e;rw[<-h1,e]
   rw[this];simp
  ·cases e
theorem Ih(T:Tb)(pre:List Nat)(p:Nat)(c:UInt8)(r:Bytes):GR T pre p (c::r)=if c.toNat∈KJ T pre then GR T (pre++[c.toNat]) (p+1) r else fin T pre p (c::r):=by
 conv=>lhs;unfold GR
 by_cases h:c.toNat∈KJ T pre
 ·rw[Gj h,Gj ((Oo T pre _).mpr h)]
 ·rw[Gi h,Gi (fun z=>h ((Oo T pre _).mp z))]
def Mb(T:Tb)(pre:List Nat)(i:Nat):Bool:=KJ T pre==[]&&look T pre==some (some i)
theorem HQ{T:Tb}{pre:List Nat}{i:Nat}(h:Mb T pre i=true)(p:Nat)(t:Bytes):GR T pre p t=.ok (i,p,t):=by
 unfold Mb at h;rw[Av,beq_iff_eq,beq_iff_eq] at h;have e:fin T pre p t=.ok (i,p,t):=by unfold fin;rw[h.2]
 cases t with
 |nil=>exact e
 |cons c r=>rw[Ih,h.1,Gi (by simp)];exact e
def R7(T:Tb)(pre:List Nat):List Nat->Nat->Bool
 |[],i=>Mb T pre i
 |n::w,i=>look T pre==some none&&(KJ T pre==[n]&&R7 T (pre++[n]) w i)
theorem NB{T:Tb}{i:Nat}:∀(w:Bytes) (pre:List Nat) (p:Nat) (t:Bytes),R7 T pre (w.map (·.toNat)) i=true->GR T pre p t=match Af w p t with
  |.error e=>.error e
  |.ok (_,q,u)=>.ok (i,q,u)
 |[],pre,p,t,h=>HQ h p t
 |x::w,pre,p,t,h=>by
  rw[AM] at h;unfold R7 at h;rw[Av,Av,beq_iff_eq,beq_iff_eq] at h;cases t with
  |nil=>unfold GR fin Af;rw[h.1]
  |cons c r=>
   rw[Ih,h.2.1];unfold Af;by_cases hc:c=x
   ·rw[Gj hc,Gj (by rw[hc];simp),hc];exact NB w _ _ _ h.2.2
   ·rw[Gi hc,Gi (fun z=>hc (A9.mp (Aj.mp z)))];unfold fin;rw[h.1]
theorem front_walk(T:Tb):∀(t:Bytes) (pre:List Nat) (p:Nat) (i q:Nat) (u:Bytes),GR T pre p t=.ok (i,q,u)->p<=q/\q-p<=t.length/\u=t.drop (q-p)
 |[],pre,p,i,q,u,h=>by
  unfold GR fin at h;split at h
  ·cases h;simp
  ·cases h
 |c::r,pre,p,i,q,u,h=>by
  unfold GR at h;split at h
  ·obtain⟨h1,h2,h3⟩:=front_walk T r _ _ _ _ _ h;refine⟨by lia,by rw[Ad];lia,?_⟩;rw[h3,show q-p=(q-(p+1))+1 by lia,BI]
  ·unfold fin at h;split at h
   ·cases h;simp
   ·cases h
def kindS:List (List Nat):=[[102,114,101,110,99,104],[105,116,97,108,105,97,110],[103,101,114,109,97,110]]
def kindT:Tb:=[([],none),([102],none),([102,114],none),([102,114,101],none),([102,114,101,110],none),([102,114,101,110,99],none),([102,114,101,110,99,104],some 0),([105],none),([105,116],none),([105,116,97],none),([105,116,97,108],none),([105,116,97,108,105],none),([105,116,97,108,105,97],none),([105,116,97,108,105,97,110],some 1),([103],none),([103,101],none),([103,101,114],none),([103,101,114,109],none),([103,101,114,109,97],none),([103,101,114,109,97,110],some 2)]
theorem kind_tab:Iz [] 0 kindS=kindT:=by decide +kernel
def fret0S:List (List Nat):=[[97],[98],[99],[100],[101],[102],[103],[104],[105],[107],[108],[109],[110],[111],[112],[113],[46]]
def fret0T:Tb:=[([],none),([97],some 0),([98],some 1),([99],some 2),([100],some 3),([101],some 4),([102],some 5),([103],some 6),([104],some 7),([105],some 8),([107],some 9),([108],some 10),([109],some 11),([110],some 12),([111],some 13),([112],some 14),([113],some 15),([46],some 16)]
theorem fret0_tab:Iz [] 0 fret0S=fret0T:=by decide +kernel
def fret1S:List (List Nat):=[[48],[49],[50],[51],[52],[53],[54],[55],[56],[57],[120],[121],[122],[118],[117],[119],[46]]
def fret1T:Tb:=[([],none),([48],some 0),([49],some 1),([50],some 2),([51],some 3),([52],some 4),([53],some 5),([54],some 6),([55],some 7),([56],some 8),([57],some 9),([120],some 10),([121],some 11),([122],some 12),([118],some 13),([117],some 14),([119],some 15),([46],some 16)]
theorem fret1_tab:Iz [] 0 fret1S=fret1T:=by decide +kernel
def bass0S:List (List Nat):=[[97],[47,97],[47,47,97],[47,47,47,97],[52],[53],[54],[55]]
def bass0T:Tb:=[([],none),([97],some 0),([47],none),([47,97],some 1),([47,47],none),([47,47,97],some 2),([47,47,47],none),([47,47,47,97],some 3),([52],some 4),([53],some 5),([54],some 6),([55],some 7)]
theorem bass0_tab:Iz [] 0 bass0S=bass0T:=by decide +kernel
def bass1S:List (List Nat):=[[55],[56],[57],[49,48],[49,49],[49,50],[49,51],[49,52]]
def bass1T:Tb:=[([],none),([55],some 0),([56],some 1),([57],some 2),([49],none),([49,48],some 3),([49,49],some 4),([49,50],some 5),([49,51],some 6),([49,52],some 7)]
theorem bass1_tab:Iz [] 0 bass1S=bass1T:=by decide +kernel
def IL:List (List Nat):=[[53],[101],[107],[112],[118],[57],[101,101],[107,107],[112,112],[118,118],[57,57],[101,101,101],[107,107,107],[112,112,112],[118,118,118],[57,57,57],[52],[100],[105],[111],[116],[38],[100,100],[105,105],[111,111],[116,116],[38,38],[100,100,100],[105,105,105],[111,111,111],[116,116,116],[38,38,38],[51],[99],[104],[110],[115],[122],[99,99],[104,104],[110,110],[115,115],[122,122],[99,99,99],[104,104,104],[110,110,110],[115,115,115],[122,122,122],[50],[98],[103],[109],[114],[121],[98,98],[103,103],[109,109],[114,114],[121,121],[98,98,98],[103,103,103],[109,109,109],[114,114,114],[121,121,121],[49],[97],[102],[108],[113],[120],[97,97],[102,102],[108,108],[113,113],[120,120],[97,97,97],[102,102,102],[108,108,108],[113,113,113],[120,120,120],[43],[65],[66],[67],[68],[69],[70],[71],[72],[73],[75],[76],[77],[78],[79],[80],[45,55],[45,56],[45,57],[45,49,48],[45,49,49],[45,49,50],[45,49,51],[45,49,52]]
def germT:Tb:=[([],none),([53],some 0),([101],some 1),([107],some 2),([112],some 3),([118],some 4),([57],some 5),([101,101],some 6),([107,107],some 7),([112,112],some 8),([118,118],some 9),([57,57],some 10),([101,101,101],some 11),([107,107,107],some 12),([112,112,112],some 13),([118,118,118],some 14),([57,57,57],some 15),([52],some 16),([100],some 17),([105],some 18),([111],some 19),([116],some 20),([38],some 21),([100,100],some 22),([105,105],some 23),([111,111],some 24),([116,116],some 25),([38,38],some 26),([100,100,100],some 27),([105,105,105],some 28),([111,111,111],some 29),([116,116,116],some 30),([38,38,38],some 31),([51],some 32),([99],some 33),([104],some 34),([110],some 35),([115],some 36),([122],some 37),([99,99],some 38),([104,104],some 39),([110,110],some 40),([115,115],some 41),([122,122],some 42),([99,99,99],some 43),([104,104,104],some 44),([110,110,110],some 45),([115,115,115],some 46),([122,122,122],some 47),([50],some 48),([98],some 49),([103],some 50),([109],some 51),([114],some 52),([121],some 53),([98,98],some 54),([103,103],some 55),([109,109],some 56),([114,114],some 57),([121,121],some 58),([98,98,98],some 59),([103,103,103],some 60),([109,109,109],some 61),([114,114,114],some 62),([121,121,121],some 63),([49],some 64),([97],some 65),([102],some 66),([108],some 67),([113],some 68),([120],some 69),([97,97],some 70),([102,102],some 71),([108,108],some 72),([113,113],some 73),([120,120],some 74),([97,97,97],some 75),([102,102,102],some 76),([108,108,108],some 77),([113,113,113],some 78),([120,120,120],some 79),([43],some 80),([65],some 81),([66],some 82),([67],some 83),([68],some 84),([69],some 85),([70],some 86),([71],some 87),([72],some 88),([73],some 89),([75],some 90),([76],some 91),([77],some 92),([78],some 93),([79],some 94),([80],some 95),([45],none),([45,55],some 96),([45,56],some 97),([45,57],some 98),([45,49],none),([45,49,48],some 99),([45,49,49],some 100),([45,49,50],some 101),([45,49,51],some 102),([45,49,52],some 103)]
theorem germ_tab:Iz [] 0 IL=germT:=by decide +kernel
def has(T:Tb)(pre:List Nat)(n:Nat):Bool:=(KJ T pre).contains n
theorem HL{T:Tb}{pre:List Nat}{p:Nat}{c:UInt8}{r:Bytes}(h:has T pre c.toNat=true):GR T pre p (c::r)=GR T (pre++[c.toNat]) (p+1) r:=by rw[Ih,Gj (by unfold has at h;simpa using h)]
theorem JO{T:Tb}{pre:List Nat}{p:Nat}{c:UInt8}{r:Bytes}(h:has T pre c.toNat=false):GR T pre p (c::r)=fin T pre p (c::r):=by rw[Ih,Gi (by unfold has at h;simpa using h)]
theorem fin_none{T:Tb}{pre:List Nat}{p:Nat}{t:Bytes}(h:look T pre=some none):fin T pre p t=.error p:=by unfold fin;rw[h]
theorem fin_some{T:Tb}{pre:List Nat}{p i:Nat}{t:Bytes}(h:look T pre=some (some i)):fin T pre p t=.ok (i,p,t):=by unfold fin;rw[h]
theorem LO{f:Nat->Bool}(h:(BG 256).all f=true)(c:UInt8):f c.toNat=true:=AI.mp h _ (FI.mpr c.toNat_lt)
def On(T:Tb)(S:Bytes)(n:Nat):Bool:=if n=46 then has T [] 46&&Mb T [46] 16 else match S.idxOf? (Bg n) with
 |some f=>has T [] n&&(Mb T [n] f&&decide (f<16))
 |none=>!has T [] n
theorem TX:(BG 256).all (On fret0T LuteTab.letters)=true:=by decide +kernel
theorem SS:(BG 256).all (On fret1T LuteTab.figures)=true:=by decide +kernel
def MD{α:Type}(g:Nat->α):Rd Nat->Rd α
 |.error e=>.error e
 |.ok (i,q,u)=>.ok (g i,q,u)
theorem Tf{T:Tb}{S:Bytes}(h:(BG 256).all (On T S)=true)(h0:look T []=some none)(p:Nat)(t:Bytes):Eg S p t=MD (fun i=>if i=16 then none else some i) (GR T [] p t):=by
 cases t with
 |nil=>unfold GR Eg;rw[fin_none h0];rfl
 |cons c r=>
  have hc:=LO h c;unfold On at hc;unfold Eg;dsimp only;by_cases h46:c=46
  ·subst h46;rw[Gj (show(46:UInt8)=LuteTab.POINT from rfl)];rw[Gj (by decide),Av] at hc;rw[HL (show has T [] (46:UInt8).toNat=true from hc.1),HQ (show Mb T ([]++[(46:UInt8).toNat]) 16=true from hc.2)];rfl
  ·rw[Gi (show ¬c=LuteTab.POINT from h46)];rw[Gi (show ¬c.toNat=46 from fun z=>h46 (A9.mp z)),Fe] at hc;cases hi:S.idxOf? c with
   |none=>rw[hi] at hc;rw[JO (by simpa using hc),fin_none h0];rfl
   |some f=>rw[hi] at hc;dsimp only at hc;rw[Av,Av] at hc;rw[HL hc.1,HQ (pre:=[]++[c.toNat]) hc.2.1];have hf:f<16:=of_decide_eq_true hc.2.2;show _=Except.ok ((if f=16 then none else some f),p+1,r);rw[Gi (by lia)]
theorem R8(T:Tb):∀(t:Bytes) (pre:List Nat) (p i q:Nat) (u:Bytes),GR T pre p t=.ok (i,q,u)->∃k,(pre++k,some i)∈T:=by
 have fi:∀(pre:List Nat) (p i q:Nat) (t u:Bytes),fin T pre p t=.ok (i,q,u)->(pre,some i)∈T:=fun pre p i q t u h=>by
  unfold fin look at h;cases hf:T.find? fun p=>p.1==pre with
  |none=>rw[hf] at h;cases h
  |some x=>
   rw[hf] at h;obtain⟨k,v⟩:=x;have hk:k=pre:=by simpa using List.find?_some hf
   subst hk;cases v with
   |none=>cases h
   |some j=>cases h;exact List.mem_of_find?_eq_some hf
 intro t
 induction t with
 |nil=>exact fun pre p i q u h=>⟨[],by rw[AX];exact fi _ _ _ _ _ _ h⟩
 |cons c r ih=>
  intro pre p i q u h;unfold GR at h;split at h
  ·obtain⟨k,hk⟩:=ih _ _ _ _ _ h;exact⟨c.toNat::k,by rw[AT] at hk;exact hk⟩
  ·exact⟨[],by rw[AX];exact fi _ _ _ _ _ _ h⟩
theorem walk_lt{T:Tb}{n:Nat}(h:T.all (fun e=>e.2.all fun i=>decide (i<n))=true){t:Bytes}{pre:List Nat}{p i q:Nat}{u:Bytes}(e:GR T pre p t=.ok (i,q,u)):i<n:=by obtain⟨k,hk⟩:=R8 T t pre p i q u e;exact of_decide_eq_true (AI.mp h _ hk)
def Yf(T:Tb)(pre:List Nat)(o n:Nat):Bool:=if 55<=n/\n<=57 then has T pre n&&Mb T (pre++[n]) (o+(n-55)) else if n=49 then has T pre n else !has T pre n
def U2(T:Tb)(pre:List Nat)(o n:Nat):Bool:=if 48<=n/\n<=52 then has T (pre++[49]) n&&Mb T (pre++[49]++[n]) (o+(n-45)) else !has T (pre++[49]) n
theorem P9{T:Tb}{pre:List Nat}{o:Nat}(h:(BG 256).all (Yf T pre o)=true)(h2:(BG 256).all (U2 T pre o)=true)(h0:look T pre=some none)(h1:look T (pre++[49])=some none)(p:Nat)(t:Bytes):
  C5 p t=MD (fun i=>7+(i-o)) (GR T pre p t):=by
 cases t with
 |nil=>unfold GR C5;rw[fin_none h0];rfl
 |cons c r=>
  have hc:=LO h c;unfold Yf at hc;unfold C5;dsimp only;have e1:(55<=c/\c<=57)↔(55<=c.toNat/\c.toNat<=57):=by simp[Bv]
  by_cases h7:55<=c/\c<=57
  ·rw[Gj (e1.mp h7),Av] at hc;have hk:=e1.mp h7;rw[HL hc.1,Gj h7,HQ hc.2];show Except.ok _=Except.ok (7+(o+(c.toNat-55)-o),_,_);rw[show 7+(o+(c.toNat-55)-o)=c.toNat-48 by lia]
  ·rw[Gi (fun z=>h7 (e1.mpr z))] at hc;rw[Gi h7];by_cases h49:c=49
   ·subst h49;rw[Gj rfl];rw[HL (show has T pre (49:UInt8).toNat=true from by simpa using hc)];cases r with
    |nil=>unfold GR;rw[fin_none (pre:=pre++[(49:UInt8).toNat]) h1];rfl
    |cons d u=>
     have hd:=LO h2 d;unfold U2 at hd;have e2:(48<=d/\d<=52)↔(48<=d.toNat/\d.toNat<=52):=by simp[Bv]
     dsimp only;by_cases h4:48<=d/\d<=52
     ·rw[Gj (e2.mp h4),Av] at hd;have hk:=e2.mp h4;rw[HL (pre:=pre++[(49:UInt8).toNat]) hd.1,Gj h4,HQ (pre:=pre++[(49:UInt8).toNat]++[d.toNat]) hd.2];show Except.ok _=Except.ok (7+(o+(d.toNat-45)-o),_,_);rw[show 7+(o+(d.toNat-45)-o)=10+(d.toNat-48) by lia]
     ·rw[Gi (fun z=>h4 (e2.mpr z))] at hd;rw[JO (pre:=pre++[(49:UInt8).toNat]) (by simpa using hd),Gi h4,fin_none (pre:=pre++[(49:UInt8).toNat]) h1];rfl
   ·rw[Gi (show ¬c.toNat=49 from fun z=>h49 (A9.mp z))] at hc;rw[Gi h49,JO (by simpa using hc),fin_none h0];rfl
theorem RB(p:Nat)(t:Bytes):C5 p t=MD (fun i=>7+(i-0)) (GR bass1T [] p t):=P9 (by decide +kernel) (by decide +kernel) (by decide +kernel) (by decide +kernel) p t
def slC(k n:Nat):Bool:=if n=97 then has bass0T (Ba k 47) n&&Mb bass0T (Ba k 47++[n]) k else if n=47 then has bass0T (Ba k 47) n==decide (k<3) else if k=0/\52<=n/\n<=55 then has bass0T [] n&&Mb bass0T [n] (n-48) else !has bass0T (Ba k 47) n
theorem Q5:∀k:Fin 4,((BG 256).all (slC k.val)&&look bass0T (Ba k.val 47)==some none)=true:=by decide +kernel
theorem Aa0(k p:Nat)(r:Bytes):BE k p (47::r)=if k<3 then BE (k+1) (p+1) r else .error p:=by rw[BE]
theorem AaC(k p:Nat)(r:Bytes):BE k p (97::r)=.ok (7+k,p+1,r):=by rw[BE]
theorem AaE{k p:Nat}{c:UInt8}{r:Bytes}(h:c≠47)(h':c≠97):BE k p (c::r)=.error p:=by
 unfold BE;split
 ·rename_i e;cases e;exact absurd rfl h
 ·rename_i e;cases e;exact absurd rfl h'
 ·rfl
theorem Nc:∀(t:Bytes) (k p:Nat),k<=3->(k=0->∀(c:UInt8) (r:Bytes),t=c::r->¬(52<=c/\c<=55))->BE k p t=MD (fun i=>7+i) (GR bass0T (Ba k 47) p t)
 |[],k,p,hk,_=>by have h:=Q5 ⟨k,by lia⟩;rw[Av,beq_iff_eq] at h;unfold GR BE;rw[fin_none h.2];rfl
 |c::r,k,p,hk,hn=>by
  have h:=Q5 ⟨k,by lia⟩;rw[Av,beq_iff_eq] at h;have hc:=LO h.1 c;unfold slC at hc;by_cases h47:c=47
  ·subst h47;rw[Gi (by decide),Gj (by decide),beq_iff_eq] at hc;rw[Aa0];by_cases h3:k<3
   ·rw[Gj h3,HL (hc.trans (decide_eq_true h3)),Nc r (k+1) (p+1) (by lia) (fun z=>by lia),List.replicate_succ'];rfl
   ·rw[Gi h3,JO (hc.trans (decide_eq_false h3)),fin_none h.2];rfl
  ·by_cases h97:c=97
   ·subst h97;rw[Gj (by decide),Av] at hc;rw[AaC,HL hc.1,HQ hc.2];rfl
   ·rw[Gi (show ¬c.toNat=97 from fun z=>h97 (A9.mp z)),Gi (show ¬c.toNat=47 from fun z=>h47 (A9.mp z)),Gi (fun z=>hn z.1 c r rfl (by simpa [Bv] using z.2))] at hc;rw[AaE h47 h97,JO (by simpa using hc),fin_none h.2];rfl
theorem Rx(p:Nat)(t:Bytes):EB p t=MD (fun i=>7+i) (GR bass0T [] p t):=by
 cases t with
 |nil=>rfl
 |cons c r=>
  unfold EB;dsimp only;by_cases h:52<=c/\c<=55
  ·have h':52<=c.toNat/\c.toNat<=55:=by simpa [Bv] using h
   have hs:=Q5 ⟨0,by lia⟩;rw[Av] at hs;have hc:=LO hs.1 c;unfold slC at hc;rw[Gi (by lia),Gi (by lia),Gj ⟨rfl,h'⟩,Av] at hc;rw[Gj h,HL hc.1,HQ (pre:=[]++[c.toNat]) hc.2];show Except.ok _=Except.ok (7+(c.toNat-48),_,_);rw[show 7+(c.toNat-48)=c.toNat-48+7 by lia]
  ·rw[Gi h];exact Nc (c::r) 0 p (by lia) fun _ c' r' e=>by cases e;exact h
def stopOf(i:Nat):Stop:=if i<96 then ⟨i / 16+1,i % 16⟩ else ⟨i-89,0⟩
def geC(T:Tb)(n:Nat):Bool:=if 49<=n/\n<=53 then has T [] n&&Mb T [n] (16*(53-n)) else if n=45 then has T [] n else match E6.idxOf? (Bg n) with
 |some f=>has T [] n&&(Mb T [n] (80+f)&&decide (f<16))
 |none=>match EU.idxOf? (Bg n) with
  |none=>!has T [] n
  |some i=>has T [] n&&(look T [n]==some (some (16*(4-i % 5)+i / 5+1))&&(KJ T [n]==[n]&&(look T [n,n]==some (some (16*(4-i % 5)+i / 5+6))&&(KJ T [n,n]==[n]&&(Mb T [n,n,n] (16*(4-i % 5)+i / 5+11)&&decide (i<25))))))
theorem Rp{T:Tb}(ge:(BG 256).all (geC T)=true)(n1:(BG 256).all (Yf T [45] 96)=true)(n2:(BG 256).all (U2 T [45] 96)=true)(n3:look T [45]=some none)(n4:look T ([45]++[49])=some none)(n0:look T []=some none)
  (ga:T.all (fun e=>!(e.1.take 1==[45]) || e.2.all fun i=>decide (96<=i))=true) (p:Nat) (t:Bytes):D3 p t=MD stopOf (GR T [] p t):=by
 cases t with
 |nil=>unfold GR;rw[fin_none n0];rfl
 |cons c r=>
  have hc:=LO ge c;unfold geC at hc;unfold D3;dsimp only;by_cases h1:49<=c/\c<=53
  ·have h1':49<=c.toNat/\c.toNat<=53:=by simpa [Bv] using h1
   rw[Gj h1',Av] at hc;rw[Gj h1,HL hc.1,HQ (pre:=[]++[c.toNat]) hc.2];show Except.ok _=Except.ok (stopOf _,_,_);unfold stopOf;rw[Gj (by lia),show 16*(53-c.toNat) / 16+1=6-(c.toNat-48) by lia,show 16*(53-c.toNat) % 16=0 by lia]
  ·rw[Gi (fun z=>h1 (by simpa [Bv] using z))] at hc;rw[Gi h1];by_cases h2:c=45
   ·subst h2;rw[Gj (show(45:UInt8).toNat=45 from rfl)] at hc;rw[Gj rfl,HL (show has T [] (45:UInt8).toNat=true from hc),show([]:List Nat)++[(45:UInt8).toNat]=[45] from rfl,P9 n1 n2 n3 n4];cases hw:GR T [45] (p+1) r with
    |error e=>rfl
    |ok z=>
     obtain⟨i,q,u⟩:=z;have hi:96<=i:=by obtain⟨k,hk⟩:=R8 _ _ _ _ _ _ _ hw;have hg:=AI.mp ga _ hk;simpa using hg
     show Except.ok (⟨7+(i-96),0⟩,q,u)=Except.ok (stopOf i,q,u);unfold stopOf;rw[Gi (by lia),show 7+(i-96)=i-89 by lia]
   ·rw[Gi (show ¬c.toNat=45 from fun z=>h2 (A9.mp z)),Fe] at hc;rw[Gi h2];cases hk:E6.idxOf? c with
    |some f=>rw[hk] at hc;dsimp only at hc ⊢;rw[Av,Av] at hc;rw[HL hc.1,HQ (pre:=[]++[c.toNat]) hc.2.1];have hf:f<16:=of_decide_eq_true hc.2.2;show Except.ok _=Except.ok (stopOf _,_,_);unfold stopOf;rw[Gj (by lia),show(80+f) / 16+1=6 by lia,show(80+f) % 16=f by lia]
    |none=>
     rw[hk] at hc;dsimp only at hc ⊢;cases hx:EU.idxOf? c with
     |none=>rw[hx] at hc;rw[JO (by simpa using hc),fin_none n0];rfl
     |some i=>
      rw[hx] at hc;dsimp only at hc ⊢;simp only[Av,beq_iff_eq] at hc;obtain⟨a1,a2,a3,a4,a5,a6,a7⟩:=hc;have hi:i<25:=of_decide_eq_true a7;rw[HL a1];have fin1:∀(q:Nat) (u:Bytes),(Except.ok (⟨5-i % 5,5*0+i / 5+1⟩,q,u):Rd Stop)=MD stopOf (fin T ([]++[c.toNat]) q u):=fun q u=>by rw[fin_some (pre:=[]++[c.toNat]) a2];show Except.ok _=Except.ok (stopOf _,_,_);unfold stopOf;rw[Gj (by omega),show(16*(4-i % 5)+i / 5+1) / 16+1=5-i % 5 by omega,show(16*(4-i % 5)+i / 5+1) % 16=5*0+i / 5+1 by omega]
      have fin2:∀(q:Nat) (u:Bytes),(Except.ok (⟨5-i % 5,5*1+i / 5+1⟩,q,u):Rd Stop)=MD stopOf (fin T ([]++[c.toNat]++[c.toNat]) q u):=fun q u=>by rw[fin_some (pre:=[]++[c.toNat]++[c.toNat]) a4];show Except.ok _=Except.ok (stopOf _,_,_);unfold stopOf;rw[Gj (by omega),show(16*(4-i % 5)+i / 5+6) / 16+1=5-i % 5 by omega,show(16*(4-i % 5)+i / 5+6) % 16=5*1+i / 5+1 by omega]
      have fin3:∀(q:Nat) (u:Bytes),(Except.ok (⟨5-i % 5,5*2+i / 5+1⟩,q,u):Rd Stop)=MD stopOf (GR T ([]++[c.toNat]++[c.toNat]++[c.toNat]) q u):=fun q u=>by rw[HQ (pre:=[]++[c.toNat]++[c.toNat]++[c.toNat]) a6];show Except.ok _=Except.ok (stopOf _,_,_);unfold stopOf;rw[Gj (by omega),show(16*(4-i % 5)+i / 5+11) / 16+1=5-i % 5 by omega,show(16*(4-i % 5)+i / 5+11) % 16=5*2+i / 5+1 by omega]
      have hk1:∀d:UInt8,d.toNat∈KJ T ([]++[c.toNat])↔d=c:=fun d=>by rw[show KJ T ([]++[c.toNat])=[c.toNat] from a3,Aj,A9]
      have hk2:∀d:UInt8,d.toNat∈KJ T ([]++[c.toNat]++[c.toNat])↔d=c:=fun d=>by rw[show KJ T ([]++[c.toNat]++[c.toNat])=[c.toNat] from a5,Aj,A9]
      cases r with
      |nil=>exact fin1 _ _
      |cons d r=>
       rw[Ih];by_cases hd:d=c
       ·rw[Gj ((hk1 d).mpr hd)];subst hd;cases r with
        |nil=>
         have e:BW d 2 [d]=1:=by simp[BW]
         rw[e];exact fin2 _ _
        |cons b r=>
         rw[Ih];by_cases hb:b=d
         ·rw[Gj ((hk2 b).mpr hb)];subst hb;have e:BW b 2 (b::b::r)=2:=by simp[BW]
          rw[e];exact fin3 _ _
         ·rw[Gi (fun z=>hb ((hk2 b).mp z))];have e:BW d 2 (d::b::r)=1:=by simp[BW,hb]
          rw[e];exact fin2 _ _
       ·rw[Gi (fun z=>hd ((hk1 d).mp z))];have e:BW c 2 (d::r)=0:=by simp[BW,hd]
        rw[e];exact fin1 _ _
theorem ON:∀(p:Nat) (t:Bytes),D3 p t=MD stopOf (GR germT [] p t):=Rp (by decide +kernel) (by decide +kernel) (by decide +kernel) (by decide +kernel) (by decide +kernel) (by decide +kernel) (by decide +kernel)
def low(acc:List Stop)(s:Stop):Bool:=match acc.getLast? with
 |none=>false
 |some l=>decide (s.course<=l.course)
def HC(T:Tb)(so:Nat->Stop)(acc:List Stop)(p:Nat)(t:Bytes):Rd (List Stop):=
 match t with
 |[]=>.ok (acc,p,[])
 |c::r=>if c=32 then (match GR T [] (p+1) r with
  |.error e=>.error e
  |.ok (i,q,u)=>if low acc (so i)=true then .error (p+1) else if _h:u.length<=r.length then HC T so (acc++[so i]) q u else .error 0) else .ok (acc,p,c::r)
termination_by t.length
theorem moreR_nil(T:Tb)(so:Nat->Stop)(acc:List Stop)(p:Nat):HC T so acc p []=.ok (acc,p,[]):=by rw[HC]
theorem moreR_no(T:Tb)(so:Nat->Stop)(acc:List Stop)(p:Nat){c:UInt8}{r:Bytes}(h:¬c=32):HC T so acc p (c::r)=.ok (acc,p,c::r):=by rw[HC,Gi h]
theorem moreR_cons(T:Tb)(so:Nat->Stop)(acc:List Stop)(p:Nat)(r:Bytes):HC T so acc p (32::r)=match GR T [] (p+1) r with
  |.error e=>.error e
  |.ok (i,q,u)=>if low acc (so i)=true then .error (p+1) else HC T so (acc++[so i]) q u:=by
 rw[HC,Gj rfl];cases h:GR T [] (p+1) r with
 |error e=>rfl
 |ok z=>
  obtain⟨i,q,u⟩:=z;obtain⟨_,_,h3⟩:=front_walk T r [] (p+1) i q u h;dsimp only;by_cases hl:low acc (so i)=true
  ·rw[Gj hl,Gj hl]
  ·rw[Gi hl,Gi hl,dif_pos (by rw[h3,Az];lia)]
theorem Ke(T:Tb)(so:Nat->Stop):∀(n:Nat) (acc:List Stop) (p:Nat) (t:Bytes),t.length<=n->Front p t (HC T so acc p t)
 |n,acc,p,[],_=>by intro v q u h;rw[moreR_nil] at h;cases h;simp
 |0,_,_,_::_,h=>by simp at h
 |n+1,acc,p,c::r,hn=>by
  intro v q u h;by_cases hc:c=32
  ·subst hc;rw[moreR_cons] at h;cases hw:GR T [] (p+1) r with
   |error e=>rw[hw] at h;cases h
   |ok z=>
    obtain⟨i,q1,u1⟩:=z;rw[hw] at h;dsimp only at h;split at h
    ·cases h
    ·obtain⟨a1,a2,a3⟩:=front_walk T r [] (p+1) i q1 u1 hw;rw[Ad] at hn;obtain⟨b1,b2,b3⟩:=Ke T so n _ q1 u1 (by rw[a3,Az];lia) v q u h;have e3:u1.length=r.length-(q1-(p+1)):=by rw[a3,Az]
     refine⟨by lia,by rw[Ad];lia,?_⟩;rw[b3,a3,BD,show q-p=(q-(p+1))+1 by lia,BI];congr 1
     lia
  ·rw[moreR_no _ _ _ _ hc] at h;cases h;simp
theorem walk_pos{T:Tb}{pre:List Nat}(h0:look T pre=some none){t:Bytes}{p i q:Nat}{u:Bytes}(h:GR T pre p t=.ok (i,q,u)):p<q:=by
 cases t with
 |nil=>unfold GR at h;rw[fin_none h0] at h;cases h
 |cons c r=>
  unfold GR at h;split at h
  ·have:=(front_walk T r _ _ _ _ _ h).1
   lia
  ·rw[fin_none h0] at h;cases h
def IP(T:Tb):List Nat->Nat->Bytes->Rd (List Stop)
 |[],p,t=>.ok ([],p,t)
 |c::l,p,t=>match GR T [] p t with
  |.error e=>.error e
  |.ok (i,q,u)=>match IP T l q u with
   |.error e=>.error e
   |.ok (s,z,v)=>.ok ((if i=16 then s else ⟨c,i⟩::s),z,v)
theorem Nn(T:Tb):∀(l:List Nat) (p:Nat) (t:Bytes),Front p t (IP T l p t)
 |[],p,t=>by intro v q u h;cases h;simp
 |c::l,p,t=>by
  intro v q u h;unfold IP at h;cases hw:GR T [] p t with
  |error e=>rw[hw] at h;cases h
  |ok z=>
   obtain⟨i,q1,u1⟩:=z;rw[hw] at h;dsimp only at h;cases hs:IP T l q1 u1 with
   |error e=>rw[hs] at h;cases h
   |ok z=>
    obtain⟨s,q2,u2⟩:=z;rw[hs] at h;cases h;obtain⟨a1,a2,a3⟩:=front_walk T t [] p i q1 u1 hw;obtain⟨b1,b2,b3⟩:=Nn T l q1 u1 _ _ _ hs;have e3:u1.length=t.length-(q1-p):=by rw[a3,Az]
    refine⟨by lia,by lia,?_⟩;rw[b3,a3,BD];congr 1
    lia
theorem P5{T:Tb}{S:Bytes}(h:(BG 256).all (On T S)=true)(h0:look T []=some none):∀(l:List Nat) (p:Nat) (t:Bytes),Dz S l p t=IP T l p t
 |[],p,t=>rfl
 |c::l,p,t=>by
  unfold Dz IP;rw[Tf h h0];cases hw:GR T [] p t with
  |error e=>rfl
  |ok z=>
   obtain⟨i,q1,u1⟩:=z;show(match Dz S l q1 u1 with | .error e=>_ | .ok (s,z,v)=>_)=_;rw[P5 h h0 l q1 u1];dsimp only;cases IP T l q1 u1 with
   |error e=>rfl
   |ok z=>
    obtain⟨s,q2,u2⟩:=z;dsimp only;by_cases hi:i=16
    ·rw[Gj hi,Gj hi]
    ·rw[Gi hi,Gi hi]
def bo(i:Nat):Stop:=⟨7+i,0⟩
theorem Mp{T:Tb}{read:Nat->Bytes->Rd Nat}(hr:∀p t,read p t=MD (fun i=>7+i) (GR T [] p t)):∀(f last:Nat) (acc:List Stop) (p:Nat) (t:Bytes),t.length<f->(∀i,low acc (bo i)=decide (7+i<=last))->
  G4 (HC T bo acc p t)=match Cv read f last p t with
   |.error e=>.error e
   |.ok (l,q,u)=>.ok (acc++l,q,u)
 |0,_,_,_,_,h,_=>absurd h (BP _)
 |f+1,last,acc,p,[],_,_=>by rw[moreR_nil];unfold Cv;rfl
 |f+1,last,acc,p,c::r,hf,hl=>by
  unfold Cv;by_cases h10:c=10
  ·subst h10;rw[moreR_no _ _ _ _ (by decide),Gj (show(10:UInt8)=LuteTab.END from rfl)];show(if (10:UInt8)=10 then (.ok (acc,p+1,r):Rd (List Stop)) else .error p)=_;rw[Gj rfl];dsimp only;rw[AX]
  ·rw[Gi (show ¬c=LuteTab.END from h10)];by_cases h32:c=32
   ·subst h32;rw[Gi (show ¬(32:UInt8)≠LuteTab.BLANK from fun z=>z rfl),moreR_cons,hr];cases hw:GR T [] (p+1) r with
    |error e=>rfl
    |ok z=>
     obtain⟨i,q,u⟩:=z;obtain⟨_,_,h3⟩:=front_walk T r [] (p+1) i q u hw;show G4 (if low acc (bo i)=true then _ else _)=match (if 7+i<=last then _ else _:Rd (List Stop)) with | .error e=>_ | .ok (l,q,u)=>_
     rw[hl i];by_cases hi:7+i<=last
     ·rw[Gj (decide_eq_true hi),Gj hi];rfl
     ·rw[Gi (by rw[decide_eq_false hi];exact Ag),Gi hi];have ih:=Mp hr f (7+i) (acc++[bo i]) q u (by rw[Ad] at hf;rw[h3,Az];lia) (fun j=>by unfold low;rw[CC];rfl);rw[ih];cases Cv read f (7+i) q u with
      |error e=>rfl
      |ok z=>obtain⟨l,q',u'⟩:=z;show Except.ok _=Except.ok (acc++(⟨7+i,0⟩::l),_,_);rw[AT];rfl
   ·rw[Gj (show c≠LuteTab.BLANK from h32),moreR_no _ _ _ _ h32];show(if c=10 then (.ok (acc,p+1,r):Rd (List Stop)) else .error p)=_;rw[Gi h10]
theorem Mq:∀(f:Nat) (s:Stop) (acc:List Stop) (p:Nat) (t:Bytes),t.length<f->(∀s',low acc s'=decide (s'.course<=s.course))->
  G4 (HC germT stopOf acc p t)=(match t with
   |[]=>.error p
   |c::v=>if c=LuteTab.END then .ok (acc,p+1,v) else if c≠LuteTab.BLANK then .error p else match BF f s.course (p+1) v with
    |.error e=>.error e
    |.ok (l,z,w)=>.ok (acc++l,z,w):Rd (List Stop))
 |0,_,_,_,_,h,_=>absurd h (BP _)
 |f+1,s,acc,p,[],_,_=>by rw[moreR_nil];rfl
 |f+1,s,acc,p,c::r,hf,hl=>by
  dsimp only;by_cases h10:c=10
  ·subst h10;rw[moreR_no _ _ _ _ (by decide),Gj (show(10:UInt8)=LuteTab.END from rfl)];show(if (10:UInt8)=10 then (.ok (acc,p+1,r):Rd (List Stop)) else .error p)=_;rw[Gj rfl]
  ·rw[Gi (show ¬c=LuteTab.END from h10)];by_cases h32:c=32
   ·subst h32;rw[Gi (show ¬(32:UInt8)≠LuteTab.BLANK from fun z=>z rfl),moreR_cons];unfold BF;rw[ON];cases hw:GR germT [] (p+1) r with
    |error e=>rfl
    |ok z=>
     obtain⟨i,q,u⟩:=z;obtain⟨_,_,h3⟩:=front_walk germT r [] (p+1) i q u hw;show G4 (if low acc (stopOf i)=true then _ else _)=match (if (stopOf i).course<=s.course then _ else _:Rd (List Stop)) with | .error e=>_ | .ok (l,z,w)=>_
     rw[hl];by_cases hi:(stopOf i).course<=s.course
     ·rw[Gj (decide_eq_true hi),Gj hi];rfl
     ·rw[Gi (by rw[decide_eq_false hi];exact Ag),Gi hi];have ih:=Mq f (stopOf i) (acc++[stopOf i]) q u (by rw[Ad] at hf;rw[h3,Az];lia) (fun j=>by unfold low;rw[CC];rfl);rw[ih];cases u with
      |nil=>rfl
      |cons d v=>
       dsimp only;by_cases hd:d=LuteTab.END
       ·rw[Gj hd,Gj hd]
       ·rw[Gi hd,Gi hd];by_cases hb:d≠LuteTab.BLANK
        ·rw[Gj hb,Gj hb]
        ·rw[Gi hb,Gi hb];cases BF f (stopOf i).course (q+1) v with
         |error e=>rfl
         |ok z=>obtain⟨l,q',u'⟩:=z;show Except.ok _=Except.ok (acc++(stopOf i::l),_,_);rw[AT];rfl
   ·rw[Gj (show c≠LuteTab.BLANK from h32),moreR_no _ _ _ _ h32];show(if c=10 then (.ok (acc,p+1,r):Rd (List Stop)) else .error p)=_;rw[Gi h10]
def Hh(T B:Tb)(cs:List Nat)(fl:Bool)(p:Nat)(t:Bytes):Rd (List Stop):=match IP T cs p t with
 |.error e=>.error e
 |.ok (l,q,u)=>HC B bo (if fl=true then l.reverse else l) q u
def german(p:Nat)(t:Bytes):Rd (List Stop):=match t with
 |[]=>.error p
 |c::r=>if c=46 then .ok ([],p+1,r) else match GR germT [] p (c::r) with
  |.error e=>.error e
  |.ok (i,q,u)=>HC germT stopOf [stopOf i] q u
def rdK:LuteTab.Kind->Nat->Bytes->Rd (List Stop)
 |.french=>Hh fret0T bass0T [1,2,3,4,5,6] false
 |.italian=>Hh fret1T bass1T [6,5,4,3,2,1] true
 |.german=>german
theorem front_byFrets(T B:Tb)(cs:List Nat)(fl:Bool)(p:Nat)(t:Bytes):Front p t (Hh T B cs fl p t):=by
 intro v q u h;unfold Hh at h;cases hs:IP T cs p t with
 |error e=>rw[hs] at h;cases h
 |ok z=>
  obtain⟨l,q1,u1⟩:=z;rw[hs] at h;dsimp only at h;obtain⟨a1,a2,a3⟩:=Nn T cs p t _ _ _ hs;obtain⟨b1,b2,b3⟩:=Ke B bo u1.length _ q1 u1 (Ah _) _ _ _ h;have e3:u1.length=t.length-(q1-p):=by rw[a3,Az]
  refine⟨by lia,by lia,?_⟩;rw[b3,a3,BD];congr 1
  lia
theorem front_german(p:Nat)(t:Bytes):Front p t (german p t):=by
 intro v q u h;cases t with
 |nil=>cases h
 |cons c r=>
  unfold german at h;dsimp only at h;split at h
  ·cases h;simp
  ·cases hw:GR germT [] p (c::r) with
   |error e=>rw[hw] at h;cases h
   |ok z=>
    obtain⟨i,q1,u1⟩:=z;rw[hw] at h;dsimp only at h;obtain⟨a1,a2,a3⟩:=front_walk germT (c::r) [] p i q1 u1 hw;obtain⟨b1,b2,b3⟩:=Ke germT stopOf u1.length _ q1 u1 (Ah _) _ _ _ h;have e3:u1.length=(c::r).length-(q1-p):=by rw[a3,Az]
    refine⟨by lia,by lia,?_⟩;rw[b3,a3,BD];congr 1
    lia
theorem Ud{T:Tb}:∀{l:List Nat} {p:Nat} {t:Bytes} {s:List Stop} {q:Nat} {u:Bytes},IP T l p t=.ok (s,q,u)->List.Sublist (s.map (·.course)) l
 |[],p,t,s,q,u,h=>by cases h;exact .slnil
 |c::l,p,t,s,q,u,h=>by
  unfold IP at h;cases hw:GR T [] p t with
  |error e=>rw[hw] at h;cases h
  |ok z=>
   obtain⟨i,q1,u1⟩:=z;rw[hw] at h;dsimp only at h;cases hs:IP T l q1 u1 with
   |error e=>rw[hs] at h;cases h
   |ok z=>
    obtain⟨s2,q2,u2⟩:=z;rw[hs] at h;have ih:=Ud hs;cases h;by_cases hi:i=16
    ·rw[Gj hi];exact ih.cons _
    ·rw[Gi hi];exact ih.cons_cons _
theorem V4{l:List Stop}(h:∀s∈l,s.course<=6)(i:Nat):low l (bo i)=decide (7+i<=6):=by
 unfold low;rw[decide_eq_false (by lia)];cases hl:l.getLast? with
 |none=>rfl
 |some x=>have:=h x (List.mem_of_getLast? hl);exact decide_eq_false (by show ¬7+i<=x.course;lia)
theorem Mm{S:Bytes}{T B:Tb}{read:Nat->Bytes->Rd Nat}(h:(BG 256).all (On T S)=true)(h0:look T []=some none)(hr:∀p t,read p t=MD (fun i=>7+i) (GR B [] p t)){cs:List Nat}(hc:∀c∈cs,c<=6)(fl:Bool)(p:Nat)(t:Bytes):
  G4 (Hh T B cs fl p t)=(match Dz S cs p t with
  |.error e=>.error e
  |.ok (l,q,u)=>match Cv read (u.length+1) 6 q u with
   |.error e=>.error e
   |.ok (b,z,v)=>.ok ((if fl=true then l.reverse else l)++b,z,v)):=by
 rw[P5 h h0];unfold Hh;cases hs:IP T cs p t with
 |error e=>rfl
 |ok z=>
  obtain⟨l,q,u⟩:=z;dsimp only;have hl:∀s∈l,s.course<=6:=fun s m=>hc _ ((Ud hs).subset (CJ m));rw[Mp hr (u.length+1) 6 _ q u (Di _) (V4 (fun s m=>hl s (by
   split at m
   ·exact Ec.mp m
   ·exact m)))]
theorem Qo(k:LuteTab.Kind)(p:Nat)(t:Bytes):Fi k p t=G4 (rdK k p t):=by
 cases k with
 |french=>show _=G4 (Hh _ _ _ _ p t);rw[Mm TX (by decide +kernel) Rx (by decide) false];rfl
 |italian=>show _=G4 (Hh _ _ _ _ p t);rw[Mm SS (by decide +kernel) RB (by decide) true];rfl
 |german=>
  show _=G4 (german p t);cases t with
  |nil=>rfl
  |cons c r=>
   unfold Fi german;dsimp only;by_cases hc:c=46
   ·subst hc;rw[Gj rfl];cases r with
    |nil=>rfl
    |cons d u=>
     show(match (if d=LuteTab.END then .ok ((),p+1+1,u) else .error (p+1):Rd Unit) with | .error e=>.error e | .ok (_,q,u)=>.ok ([],q,u):Rd (List Stop))=(if d=10 then .ok ([],p+1+1,u) else .error (p+1));by_cases hd:d=10
     ·rw[Gj (show d=LuteTab.END from hd),Gj hd]
     ·rw[Gi (show ¬d=LuteTab.END from hd),Gi hd]
   ·rw[Gi hc];have e1:BF ((c::r).length+1) 0 p (c::r)=G4 (match GR germT [] p (c::r) with
      |.error e=>.error e
      |.ok (i,q,u)=>HC germT stopOf [stopOf i] q u):=by
     unfold BF;rw[ON];cases hw:GR germT [] p (c::r) with
     |error e=>rfl
     |ok z=>
      obtain⟨i,q,u⟩:=z;obtain⟨_,_,h3⟩:=front_walk germT (c::r) [] p i q u hw;have hu:u.length<(c::r).length+1:=by rw[h3,Az];lia
      have hpos:¬(stopOf i).course<=0:=by
       unfold stopOf;split
       ·exact Nat.not_succ_le_zero _
       ·show ¬i-89<=0
        lia
      show(if (stopOf i).course<=0 then _ else _:Rd (List Stop))=_;rw[Gi hpos];cases u with
      |nil=>show _=G4 (HC germT stopOf [stopOf i] q []);rw[moreR_nil];rfl
      |cons d v=>show _=G4 (HC germT stopOf [stopOf i] q (d::v));rw[Mq (c::r).length (stopOf i) [stopOf i] q (d::v) (by rw[h3,Az];have:=walk_pos (by decide +kernel) hw;simp only[Ad];lia) (fun s=>rfl)];rfl
    have e2:(match c::r with
     |46::r=>(match Af [LuteTab.END] (p+1) r with
      |.error e=>.error e
      |.ok (_,q,u)=>.ok ([],q,u))
     |_=>BF ((c::r).length+1) 0 p (c::r):Rd (List Stop))=BF ((c::r).length+1) 0 p (c::r):=by
     split
     ·rename_i e;cases e;exact absurd rfl hc
     ·rfl
    exact e2.trans e1
def J0:Ln Stop->LuteTab.Line
 |none=>.bar
 |some (n,l)=>.moment n l
theorem LB(k:LuteTab.Kind):∀(f last many p:Nat) (t:Bytes),Dg k f last many p t=(Hj (rdK k) f last many p t).map (FJ J0)
 |f,last,many,p,[]=>by cases f <;> (unfold Dg Hj;split <;> rfl)
 |0,_,_,_,c::r=>by unfold Dg Hj;rfl
 |f+1,last,many,p,c::r=>by
  unfold Dg Hj;show(if 512<=many then _ else _)=_;by_cases hm:512<=many
  ·rw[Gj hm,Gj hm];rfl
  ·rw[Gi hm,Gi hm];by_cases hc:c=124
   ·rw[Gj hc,Gj hc,<-TV];cases Af [LuteTab.END] (p+1) r with
    |error e=>rfl
    |ok z=>obtain⟨_,q,u⟩:=z;dsimp only;rw[LB k f last (many+1) q u];cases Hj (rdK k) f last (many+1) q u <;> rfl
   ·rw[Gi hc,Gi hc];by_cases hb:c=32
    ·rw[Gj (show c=LuteTab.BLANK from hb)];subst hb;unfold J7;dsimp only;by_cases hl:last=0
     ·rw[Gj hl,Gi (fun h=>h.2 hl),Te];rfl
     ·rw[Gi hl,Gj ⟨rfl,hl⟩];dsimp only;rw[Qo];cases G4 (rdK k (p+1) r) with
      |error e=>rfl
      |ok z=>obtain⟨l,q,u⟩:=z;dsimp only;rw[LB k f last (many+1) q u];cases Hj (rdK k) f last (many+1) q u <;> rfl
    ·rw[Gi (show ¬c=LuteTab.BLANK from hb)];unfold J7;dsimp only;rw[Gi (fun h=>hb h.1)];cases A6 p (c::r) with
     |error e=>rfl
     |ok z=>
      obtain⟨n,q,u⟩:=z;dsimp only;by_cases hn:n=last
      ·rw[Gj hn,Gj hn];rfl
      ·rw[Gi hn,Gi hn];dsimp only;rw[Qo];cases G4 (rdK k q u) with
       |error e=>rfl
       |ok z=>obtain⟨l,z',v⟩:=z;dsimp only;rw[LB k f n (many+1) z' v];cases Hj (rdK k) f n (many+1) z' v <;> rfl
def kindOf(i:Nat):LuteTab.Kind:=if i=0 then .french else if i=1 then .italian else .german
theorem Op:∀(w:Bytes) (p:Nat) (t:Bytes) (i:Nat) (k:LuteTab.Kind),(match Af (w++[LuteTab.END]) p t with
  |.error e=>.error e
  |.ok (_,q,u)=>.ok (k,q,u):Rd LuteTab.Kind)=match G4 (match Af w p t with
   |.error e=>.error e
   |.ok (_,q,u)=>.ok (i,q,u):Rd Nat) with
  |.error e=>.error e
  |.ok (_,q,u)=>.ok (k,q,u)
 |[],p,[],i,k=>rfl
 |[],p,c::r,i,k=>by
  show(match Af [LuteTab.END] p (c::r) with | .error e=>.error e | .ok (_,q,u)=>.ok (k,q,u):Rd LuteTab.Kind)=match (if c=10 then .ok (i,p+1,r) else .error p:Rd Nat) with | .error e=>.error e | .ok (_,q,u)=>.ok (k,q,u)
  unfold Af;by_cases hc:c=10
  ·rw[Gj hc,Gj (show c=LuteTab.END from hc)];rfl
  ·rw[Gi hc,Gi (show ¬c=LuteTab.END from hc)]
 |x::w,p,[],i,k=>rfl
 |x::w,p,c::r,i,k=>by
  rw[FA];unfold Af;by_cases hc:c=x
  ·rw[Gj hc,Gj hc];exact Op w (p+1) r i k
  ·rw[Gi hc,Gi hc];rfl
theorem Wz(t:Bytes):Fs t=match G4 (GR kindT [] 0 t) with
  |.error e=>.error e
  |.ok (i,q,u)=>.ok (kindOf i,q,u):=by
 have hk:∀c:UInt8,c.toNat∈KJ kindT []↔(c=102\/c=105\/c=103):=fun c=>by rw[show KJ kindT []=[102,105,103] by decide +kernel];simp only[Ao,Eb,or_false,<-A9];rfl
 have step:∀(c:UInt8) (w:Bytes) (r:Bytes) (i:Nat),R7 kindT [c.toNat] (w.map (·.toNat)) i=true->c.toNat∈KJ kindT []->(match Af ((c::w)++[LuteTab.END]) 0 (c::r) with
   |.error e=>.error e
   |.ok (_,q,u)=>.ok (kindOf i,q,u):Rd LuteTab.Kind)=match G4 (GR kindT [] 0 (c::r)) with
   |.error e=>.error e
   |.ok (j,q,u)=>.ok (kindOf j,q,u):=fun c w r i h hc=>by
  have ew:Af (c::(w++[LuteTab.END])) 0 (c::r)=Af (w++[LuteTab.END]) 1 r:=by rw[Af,Gj rfl]
  rw[Ih,Gj hc,NB w ([]++[c.toNat]) 1 r h,FA,ew,Op w 1 r i (kindOf i)];cases Af w 1 r with
  |error e=>rfl
  |ok z=>
   obtain⟨_,q,u⟩:=z;cases u with
   |nil=>rfl
   |cons d u=>
    show(match (if d=10 then .ok (i,q+1,u) else .error q:Rd Nat) with | .error e=>.error e | .ok (_,q,u)=>.ok (kindOf i,q,u):Rd LuteTab.Kind)=match (if d=10 then .ok (i,q+1,u) else .error q:Rd Nat) with | .error e=>.error e | .ok (j,q,u)=>.ok (kindOf j,q,u)
    by_cases hd:d=10
    ·rw[Gj hd]
    ·rw[Gi hd]
 unfold Fs;split
 ·rename_i r;exact step 102 [114,101,110,99,104] r 0 (by decide +kernel) ((hk _).mpr (.inl rfl))
 ·rename_i r;exact step 105 [116,97,108,105,97,110] r 1 (by decide +kernel) ((hk _).mpr (.inr (.inl rfl)))
 ·rename_i r;exact step 103 [101,114,109,97,110] r 2 (by decide +kernel) ((hk _).mpr (.inr (.inr rfl)))
 ·rename_i h1 h2 h3;cases t with
  |nil=>unfold GR;rw[fin_none (by decide +kernel)];rfl
  |cons c r=>
   rw[Ih,Gi (fun z=>?_),fin_none (by decide +kernel)]
   ·rfl
   ·rcases(hk c).mp z with e | e | e
    ·exact h1 r (by rw[e])
    ·exact h2 r (by rw[e])
    ·exact h3 r (by rw[e])
def pieceR(t:Bytes):Except Nat (List (Ln Stop)):=match G4 (GR kindT [] 0 t) with
 |.error e=>.error e
 |.ok (i,q,u)=>la (rdK (kindOf i)) 0 0 q u
theorem piece_eq(t:Bytes):(CG t).map (·.2)=(pieceR t).map (FJ J0):=by
 unfold CG pieceR;rw[Wz];cases G4 (GR kindT [] 0 t) with
 |error e=>rfl
 |ok z=>obtain⟨i,q,u⟩:=z;dsimp only;rw[LB];unfold la;cases Hj (rdK (kindOf i)) (u.length+1) 0 0 q u <;> rfl
open Lute LuR LuW
theorem QH{β:Type}(rd:Nat->Bytes->Rd (List β)):∀(f last many p:Nat) (t:Bytes) (s:List (Ln β)),(last=0\/last∈AJ)->Hj rd f last many p t=.ok s->(many<=512->s.length+many<=512)/\∀n l,some (n,l)∈s->n∈AJ
 |f,last,many,p,[],s,hl,h=>by
  have e:Hj rd f last many p []=if last=0 then .error p else .ok []:=by cases f <;> (unfold Hj;rfl)
  rw[e] at h;split at h
  ·cases h
  ·cases h;exact⟨fun hm=>by simpa using hm,fun n l hm=>nomatch hm⟩
 |0,_,_,_,_::_,_,_,h=>by unfold Hj at h;cases h
 |f+1,last,many,p,c::r,s,hl,h=>by
  unfold Hj at h;by_cases hm:512<=many
  ·rw[Gj hm] at h;cases h
  ·rw[Gi hm] at h;have key:∀{last' q:Nat} {u:Bytes} {v:Ln β},(last'=0\/last'∈AJ)->(∀n l,v=some (n,l)->n∈AJ)->(Hj rd f last' (many+1) q u).map (v::·)=.ok s->(many<=512->s.length+many<=512)/\∀n l,some (n,l)∈s->n∈AJ:=fun{last' q u v} hl' hv h=>by
    cases hr:Hj rd f last' (many+1) q u with
    |error e=>rw[hr] at h;cases h
    |ok x=>
     rw[hr] at h;cases h;obtain⟨a1,a2⟩:=QH rd f last' (many+1) q u x hl' hr;refine⟨fun _=>by have:=a1 (by lia);rw[Ad];lia,fun n l hm=>?_⟩;rcases Ao.mp hm with z | z
     ·exact hv n l z.symm
     ·exact a2 n l z
   by_cases hc:c=124
   ·rw[Gj hc] at h;cases he:G4 (.ok ((),p+1,r):Rd Unit) with
    |error e=>rw[he] at h;cases h
    |ok z=>obtain⟨_,q,u⟩:=z;rw[he] at h;exact key (v:=none) hl (fun n l z=>nomatch z) h
   ·rw[Gi hc] at h;cases hn:J7 last p (c::r) with
    |error e=>rw[hn] at h;cases h
    |ok z=>
     obtain⟨n,q,u⟩:=z;rw[hn] at h;dsimp only at h;have hnl:n∈AJ:=by
      unfold J7 at hn;dsimp only at hn;split at hn
      ·rename_i hcc;cases hn;exact hl.resolve_left hcc.2
      ·cases hq:A6 p (c::r) with
       |error e=>rw[hq] at hn;cases hn
       |ok z=>
        obtain⟨n',q',u'⟩:=z;rw[hq] at hn;dsimp only at hn;split at hn
        ·cases hn
        ·cases hn;exact SM hq
     cases he:G4 (rd q u) with
     |error e=>rw[he] at h;cases h
     |ok z=>obtain⟨l,z',v⟩:=z;rw[he] at h;exact key (.inr hnl) (fun n' l' z=>by cases z;exact hnl) h
theorem ZK{β:Type}{rd:Nat->Bytes->Rd (List β)}{p:Nat}{t:Bytes}{s:List (Ln β)}(h:la rd 0 0 p t=.ok s):s.length<=512/\∀n l,some (n,l)∈s->n∈AJ:=by obtain⟨a,b⟩:=QH rd _ 0 0 p t s (.inl rfl) h;exact⟨by simpa using a (by decide),b⟩
theorem piece_ok{t:Bytes}{s:List (Ln Stop)}(h:pieceR t=.ok s):s.length<=512/\∀n l,some (n,l)∈s->n∈AJ:=by
 unfold pieceR at h;cases he:G4 (GR kindT [] 0 t) with
 |error e=>rw[he] at h;cases h
 |ok z=>obtain⟨i,q,u⟩:=z;rw[he] at h;exact ZK h
section
variable{α:Type}
theorem sorted_uniq:∀(l m:List (Int×α)),l.Pairwise (fun p q=>p.1<=q.1)->m.Pairwise (fun p q=>p.1<=q.1)->(∀c,l.filter (fun p=>p.1==c)=m.filter (fun p=>p.1==c))->l=m
 |[],[],_,_,_=>rfl
 |[],y::m,_,_,h=>by have:=h y.1;rw[AS,Gj (by simp)] at this;simp at this
 |x::l,[],_,_,h=>by have:=h x.1;rw[AS,Gj (by simp)] at this;simp at this
 |x::l,y::m,hl,hm,h=>by
  have hl':=By.mp hl;have hm':=By.mp hm;have hx:=h x.1;have hy:=h y.1;have e1:x.1=y.1:=by
   rcases Int.lt_trichotomy x.1 y.1 with z | z | z
   ·rw[AS,Gj (by simp),AS,Gi (by simp;lia)] at hx;have:x∈m.filter (fun p=>p.1==x.1):=by rw[<-hx];exact .head _
    have:=hm'.1 x (Dq.mp this).1
    lia
   ·exact z
   ·rw[AS,Gi (by simp;lia),AS,Gj (by simp)] at hy;have:y∈l.filter (fun p=>p.1==y.1):=by rw[hy];exact .head _
    have:=hl'.1 y (Dq.mp this).1
    lia
  have e2:x=y:=by rw[AS,Gj (by simp),AS,Gj (by simp[e1])] at hx;injection hx
  subst e2;rw[sorted_uniq l m hl'.2 hm'.2 fun c=>?_];have:=h c;rw[AS,AS] at this;split at this
  ·injection this
  ·exact this
def Jj(k:α->Int)(x:α):List α->List α
 |[]=>[x]
 |y::r=>if k y<k x then y::Jj k x r else x::y::r
def srt(k:α->Int)(l:List α):List α:=l.foldr (Jj k) []
theorem ND(k:α->Int)(x:α):∀(l:List α) (z:α),z∈Jj k x l↔z=x\/z∈l
 |[],z=>by simp[Jj]
 |y::r,z=>by
  unfold Jj;split
  ·rw[Ao,ND k x r,Ao];constructor
   ·rintro(h | h | h)
    ·exact .inr (.inl h)
    ·exact .inl h
    ·exact .inr (.inr h)
   ·rintro(h | h | h)
    ·exact .inr (.inl h)
    ·exact .inl h
    ·exact .inr (.inr h)
  ·simp
theorem Ms(k:α->Int)(x:α):∀l:List α,l.Pairwise (fun a b=>k a<=k b)->(Jj k x l).Pairwise fun a b=>k a<=k b
 |[],_=>Dh _ _
 |y::r,h=>by
  have h':=By.mp h;unfold Jj;split
  ·rename_i hy;refine By.mpr ⟨fun z hz=>?_,Ms k x r h'.2⟩;rcases(ND k x r z).mp hz with rfl | hz
   ·lia
   ·exact h'.1 z hz
  ·rename_i hy;refine By.mpr ⟨fun z hz=>?_,h⟩;rcases Ao.mp hz with rfl | hz
   ·lia
   ·have:=h'.1 z hz
    lia
theorem srt_sorted(k:α->Int):∀l:List α,(srt k l).Pairwise fun a b=>k a<=k b
 |[]=>List.Pairwise.nil
 |x::l=>Ms k x _ (srt_sorted k l)
theorem Ml(k:α->Int)(x:α)(c:Int):∀l:List α,(Jj k x l).filter (fun a=>k a==c)=(x::l).filter fun a=>k a==c
 |[]=>rfl
 |y::r=>by
  unfold Jj;split
  ·rename_i hy;rw[AS,Ml k x c r,AS,AS (x:=x),AS (x:=y)];by_cases h1:k y=c
   ·have h2:¬k x=c:=by lia
    simp[h1,h2]
   ·simp[h1]
  ·rfl
theorem srt_filter(k:α->Int)(c:Int):∀l:List α,(srt k l).filter (fun a=>k a==c)=l.filter fun a=>k a==c
 |[]=>rfl
 |x::l=>by show(Jj k x (srt k l)).filter _=_;rw[Ml,AS,AS,srt_filter k c l]
theorem srt_mem(k:α->Int)(z:α):∀l:List α,z∈srt k l↔z∈l
 |[]=>Iff.rfl
 |x::l=>by show z∈Jj k x (srt k l)↔_;rw[ND,srt_mem k z l,Ao]
theorem srt_len(k:α->Int):∀l:List α,(srt k l).length=l.length
 |[]=>rfl
 |x::l=>by
  have:∀m:List α,(Jj k x m).length=m.length+1:=fun m=>by
   induction m with
   |nil=>rfl
   |cons y r ih=>
    unfold Jj;split
    ·rw[Ad,ih,Ad]
    ·rfl
  show(Jj k x (srt k l)).length=_;rw[this,srt_len k l,Ad]
theorem Qx{β:Type}(k:β->Int)(f:α->β)(x:α):∀l:List α,(Jj (fun a=>k (f a)) x l).map f=Jj k (f x) (l.map f)
 |[]=>rfl
 |y::r=>by
  rw[AM];unfold Jj;split
  ·rw[AM,Qx k f x r]
  ·rfl
theorem srt_map{β:Type}(k:β->Int)(f:α->β):∀l:List α,(srt (fun a=>k (f a)) l).map f=srt k (l.map f)
 |[]=>rfl
 |x::l=>by show(Jj _ x (srt _ l)).map f=Jj k (f x) (srt k (l.map f));rw[Qx,srt_map k f l]
end
theorem M9{x:Iv}(hx:x.ok=true):∀l:List Iv,(∀y∈l,y.ok=true)->LuteSong.insertIv x l=Jj width x l
 |[],_=>rfl
 |y::r,h=>by
  unfold LuteSong.insertIv Jj;rw[Qa (h y (.head _)) hx,M9 hx r fun z hz=>h z (.tail _ hz)];by_cases hy:width y<width x
  ·rw[Gj (decide_eq_true hy),Gj hy]
  ·rw[Gi (by rw[decide_eq_false hy];exact Ag),Gi hy]
theorem sort_eq:∀l:List Iv,(∀y∈l,y.ok=true)->l.foldr LuteSong.insertIv []=srt width l
 |[],_=>rfl
 |x::l,h=>by show LuteSong.insertIv x (l.foldr LuteSong.insertIv [])=Jj width x (srt width l);rw[sort_eq l fun z hz=>h z (.tail _ hz),M9 (h x (.head _)) _ fun z hz=>h z (.tail _ ((srt_mem width z l).mp hz))]
end LuP
namespace L2
open PySem PySem.Spec PyProof.Rows PySem.W PySem.Calls
section
variable{prog:FU}{w:F0}{A:F4}{E:FO->FS->Prop}{s:FS}{a kS:FP}{vs:List FO}{kz:List Int}{keys:Array FO}{e e1:Nat}{P:PySem.Fin->FS->Prop}
theorem RP{st:SortSt}(nk:s.heap.get? kS=some (seqObj "list" keys e))(na:s.heap.get? a=some (seqObj "list" #[] e1))(hka:kS≠a)(hk:IntsAre keys.toList kz)(hlen:kz.length=vs.length)(hZ:vs.length<=FT)
  (hp:(arrOf st).Perm (keys.zip vs.toArray)) (hs:SortedTo (arrOf st) (arrOf st).size) (hfl:failedOf st=none) (hst:Stable intKind (arrOf st) (keys.zip vs.toArray))
  (h:∀out:Array FO,KskOutSt false kz vs out.toList->out.size=vs.length->P (.done (.ret .none)) { s with heap:=(s.heap.update kS (Obj.mapSeq fun _=>#[])).update a (Obj.mapSeq fun _=>out) }):FW (model prog w) A (ksk_tail a false e1 (.ref kS) st) P E s:=by
 have e1':keys.size=kz.length:=(BQ (xs:=keys)).symm.trans (by have:=hk.length;lia);have ev:vs.toArray.size=vs.length:=Aq ..;have eo:((arrOf st).map (·.2)).size=vs.length:=by rw[Array.size_map,hp.size_eq,FG];lia
 have na1:(s.heap.update kS (Obj.mapSeq fun _=>(#[]:Array FO))).get? a=some (seqObj "list" #[] e1):=((Heap.SameBut.update s.heap kS _).2 a hka.symm).trans na;unfold ksk_tail;dsimp only;refine FQ (listUpdate_at nk rfl ?_ (by lia) (AD _));refine FQ (wpAny_letGo (FQ (seqEpoch_at na1 rfl (FQ (listUpdate_at na1 rfl ?_ (AD _) (by rw[Gi Ag];lia))))));rw[hfl];simp only[bne_self_eq_false,Fm,if_false];have q:=ksk_outSt (b:=false) hk hp hs (by rw[Gi Ag];exact hst);rw[Gi Ag] at q;exact FV (h _ q eo)
theorem YA(nk:s.heap.get? kS=some (seqObj "list" keys e))(na:s.heap.get? a=some (seqObj "list" #[] e1))(hka:kS≠a)(hk:IntsAre keys.toList kz)(hlen:kz.length=vs.length)(hZ:vs.length<=FT)
  (h:∀out:Array FO,KskOutSt false kz vs out.toList->out.size=vs.length->P (.done (.ret .none)) { s with heap:=(s.heap.update kS (Obj.mapSeq fun _=>#[])).update a (Obj.mapSeq fun _=>out) }):FW (model prog w) A (ksk_end a false vs.toArray e1 (.ref kS) keys) P E s:=by
 have e1':keys.size=kz.length:=(BQ (xs:=keys)).symm.trans (by have:=hk.length;lia);have ev:vs.toArray.size=vs.length:=Aq ..;have ez:(keys.zip vs.toArray).size=vs.length:=by rw[FG];lia
 unfold ksk_end;dsimp only;rw[Gi Ag,Gi Ag];by_cases h2:vs.toArray.size<2
 ·rw[Gj h2,Gj h2];refine FQ (FV ?_);rw[StateT.run_pure];refine FQ (FV (RP (st:=SortSt.mk' general' (keys.zip vs.toArray) #[] 7 none) nk na hka hk hlen hZ (Array.Perm.refl _) (fun i j hij hj=>?_) rfl (Stable.refl _) h));have hj2:j<(keys.zip vs.toArray).size:=hj;have eij:i=j:=by lia
  rw[eij];exact Int.le_refl _
 ·rw[Gi h2,Gi h2,ksk_kind hk (by lia)];refine FQ (FV (FQ (F9 (wpS_sortRunsSt (κ:=intKind) (a₀:=keys.zip vs.toArray) (st:=SortSt.mk' oneType' (keys.zip vs.toArray) #[] 7 none)
   (Q:=fun _ st'=>(arrOf st').Perm (keys.zip vs.toArray)/\failedOf st'=none/\SortedTo (arrOf st') (arrOf st').size/\Stable intKind (arrOf st') (keys.zip vs.toArray))
   intKind_oneLt (ksk_keysOfInt (ksk_intKeys hk)) ⟨Array.Perm.refl _,rfl,rfl⟩ rfl (Stable.refl _) (by lia) fun st' a1 a2 a3 a4=>⟨a1,a2,by rw[a1.size_eq];exact sortedTo_of_int a3,a4⟩) ?_ fun _ _ z=>z)))
  rintro⟨⟨⟩,st'⟩ s' ⟨rfl,b1,b2,b3,b4⟩;exact RP nk na hka hk hlen hZ b1 b3 b2 b4 h
end
def Ord(ks:List Int)(xs out:List V):Prop:=∃ps:List (Int×V),ps.Perm (ks.zip xs)/\out=ps.map Prod.snd/\ps.Pairwise (fun p q=>p.1<=q.1)/\∀c,ps.filter (fun p=>p.1==c)=(ks.zip xs).filter (fun p=>p.1==c)
theorem XI{ks:List Int}:∀{xs:List V} {us:List FO},Vals xs us->(ks.zip us).map (fun p=>(p.1,(TC p.2).getD .non))=ks.zip xs:=by
 induction ks with
 |nil=>intros;rfl
 |cons k ks ih=>
  intro xs us r;cases r with
  |nil=>rfl
  |cons h r=>rw[CV,CV,AM,ih r,h.abs];rfl
theorem Y9{ks:List Int}{xs:List V}{us out:List FO}(r:Vals xs us)(hl:ks.length=xs.length)(h:KskOutSt false ks us out):∃ys,Vals ys out/\Ord ks xs ys/\ys.length=xs.length:=by
 obtain⟨ps,h1,h2,h3,h4⟩:=h;have rel:∀p∈ps,RelV ((TC p.2).getD .non) p.2:=fun p hp=>by
  have hm:=Cn (h1.mem_iff.mp hp) |>.2
  have:∀{xs:List V} {us:List FO},Vals xs us->∀u∈us,RelV ((TC u).getD .non) u:=by
   intro xs us r
   induction r with
   |nil=>intro u hu;cases hu
   |cons h r ih=>
    intro u hu;rcases Ao.mp hu with rfl | hu
    ·rw[h.abs];exact h
    ·exact ih u hu
  exact this r _ hm
 refine⟨ps.map fun p=>(TC p.2).getD .non,?_,⟨ps.map fun p=>(p.1,(TC p.2).getD .non),?_,?_,?_,fun c=>?_⟩,?_⟩
 ·rw[h2];clear h1 h2 h3 h4
  induction ps with
  |nil=>exact .nil
  |cons p ps ih=>exact .cons (rel p (.head _)) (ih fun q hq=>rel q (.tail _ hq))
 ·rw[<-XI r];exact h1.map _
 ·rw[A0];rfl
 ·rw[Cq];exact h3
 ·rw[<-XI r,Dr,Dr];exact congrArg _ (h4 c)
 ·rw[Aa,h1.length_eq,El,<-r.length];lia
def Vx(X:Cx)(sp:Sp):V->Hp->VK->Prop:=fun v H Q=>∃(p:FP) (xs:List V) (ks:List Int),v=.ref p/\SqL X.K H p xs/\ks.length=xs.length ∧
 (∀(i:Nat) (x:V) (k:Int),xs[i]?=some x->ks[i]?=some k->∀H1,Same H H1->sp [x] H1 (fun v H2=>v=.int k/\Same H1 H2) E0)/\∀(q:FP) (out:List V) (H':Hp),Ord ks xs out->Same H H'->H q=none->H' q=some (.lst out)->Q (.ref q) H'
section
variable{X:Cx}{pins:List (FP×Obj)}{σ:St}{H:Hp}{s:FS}
theorem RJ{g C:FP}{n k:Nat}{sp:Sp}{v:V}{u:FO}{Q:VK}(hr:Room k X.A.in1.in1)(c:∀H,Clb X.prog X.w X.K X.mg X.base C k H g n sp)(I:Inv X pins σ H s)(rv:RelV v u)(h:Vx X sp v H Q):
  FW (model X.prog X.w) X.A (call (.builtin "sorted") [u] [(Str.ofString "key",.ref g)]) (EP X pins σ Q) X.xe s:=by
 obtain⟨p,xs,ks,rfl,hs,hlen,hsp,hQ⟩:=h;cases rv;obtain⟨its,rits,hl,hz⟩:=I.list hs;have hz':its.length<=FT:=by rw[<-rits.length];exact hz
 refine call_function_entry_kw kind_sorted plain_sorted entry_sorted (by unfold argsOk;kernel_rfl) ?_;unfold Builtin.«sorted»;refine FQ (m:=checkCount "sorted" 1 1 _) (FV ?_);refine FQ (collect_list hl.isList ?_ hz');refine FQ (wpAny_newList ?_ hz');have hsz:((s.heap.push (seqObj "list" #[] 0)).update s.heap.objs.size (Obj.mapSeq (·++its.toArray))).objs.size=s.heap.objs.size+1:=by rw[Heap.size_update,size_push']
 have I0:Inv X pins σ H { s with heap:=(s.heap.push (seqObj "list" #[] 0)).update s.heap.objs.size (Obj.mapSeq (·++its.toArray)) }:=I.kept (t':=s.toks) fun b o q=>by have hlt:b<s.heap.objs.size:=Am q;rw[DQ _ _ _ _ (AH hlt)];exact Ab _ q
 have I1:=I0.lnew (t':=s.toks) rits hz;have hoL:=Au (h:=(s.heap.push (seqObj "list" #[] 0)).update s.heap.objs.size (Obj.mapSeq (·++its.toArray))) (o:=seqObj "list" its.toArray 0) rfl;generalize ((s.heap.push (seqObj "list" #[] 0)).update s.heap.objs.size (Obj.mapSeq (·++its.toArray)))=hh at *;dsimp only at I1 hoL ⊢;have hfr:H hh.objs.size=none:=I0.fresh;generalize hh.objs.size=a at *;refine FQ (wpAny_holding (wpAny_call_entry_kw slot_list_sort ⟨_,hoL,rfl⟩ entry_list_sort ?body (ksk_l1 _ _)))
 case body=>
  show FW (model X.prog X.w) X.A.in1.in1 (Builtin.«list.sort» ⟨[.ref a],[(Str.ofString "key",.ref g)]⟩) _ _ _;rw[ksk_t1];unfold ksk_tree;refine FQ (listItems_at hoL rfl (FQ (listUpdate_at hoL rfl ?_ (by rw[Aq];exact hz') (AD _))));obtain⟨e1,ho1⟩:∃e1,((hh.push (seqObj "list" its.toArray 0)).update a (Obj.mapSeq fun _=>#[])).get? a=some (seqObj "list" #[] e1):=⟨_,get?_update_seq hoL fun _=>#[]⟩;have I2:=I1.lset (t':=s.toks) (ys:=[]) (its':=[]) (f:=fun _=>#[]) Gn hoL rfl .nil (AD _);have nf:=I2.nofrz Gn trivial;obtain⟨od,I3⟩:=I2.lock Gn trivial;have eod:od=seqObj "list" #[] e1:=by have q:=(I3.hok a _ Gn).1;exact Option.some.inj (q.symm.trans ho1)
  subst eod;refine FQ (seqEpoch_at ho1 rfl (FQ (wpAny_newTuple ?_ (by simpa using hz'))));have I4:=I3.kept (t':=s.toks) (h':=((hh.push (seqObj "list" its.toArray 0)).update a (Obj.mapSeq fun _=>#[])).push (seqObj "tuple" its.toArray 0)) fun b o q=>Ab _ q;refine FQ (wpAny_newList ?_ (AD _));have I5:=I4.lnew (t':=s.toks) (ys:=[]) (its:=[]) .nil (AD _);have hkf:=I4.fresh;refine wpAny_holding ?_;dsimp only at I5 hkf ⊢;have S3:Same H (upd (upd (upd H a (.lst xs)) a (.lst [])) a (.frz (seqObj "list" #[] e1) (.lst []))):=fun b o q=>by
   have hb:b≠a:=fun z=>by rw[z,hfr] at q;cases q
   rw[Gr hb,Gr hb,Gr hb];exact q
  have a3:(upd (upd (upd H a (.lst xs)) a (.lst [])) a (.frz (seqObj "list" #[] e1) (.lst []))) a=some (.frz (seqObj "list" #[] e1) (.lst [])):=Gn;generalize (upd (upd (upd H a (.lst xs)) a (.lst [])) a (.frz (seqObj "list" #[] e1) (.lst [])))=H3 at *;generalize (((hh.push (seqObj "list" its.toArray 0)).update a (Obj.mapSeq fun _=>#[])).push (seqObj "tuple" its.toArray 0))=h4 at *;generalize h4.objs.size=kS at *;unfold ksk_rest;refine FQ (wpAny_rule ?_);rw[List.forIn_toArray];have hka:kS≠a:=fun z=>by rw[z,a3] at hkf;cases hkf
  refine FQ (ksk_fold (fun i s'=>∃H',Inv X pins σ H' s'/\Same H H'/\H' a=some (.frz (seqObj "list" #[] e1) (.lst []))/\H' kS=some (.lst ((ks.take i).map V.int))) its 0 _ ⟨_,I5,fun b o q=>by rw[Gr (fun z=>by rw[z] at q;exact nomatch (S3 _ _ q).symm.trans hkf)];exact S3 _ _ q,by rw[Gr (Ne.symm hka)];exact a3,Gn⟩ (fun j x s' hx hj=>?_) fun s' hd=>?_)
  ·obtain⟨H',I',sH,ha',hk'⟩:=hj;rw[Dn] at hk' ⊢;have hjl:j<its.length:=(Ai.mp hx).1;have hjx:j<xs.length:=by rw[rits.length];exact hjl
   have hjk:j<ks.length:=by lia
   have ex:xs[j]?=some xs[j]:=Ae hjx;have ek:ks[j]?=some ks[j]:=Ae hjk;obtain⟨x',hx',rx⟩:=rits.get ex;cases hx.symm.trans hx';have run:FW (model X.prog X.w) X.A.in1.in1 (call (.ref g) [x]) (EP X pins σ (fun v H2=>v=.int ks[j]/\Same H' H2)) (fun _ _=>False) s':=
    wpAny_call (codeAny_mono ((c H').run X.A.in1.in1 X.stack s' H' [x] [xs[j]] (fun v H2=>v=.int ks[j]/\Same H' H2) E0 (Frz.refl _) hr I'.env0.in1.in1 (.cons rx .nil) (hsp j _ _ ex ek H' sH)) fun r s2 hq=>by
     cases r with
     |error er=>obtain⟨ea,d,T,H2,i,_,_,_,_,_,_,_,_,_,_,_,hE⟩:=hq;exact hE.elim
     |ok fl=>
      cases fl with
      |ret u=>exact I'.after hq
      |next=>exact False.elim hq
      |brk=>exact False.elim hq
      |cont=>exact False.elim hq)
   refine FQ (wpAny_attempt (F9 run (fun kv s2 hq=>?_) fun _ _ z=>z.elim));obtain⟨_,H2,J,rkv,rfl,s2H⟩:=hq;obtain⟨tk,rfl⟩:=rkv;have hk2:=s2H _ _ hk';obtain⟨_,kits,kn,rk,_,kh⟩:=J.lstM hk2;have kl:kits.length=j:=by rw[<-rk.length,Aa,Ax];lia
   dsimp only;refine FQ (listUpdate_at kh rfl (FV ⟨rfl,upd H2 kS (.lst ((ks.take (j+1)).map V.int)),?_,?_,?_,Gn⟩) (by rw[Aq];lia) (by rw[Array.size_push,Aq];lia))
   ·have e2:(ks.take (j+1)).map V.int=(ks.take j).map V.int++[.int ks[j]]:=by rw[Bh,ek,An];rfl
    rw[e2];exact J.lset (t':=s2.toks) (its':=kits++[.int ks[j] tk]) hk2 kh (by simp) (rk.append (.cons ⟨_,rfl⟩ .nil)) (by rw[Ac,Aa,Ax,Be];lia)
   ·intro b o q;rw[Gr (fun z=>by rw[z] at q;exact nomatch (S3 _ _ q).symm.trans hkf)];exact s2H _ _ (sH _ _ q)
   ·rw[Gr (Ne.symm hka)];exact s2H _ _ ha'
  ·obtain⟨H',I',sH,ha',hk'⟩:=hd;rw[Dn] at hk';have eks:ks.take its.length=ks:=BX (by rw[<-rits.length];lia);rw[eks] at hk';obtain⟨_,kits,kn,rk,_,kh⟩:=I'.lstM hk';have hah:=(I'.hok a _ ha').1;have kl:kits.length=ks.length:=by rw[<-rk.length,Aa]
   refine FQ (listItems_at kh rfl ?_);refine YA (kz:=ks) kh hah hka (by have:=rk.ints;simpa using this) (by rw[hlen];exact rits.length) hz' fun out ho hos=>⟨_,rfl,FV ⟨_,rfl,?_⟩⟩;obtain⟨ys,ry,od,yl⟩:=Y9 rits hlen ho;have J1:=I'.unlock ha' nf;have J2:=J1.lset (t':=s'.toks) (ys:=[]) (its':=[]) (f:=fun _=>#[]) (by rw[Gr hka];exact hk') kh rfl .nil (AD _);have hah2:(s'.heap.update kS (Obj.mapSeq fun _=>(#[]:Array FO))).get? a=some (seqObj "list" #[] e1):=((Heap.SameBut.update s'.heap kS _).2 a hka.symm).trans hah;have J3:=J2.lset (t':=s'.toks) (ys:=ys) (its':=out.toList) (f:=fun _=>out) (l:=a) (xs:=[]) (by rw[Gr (Ne.symm hka)];exact Gn) (its:=[]) hah2 (by simp) ry (by lia);refine⟨.ref a,_,J3,rfl,hQ a ys _ od (fun b o q=>?_) hfr Gn⟩;have hb:b≠a:=fun z=>by rw[z,hfr] at q;cases q
   rw[Gr hb,Gr (fun z=>by rw[z] at q;exact nomatch (S3 _ _ q).symm.trans hkf),Gr hb];exact sH _ _ q
def Y8(X:Cx)(sp:Sp)(t:TA):TE:=fun σ H Q=>t σ H fun vs H1=>∃v,vs=[v]/\Vx X sp v H1 Q
theorem Uf{C:FP}{k:Nat}{x:Str}{ps:List Str}{sp:Sp}{t:TA}{e:F3}{p p2 kp pos:Pos}(D:Dfn X.prog X.w X.K X.mg X.base C k x ps sp)(hr:Room k X.A.in1.in1)(hm:X.mg "sorted"=none)(he:PA X [e] t)(hg:Gl X "sorted":=by rfl)(hgx:Gl X x:=by rfl)(hd:(x==("__debug__":Str))=false:=by decide)
  (hst:backTo pos (FY [e] X.env)=(false,eval e X.env)::backTo pos (FY [] X.env):=by rfl) (hpl:(backTo pos (FY [e] X.env)).any (·.1)=false:=by rfl):PE X (.Call (.Name "sorted" p) [e] [⟨some "key",.Name x p2,kp⟩] pos) (Y8 X sp t):=by
 obtain⟨g,hmx,c⟩:=D.clb;intro pins s σ H Q I h;refine Gc (K7 I hg hm (show Gf "sorted"=some (.builtin "sorted") by decide +kernel) ?_ (by decide) (by decide));refine callWith_kw (thn (he pos pins s σ H _ I h) fun us s1 ⟨vs,H1,I1,r1,q1⟩=>?_) hst hpl
 ·obtain⟨v,rfl,q⟩:=q1;obtain⟨u,rfl,ru⟩:=r1.one;refine evalAll_cons (FQ (thn (OU (X:=X) (v:=.ref g) (pos:=p2) hgx hmx rfl hd pins s1 σ H1 (fun v' H2=>v'=.ref g/\H2=H1) I1 ⟨rfl,rfl⟩) fun kv s2 ⟨v',H2,I2,rk,hv,hH⟩=>?_));cases hv;cases hH;cases rk;exact FQ (wpAny_standAt (FV (evalAll_nil (RJ hr c I2 ru q))))
end
open PySem PySem.Spec PyProof.Rows PySem.W PySem.Calls PyProof.Rows.G
section
variable{X:Cx}{pins:List (FP×Obj)}{σ:St}{H:Hp}{s:FS}
def TIn(H:Hp)(b:FP)(n:Int):Prop:=∃r:List Int,H b=some (.tup (V.int n::r.map V.int))
def Yg(K:Gh):List V->Hp->VK->Prop:=fun vs H Q=>∃(a:FP) (bs:List FP) (f:FP->Int),vs=[V.ref a]/\SqL K H a (bs.map V.ref)/\(∀b∈bs,TIn H b (f b)) ∧
 ∀(cs:List FP) (p:FP),cs.Perm bs->cs.Pairwise (fun b c=>f b<=f c)->H p=none->Q (.ref p) (upd H p (.lst (cs.map V.ref)))
theorem NH:∀(r:List Int) (us:List FO) (i:Nat),Vals (r.map V.int) us->tupItems (fun _=>false) i us=some (r.map Sum.inl)
 |[],us,i,h=>by rw[Vals.zero h];rfl
 |n::r,us,i,h=>by
  cases h with
  |cons h1 h2=>obtain⟨t,rfl⟩:=h1;show(if (false:Bool)=true then none else (tupItems (fun _=>false) (i+1) _).map (Sum.inl n::·))=_;rw[NH r _ _ h2];rfl
theorem Uc(I:Inv X pins σ H s){b:FP}{n:Int}(h:TIn H b n):∃(r:List Int) (f:FO),TupOf s.heap (fun _=>false) (.ref b) f/\tupKeyC s.heap (fun _=>false) (.ref b)=some (Sum.inl n::r.map Sum.inl):=by
 obtain⟨r,hb⟩:=h;obtain⟨_,its,ri,o,ho,hc,m,hd⟩:=I.hok b _ hb;cases ri with
 |cons h1 h2=>rename_i u us;have h1':=h1;obtain⟨t,rfl⟩:=h1';refine⟨r,_,⟨b,o,_,m,rfl,ho,hc,hd,rfl,fun _=>⟨_,_,rfl⟩,fun z=>nomatch z⟩,?_⟩;unfold tupKeyC;rw[Gj (by simp[isTupObj,ho,hc])];simp only[tupKey,ho,hd];have e:=NH (n::r) _ 0 (.cons h1 h2);simpa using e
theorem SE(I:Inv X pins σ H s):∀{bs:List FP},(∀b∈bs,∃n,TIn H b n)->∃fs,TupsOf s.heap (fun _=>false) (bs.map FO.ref) fs
 |[],_=>⟨[],.nil⟩
 |b::bs,h=>by obtain⟨n,hn⟩:=h b (.head _);obtain⟨_,f,hf,_⟩:=Uc I hn;obtain⟨fs,hfs⟩:=SE I fun c hc=>h c (.tail _ hc);exact⟨f::fs,.cons hf hfs⟩
def toA:FO->FP
 |.ref a=>a
 |_=>0
theorem Sd:∀{bs:List FP} {us:List FO},Vals (bs.map V.ref) us->us=bs.map FO.ref
 |[],_,h=>Vals.zero h
 |b::bs,_,.cons h r=>by rw[Sd r];cases h;rfl
theorem Sm:∀(us:List FO),(∀u∈us,∃a,u=.ref a)->Vals ((us.map toA).map V.ref) us
 |[],_=>.nil
 |u::us,h=>by obtain⟨a,rfl⟩:=h u (.head _);exact .cons rfl (Sm us fun v hv=>h v (.tail _ hv))
theorem Qu:∀bs:List FP,(bs.map FO.ref).zip (bs.map FO.ref)=bs.map fun b=>(FO.ref b,FO.ref b)
 |[]=>rfl
 |b::bs=>by rw[AM,CV,Qu bs];rfl
theorem Ub:Lk X (.builtin "sorted") (Yg X.K):=by
 intro pins s σ H vs us Q I r h;obtain⟨a,bs,f,rfl,hs,hT,q⟩:=h;obtain⟨its,rv,hl,hz⟩:=I.list hs;rw[Vals.ref1 r];cases Sd rv;obtain⟨fs,hfs⟩:=SE I fun b hb=>⟨_,hT b hb⟩;have key:∀b∈bs,∃r:List Int,tupKeyC s.heap (fun _=>false) (.ref b)=some (Sum.inl (f b)::r.map Sum.inl):=fun b hb=>let ⟨r,_,_,e⟩:=Uc I (hT b hb);⟨r,e⟩;rw[Aa] at hz;refine sorted_tups hl.isList hfs (fun v hv=>?_) (by rw[Aa];exact hz) fun st hp hso _=>?_
 ·obtain⟨b,hb,rfl⟩:=AZ.mp hv;obtain⟨r,e⟩:=key b hb;exact⟨_,e⟩
 ·have hpl:(arrOf st).toList.Perm ((bs.map FO.ref).zip (bs.map FO.ref)):=by rw[<-pairsOf_toList];exact Array.perm_iff_toList_perm.mp hp
  have ez:(bs.map FO.ref).zip (bs.map FO.ref)=bs.map fun b=>(FO.ref b,FO.ref b):=Qu bs;rw[ez] at hpl;have hm:∀p∈(arrOf st).toList,∃b∈bs,p=(FO.ref b,FO.ref b):=fun p hp=>by obtain⟨b,hb,e⟩:=AZ.mp (hpl.mem_iff.mp hp);exact⟨b,hb,e.symm⟩
  have eo:((arrOf st).map (·.2)).toList=(arrOf st).toList.map (·.2):=Array.toList_map;have rv':Vals ((((arrOf st).map (·.2)).toList.map toA).map V.ref) ((arrOf st).map (·.2)).toList:=Sm _ fun u hu=>by rw[eo] at hu;obtain⟨p,hp,rfl⟩:=AZ.mp hu;obtain⟨b,_,rfl⟩:=hm p hp;exact⟨b,rfl⟩
  have hperm:(((arrOf st).map (·.2)).toList.map toA).Perm bs:=by have:=(hpl.map (·.2)).map toA;rw[A0,A0] at this;rw[eo];simpa [toA,Function.comp_def] using this
  have hpw:(((arrOf st).map (·.2)).toList.map toA).Pairwise (fun b c=>f b<=f c):=by
   rw[eo,A0,Cq,Ep];intro i j hi hj hij;rw[BQ] at hi hj;have hsz:(arrOf st).size=(pairsOf (bs.map FO.ref)).size:=hp.size_eq;have k:=hso i j (BB hij) (by lia);obtain⟨b,hb,e1⟩:=hm (arrOf st)[i] (Er ..);obtain⟨c,hc,e2⟩:=hm (arrOf st)[j] (Er ..);obtain⟨r1,k1⟩:=key b hb;obtain⟨r2,k2⟩:=key c hc;have K1:KK (tupKindC s.heap fun _=>false) (arrOf st) i=Sum.inl (f b)::r1.map Sum.inl:=by unfold KK;rw[getElem?_pos (arrOf st) i hi,e1];show(tupKeyC _ _ _).getD _=_;rw[k1];rfl
   have K2:KK (tupKindC s.heap fun _=>false) (arrOf st) j=Sum.inl (f c)::r2.map Sum.inl:=by unfold KK;rw[getElem?_pos (arrOf st) j hj,e2];show(tupKeyC _ _ _).getD _=_;rw[k2];rfl
   rw[K1,K2] at k;have k':En itemOrd (Sum.inl (f c)::r2.map Sum.inl) (Sum.inl (f b)::r1.map Sum.inl)=false:=k;show f (toA ((arrOf st).toList[i]).2)<=f (toA ((arrOf st).toList[j]).2);rw[EQ,EQ,e1,e2];show f b<=f c;refine Int.not_lt.mp fun z=>?_;simp[En,itemLt,z] at k'
  obtain⟨ep,he'⟩:=PyProof.Rows.sortedAll_at s.heap (bs.map FO.ref) ((arrOf st).map (·.2));exact⟨.ref _,upd H (s.heap.objs.size+1) (.lst ((((arrOf st).map (·.2)).toList.map toA).map V.ref)),I.laid (t':=s.toks) (fun _ _=>PyProof.Rows.sortedAll_old) (E5 _) ⟨by rw[Aa,hperm.length_eq];exact hz,_,ep,rv',he'⟩,rfl,q _ _ hperm hpw (I.hok.fresh (E5 _))⟩
end
end L2
namespace LZ
open PySem
abbrev en1(h:Heap)(a:Src):Heap:=(h.push a.obj).push { cls:=.type "enumerate",data:=.fields #[.none,.bool false,.ref h.objs.size,rawInt 0,.none,.none] }
theorem Ri(a:Src)(xs:List L2.V):Meets (Builtin.«enumerate.__new__» ⟨[.type "enumerate",a.val],[]⟩) (fun _ R s=>At s.heap a xs/\R (.ok (.ret (.ref (s.heap.push a.obj).objs.size))) { s with heap:=en1 s.heap a }):=
 .of_wp fun prog w A R s h=>by
  obtain⟨hp,g,d,tk,os⟩:=s;obtain⟨k1,h⟩:=h;have hsub:=sub_enumerate;have L1:At (FS.heap ⟨hp,g,d,tk,os⟩) a xs:=k1;cases a with
  |lst l=>
   obtain⟨us,_,⟨c,dct,dt,sl⟩,hl,hc,n,hd⟩:=id k1
   wp_walk using AutoSeq1.wpAny_loadPart' hl
   refine wpAny_stack_any fun st=>FV ?_;split
   ·rename_i c _ _ _ _ _;cases(c==FO.type "enumerate") <;> (wp_walk using AutoSeq1.wpAny_loadPart' hl,Ks L1;exact⟨_,rfl,h⟩)
   ·wp_walk using AutoSeq1.wpAny_loadPart' hl,Ks L1
    exact⟨_,rfl,h⟩
  |tup l=>
   obtain⟨us,_,⟨c,dct,dt,sl⟩,hl,hc,n,hd⟩:=id k1
   wp_walk using AutoSeq1.wpAny_loadPart' hl
   refine wpAny_stack_any fun st=>FV ?_;split
   ·rename_i c _ _ _ _ _;cases(c==FO.type "enumerate") <;> (wp_walk using AutoSeq1.wpAny_loadPart' hl,Ks L1;exact⟨_,rfl,h⟩)
   ·wp_walk using AutoSeq1.wpAny_loadPart' hl,Ks L1
    exact⟨_,rfl,h⟩
  |txt y t=>
   wp_walk
   refine wpAny_stack_any fun st=>FV ?_;split
   ·rename_i c _ _ _ _ _;cases(c==FO.type "enumerate") <;> (wp_walk using Ks L1;exact⟨_,rfl,h⟩)
   ·wp_walk using Ks L1
    exact⟨_,rfl,h⟩
section
variable{prog:FU}{w:F0}{A:F4}{E:FO->FS->Prop}{s:FS}
theorem call_enum{a:Src}{xs:List L2.V}{Q:FO->FS->Prop}(k1:At s.heap a xs)
  (h:∀h',IsEnum h' (s.heap.objs.size+1) s.heap.objs.size 0 .none->Iter h' s.heap.objs.size a 0->h'.objs.size=s.heap.objs.size+2->(∀b o,s.heap.get? b=some o->h'.get? b=some o)->Q (.ref (s.heap.objs.size+1)) { s with heap:=h' }):
  FW (model prog w) A (call (.type "enumerate") [a.val]) Q E s:=by
 refine callType_new F.called_enumerate (by decide) (F.typeCall_enumerate_1 _) (F.newCall_enumerate_1 _) (fun obj=>F.args_object_init_2 obj _) F.entry_enumerate_new (Ri a xs) ⟨k1,?_⟩;have z1:(s.heap.push a.obj).objs.size=s.heap.objs.size+1:=AL ..;have z2:(en1 s.heap a).objs.size=s.heap.objs.size+2:=by rw[AL,z1]
 have e2:(en1 s.heap a).get? (s.heap.push a.obj).objs.size=some _:=Au _ rfl;have e1:(en1 s.heap a).get? s.heap.objs.size=some a.obj:=Ab _ (Au _ rfl);show _/\_;rw[z1] at e2 ⊢;exact⟨⟨_,e2,rfl⟩,h _ e2 (.zero e1) z2 fun c o q=>Ab _ (Ab _ q)⟩
theorem TD{e it:FP}{r:Src}{i:Nat}{vs:List L2.V}{x:L2.V}{old:FO}{Q:FO->FS->Prop}(he:IsEnum s.heap e it i old)(hit:Iter s.heap it r i)(hl:At s.heap r vs)(hx:vs[i]?=some x)(hne:e≠it)
  (hQ:∀u h' tk t,L2.RelV x u->IsEnumOut h' e it ((i:Int)+1) u s.heap.objs.size->Iter h' it r (i+1)->h'.get? s.heap.objs.size=some { cls:=.type "tuple",data:=.seq #[.int i t,u] }->h'.objs.size=s.heap.objs.size+1->
   (∀b o,b≠e->b≠it->s.heap.get? b=some o->h'.get? b=some o)->Q (.ref s.heap.objs.size) { s with heap:=h',toks:=tk }):
  FW (model prog w) A (Builtin.«enumerate.__next__» ⟨[.ref e],[]⟩) (fun fin s'=>∃v,fin=.done (.ret v)/\Q v s') E s:=by
 have hel:e<s.heap.objs.size:=Am he;show FW _ _ (field (.ref e) 2 >>= _) _ _ _;refine FQ (F5 he rfl (x:=.ref it) rfl ?_);refine FQ (Rf hit hl hx fun u g1 tk1 ru t1 s1=>?_);have e1:IsEnum g1 e it i old:=s1.extBut _ _ hne he;show FW _ _ (field (.ref e) 3 >>= _) _ _ _;refine FQ (F5 e1 rfl (x:=rawInt i) rfl ?_);show FW _ _ (field (.ref e) 4 >>= _) _ _ _;refine FQ (F5 e1 rfl (x:=.none) rfl ?_);show FW _ _ (mkInt i >>= _) _ _ _;refine FQ (wpAny_mkInt ?_);show FW _ _ (setField (.ref e) 3 (rawInt ((i:Int)+1)) >>= _) _ _ _;refine FQ (F8 e1 (by simp) fun g2 e2 s2=>?_)
 replace e2:IsEnum g2 e it ((i:Int)+1) old:=e2
 show FW _ _ (setField (.ref e) 4 .none >>= _) _ _ _;refine FQ (F8 e2 (by simp) fun g3 e3 s3=>?_)
 replace e3:IsEnum g3 e it ((i:Int)+1) old:=e3
 show FW _ _ (newTuple [.int i _,u] >>= _) _ _ _;refine FQ (wpAny_newTuple ?_);have sz:g3.objs.size=s.heap.objs.size:=by rw[s3.1,s2.1,s1.1]
 have e4:IsEnum (g3.push { cls:=.type "tuple",data:=.seq #[.int i tk1,u] }) e it ((i:Int)+1) old:=Ab _ e3;have T4:(g3.push { cls:=.type "tuple",data:=.seq #[.int i tk1,u] }).get? s.heap.objs.size=some { cls:=.type "tuple",data:=.seq #[.int i tk1,u] }:=by rw[<-sz];exact Au _ rfl
 have n4:(g3.push { cls:=.type "tuple",data:=.seq #[.int i tk1,u] }).objs.size=s.heap.objs.size+1:=by rw[AL,sz]
 have k4:∀b o,b≠e->b≠it->s.heap.get? b=some o->(g3.push { cls:=.type "tuple",data:=.seq #[.int i tk1,u] }).get? b=some o:=fun b o hbe hbi hb=>Ab _ (s3.extBut _ _ hbe (s2.extBut _ _ hbe (s1.extBut _ _ hbi hb)));have i4:Iter (g3.push { cls:=.type "tuple",data:=.seq #[.int i tk1,u] }) it r (i+1):=t1.at_ fun o q=>Ab _ (s3.extBut _ _ hne.symm (s2.extBut _ _ hne.symm q));show FW _ _ (Builtin.SmallTypes.ownedTupleIsFree (.ref e) >>= _) _ _ _;rw[show g3.objs.size=s.heap.objs.size from sz];generalize g3.push { cls:=.type "tuple",data:=.seq #[.int i tk1,u] }=g4 at *;refine FQ ?_;unfold Builtin.SmallTypes.ownedTupleIsFree;refine FQ (F5 e4 rfl (x:=.none) rfl (FV ?_));simp only[if_true];refine FQ (wpAny_rule ?_);refine FQ (F5 e4 rfl (x:=old) rfl ?_);refine FQ (F8 e4 (by simp) fun g5 e5 s5=>?_)
 replace e5:IsEnum g5 e it ((i:Int)+1) u:=e5
 show FW _ _ (Builtin.SmallTypes.ownedTupleHandOut (.ref e) (.ref s.heap.objs.size) >>= _) _ _ _;refine FQ ?_;unfold Builtin.SmallTypes.ownedTupleHandOut;refine FQ (F8 e5 (by simp) fun g6 e6 s6=>?_)
 replace e6:IsEnumOut g6 e it ((i:Int)+1) u s.heap.objs.size:=e6
 refine F8 e6 (by simp) fun g7 e7 s7=>?_
 replace e7:IsEnumOut g7 e it ((i:Int)+1) u s.heap.objs.size:=e7
 have up:∀c o,c≠e->g4.get? c=some o->g7.get? c=some o:=fun c o hc q=>s7.extBut _ _ hc (s6.extBut _ _ hc (s5.extBut _ _ hc q));exact FQ (wpAny_letGo (FV ⟨_,rfl,hQ u g7 _ tk1 ru e7 (i4.at_ fun o q=>up _ _ hne.symm q) (up _ _ (Cs hel) T4) (by rw[s7.1,s6.1,s5.1,n4]) fun b o hbe hbi hb=>up _ _ hbe (k4 b o hbe hbi hb)⟩))
theorem enum_py{e it:FP}{r:Src}{i:Nat}{vs:List L2.V}{x:L2.V}{old:FO}{Q:Option FO->FS->Prop}(he:IsEnum s.heap e it i old)(hit:Iter s.heap it r i)(hl:At s.heap r vs)(hx:vs[i]?=some x)(hne:e≠it)
  (hQ:∀u h' tk t,L2.RelV x u->IsEnumOut h' e it ((i:Int)+1) u s.heap.objs.size->Iter h' it r (i+1)->h'.get? s.heap.objs.size=some { cls:=.type "tuple",data:=.seq #[.int i t,u] }->h'.objs.size=s.heap.objs.size+1->
   (∀b o,b≠e->b≠it->s.heap.get? b=some o->h'.get? b=some o)->Q (some (.ref s.heap.objs.size)) { s with heap:=h',toks:=tk }):FW (model prog w) A (pyNext (.ref e)) Q E s:=by
 have hT:s.TypeIs (.ref e) "enumerate":=⟨_,he,rfl⟩;unfold pyNext;exact FQ (wpAny_attempt (wpAny_callSpecial?_slot (name:=Str.ofString "__next__") hT F.slot_enumerate_next (wpAny_call_entry F.slot_enumerate_next hT F.entry_enumerate_next (TD he hit hl hx hne fun u h' tk t ru a b c d k=>FV (hQ u h' tk t ru a b c d k)) (F.args_enumerate_next_1 _))))
theorem enum_py_end{e it:FP}{r:Src}{i:Nat}{vs:List L2.V}{old:FO}{Q:Option FO->FS->Prop}(hh:A.handled=none)(he:IsEnum s.heap e it i old)(hit:Iter s.heap it r i)(hl:At s.heap r vs)(hx:vs[i]?=none)
  (hQ:∀h',Heap.ExtBut it s.heap h'->Q none { s with heap:=h' }):FW (model prog w) A (pyNext (.ref e)) Q E s:=by
 have hT:s.TypeIs (.ref e) "enumerate":=⟨_,he,rfl⟩;unfold pyNext;refine FQ (wpAny_attempt (wpAny_callSpecial?_slot (name:=Str.ofString "__next__") hT F.slot_enumerate_next (wpAny_call_entry F.slot_enumerate_next hT F.entry_enumerate_next ?_ (F.args_enumerate_next_1 _))));show FW _ _ (field (.ref e) 2 >>= _) _ _ _;refine FQ (F5 he rfl (x:=.ref it) rfl ?_);refine FQ (Nk hh hit hl hx fun h' x he' hx'=>?_);obtain⟨o,ho,hc⟩:=hx';exact FQ (wpAny_isInstance (T:="StopIteration") (b:=true) ⟨o,ho,hc⟩ isSubtype_stop (FV (hQ _ he')))
end
end LZ
namespace L2
open PySem PySem.Spec PyProof.Rows
open LZ (Src)
def Rk(K:Gh)(a:Src):It:=⟨fun i H=>∃(xs:List V) (x:V),SrcV K H a xs/\xs[i]?=some x,fun i H v H'=>∃T x,v=.ref T/\H T=none/\H'=upd H T (.tup [.int (i:Nat),x])/\∀xs,SrcV K H a xs->xs[i]?=some x,fun i H=>∃xs:List V,SrcV K H a xs/\xs.length<=i⟩
theorem Re{P:FU}{w:F0}{K:Gh}{elts:List F3}{kk:Nat}{tpos:Pos}(a:Src)(e it:FP):
  Turn P w K (.Tuple elts kk tpos) (Rk K a) [e,it] e (fun i h=>(∃old,IsEnum h e it ((i:Nat):Int) old)/\LZ.Iter h it a i/\e≠it) where
 mem:=by simp
 obj:=fun i h st b hb=>by
  obtain⟨⟨old,he⟩,hi,_⟩:=st;have e':b=e\/b=it:=by simpa using hb
  rcases e' with z | z
  ·rw[z];exact⟨_,he,fun v q=>nomatch q⟩
  ·rw[z];exact hi.some_
 keep:=fun i h h' st k=>let ⟨⟨old,he⟩,hi,hne⟩:=st;⟨⟨old,k e (by simp) _ he⟩,hi.at_ fun o q=>k it (by simp) o q,hne⟩
 item:=by
  intro X hP hw hK hc i pins s σ H E I hf st hg;subst hP hw hK;obtain⟨⟨old,he⟩,hit,hne⟩:=st;obtain⟨xs,x,hq,hx⟩:=hg;have hel:e<s.heap.objs.size:=Am he;have hil:it<s.heap.objs.size:=by obtain⟨_,q,_⟩:=hit.some_;exact Am q
  refine LZ.enum_py he hit (I.src hq) hx hne fun u h' tk t ru ho hit' hT hsz hk=>?_;refine⟨_,rfl,wpAny_letOwnedTupleGo_enum (s:={ s with heap:=h',toks:=tk }) ho fun h'' he' sb=>?_⟩;have hT2:h''.get? s.heap.objs.size=some { cls:=.type "tuple",data:=.seq #[.int i t,u] }:=(sb.2 _ (Cs hel)).trans hT;have new:ObjOk X.prog X.w (upd H s.heap.objs.size (.tup [.int (i:Nat),x])) h'' s.heap.objs.size (.tup [.int (i:Nat),x]):=⟨by show 2<=FT;decide,[.int i t,u],.cons ⟨_,rfl⟩ (.cons ru .nil),⟨_,hT2,rfl,_,rfl⟩⟩;have I1:Inv X pins σ (upd H s.heap.objs.size (.tup [.int (i:Nat),x])) { s with heap:=h'',toks:=tk }:=I.turnedNew (ch:=[e,it]) (fun b ob hb q=>(sb.2 b (fun z=>hb (by simp[z]))).trans (hk b ob (fun z=>hb (by simp[z])) (fun z=>hb (by simp[z])) q)) hf (Ah _) new;refine⟨.ref s.heap.objs.size,_,I1,rfl,⟨_,x,rfl,I.hok.fresh (Ah _),rfl,fun ys hy=>by rw[I.src_inj hy hq];exact hx⟩,⟨⟨u,?_⟩,hit'.at_ fun o q=>(sb.2 it (Ne.symm hne)).trans q,hne⟩,fun b hb=>?_⟩
  ·rw[show((i+1:Nat):Int)=(i:Int)+1 by lia];exact he'
  ·have hb':b<s.heap.objs.size:=by
    have e':b=e\/b=it:=by simpa using hb
    rcases e' with z | z
    ·rw[z];exact hel
    ·rw[z];exact hil
   rw[Gr (AH hb')];exact(hf b hb).1
 done:=by intro X hP hw hK hc i pins s σ H E I hf st hg;subst hP hw hK;obtain⟨⟨old,he⟩,hit,hne⟩:=st;obtain⟨xs,hq,hx⟩:=hg;obtain⟨f0,f1,f2,f3,f4,f5⟩:=hf it (by simp);exact LZ.enum_py_end (I.ok.hd hc) he hit (I.src hq) (Cw hx) fun h' eb=>⟨rfl,I.turned (t':=s.toks) (fun b o hb q=>eb b o hb q) f0 f1 f3 f4 f5⟩
 self:=fun A i s Q E st h=>let ⟨⟨_,he⟩,_⟩:=st;wpAny_pyIter_enum he h
def X4(K:Gh)(ta:TA):TI:=fun σ H R=>ta σ H fun vs H1=>(∃a xs,vs=[.ref a]/\SqT K H1 a xs/\R (Rk K (.tup a)) H1)\/∃x:Str,vs=[.str x]/\x.cps.all (·<128)=true/\∀t,R (Rk K (.txt x t)) H1
theorem NE{X:Cx}{e:F3}{ta:TA}{p pos tpos:Pos}{elts:List F3}{kk:Nat}(hg:Gl X "enumerate")(hm:X.mg "enumerate"=none)(ha:PA X [e] ta)(hs:FY [e] X.env=[(false,eval e X.env)]:=by rfl):
  PI X (.Tuple elts kk tpos) (.Call (.Name "enumerate" p) [e] [] pos) (X4 X.K ta):=by
 intro pins s σ H R I h;refine Call_ (K7 I hg hm boot_enumerate (BC (thn (ha pos pins s σ H _ I h) fun us s1 ⟨vs,H1,I1,r1,q1⟩=>?_) hs rfl));have one:∃(r:Src) (xs:List V),us=[r.val]/\SrcV X.K H1 r xs/\R (Rk X.K r) H1:=by
  rcases q1 with ⟨a,xs,ex,hq,q⟩ | ⟨x,ex,hx,q⟩
  ·subst ex;cases r1 with
   |cons r rr=>cases rr;cases r;exact⟨.tup a,xs,rfl,hq,q⟩
  ·subst ex;cases r1 with
   |cons r rr=>cases rr;obtain⟨t,rfl⟩:=r;exact⟨.txt x t,_,rfl,⟨hx,rfl⟩,q t⟩
 obtain⟨r,xs,eu,hq,q⟩:=one;subst eu;refine LZ.call_enum (I1.src hq) fun h' he hit hsz hk=>wpAny_pyIter_enum he ?_;have I2:Inv X pins σ H1 { s1 with heap:=h' }:=I1.kept (t':=s1.toks) hk;refine⟨s1.heap.objs.size+1,[s1.heap.objs.size+1,s1.heap.objs.size],_,_,H1,rfl,I2,Re r (s1.heap.objs.size+1) s1.heap.objs.size,⟨⟨.none,he⟩,hit,Nat.succ_ne_self _⟩,fun b hb=>?_,q⟩;have e':b=s1.heap.objs.size+1\/b=s1.heap.objs.size:=by simpa using hb
 have hle:s1.heap.objs.size<=b:=by
  rcases e' with z | z
  ·rw[z];exact Ce _ _
  ·rw[z];exact Ah _
 exact I1.fpOk hle (I1.hok.fresh hle)
theorem NX{K:Gh}{a:Src}{xs:List V}{g:TG}{tt:TT}{te:TE}{σ:List (Option V)}{vs:List Nat}{Qd:Hp->Prop}{H1:Hp}{D:FP}(Pv:Nat->Hp->Prop)(hA:∀i H,i<=xs.length->Pv i H->SrcV K H a xs)(h0:Pv 0 (upd H1 D (.lst [])))
  (step:∀(i:Nat) (x:V) (H:Hp) (T:FP),xs[i]?=some x->Pv i H->H T=none->g (.ref T) (Hl σ vs) (upd H T (.tup [.int (i:Int),x])) fun σ2 H2=>Hl σ2 vs=Hl σ vs/\tt σ2 H2 fun b H3=>if b=true then te σ2 H3 fun y H4=>∃acc,H4 D=some (.lst acc)/\acc.length<FT/\Pv (i+1) (upd H4 D (.lst (acc++[y]))) else Pv (i+1) H3)
  (hQ:∀H',Pv xs.length H'->Qd H'):
  ∃W:Nat->Nat->Hp->Prop,(∃m,W 0 m (upd H1 D (.lst [])))/\∀i m H,W i m H->((Rk K a).stop i H/\Qd H)\/((Rk K a).go i H/\∃Nx:Hp->Prop,(∀H',Nx H'->∃m',m'<m/\W (i+1) m' H') ∧
   ∀x H',(Rk K a).yld i H x H'->g x (Hl σ vs) H' fun σ2 H2=>Hl σ2 vs=Hl σ vs/\tt σ2 H2 fun b H3=>if b=true then te σ2 H3 fun y H4=>∃acc,H4 D=some (.lst acc)/\acc.length<FT/\Nx (upd H4 D (.lst (acc++[y]))) else Nx H3):=by
 refine⟨fun i m H=>m=xs.length-i/\i<=xs.length/\Pv i H,⟨xs.length,by simp,AD _,h0⟩,?_⟩;rintro i m H ⟨rfl,hi,p⟩;by_cases hlt:i<xs.length
 ·refine .inr ⟨⟨xs,xs[i],hA i H hi p,by simp[hlt]⟩,Pv (i+1),fun H' h1=>⟨xs.length-(i+1),by lia,rfl,hlt,h1⟩,fun v H' yl=>?_⟩;obtain⟨T,x,rfl,hT,rfl,hx⟩:=yl;exact step i x H T (hx xs (hA i H hi p)) p hT
 ·have e:i=xs.length:=by lia
  subst e;exact .inl ⟨⟨xs,hA _ H hi p,Ah _⟩,hQ H p⟩
end L2
namespace L2
open PySem PySem.Spec PyProof.Rows
section
variable{prog:FU}{w:F0}{A:F4}{E:FO->FS->Prop}{s:FS}{d a:FP}
theorem Wk{kd:HeapKind prog w (List Key)}{xs:List (List Key×FP×FO)}{k:List Key}{v:FO}{Q:FO->FS->Prop}(hu:kd.room A)(hkey:kd.is s.heap k a)(hm:s.heap.DictOfH kd d xs)(hz:xs.length<=FT)
  (h1:∀p,atKey xs k=some p->Q p.2 { s with toks:=s.toks+kd.draws k }) (h2:atKey xs k=none->∀h',h'.DictOfH kd d (storedH xs k a v)->Heap.SameBut d s.heap h'->Q v { s with heap:=h',toks:=s.toks+kd.draws k }):FW (model prog w) A (dictSetDefault d (.ref a) v) Q E s:=by
 obtain⟨o,es,ep,ho,hc,hd,he,his,hn⟩:=hm;unfold dictSetDefault;(try with_reducible refine wpAny_holding ?_);refine FQ (kd.pyHash hu hkey (FQ (wpAny_dictFind_heap (s:={ s with toks:=s.toks+kd.draws k }) hu hkey ho hd he his hn (fun hno=>?_) fun j p hj=>?_)))
 ·have hnot:k∉xs.map (·.1):=not_mem_keys_of_get hno;have hk0:=atKey_none_of_get hno;refine FQ (wpAny_rule (FQ (wpAny_updateDictKeys (hz:=by have e:=size_of_entries he;lia) (s:={ s with toks:=s.toks+kd.draws k }) ho hd (FV (h2 hk0 _ ⟨_,_,ep+1,Bx _ ho (Obj.isFreed_of_dict (Obj.data_mapDictKeys hd _)),hc.mapDictKeys _,Obj.data_mapDictKeys hd _,?_,?_,?_⟩ (Heap.SameBut.update ..))))))
  ·rw[storedH_new hk0];simp[he,entryOfKey]
  ·rw[storedH_new hk0];intro x hx;rcases AK.mp hx with hx | hx
   ·exact kd.keeps (his x hx) ho hd (Heap.SameBut.update ..)
   ·rw[Aj.mp hx];exact kd.keeps hkey ho hd (Heap.SameBut.update ..)
  ·rw[storedH_new hk0,An,List.nodup_append];refine⟨hn,by simp,fun x hx y hy e=>hnot ?_⟩;have ey:y=k:=Aj.mp hy;rw[<-ey,<-e];exact hx
 ·refine FQ (wpAny_dictEntries (s:={ s with toks:=s.toks+kd.draws k }) ho hd ?_);rw[entry_at he j,hj];exact FQ (wpAny_rule (FV (h1 p (atKey_of_get hn hj))))
theorem Oa{kd:HeapKind prog w (List Key)}(hd:(d==Gd)=false)(v:FO):MeetsIn prog w (Builtin.«dict.setdefault» ⟨[.ref d,.ref a,v],[]⟩) (fun A R s=>kd.room A.in1/\∃k xs,kd.is s.heap k a/\s.heap.DictOfH kd d xs/\xs.length<=FT ∧
  (∀p,atKey xs k=some p->R (.ok (.ret p.2)) { s with toks:=s.toks+kd.draws k })/\(atKey xs k=none->∀h',h'.DictOfH kd d (storedH xs k a v)->Heap.SameBut d s.heap h'->R (.ok (.ret v)) { s with heap:=h',toks:=s.toks+kd.draws k })):=
 .of_wp fun A R s ⟨hu,k,xs,hkey,hm,hz,h1,h2⟩=>by unfold Builtin.«dict.setdefault»;refine FQ ?_;unfold Builtin.Dict.keyAndDefault;refine FQ (wpAny_notOrdered_dict hm.typeIs ?_);show FW _ _ (pure (d,FO.ref a,some v)) _ _ s;refine FV ?_;show FW _ _ (if (d==Gd)=true then _ else (dictSetDefault d (.ref a) v >>= _)) _ _ s;rw[Gi (by rw[hd];exact Ag)];exact FQ (Wk hu hkey hm hz (fun p hp=>FV ⟨_,rfl,h1 p hp⟩) fun hn h' hm' hs'=>FV ⟨_,rfl,h2 hn h' hm' hs'⟩)
end
def ZA:V->List V->Hp->VK->Prop:=fun x vs H Q=>∃d b z kvs k,x=.ref d/\vs=[.ref b,z]/\H d=some (.dT kvs)/\H b=some (.tup (FJ kV k))/\kvs.length<FT/\(∀v,Iy kvs k=some v->Q v H)/\(Iy kvs k=none->Q z (upd H d (.dT (kvs++[(k,z)]))))
theorem SK{X:Cx}(hu:X.A.units+1<cLine):MtR X "dict.setdefault" ZA:=by
 intro pins s σ H x vs v us Q I rx rv h;obtain⟨d,b,z,kvs,k,rfl,rfl,hd,hb,hz,h1,h2⟩:=h;cases rx;cases rv with
 |cons r1 rr=>
  cases rr with
  |cons r2 rr=>
   cases rr;cases r1;rename_i zv;obtain⟨_,hds,xs,rel,dd⟩:=XA I.hok hd;have hl:xs.length<=FT:=by rw[<-Paired.length rel];exact BB hz
   have hval:=rel.val k;refine call_meetsIn D7 dd.typeIs PySem.F.entry_dict_setdefault (PySem.F.args_dict_setdefault_3 _ _ _) (Oa (kd:=tupleKind (G0 X.prog X.w)) hds zv) ⟨tupleKind_room_in1 hu,k,xs,NQ I.hok hb,dd,hl,fun p hp=>?_,fun hn h' dd' hs=>?_⟩
   ·rw[hp] at hval;cases hv:Iy kvs k with
    |none=>rw[hv] at hval;exact hval.elim
    |some v'=>rw[hv] at hval;exact⟨v',H,I.tok _,hval,h1 v' hv⟩
   ·rw[hn] at hval;cases hv:Iy kvs k with
    |some v'=>rw[hv] at hval;exact hval.elim
    |none=>obtain⟨q,es,ep,hq,g2,g3,g4,_,g5⟩:=dd';have hput:KG kvs k z=kvs++[(k,z)]:=Vg z hv;refine⟨z,upd H d (.dT (kvs++[(k,z)])),?_,r2,h2 hv⟩;refine Po (t':=s.toks+(tupleKind (G0 X.prog X.w)).draws k) I (by rw[hd];exact True.intro) hs ⟨q,hq⟩ ⟨by rw[Ac,Be];lia,hds,storedH xs k b zv,?_,q,es,ep,hq,g2,g3,g4,g5⟩;rw[<-hput];refine(rel.put k hb r2).keeps fun c ys ec=>?_;rw[Gr (GE ec hd (fun z=>nomatch z))];exact ec
section
variable{X:Cx}
def XE(K:Gh):R2:=fun x y H Q=>∃a b xs ys,x=.ref a/\y=.ref b/\SqT K H a xs/\SqT K H b ys/\ys≠[]/\xs.length+ys.length<=FT ∧
 (xs=[]->Q (.ref b) H)/\(xs≠[]->∀p,H p=none->Q (.ref p) (upd H p (.tup (xs++ys))))
theorem RW:OpR X (binaryOp .Add) (XE X.K):=by
 intro pins s σ H x y v u Q I rx ry h;obtain⟨a,b,xs,ys,rfl,rfl,ha,hb,hy,hz,q1,q2⟩:=h;by_cases hx:xs=[]
 ·cases rx;cases ry;obtain⟨its,r1,⟨⟨cls,dd,data,sl⟩,ho,hc,n,hd⟩,_⟩:=I.tuple ha;obtain⟨its2,r2,⟨⟨cls2,dd2,data2,sl2⟩,ho2,hc2,n2,hd2⟩,_⟩:=I.tuple hb;simp only at hc hd hc2 hd2;subst hc hd hc2 hd2;exact concat_meets ⟨_,ho,rfl⟩ ⟨_,ho2,rfl⟩ noFill_tuple_add seq_tuple_add Dd C4 (CZ _ _)
   (tuple_addW0 a b its.toArray its2.toArray n n2 dd dd2 sl sl2 (by have:=r1.nil_iff.mpr hx;simp[this])) ⟨ho,ho2,.ref b,H,I,rfl,q1 hx⟩
 ·exact WT pins s σ H _ _ v u Q I rx ry ⟨a,b,xs,ys,rfl,rfl,ha,hb,hx,hz,fun z=>absurd z hy,fun _=>q2 hx⟩
def ZE:R2:=fun x y H Q=>∃(c n:Nat),x=.str ⟨#[c]⟩/\y=.int (n:Int)/\1<=n/\n<=100/\Q (.str ⟨(Ba n c).toArray⟩) H
theorem Sj(c:Nat):∀(n:Nat) (acc:Array Nat),(Ba n (#[c]:Array Nat)).foldl (·++·) acc=acc++(Ba n c).toArray
 |0,acc=>by simp
 |n+1,acc=>by rw[E9,FF,Sj c n,Fd];apply Array.toList_inj.mp;simp[E9]
theorem Xh:OpR X (binaryOp .Mult) ZE:=by
 intro pins s σ H x y v u Q I rx ry h;obtain⟨c,n,rfl,rfl,h1,h2,q⟩:=h;obtain⟨t,rfl⟩:=rx;obtain⟨t',rfl⟩:=ry;have hl:(⟨#[c]⟩:Str).length=1:=rfl;refine PySem.P.mul_str (by rw[decide_eq_false (by lia),decide_eq_false (by lia)];rfl) (fun _ _=>?_) (fun _ _=>?_) ?_
 ·rw[hl];have:(1:Int)<=(2 ^ 63-1) / (n:Int):=by
   rw[Int.le_ediv_iff_mul_le (by lia)]
   lia
  show ¬((1:Nat):Int) > _
  lia
 ·rw[hl];unfold Builtin.Str.tooLong;have:(100:Nat)<=FT:=by decide
  exact decide_eq_false (by lia)
 ·rw[Gi (by lia)];by_cases hn:n=1
  ·subst hn;rw[Gj (show((((1:Nat):Int)==1) || _)=true from rfl)];exact⟨.str ⟨#[c]⟩,H,I,⟨_,rfl⟩,q⟩
  ·rw[Gi (by rw[hl];simp;lia),Sj];refine⟨?_,.str _,H,I.tok _,⟨_,rfl⟩,by simpa using q⟩;have:(100:Nat)<=FT:=by decide
   show(#[]++(Ba (n:Int).toNat c).toArray).size<=FT;simp
   lia
end
end L2
namespace Lu
open Lute LuteSong LuteTab LuW LuC
theorem QT{x:Iv}(h:x.ok=true):x.plus unison=x:=by
 obtain⟨_,_,_,_,h1,_,hc⟩:=HV h;have e:x.plus unison=Iv.low x:=by unfold Iv.plus;congr 1;cases x;simp[unison]
 rw[e];unfold Iv.low;rw[hc];cases x;simp
theorem Q8{t:Inst}{i:Nat}(hi:i<t.opens.length)(hc:i<t.courses.length):t.opens[i]=t.courses[i]:=List.getElem_append_left (bs:=t.basses) hc
theorem Qp{t:Inst}{i:Nat}(hi:i<t.opens.length)(hc:t.courses.length<=i)(hb:i-t.courses.length<t.basses.length):t.opens[i]=t.basses[i-t.courses.length]:=List.getElem_append_right (as:=t.courses) (bs:=t.basses) hc
theorem Ui{t:Inst}(h:InOk t):∀r∈tab t,(∀x∈r,x.ok=true)/\r.length<=16:=by
 intro r hr;unfold tab at hr;rcases AK.mp hr with z | z
 ·obtain⟨i,hi,rfl⟩:=List.mem_mapIdx.mp z;have hm:=Bz hi;unfold row;split
  ·refine⟨fun x hx=>?_,by simp only[Ad,Aa];have:=h.f15;lia⟩;rcases Ao.mp hx with q | q
   ·rw[q];exact h.co _ hm
   ·obtain⟨f,hf,rfl⟩:=AZ.mp q;exact h.so _ hm f hf
  ·refine⟨fun x hx=>?_,by simp⟩;rw[Aj.mp hx];exact h.co _ hm
 ·obtain⟨x,hx,rfl⟩:=AZ.mp z;refine⟨fun y hy=>?_,by simp⟩;rw[Aj.mp hy];exact h.ba _ hx
end Lu
namespace Lu
open PySem PySem.Spec PyProof.Rows L2 Lute LuR LuW
open LuP (look Rl Oe L9 O8 Iz GR)
abbrev SgT:=LuP.Tb
def kK(k:List Nat):List Key:=k.map fun(n:Nat)=>(Sum.inl (n:Int):Key)
def Pn(g:Nat->V):Option Nat->V
 |none=>.non
 |some i=>g i
def kvT(g:Nat->V)(T:SgT):List (List Key×V):=T.map fun e=>(kK e.1,Pn g e.2)
theorem UI{j k:List Nat}(h:kK j=kK k):j=k:=by unfold kK at h;exact Fj (fun x y h=>by injection h with h;exact Int.ofNat_inj.mp h) |>.mp h
theorem UB(j k:List Nat):decide (kK j=kK k)=(j==k):=by
 by_cases h:j=k
 ·subst h;simp
 ·rw[decide_eq_false (fun z=>h (UI z))];simp[h]
theorem NT(g:Nat->V)(T:SgT)(k:List Nat):Iy (kvT g T) (kK k)=(look T k).map (Pn g):=by
 unfold Iy kvT look;rw[FK,Ei,Ei];have e:((fun kv:List Key×V=>decide (kv.1=kK k)) ∘ fun e:List Nat×Option Nat=>(kK e.1,Pn g e.2))=fun e=>e.1==k:=by funext e;exact UB _ _
 rw[e];rfl
theorem Yy(g:Nat->V)(T:SgT)(k:List Nat)(i:Nat):KG (kvT g T) (kK k) (g i)=kvT g (Rl T k i):=by
 unfold KG Rl kvT;rw[List.any_map];have e:((fun kv:List Key×V=>decide (kv.1=kK k)) ∘ fun e:List Nat×Option Nat=>(kK e.1,Pn g e.2))=fun e=>e.1==k:=by funext e;exact UB _ _
 rw[e];by_cases h:(T.any fun e=>e.1==k)=true
 ·rw[Gj h,Gj h,A0,A0];refine CK fun e _=>?_;show(if kK e.1=kK k then (kK e.1,g i) else (kK e.1,Pn g e.2))=(kK (if e.1==k then (e.1,some i) else e).1,Pn g (if e.1==k then (e.1,some i) else e).2);by_cases he:e.1=k
  ·rw[Gj (by rw[he]),Gj (by simp[he])];rfl
  ·rw[Gi (fun z=>he (UI z)),Gi (by simp[he])]
 ·rw[Gi h,Gi h,An];rfl
theorem Y0(g:Nat->V)(T:SgT)(k:List Nat)(h:look T k=none):kvT g T++[(kK k,.non)]=kvT g (Oe T k):=by unfold Oe kvT;rw[h,Gi (by simp),An];rfl
theorem Xi(T:SgT)(k:List Nat){o:Option Nat}(h:look T k=some o):Oe T k=T:=by unfold Oe;rw[h,Gj (show(some o).isSome=true from rfl)]
theorem UM(g:Nat->V)(T:SgT):(kvT g T).length=T.length:=Aa ..
theorem WJ(T:SgT)(k:List Nat):(Oe T k).length<=T.length+1:=by
 unfold Oe;split
 ·lia
 ·simp
theorem ME(T:SgT)(k:List Nat):∀n,(L9 T k n).length<=T.length+n
 |0=>Ah _
 |n+1=>by
  have:=ME T k n;have:=WJ (L9 T k n) (k.take n);show(Oe (L9 T k n) (k.take n)).length<=_
  lia
theorem W8(T:SgT)(k:List Nat)(i:Nat):(Rl T k i).length<=T.length+1:=by
 unfold Rl;split
 ·simp
 ·simp
theorem OK:∀(S:List (List Nat)) (T:SgT) (i:Nat) (k:List Nat),Iz T i (S++[k])=O8 (Iz T i S) k (i+S.length)
 |[],T,i,k=>rfl
 |j::S,T,i,k=>by show Iz (O8 T j i) (i+1) (S++[k])=O8 (Iz (O8 T j i) (i+1) S) k _;rw[OK S,Ad,show i+1+S.length=i+(S.length+1) by lia]
theorem QP(n:Nat):∀(S:List (List Nat)) (T:SgT) (i:Nat),(∀k∈S,k.length<=n)->(Iz T i S).length<=T.length+(n+1)*S.length
 |[],T,i,_=>by simp[Iz]
 |j::S,T,i,h=>by
  have h1:=ME T j j.length;have h2:=W8 (L9 T j j.length) j i;have h3:=h j (.head _);have h4:=QP n S (O8 T j i) (i+1) fun k hk=>h k (.tail _ hk);have h5:(O8 T j i).length<=T.length+(n+1):=by
   show(Rl (L9 T j j.length) j i).length<=_
   lia
  show(Iz (O8 T j i) (i+1) S).length<=_;rw[Ad,Ct]
  lia
def VM(H:Hp)(m:FP)(S:List (List Nat))(g:Nat->V):Prop:=∃bs:List FP,H m=some (.lst (bs.map V.ref))/\bs.length=S.length/\∀(i:Nat) (b:FP) (k:List Nat),bs[i]?=some b->S[i]?=some k->∃x:Str,H b=some (.tup [.str x,g i])/\TL.tl x=k
def Qj:Sp:=fun vs H Q _=>∃(m:FP) (S:List (List Nat)) (g:Nat->V),vs=[.ref m]/\VM H m S g/\S.length<=200/\(∀k∈S,1<=k.length/\k.length<=10) ∧
 ∀(H':Hp) (d:FP),Same H H'->H d=none->H' d=some (.dT (kvT g (Iz [] 0 S)))->Q (.ref d) H'
structure TxS(mg:Str->Option FO):Prop where
 tup:mg "tuple"=none
 rng:mg "range"=none
section
variable{P:FU}{w:F0}{K:Gh}{mg:Str->Option FO}{base:Heap}{B C:FP}
abbrev stN:List Str:=["told","table","sign","meaning","letters","length","letter"]
theorem Mn:FnScope stN ["told"] (Gq Ir):=⟨rfl,rfl,rfl,by decide +kernel,rfl,by decide +kernel,by decide +kernel⟩
theorem Zg{f:FP}{fd:FZ}(F:Fun K "sign_table" "sign_table" Ir f fd)(T:Txt K mg B C)(TS:TxS mg):FnOk P w K mg base (CXF P w C) 1 f fd ["told"] Qj:=by
 refine F.okX Mn (fun vs H Q E h=>?_) (fun cdv A outer s H vs Q E hr h=>?_)
 ·obtain⟨m,S,g,rfl,_⟩:=h;rfl
 ·obtain⟨m,S,g,rfl,⟨bs,h1,h2,h3⟩,hS,hk,k⟩:=h;refine⟨_,Gm (Gw (i:=1) Mn.nd rfl (Or.inl rfl) Vl)
   (Gm (Ic IC rfl (Ik (pv 0)) (Jm rfl (GX (GJ (i:=2) Mn.nd rfl (Or.inl rfl)) (GX (GJ (i:=3) Mn.nd rfl (Or.inl rfl)) Il)))
    (Gm (Gw (i:=4) Mn.nd rfl (Or.inl rfl) (LY KM (by rfl) TS.tup Mh (Gk (Mu (own:=[("letter",6)]) (g:=HY 6) (te:=tCB VW (Hm (Hw 6) IR)) rfl Mn.nd (RI (pv 2))
     (show BlkOk stN (Gq Ir) _ [("letter",6)] from ⟨rfl,by decide +kernel,by decide +kernel,by decide +kernel,by decide +kernel⟩)
     (fun _ _ _ _ _=>GJ (i:=6) Mn.nd rfl (Or.inl rfl)) (fun _ _ _ _ _=>Ip)
     (fun _ _ _ _ _=>G1 (r:=VW) NP (by rfl) T.ord boot_ord (Gk (pv 6) Go))) Go)))
    (Gm (Ic IC rfl (OC (by rfl) TS.rng (Gk (G1 GY (by rfl) T.len PySem.boot_len (Gk (pv 4) Go)) Go)) (GJ (i:=5) Mn.nd rfl (Or.inl rfl))
     (Gp (GB (IN PySem.F.plainAttrs_dict D7 PySem.F.type_dict_setdefault (SK (Qb hr)) (pv 1) (Gk (JN LS (pv 4) KC (KB (pv 5))) (Gk Lb Go))))))
    (Gp (Xg (Qb hr) (pv 1) (pv 4) (pv 3) (by rfl))))))
   (Gp (Gz (pv 1)))),?_⟩
  intro u hu;have su:=Gu (o:=.dT []) hu;have hkeys:∀n,∀k∈S.take n,k.length<=10:=fun n k hm=>(hk k (List.mem_of_mem_take hm)).2;refine⟨_,rfl,m,rfl,⟨_,SqL.of (su _ _ h1)⟩,Jn (K:=K) (a:=m) (xs:=bs.map V.ref) (fun i σ H'=>∃v2 v3 v4 v5 v6:Option V,σ=[some (.ref m),some (.ref u),v2,v3,v4,v5,v6]/\Same H H'/\H' u=some (.dT (kvT g (Iz [] 0 (S.take i)))))
   ⟨none,none,none,none,none,rfl,su,Gn⟩ (fun i σ H' _ ⟨_,_,_,_,_,_,hk,_⟩=>SqL.of (hk _ _ h1)) ?_ ?_⟩
  ·rintro i x σ H' hx ⟨v2,v3,v4,v5,v6,rfl,sH,hU⟩;rw[Al] at hx;cases hb:bs[i]? with
   |none=>rw[hb] at hx;cases hx
   |some b=>
    rw[hb] at hx;cases hx;have hi:i<S.length:=by rw[<-h2];exact(Ai.mp hb).1
    have hli:S[i]?=some S[i]:=Ae hi;obtain⟨x,hbt,hxk⟩:=h3 i b _ hb hli;have tk:S.take (i+1)=S.take i++[S[i]]:=by rw[Bh,hli];rfl
    have hk1:=hk S[i] (Bz hi);have tl0:=QP 10 (S.take i) [] 0 (hkeys i);rw[tk,OK,Dn,Ax,Du (BB hi)];have tl:(Iz [] 0 (S.take i)).length<=2200:=by
     rw[Ax,Du (BB hi)] at tl0;simp at tl0
     lia
    generalize S[i]=kk at *;generalize Iz [] 0 (S.take i)=T0 at *;have hsz:x.cps.size=kk.length:=by rw[<-hxk];simp
    refine⟨b,_,rfl,SqT.of (sH _ _ hbt),rfl,_,_,rfl,_,_,rfl,rfl,?_⟩;refine⟨_,rfl,x,rfl,fun D hD=>VN (fun j H2=>Same H' H2/\H2 D=some (.lst ((kk.take j).map fun(c:Nat)=>V.int (c:Int)))) ⟨Gu hD,Gn⟩ ?_ ?_⟩
    ·rintro j c H2 hc ⟨s2,hd⟩;have hc':kk[j]?=some c:=by rw[<-hxk];simpa using hc
     refine⟨rfl,_,rfl,⟨#[c]⟩,rfl,rfl,_,hd,?_,fun b o hb=>?_,?_⟩
     ·rw[Aa,Ax];exact Ar (Ak (Bc _ _) hk1.2) (by decide)
     ·rw[Gr (Gs hb hD)];exact s2 _ _ hb
     ·rw[Gn,B8,hc',An];rfl
    ·rintro H2 ⟨s2,hd⟩;rw[hsz,AU] at hd;refine⟨D,_,rfl,.inl ⟨SqL.of hd,fun lt hlt=>?_⟩⟩;have s3:=Gu (o:=.tup (kk.map fun(c:Nat)=>V.int (c:Int))) hlt;have sH3:=(sH.trans s2).trans s3;have s03:=s2.trans s3;have hU3:=s03 _ _ hU;have hlt3:(upd H2 lt (.tup (kk.map fun(c:Nat)=>V.int (c:Int)))) lt=some (.tup (kk.map fun(c:Nat)=>V.int (c:Int))):=Gn;generalize upd H2 lt (.tup (kk.map fun(c:Nat)=>V.int (c:Int)))=H3 at *;have ul:u≠lt:=fun z=>by rw[z,hlt3] at hU3;cases hU3
     refine⟨_,rfl,lt,_,rfl,.inr (SqT.of hlt3),_,rfl,by lia,?_,?_⟩
     ·rw[Aa]
      lia
     rw[Aa,Db];have kmap:∀l:List Nat,(kK l).map kV=l.map fun(c:Nat)=>V.int (c:Int):=fun l=>by unfold kK;rw[A0];rfl
     refine KE (fun j σ H'=>∃v5 v6:Option V,σ=[some (.ref m),some (.ref u),some (.str x),some (g i),some (.ref lt),v5,v6]/\Same H H'/\H' lt=some (.tup (kk.map fun(c:Nat)=>V.int (c:Int)))/\H' u=some (.dT (kvT g (L9 T0 kk j)))) ⟨_,_,rfl,sH3,hlt3,hU3⟩ ?_ ?_
     ·rintro j σ H4 hj ⟨v5,v6,rfl,sH4,hl4,hU4⟩;refine⟨_,rfl,.inr (.inr (.inl ⟨rfl,.inr ⟨_,hU4⟩⟩)),?_⟩;refine⟨_,rfl,_,rfl,j,?_,lt,_,rfl,SqT.of hl4,?_,fun p hp=>?_⟩
      ·rw[D9]
      ·rw[HT.sIx_none,HT.sIx_nat,Aa]
       lia
      ·have sp:=Gu (o:=.tup (Nv (kk.map fun(c:Nat)=>V.int (c:Int)) none (some ((j:Nat):Int)))) hp;have ec:Nv (kk.map fun(c:Nat)=>V.int (c:Int)) none (some ((j:Nat):Int))=(kK (kk.take j)).map kV:=by unfold Nv;rw[HT.sIx_none,HT.sIx_nat,CY,Aa,Nat.sub_zero,Du (BB hj),kmap,List.map_take]
       have pu:u≠p:=fun z=>by rw[z,hp] at hU4;cases hU4
       have pl:=ME T0 kk j;refine⟨u,p,.non,kvT g (L9 T0 kk j),kK (kk.take j),rfl,rfl,sp _ _ hU4,by rw[<-ec];exact Gn,?_,fun v hv=>?_,fun hv=>?_⟩
       ·rw[UM];exact Ar (Ak pl (show _<=2300 by lia)) (by decide)
       ·rw[NT] at hv;cases hl:look (L9 T0 kk j) (kk.take j) with
        |none=>rw[hl] at hv;cases hv
        |some o=>exact⟨_,_,rfl,sH4.trans sp,sp _ _ hl4,by show _=some (HO.dT (kvT g (Oe (L9 T0 kk j) (kk.take j))));rw[Xi _ _ hl];exact sp _ _ hU4⟩
       ·rw[NT] at hv;have hl:look (L9 T0 kk j) (kk.take j)=none:=Et.mp hv;refine⟨_,_,rfl,fun b o hb=>?_,?_,?_⟩
        ·rw[Gr (Gs hb hu)];exact sp _ _ (sH4 _ _ hb)
        ·rw[Gr (Ne.symm ul)];exact sp _ _ hl4
        ·rw[Gn,Y0 _ _ _ hl];rfl
     ·rintro σ H4 ⟨v5,v6,rfl,sH4,hl4,hU4⟩;have pl:=ME T0 kk kk.length;refine⟨_,rfl,_,rfl,_,rfl,u,_,rfl,DPut.t hU4 (k:=kK kk) (by rw[kmap];exact hl4) ?_,?_⟩
      ·rw[UM];exact Ar (Ak pl (show _<=2300 by lia)) (by decide)
      ·refine⟨_,_,_,_,_,rfl,fun b o hb=>?_,?_⟩
       ·rw[Gr (Gs hb hu)];exact sH4 _ _ hb
       ·rw[Gn,Yy];rfl
  ·rintro σ H' ⟨v2,v3,v4,v5,v6,rfl,sH,hU⟩;rw[Aa,h2,AU] at hU;exact⟨_,rfl,k H' u sH hu hU⟩
end
end Lu
namespace Lu
open PySem PySem.Spec PyProof.Rows L2 Lute LuR LuW
open LuP (look GR)
theorem SC(pre:List Nat)(n:Nat):kK (pre++[n])=kK pre++[Sum.inl (n:Int)]:=by unfold kK;rw[An];rfl
theorem W0(g:Nat->V)(T:SgT)(pre:List Nat):Iy (kvT g T) (kK pre++[Sum.inl (-1)])=none:=by
 unfold Iy kvT;rw[FK,Ei,Et,List.find?_eq_none];intro e _ z;have z':kK e.1=kK pre++[Sum.inl (-1)]:=of_decide_eq_true z;have:(Sum.inl (-1):Key)∈kK e.1:=by rw[z'];simp
 obtain⟨n,_,hn⟩:=AZ.mp this;injection hn with hn
 lia
def Nt(K:Gh)(B C:FP):Sp:=fun vs H Q E=>∃(c d a:FP) (t:Bytes) (p e:Nat) (T:SgT) (g:Nat->V),vs=[.ref c,.ref d]/\Cur K B H c a t p e/\H d=some (.dT (kvT g T))/\(∀i,g i≠.non)/\look T []=some none/\(∀x∈T,x.1.length<=10) ∧
 (∀x,GR T [] p (st t p e)=.error x->Err C E x)/\∀i q u,GR T [] p (st t p e)=.ok (i,q,u)->∀H':Hp,Cur K B H' c a t q e->Keep H H' c->Q (g i) H'
section
variable{P:FU}{w:F0}{K:Gh}{mg:Str->Option FO}{base:Heap}{B C:FP}
theorem U5:FnScope ["cursor","table","letters"] ["cursor","table"] (Gq JA):=⟨rfl,rfl,rfl,by decide +kernel,rfl,by decide +kernel,by decide +kernel⟩
theorem Zu{f:FP}{fd:FZ}(F:Fun K "read_sign" "read_sign" JA f fd)(T:Txt K mg B C)(M:Crs P w K mg base B C):FnOk P w K mg base (CXF P w C) 3 f fd ["cursor","table"] (Nt K B C):=by
 refine F.okX U5 (fun vs H Q E h=>?_) (fun cdv A outer s H vs Q E hr h=>?_)
 ·obtain⟨c,d,a,t,p,e,T,g,rfl,_⟩:=h;rfl
 ·obtain⟨c,d,a,t,p,e,T',g,rfl,u0,hd,hg,h0,h10,kE,kQ⟩:=h;have hr1:=hr.mono (show 1<=2 by decide);refine⟨_,Gm (Gw (i:=2) U5.nd rfl (Or.inl rfl) (Hn Go))
   (Gm (HN IC (RH (YY (Qb hr) (GU RW (pv 2) (Hn (Gk (GH M.byte hr1 (pv 0)) Go))) (pv 1)))
    (Gm (Gw (i:=2) U5.nd rfl (Or.inl rfl) (GU RW (pv 2) (Hn (Gk (GH M.byte hr1 (pv 0)) Go))))
    (Gp (GB (GH M.adv hr1 (pv 0))))))
   (Gm (GS (Gy PD (Sh (Qb hr) (pv 1) (pv 2) (fun _ _=>rfl)) Lb (GC _)) (Gp (GT T.xt hr rfl T.mC (G2 (pv 0) rfl))) GD)
   (Gp (Gz (Sh (Qb hr) (pv 1) (pv 2) (fun _ _=>rfl)))))),?_⟩
  have dc:d≠c:=fun z=>by obtain⟨dx,hc⟩:=u0.at_;rw[z,hc] at hd;cases hd
  have kmap:∀l:List Nat,(kK l).map kV=l.map fun(c:Nat)=>V.int (c:Int):=fun l=>by unfold kK;rw[A0];rfl
  refine⟨AD _,fun l0 hl0=>?_⟩;have s0:=Gu (o:=.tup []) hl0;refine⟨fun mm σ H'=>∃(pos:Nat) (pre:List Nat) (lt:FP),mm=e-pos/\σ=[some (.ref c),some (.ref d),some (.ref lt)]/\Cur K B H' c a t pos e/\H' lt=some (.tup ((kK pre).map kV))/\Keep H H' c/\pre.length<=10/\(look T' pre).isSome=true/\GR T' [] p (st t p e)=GR T' pre pos (st t pos e),
   ⟨_,p,[],l0,rfl,rfl,u0.same s0,Gn,Keep.of s0,by simp,by rw[h0];rfl,rfl⟩,?_⟩
  rintro mm σ H1 ⟨pos,pre,lt,rfl,rfl,u1,hl1,k1,hp10,hps,inv⟩;obtain⟨dx1,hc1⟩:=u1.at_;have hd1:=k1 _ _ hd dc;have cat:∀(H2:Hp) (R:VK),Cur K B H2 c a t pos e->H2 lt=some (.tup ((kK pre).map kV))->(∀H3 q,Same H2 H3->H3 q=some (.tup ((kK pre).map kV++[.int (GA (st t pos e))]))->R (.ref q) H3)->
    tOp (XE K) (Hw 2) (P2 (Hm (Mj B "byte" (Pj K B) [] E (Hw 0) IR) IR)) [some (.ref c),some (.ref d),some (.ref lt)] H2 R:=by
   intro H2 R u2 hl2 k;obtain⟨dx2,hc2⟩:=u2.at_;refine⟨_,rfl,_,rfl,c,dx2,_,rfl,hc2,GO _ _ _ (by decide) (by decide) (by decide),c,a,t,pos,e,rfl,u2,(by show 1<=FT;decide),fun nb hnb=>?_⟩;have sn:=Gu (o:=.tup [.int (GA (st t pos e))]) hnb;refine⟨lt,nb,_,_,rfl,rfl,SqT.of (sn _ _ hl2),SqT.of Gn,(fun z=>nomatch z),?_,fun hz=>k _ nb sn (by rw[hz];exact Gn),fun _ q hq=>k _ q (sn.trans (Gu hq)) Gn⟩;rw[Aa];unfold kK;rw[Aa];exact Ak (show pre.length+1<=11 by lia) (by decide)
  refine cat H1 _ u1 hl1 fun H2 q s2 hq=>?_;have u2:=u1.same s2;obtain⟨dx2,hc2⟩:=u2.at_;have hd2:=s2 _ _ hd1;have k2:=k1.trans (Keep.of s2);have key:∃kk:List Key,kk.map kV=(kK pre).map kV++[.int (GA (st t pos e))]/\((Iy (kvT g T') kk).isSome=true->∃ch r,st t pos e=ch::r/\(look T' (pre++[ch.toNat])).isSome=true)/\((Iy (kvT g T') kk).isSome=false->GR T' pre pos (st t pos e)=LuP.fin T' pre pos (st t pos e)):=by
   cases hz:st t pos e with
   |nil=>refine⟨kK pre++[Sum.inl (-1)],by rw[An];rfl,fun z=>?_,fun _=>by unfold GR;rfl⟩;rw[W0] at z;cases z
   |cons ch r=>
    refine⟨kK (pre++[ch.toNat]),by rw[SC,An];rfl,fun z=>⟨ch,r,rfl,?_⟩,fun z=>?_⟩
    ·rw[NT,BN] at z;exact z
    ·rw[NT,BN] at z;unfold GR;rw[Gi (by rw[z];exact Ag)]
  obtain⟨kk,ek,key1,key2⟩:=key;refine⟨_,rfl,d,_,rfl,DGet.t hd2 (k:=kk) (by rw[ek];exact hq),_,rfl,?_⟩;cases hv:(Iy (kvT g T') kk).isSome with
  |true=>
   rw[Gj rfl];obtain⟨ch,r,hz,hlk⟩:=key1 hv;have hlt:=IV u0.len hz;have hst:=HE hz;have hhd:GA (st t pos e)=(ch.toNat:Int):=by rw[hz];rfl
   refine⟨fun σ' H'=>∃(pos':Nat) (pre:List Nat) (lt:FP),pos<pos'/\σ'=[some (.ref c),some (.ref d),some (.ref lt)]/\Cur K B H' c a t pos' e/\H' lt=some (.tup ((kK pre).map kV))/\Keep H H' c/\pre.length<=10/\(look T' pre).isSome=true/\GR T' [] p (st t p e)=GR T' pre pos' (st t pos' e),?_,?_⟩
   ·rintro σ' H' ⟨pos',pre',lt',hp,rfl,b1,b2,b3,b4,b5,b6⟩;have:=b1.le;exact⟨e-pos',by lia,pos',pre',lt',rfl,rfl,b1,b2,b3,b4,b5,b6⟩
   ·refine cat H2 _ u2 (s2 _ _ hl1) fun H3 q3 s3 hq3=>?_;have u3:=u2.same s3;obtain⟨dx3,hc3⟩:=u3.at_;refine⟨_,rfl,c,dx3,_,rfl,hc3,GO _ _ _ (by decide) (by decide) (by decide),c,dx3,a,pos,e,rfl,hc3,fun H4 h4 k4=>?_⟩;have q3c:q3≠c:=fun z=>by rw[z,hc3] at hq3;cases hq3
    refine⟨pos+1,pre++[ch.toNat],q3,by lia,rfl,u3.move k4 ⟨dx3,h4⟩ hlt,?_,(k2.trans (Keep.of s3)).trans k4,?_,hlk,?_⟩
    ·rw[k4 _ _ hq3 q3c,hhd,SC,An];rfl
    ·unfold look at hlk;rw[BN,Fu] at hlk;obtain⟨x,hx,ex⟩:=hlk;have ex':x.1=pre++[ch.toNat]:=by simpa using ex
     rw[<-ex'];exact h10 x hx
    ·rw[inv,hst,hz]
     conv=>lhs;unfold GR
     rw[Gj hlk]
  |false=>
   rw[Gi Ag];rw[key2 hv] at inv;cases hlk:look T' pre with
   |none=>rw[hlk] at hps;cases hps
   |some o=>
    have hval:Iy (kvT g T') (kK pre)=some (Pn g o):=by rw[NT,hlk];rfl
    have dg:DGet H2 d (.ref lt) (some (Pn g o)):=by have:=DGet.t hd2 (k:=kK pre) (s2 _ _ hl1);rw[hval] at this;exact this
    refine⟨_,rfl,_,rfl,d,_,rfl,dg,rfl,_,rfl,?_⟩;cases o with
    |none=>rw[LuP.fin_none hlk] at inv;refine Xd ?_;exact⟨_,rfl,c,B,dx2,_,_,rfl,hc2,T.cl,T.nP,GM _ _ _,_,rfl,fun d' hd'=>kE pos inv _ d' Gn⟩
    |some i=>rw[LuP.fin_some hlk] at inv;have hn:decide (Pn g (some i)=V.non)=false:=decide_eq_false (hg i);rw[hn];refine Rc ?_;exact⟨_,rfl,_,rfl,d,_,rfl,dg,kQ i pos _ inv H2 u2 k2⟩
end
open LuP (look GR Iz Stop)
def ToldL(H:Hp)(m:FP)(ts:List (List Nat×V)):Prop:=∃bs:List FP,H m=some (.lst (bs.map V.ref))/\bs.length=ts.length/\∀(i:Nat) (b:FP) (t:List Nat×V),bs[i]?=some b->ts[i]?=some t->∃x:Str,H b=some (.tup [.str x,t.2])/\TL.tl x=t.1
theorem ToldL.same{H H':Hp}{m:FP}{ts:List (List Nat×V)}(h:ToldL H m ts)(s:Same H H'):ToldL H' m ts:=by obtain⟨bs,h1,h2,h3⟩:=h;exact⟨bs,s _ _ h1,h2,fun i b t hb ht=>let ⟨x,e1,e2⟩:=h3 i b t hb ht;⟨x,s _ _ e1,e2⟩⟩
theorem ToldL.nil{H:Hp}{m:FP}(h:H m=some (.lst [])):ToldL H m []:=⟨[],h,rfl,fun i b t hb=>by simp at hb⟩
theorem ToldL.lst{H:Hp}{m:FP}{ts:List (List Nat×V)}(h:ToldL H m ts):∃xs,H m=some (.lst xs)/\xs.length=ts.length:=by obtain⟨bs,h1,h2,_⟩:=h;exact⟨_,h1,by rw[Aa,h2]⟩
theorem Jo{α:Type}{l:List α}{x y:α}{i:Nat}(h:(l++[x])[i]?=some y):l[i]?=some y\/(i=l.length/\y=x):=by
 by_cases hi:i<l.length
 ·rw[AF hi] at h;exact .inl h
 ·rw[Ay (by lia)] at h;have:i-l.length=0:=by
   have:=(Ai.mp h).1;simp at this
   lia
  rw[this] at h;cases h;exact .inr ⟨by lia,rfl⟩
theorem ToldL.snoc{H:Hp}{m b:FP}{ts:List (List Nat×V)}{xs:List V}{x:Str}{k:List Nat}{v:V}(h:ToldL H m ts)(hx:H m=some (.lst xs))(hb:H b=some (.tup [.str x,v]))(hk:TL.tl x=k):ToldL (upd H m (.lst (xs++[.ref b]))) m (ts++[(k,v)]):=by
 obtain⟨bs,h1,h2,h3⟩:=h;rw[h1] at hx;cases hx;have up:∀{c:FP} {ys:List V},H c=some (.tup ys)->(upd H m (.lst (bs.map V.ref++[.ref b]))) c=some (.tup ys):=fun{c ys} e=>by rw[Gr (GE e h1 (by intro z;cases z))];exact e
 refine⟨bs++[b],by rw[Gn,An];rfl,by rw[Ac,Ac,h2];rfl,fun i b' t' hb' ht'=>?_⟩;rcases Jo hb' with q | ⟨q1,q2⟩
 ·have hi:i<bs.length:=(Ai.mp q).1;rw[AF (by lia)] at ht';obtain⟨y,e1,e2⟩:=h3 i b' t' q ht';exact⟨y,up e1,e2⟩
 ·rw[q1,h2,Ay (Ah _),B4] at ht';cases ht';rw[q2];exact⟨x,up hb,hk⟩
theorem ToldL.to{H:Hp}{m:FP}{ts:List (List Nat×V)}(h:ToldL H m ts){S:List (List Nat)}{g:Nat->V}(hS:ts.map (·.1)=S)(hg:∀(i:Nat) (t:List Nat×V),ts[i]?=some t->t.2=g i):VM H m S g:=by
 obtain⟨bs,h1,h2,h3⟩:=h;subst hS;refine⟨bs,h1,by rw[Aa,h2],fun i b k hb hk=>?_⟩;rw[Al] at hk;cases q:ts[i]? with
 |none=>rw[q] at hk;cases hk
 |some t=>rw[q] at hk;cases hk;obtain⟨x,e1,e2⟩:=h3 i b t hb q;exact⟨x,by rw[<-hg i t q];exact e1,e2⟩
theorem ToldL.app{H:Hp}{m p b:FP}{ts:List (List Nat×V)}{xs:List V}{x:Str}{k:List Nat}{v:V}(h:ToldL H m ts)(hx:H m=some (.lst xs))(hb:H b=some (.tup [.str x,v]))(hk:TL.tl x=k)(hp:H p=some (.lst (xs++[.ref b]))):ToldL H p (ts++[(k,v)]):=by
 obtain⟨bs,h1,h2,h3⟩:=h;rw[h1] at hx;cases hx;refine⟨bs++[b],by rw[hp,An];rfl,by rw[Ac,Ac,h2];rfl,fun i b' t' hb' ht'=>?_⟩;rcases Jo hb' with q | ⟨q1,q2⟩
 ·have hi:i<bs.length:=(Ai.mp q).1;rw[AF (by lia)] at ht';exact h3 i b' t' q ht'
 ·rw[q1,h2,Ay (Ah _),B4] at ht';cases ht';rw[q2];exact⟨x,hb,hk⟩
def gF(i:Nat):V:=if i=16 then .int (-1) else .int (i:Int)
def tsF(L:List Nat):List (List Nat×V):=(L.zipIdx.map fun c=>([c.1],.int (c.2:Int)))++[([46],.int (-1))]
def Aas:Sp:=fun vs H Q _=>∃(x:Str) (L:List Nat),vs=[.str x]/\TL.tl x=L/\L.length=16/\L.all (·<128)=true/\∀(H':Hp) (d:FP),Same H H'->H d=none->H' d=some (.dT (kvT gF (Iz [] 0 (L.map (fun c=>[c])++[[46]]))))->Q (.ref d) H'
def stV(s:Stop):List V:=[.int (s.course:Int),.int (s.fret:Int)]
def Stops(H:Hp)(g:Nat->V)(so:Nat->Stop)(n:Nat):Prop:=(∀i,g i≠.non)/\∀i,i<n->∃b,g i=.ref b/\H b=some (.tup (stV (so i)))
def Aat(K:Gh):Sp:=fun vs H Q _=>∃(a:FP) (xs:List Str),vs=[.ref a]/\SqT K H a (xs.map V.str)/\xs.length<=100/\(∀x∈xs,1<=(TL.tl x).length/\(TL.tl x).length<=10) ∧
 ∀(H':Hp) (d:FP) (g:Nat->V),Same H H'->H d=none->H' d=some (.dT (kvT g (Iz [] 0 (xs.map TL.tl))))->Stops H' g LuP.bo xs.length->Q (.ref d) H'
structure TxT(mg:Str->Option FO):Prop where
 enu:mg "enumerate"=none
 cNS:Cst mg "NO_STOP" (.int (-1))
 cFB:Cst mg "FIRST_BASS" (.int 7)
section
variable{P:FU}{w:F0}{K:Gh}{mg:Str->Option FO}{base:Heap}{B C:FP}
abbrev ftN:List Str:=["signs","fret","sign"]
theorem RS:FnScope ftN ["signs"] (Gq Io):=⟨rfl,rfl,rfl,by decide +kernel,rfl,by decide +kernel,by decide +kernel⟩
theorem ZN{f:FP}{fd:FZ}(F:Fun K "fret_table" "fret_table" Io f fd)(TT:TxT mg)(DT:Dfn P w K mg base C 1 "sign_table" ["told"] Qj):FnOk P w K mg base (CXF P w C) 2 f fd ["signs"] Aas:=by
 refine F.okX RS (fun vs H Q E h=>?_) (fun cdv A outer s H vs Q E hr h=>?_)
 ·obtain⟨x,L,rfl,_⟩:=h;rfl
 ·obtain⟨x,L,rfl,hL,h16,h128,k⟩:=h;refine⟨_,Gp (Gz (GQ DT hr rfl (Gk (GU Va (Mu (own:=[("fret",1),("sign",2)]) (g:=RF K 2 (JH (HY 1) (JH (HY 2) Rb))) (te:=P2 (Hm (Hw 2) (Hm (Hw 1) IR))) rfl RS.nd (NE (by rfl) TT.enu (Gk (pv 0) Go))
     (show BlkOk ftN (Gq Io) _ [("fret",1),("sign",2)] from ⟨rfl,by decide +kernel,by decide +kernel,by decide +kernel,by decide +kernel⟩)
     (fun _ _ _ _ _=>Jm rfl (GX (GJ (i:=1) RS.nd rfl (Or.inl rfl)) (GX (GJ (i:=2) RS.nd rfl (Or.inl rfl)) Il))) (fun _ _ _ _ _=>Ip)
     (fun _ _ _ _ _=>Hn (Gk (pv 2) (Gk (pv 1) Go))))
    (Hx (Gk (Hn (Gk HH (Gk (Gx TT.cNS) Go))) Go))) Go))),?_⟩
  have hL':x.cps.toList=L:=hL;refine⟨_,rfl,.inr ⟨x,rfl,by rw[<-Fw,hL'];exact h128,fun tk D hD=>NX (K:=K) (a:=.txt x tk) (xs:=L.map fun c=>V.str ⟨#[c]⟩) (fun i H'=>Same H H'/\ToldL H' D ((tsF L).take i)) (fun i H' _ q=>⟨by rw[<-Fw,hL'];exact h128,by rw[hL']⟩) ⟨Gu hD,ToldL.nil Gn⟩ ?_ ?_⟩⟩
  ·rintro i v H' T hv ⟨sH,hT'⟩ hT;rw[Al] at hv;cases hc:L[i]? with
   |none=>rw[hc] at hv;cases hv
   |some c=>
    rw[hc] at hv;cases hv;have hi:i<L.length:=(Ai.mp hc).1;have sT:=Gu (o:=.tup [.int (i:Int),.str ⟨#[c]⟩]) hT;refine⟨T,_,rfl,SqT.of Gn,rfl,_,_,rfl,_,_,rfl,rfl,rfl,?_⟩;refine⟨_,rfl,_,rfl,(by show 2<=FT;decide),fun q hq=>?_⟩;have sq:=Gu (o:=.tup [.str ⟨#[c]⟩,.int (i:Int)]) hq;obtain⟨ys,hy,hyl⟩:=hT'.lst;have s2:=sT.trans sq;refine⟨_,s2 _ _ hy,?_,fun b o hb=>?_,?_⟩
    ·rw[hyl,Ax];unfold tsF;rw[Ac,Aa,Co,h16];exact Ar (Bc _ _) (by decide)
    ·rw[Gr (Gs hb hD)];exact s2 _ _ (sH _ _ hb)
    ·have tk:(tsF L).take (i+1)=(tsF L).take i++[([c],.int (i:Int))]:=by
      have e:(tsF L)[i]?=some ([c],.int (i:Int)):=by unfold tsF;rw[AF (by rw[Aa,Co];exact hi),Al,CF,hc];simp
      rw[Bh,e];rfl
     rw[tk];exact(hT'.same s2).snoc (s2 _ _ hy) Gn rfl
  ·rintro H2 ⟨s2,hT2⟩;rw[Aa] at hT2;obtain⟨ys,hy,hyl⟩:=hT2.lst;refine⟨(by show 2<=FT;decide),fun b hb=>⟨(by show 1<=FT;decide),fun l hl=>?_⟩⟩;have sb:=Gu (o:=.tup [.str ".",.int (-1)]) hb;have sl:=Gu (o:=.lst [.ref b]) hl;have s3:=sb.trans sl;refine⟨D,l,_,_,rfl,rfl,s3 _ _ hy,Gn,?_,fun p hp=>?_⟩
   ·rw[hyl,Ax];exact Ak (Nat.add_le_add_right (Dt _ _) 1) (by rw[h16];decide)
   ·have sp:=Gu (o:=.lst (ys++[.ref b])) hp;have s4:=s3.trans sp;have full:=((hT2.same s4).app (s4 _ _ hy) (sp _ _ (sl _ _ Gn)) (k:=[46]) (by decide +kernel) Gn);have ets:(tsF L).take L.length++[([46],.int (-1))]=tsF L:=by unfold tsF;rw[List.take_append_of_le_length (by rw[Aa,Co];exact Ah _),BX (by rw[Aa,Co];exact Ah _)]
    rw[ets] at full;refine⟨p,L.map (fun c=>[c])++[[46]],gF,rfl,full.to ?_ ?_,?_,?_,fun H' d sH hd hd'=>?_⟩
    ·unfold tsF;rw[An,A0];congr 1;rw[show((fun t:List Nat×V=>t.1) ∘ fun c:Nat×Nat=>([c.1],V.int (c.2:Int)))=(fun c=>[c]) ∘ Prod.fst from rfl,<-A0,List.zipIdx_map_fst]
    ·intro i t ht;unfold tsF at ht;rcases Jo ht with q | ⟨q1,q2⟩
     ·rw[Al,CF] at q;cases hc:L[i]? with
      |none=>rw[hc] at q;cases q
      |some c=>rw[hc] at q;cases q;have hi:i<L.length:=(Ai.mp hc).1;unfold gF;rw[Gi (by lia)];simp
     ·rw[q2,q1,Aa,Co,h16];rfl
    ·rw[Ac,Aa,h16]
     decide
    ·intro k' hk';rcases AK.mp hk' with z | z
     ·obtain⟨c,_,rfl⟩:=AZ.mp z;exact⟨Ah _,by show 1<=10;decide⟩
     ·rw[Aj.mp z];exact⟨Ah _,by decide⟩
    ·refine k H' d ((s2.trans s4).trans sH) ?_ hd';cases q:H d with
     |none=>rfl
     |some o=>rw[s4 _ _ (s2 _ _ q)] at hd;cases hd
abbrev btN:List Str:=["signs","k","sign"]
theorem R6:FnScope btN ["signs"] (Gq Ii):=⟨rfl,rfl,rfl,by decide +kernel,rfl,by decide +kernel,by decide +kernel⟩
theorem ZB{f:FP}{fd:FZ}(F:Fun K "bass_table" "bass_table" Ii f fd)(TT:TxT mg)(DT:Dfn P w K mg base C 1 "sign_table" ["told"] Qj):FnOk P w K mg base (CXF P w C) 2 f fd ["signs"] (Aat K):=by
 refine F.okX R6 (fun vs H Q E h=>?_) (fun cdv A outer s H vs Q E hr h=>?_)
 ·obtain⟨a,xs,rfl,_⟩:=h;rfl
 ·obtain⟨a,xs,rfl,hS,h100,hk,k⟩:=h;have nz:∀{i:Int} {j:Nat} {q:Pos} (v:F3) (p:Pos),F3.Constant (.int i) j q≠.Starred v p:=fun v p h=>by cases h
  refine⟨_,Gp (Gz (GQ DT hr rfl (Gk (Mu (own:=[("k",1),("sign",2)]) (g:=RF K 2 (JH (HY 1) (JH (HY 2) Rb))) (te:=P2 (Hm (Hw 2) (Hm (P2 (Hm (tOp (rI0 fun i j=>.int (i+j)) (tC (.int 7)) (Hw 1)) (Hm (tC (.int 0)) IR))) IR))) rfl R6.nd (NE (by rfl) TT.enu (Gk (pv 0) Go))
     (show BlkOk btN (Gq Ii) _ [("k",1),("sign",2)] from ⟨rfl,by decide +kernel,by decide +kernel,by decide +kernel,by decide +kernel⟩)
     (fun _ _ _ _ _=>Jm rfl (GX (GJ (i:=1) R6.nd rfl (Or.inl rfl)) (GX (GJ (i:=2) R6.nd rfl (Or.inl rfl)) Il))) (fun _ _ _ _ _=>Ip)
     (fun _ _ _ _ _=>Hn (Gk (pv 2) (Gk (Hn (Gk (GU Kl (Gx TT.cFB) (pv 1)) (Gk Gv Go))) Go)))) Go))),?_⟩
  refine⟨_,rfl,.inl ⟨a,_,rfl,hS,fun D hD=>NX (K:=K) (a:=.tup a) (xs:=xs.map V.str) (fun i H'=>Same H H'/\∃as:List FP,as.length=i/\ToldL H' D (((xs.take i).map TL.tl).zip (as.map V.ref))/\∀(j:Nat) (b:FP),as[j]?=some b->H' b=some (.tup (stV (LuP.bo j)))) (fun i H' _ q=>q.1.tup hS) ⟨Gu hD,[],rfl,ToldL.nil Gn,fun j b hb=>by simp at hb⟩ ?_ ?_⟩⟩
  ·rintro i v H' T hv ⟨sH,as,hal,hT',hst⟩ hT;rw[Al] at hv;cases hc:xs[i]? with
   |none=>rw[hc] at hv;cases hv
   |some x=>
    rw[hc] at hv;cases hv;have hi:i<xs.length:=(Ai.mp hc).1;have sT:=Gu (o:=.tup [.int (i:Int),.str x]) hT;refine⟨T,_,rfl,SqT.of Gn,rfl,_,_,rfl,_,_,rfl,rfl,rfl,?_⟩;refine⟨_,rfl,_,rfl,_,_,rfl,rfl,(by show 2<=FT;decide),fun b hb=>⟨(by show 2<=FT;decide),fun q hq=>?_⟩⟩;have eb:[V.int (7+(i:Int)),V.int 0]=stV (LuP.bo i):=by show _=[V.int ((7+i:Nat):Int),V.int ((0:Nat):Int)];rw[show((7+i:Nat):Int)=7+(i:Int) by lia];rfl
    have sb:=Gu (o:=.tup [.int (7+(i:Int)),.int 0]) hb;have sq:=Gu (o:=.tup [.str x,.ref b]) hq;have s2:=(sT.trans sb).trans sq;obtain⟨ys,hy,hyl⟩:=hT'.lst;have up:∀{c:FP} {zs:List V} {H4:Hp},H4 D=some (.lst ys)->H4 c=some (.tup zs)->(upd H4 D (.lst (ys++[.ref q]))) c=some (.tup zs):=fun{c zs H4} e1 e=>by rw[Gr (GE e e1 (by intro z;cases z))];exact e
    refine⟨_,s2 _ _ hy,?_,fun b o hb=>?_,as++[b],by rw[Ac,hal];rfl,?_,fun j b' hb'=>?_⟩
    ·rw[hyl,El,Aa,Ax];exact Ar (Ak (Dt _ _) (Ak (Bc _ _) h100)) (by decide)
    ·rw[Gr (Gs hb hD)];exact s2 _ _ (sH _ _ hb)
    ·have tk:((xs.take (i+1)).map TL.tl).zip ((as++[b]).map V.ref)=(((xs.take i).map TL.tl).zip (as.map V.ref))++[(TL.tl x,.ref b)]:=by rw[Bh,hc,An,An,FC (by rw[Aa,Aa,Ax,hal];lia)];rfl
     rw[tk];exact(hT'.same s2).snoc (s2 _ _ hy) Gn rfl
    ·rcases Jo hb' with z | ⟨z1,z2⟩
     ·exact up (s2 _ _ hy) (s2 _ _ (hst j b' z))
     ·rw[z2,z1,hal];exact up (s2 _ _ hy) (sq _ _ (by rw[<-eb];exact Gn))
  ·rintro H2 ⟨s2,as,hal,hT2,hst⟩;rw[Aa] at hal hT2;rw[AU] at hT2;have hz:(xs.map TL.tl).length=(as.map V.ref).length:=by rw[Aa,Aa,hal]
   refine⟨D,xs.map TL.tl,fun i=>((as[i]?).map V.ref).getD (.int 0),rfl,hT2.to ?_ ?_,?_,?_,fun H' d sH hd hd'=>?_⟩
   ·rw[Ed (by lia)]
   ·intro i tt ht;obtain⟨e1,e2⟩:=Cf.mp ht;rw[Al] at e2;cases q:as[i]? with
    |none=>rw[q] at e2;cases e2
    |some b=>rw[q] at e2;have e3:V.ref b=tt.2:=Option.some.inj e2;rw[<-e3];rfl
   ·rw[Aa]
    lia
   ·intro k' hk';obtain⟨x,hx,rfl⟩:=AZ.mp hk';exact hk x hx
   ·refine k H' d _ (s2.trans sH) ?_ hd' ⟨fun i=>?_,fun i hi=>?_⟩
    ·cases q:H d with
     |none=>rfl
     |some o=>rw[s2 _ _ q] at hd;cases hd
    ·show((as[i]?).map V.ref).getD (.int 0)≠.non;cases as[i]? <;> exact fun z=>nomatch z
    ·have hb:as[i]?=some as[i]:=Ae (by lia);exact⟨as[i],by show((as[i]?).map V.ref).getD (.int 0)=_;rw[hb];rfl,sH _ _ (hst i _ hb)⟩
end
open LuP (look GR Iz Stop IL)
def gIx(c f:Nat):Nat:=if c<=6 then 16*(c-1)+f else 89+c
abbrev YF:List Nat:=[43,65,66,67,68,69,70,71,72,73,75,76,77,78,79,80]
abbrev W3:List Nat:=[97,98,99,100,101,102,103,104,105,107,108,109,110,111,112,113,114,115,116,118,120,121,122,38,57]
theorem gA:∀c:Fin 15,7<=c.val->IL[gIx c.val 0]?=some (45::TL.numL c.val):=by decide +kernel
theorem gB:∀f:Fin 16,IL[gIx 6 f.val]?=some [YF.getD f.val 0]:=by decide +kernel
theorem gC:∀c:Fin 6,1<=c.val->IL[gIx c.val 0]?=some (TL.numL (6-c.val)):=by decide +kernel
theorem gD:∀c:Fin 6,1<=c.val->∀f:Fin 15,IL[gIx c.val (f.val+1)]?=some (Ba (f.val / 5+1) (W3.getD (5*(f.val % 5)+5-c.val) 0)):=by decide +kernel
theorem gL:∀c:Fin 15,(Str.empty++Str.ofString "-"++Str.ofString (toString (c.val:Int))).length<=5/\TL.tl (Str.empty++Str.ofString "-"++Str.ofString (toString (c.val:Int)))=45::TL.numL c.val:=by decide +kernel
def ZV:Sp:=fun vs H Q _=>∃c f:Nat,vs=[.int (c:Int),.int (f:Int)]/\((1<=c/\c<=6/\f<=15)\/(7<=c/\c<=14/\f=0))/\∀x:Str,IL[gIx c f]?=some (TL.tl x)->Q (.str x) H
structure TxG(mg:Str->Option FO):Prop where
 str:mg "str"=none
 cG6:Cst mg "GERMAN_SIXTH" (.str "+ABCDEFGHIKLMNOP")
 cGC:Cst mg "GERMAN_CROSSINGS" (.str "abcdefghiklmnopqrstvxyz&9")
 cFR:Cst mg "FRETS" (.int 16)
 cLC:Cst mg "LAST_COURSE" (.int 14)
theorem SZ:Gf "str"=some (.type "str"):=by decide +kernel
section
variable{P:FU}{w:F0}{K:Gh}{mg:Str->Option FO}{base:Heap}{B C:FP}
theorem XU:FnScope ["course","fret","crossing"] ["course","fret"] (Gq IJ):=⟨rfl,rfl,rfl,by decide +kernel,rfl,by decide +kernel,by decide +kernel⟩
theorem Aar{f:FP}{fd:FZ}(F:Fun K "german_sign" "german_sign" IJ f fd)(TT:TxT mg)(TG:TxG mg):FnOk P w K mg base (CXF P w C) 1 f fd ["course","fret"] ZV:=by
 refine F.okX XU (fun vs H Q E h=>?_) (fun cdv A outer s H vs Q E hr h=>?_)
 ·obtain⟨c,f,rfl,_⟩:=h;rfl
 ·obtain⟨c,f,rfl,hcf,k⟩:=h;refine⟨_,Gm (GS (Gy XG (pv 0) (Gx TT.cFB) (GC _)) (Gp (Gz (L6 (Ju HH (Ju (OZ (pv 0)) Ra))))) GD)
   (Gm (GS (Gy Ho (pv 0) Gv (GC _)) (Gp (Gz (HJ Rg (Gx TG.cG6) (pv 1) (fun _ _=>rfl)))) GD)
   (Gm (GS (Gy Ho (pv 1) Gv (GC _)) (Gp (Gz (LY Pd (by rfl) TG.str SZ (Gk (GU JC Gv (pv 0)) Go)))) GD)
   (Gm (Gw (i:=2) XU.nd rfl (Or.inl rfl) (HJ Rg (Gx TG.cGC) (GU JC (GU Kl (GU JB Gv (GU Yu (GU JC (pv 1) Gv) Gv)) Gv) (pv 0)) (fun _ _=>rfl)))
   (Gp (Gz (GU Xh (pv 2) (GU Kl (GU Jt (GU JC (pv 1) Gv) Gv) Gv))))))),?_⟩
  have lg:∀{i:Int},i.natAbs<=99->i.natAbs.log2<1920:=fun h=>KD h;have e6:("+ABCDEFGHIKLMNOP":Str).cps.toList=YF:=by decide +kernel
  have ec:("abcdefghiklmnopqrstvxyz&9":Str).cps.toList=W3:=by decide +kernel
  refine⟨_,rfl,_,_,rfl,rfl,_,rfl,GV (fun h=>?_) fun h=>?_⟩
  ·have h7:7<=c:=by
    have:=of_decide_eq_true h
    lia
   have hc:c<=14/\f=0:=by lia
   refine⟨_,rfl,(by decide),_,rfl,c,rfl,lg (by lia),_,rfl,?_,?_,k _ ?_⟩
   ·exact Ak (gL ⟨c,by lia⟩).1 (by decide)
   ·exact Ak (gL ⟨c,by lia⟩).1 (by decide)
   ·rw[hc.2,gA ⟨c,by lia⟩ h7];exact congrArg some (gL ⟨c,by lia⟩).2.symm
  ·have h7:c<=6:=by
    have:=of_decide_eq_false (BJ _ ▸ h)
    lia
   have hc:1<=c/\f<=15:=by lia
   refine⟨_,rfl,rfl,_,rfl,?_⟩;rw[HB];refine GV (fun h=>?_) fun h=>?_
   ·have h6:c=6:=by
     have:=of_decide_eq_true h
     lia
    subst h6;refine⟨_,rfl,_,_,_,rfl,rfl,(by decide +kernel),by rw[e6];exact ML (Ae (show f<YF.length by show f<16;lia)),k _ ?_⟩;rw[gB ⟨f,by lia⟩];simp[TL.tl,show f<16 by lia]
   ·have h6:c<=5:=by
     have:=of_decide_eq_false (BJ _ ▸ h)
     lia
    refine⟨_,rfl,rfl,_,rfl,?_⟩;rw[HB];refine GV (fun h=>?_) fun h=>?_
    ·have h0:f=0:=by
      have:=of_decide_eq_true h
      lia
     subst h0;refine⟨_,rfl,_,_,rfl,rfl,_,rfl,lg (by lia),k _ ?_⟩;rw[gC ⟨c,by lia⟩ hc.1,show(6:Int)-(c:Int)=((6-c:Nat):Int) by lia];exact congrArg some (TL.tl_num (6-c)).symm
    ·have h0:1<=f:=by
      have:=of_decide_eq_false (BJ _ ▸ h)
      lia
     obtain⟨f',rfl⟩:∃f',f=f'+1:=⟨f-1,by lia⟩;have hix:5*(f' % 5)+5-c<W3.length:=by show _<25;lia
     refine⟨_,rfl,_,_,rfl,rfl,_,_,rfl,rfl,(by show(0:Int)<5;decide),_,_,rfl,rfl,.inl ⟨by decide,by decide⟩,_,_,rfl,rfl,_,rfl,_,_,rfl,rfl,_,_,W3.getD (5*(f' % 5)+5-c) 0,rfl,rfl,(by decide +kernel),?_,?_⟩
     ·rw[ec];have e1:5*((((f'+1:Nat):Int)-1) % 5)+5-(c:Int)=((5*(f' % 5)+5-c:Nat):Int):=by lia
      rw[e1];refine ML ?_;rw[Ae hix,CW,Ae hix];rfl
     ·refine⟨_,rfl,_,rfl,_,_,rfl,rfl,_,_,rfl,rfl,⟨by decide,by decide⟩,_,_,rfl,rfl,_,f' / 5+1,rfl,?_,by lia,by lia,k _ ?_⟩
      ·show V.int ((((f'+1:Nat):Int)-1) / 5+1)=_;rw[show(((f'+1:Nat):Int)-1) / 5+1=((f' / 5+1:Nat):Int) by lia]
      ·rw[gD ⟨c,by lia⟩ hc.1 ⟨f',by lia⟩]
def Zr:Sp:=fun vs H Q _=>vs=[]/\∀(H':Hp) (d:FP) (g:Nat->V),Same H H'->H d=none->H' d=some (.dT (kvT g (Iz [] 0 IL)))->Stops H' g LuP.stopOf 104->Q (.ref d) H'
theorem QO:FnScope ["signs","course","fret"] [] (Gq Im):=⟨rfl,rfl,rfl,by decide +kernel,rfl,by decide +kernel,by decide +kernel⟩
theorem Zs{f:FP}{fd:FZ}(F:Fun K "german_table" "german_table" Im f fd)(TS:TxS mg)(TT:TxT mg)(TG:TxG mg)(DT:Dfn P w K mg base C 1 "sign_table" ["told"] Qj)(DG:Dfn P w K mg base C 1 "german_sign" ["course","fret"] ZV):FnOk P w K mg base (CXF P w C) 2 f fd [] Zr:=by
 refine F.okX QO (fun vs H Q E h=>?_) (fun cdv A outer s H vs Q E hr h=>?_)
 ·rw[h.1];rfl
 ·obtain⟨rfl,k⟩:=h;refine⟨_,Gm (Gw (i:=0) QO.nd rfl (Or.inl rfl) (Hx Go))
   (Gm (Ic IC rfl (OG (by rfl) TS.rng (Gk Gv (Gk (Gx TT.cFB) Go))) (GJ (i:=1) QO.nd rfl (Or.inl rfl))
    (Gp (Ic IC rfl (OC (by rfl) TS.rng (Gk (Gx TG.cFR) Go)) (GJ (i:=2) QO.nd rfl (Or.inl rfl))
     (Gp (GB (IN AC AB AA G6 (pv 0) (Gk (Hn (Gk (GQ DG hr rfl (Gk (pv 1) (Gk (pv 2) Go))) (Gk (Hn (Gk (pv 1) (Gk (pv 2) Go))) Go))) Go)))))))
   (Gm (Ic IC rfl (OG (by rfl) TS.rng (Gk (Gx TT.cFB) (Gk (GU Kl (Gx TG.cLC) Gv) Go))) (GJ (i:=1) QO.nd rfl (Or.inl rfl))
     (Gp (GB (IN AC AB AA G6 (pv 0) (Gk (Hn (Gk (GQ DG hr rfl (Gk (pv 1) (Gk Gv Go))) (Gk (Hn (Gk (pv 1) (Gk Gv Go))) Go))) Go)))))
   (Gp (Gz (GQ DT hr rfl (Gk (pv 0) Go)))))),?_⟩
  let Inv:Nat->FP->Hp->Prop:=fun n m H'=>Same H H'/\∃as:List FP,as.length=n/\ToldL H' m ((IL.take n).zip (as.map V.ref))/\∀(j:Nat) (b:FP),as[j]?=some b->H' b=some (.tup (stV (LuP.stopOf j)))
  have add:∀{m:FP} (hm:H m=none) {n:Nat} {H1:Hp} {x:Str} {b q:FP},Inv n m H1->n<104->IL[n]?=some (TL.tl x)->H1 b=none->(upd H1 b (.tup (stV (LuP.stopOf n)))) q=none->∃ys,(upd (upd H1 b (.tup (stV (LuP.stopOf n)))) q (.tup [.str x,.ref b])) m=some (.lst ys)/\ys.length<FT/\Inv (n+1) m (upd (upd (upd H1 b (.tup (stV (LuP.stopOf n)))) q (.tup [.str x,.ref b])) m (.lst (ys++[.ref q]))):=by
   rintro m hm n H1 x b q ⟨sH,as,hal,hT,hst⟩ hn hx hb hq;have sb:=Gu (o:=.tup (stV (LuP.stopOf n))) hb;have sq:=Gu (o:=.tup [.str x,.ref b]) hq;have s2:=sb.trans sq;obtain⟨ys,hy,hyl⟩:=hT.lst;have hgl:IL.length=104:=by decide +kernel
   have up:∀{c:FP} {zs:List V} {H4:Hp},H4 m=some (.lst ys)->H4 c=some (.tup zs)->(upd H4 m (.lst (ys++[.ref q]))) c=some (.tup zs):=fun{c zs H4} e1 e=>by rw[Gr (GE e e1 (by intro z;cases z))];exact e
   refine⟨ys,s2 _ _ hy,?_,fun c o hc=>?_,as++[b],by rw[Ac,hal];rfl,?_,fun j b' hb'=>?_⟩
   ·rw[hyl,El,Ax];exact Ar (Ak (Dt _ _) (Ak (Dt _ _) (BB hn))) (by decide)
   ·rw[Gr (Gs hc hm)];exact s2 _ _ (sH _ _ hc)
   ·have tk:(IL.take (n+1)).zip ((as++[b]).map V.ref)=((IL.take n).zip (as.map V.ref))++[(TL.tl x,.ref b)]:=by rw[Bh,hx,An,FC (by rw[Aa,Ax,hal];lia)];rfl
    rw[tk];exact(hT.same s2).snoc (s2 _ _ hy) Gn rfl
   ·rcases Jo hb' with z | ⟨z1,z2⟩
    ·exact up (s2 _ _ hy) (s2 _ _ (hst j b' z))
    ·rw[z2,z1,hal];exact up (s2 _ _ hy) (sq _ _ Gn)
  refine⟨AD _,fun m hm=>?_⟩;have sm:=Gu (o:=.lst []) hm;refine⟨1,7,rfl,(by decide),KE (fun i σ H'=>∃v1 v2:Option V,σ=[some (.ref m),v1,v2]/\Inv (16*i) m H') ⟨none,none,rfl,sm,[],rfl,ToldL.nil Gn,fun j b hb=>by simp at hb⟩ ?_ ?_⟩
  ·rintro i σ H1 hi ⟨v1,v2,rfl,iv⟩;refine⟨16,rfl,(by decide),(by decide),KE (fun j σ H'=>∃v2:Option V,σ=[some (.ref m),some (.int ((1+i:Nat):Int)),v2]/\Inv (16*i+j) m H') ⟨v2,by rw[show((1+i:Nat):Int)=1+(i:Int) by lia];rfl,iv⟩ ?_ ?_⟩
   ·rintro j σ H2 hj ⟨v2,rfl,iv2⟩;have hi':i<6:=hi;have hj':j<16:=hj;have eix:gIx (1+i) j=16*i+j:=by unfold gIx;rw[Gj (by lia)];lia
    obtain⟨ys,hy,_⟩:=iv2.2.choose_spec.2.1.lst;refine⟨_,rfl,.inl ⟨rfl,_,SqL.of hy⟩,_,rfl,_,rfl,1+i,j,?_,.inl ⟨by lia,by lia,by lia⟩,fun x hx=>?_⟩
    ·rw[D9];rfl
    ·rw[eix] at hx;have est:stV (LuP.stopOf (16*i+j))=[.int ((1+i:Nat):Int),.int (0+(j:Int))]:=by unfold LuP.stopOf stV;rw[Gj (by lia),D9];show[V.int (((16*i+j) / 16+1:Nat):Int),V.int (((16*i+j) % 16:Nat):Int)]=_;rw[show(16*i+j) / 16+1=1+i by lia,show(16*i+j) % 16=j by lia]
     refine⟨_,rfl,_,rfl,(by show 2<=FT;decide),fun b hb=>⟨(by show 2<=FT;decide),fun q hq=>?_⟩⟩;rw[<-est] at hq ⊢;obtain⟨zs,h1,h2,h3⟩:=add hm (q:=q) iv2 (by lia) hx hb hq;exact⟨m,zs,.ref q,rfl,rfl,h1,h2,_,rfl,h3⟩
   ·rintro σ H2 ⟨v2,rfl,iv2⟩;exact⟨_,_,rfl,iv2⟩
  ·rintro σ H1 ⟨v1,v2,rfl,iv⟩;refine⟨_,_,rfl,rfl,7,15,rfl,(by decide),KE (fun i σ H'=>∃v1 v2:Option V,σ=[some (.ref m),v1,v2]/\Inv (96+i) m H') ⟨v1,v2,rfl,iv⟩ ?_ ?_⟩
   ·rintro i σ H2 hi ⟨v1,v2,rfl,iv2⟩;have hi':i<8:=hi;have eix:gIx (7+i) 0=96+i:=by unfold gIx;rw[Gi (by lia)];lia
    obtain⟨ys,hy,_⟩:=iv2.2.choose_spec.2.1.lst;have e7:(7:Int)+(i:Int)=((7+i:Nat):Int):=by lia
    refine⟨_,rfl,.inl ⟨rfl,_,SqL.of hy⟩,_,rfl,7+i,0,?_,.inr ⟨by lia,by lia,rfl⟩,fun x hx=>?_⟩
    ·rw[e7];rfl
    ·rw[eix] at hx;have est:stV (LuP.stopOf (96+i))=[.int (7+(i:Int)),.int 0]:=by unfold LuP.stopOf stV;rw[Gi (by lia),e7,show 96+i-89=7+i by lia];rfl
     refine⟨_,rfl,(by show 2<=FT;decide),fun b hb=>⟨(by show 2<=FT;decide),fun q hq=>?_⟩⟩;rw[<-est] at hq ⊢;obtain⟨zs,h1,h2,h3⟩:=add hm (q:=q) iv2 (by lia) hx hb hq;exact⟨m,zs,.ref q,rfl,rfl,h1,h2,_,_,rfl,h3⟩
   ·rintro σ H2 ⟨v1,v2,rfl,s2,as,hal,hT2,hst⟩;have hal':as.length=104:=hal;have hgl:IL.length=104:=by decide +kernel
    have eT:IL.take (96+((15:Int)-7).toNat)=IL:=BX (by rw[hgl];decide);rw[eT] at hT2;refine⟨_,rfl,m,IL,fun i=>((as[i]?).map V.ref).getD (.int 0),rfl,hT2.to ?_ ?_,by rw[hgl];decide,by decide +kernel,fun H' d sH hd hd'=>?_⟩
    ·rw[Ed (by rw[Aa,hgl,hal'];exact Ah _)]
    ·intro i tt ht;obtain⟨e1,e2⟩:=Cf.mp ht;rw[Al] at e2;cases q:as[i]? with
     |none=>rw[q] at e2;cases e2
     |some b=>rw[q] at e2;have e3:V.ref b=tt.2:=Option.some.inj e2;rw[<-e3];rfl
    ·refine k H' d _ (s2.trans sH) ?_ hd' ⟨fun i=>?_,fun i hi=>?_⟩
     ·cases q:H d with
      |none=>rfl
      |some o=>rw[s2 _ _ q] at hd;cases hd
     ·show((as[i]?).map V.ref).getD (.int 0)≠.non;cases as[i]? <;> exact fun z=>nomatch z
     ·have hb:as[i]?=some as[i]:=Ae (by lia);exact⟨as[i],by show((as[i]?).map V.ref).getD (.int 0)=_;rw[hb];rfl,sH _ _ (hst i _ hb)⟩
end
end Lu
namespace Lu
open PySem PySem.Spec PyProof.Rows L2 Lute LuR LuW
open LuP (look GR Iz Stop low HC IP)
def MS(T:SgT)(n:Nat):Prop:=look T []=some none/\(∀x∈T,x.1.length<=10)/\T.all (fun e=>e.2.all fun i=>decide (i<n))=true
def Ug(K:Gh)(B C:FP):Sp:=fun vs H Q E=>∃(c d m a:FP) (t:Bytes) (p e n:Nat) (T:SgT) (g:Nat->V) (so:Nat->Stop) (acc:List Stop),vs=[.ref c,.ref d,.ref m]/\Cur K B H c a t p e/\H d=some (.dT (kvT g T))/\Stops H g so n/\MS T n/\TupsAt stV H m acc ∧
 (∀x,GR T [] p (st t p e)=.error x->Err C E x)/\∀i q u,GR T [] p (st t p e)=.ok (i,q,u)->(low acc (so i)=true->Err C E p)/\(low acc (so i)=false->∀H':Hp,Cur K B H' c a t q e->Keep H H' c->i<n->Q (g i) H')
theorem Stops.keep{H H':Hp}{c B dx:FP}{fs:List (Str×V)}{g:Nat->V}{so:Nat->Stop}{n:Nat}(h:Stops H g so n)(k:Keep H H' c)(hc:H c=some (.ins B dx fs)):Stops H' g so n:=⟨h.1,fun i hi=>let ⟨b,e1,e2⟩:=h.2 i hi;⟨b,e1,k _ _ e2 (GE e2 hc (by intro z;cases z))⟩⟩
theorem PZ(acc:List Stop)(l s:Stop):low (acc++[l]) s=decide (s.course<=l.course):=by unfold low;rw[CC];rfl
theorem Pp{f:FP->Int}:∀{bs cs:List FP},bs.Pairwise (fun b c=>f b<f c)->cs.Perm bs->cs.Pairwise (fun b c=>f b<=f c)->cs=bs
 |[],cs,_,hp,_=>List.perm_nil.mp hp
 |b::r,[],_,hp,_=>absurd hp.length_eq (by simp)
 |b::r,c::r',hs,hp,hc=>by
  have hs':=By.mp hs;have hc':=By.mp hc;have e:c=b:=by
   have h1:c∈b::r:=hp.mem_iff.mp (.head _);rcases Ao.mp h1 with h1 | h1
   ·exact h1
   ·have h2:b∈c::r':=hp.mem_iff.mpr (.head _);rcases Ao.mp h2 with h2 | h2
    ·exact h2.symm
    ·have h3:=hs'.1 c h1;have h4:=hc'.1 b h2
     lia
  subst e;rw[Pp hs'.2 (List.Perm.cons_inv hp) hc'.2]
def okS(l:List Stop):Prop:=l.Pairwise (fun a b=>a.course<b.course)/\∀s∈l,1<=s.course/\s.course<=14/\s.fret<=15/\(6<s.course->s.fret=0)
theorem Qr:∀(l:List Nat) (a:Nat),l.Pairwise (·<·)->(∀x∈l,a<x)->∀b,(∀x∈l,x<=b)->l.length<=b-a
 |[],_,_,_,_,_=>AD _
 |x::r,a,hp,ha,b,hb=>by
  have hp':=By.mp hp;have h1:=Qr r x hp'.2 hp'.1 b fun y hy=>hb y (.tail _ hy);have h2:=ha x (.head _);have h3:=hb x (.head _);rw[Ad]
  lia
theorem Pk{l:List Stop}(h:okS l):l.length<=14:=by
 have:=Qr (l.map (·.course)) 0 (Cq.mpr h.1) (fun x hx=>by
  obtain⟨s,hs,rfl⟩:=AZ.mp hx;exact(h.2 s hs).1) 14 (fun x hx=>by
  obtain⟨s,hs,rfl⟩:=AZ.mp hx;exact(h.2 s hs).2.1)
 rw[Aa] at this;exact this
theorem QL{l:List Stop}{s:Stop}(h:okS l)(hl:low l s=false)(hs:1<=s.course/\s.course<=14/\s.fret<=15/\(6<s.course->s.fret=0)):okS (l++[s]):=by
 refine⟨EV.mpr ⟨h.1,Dh _ _,fun a ha b hb=>?_⟩,fun x hx=>?_⟩
 ·rw[Aj.mp hb];rcases B6 l with hz | ⟨r,z,hz⟩
  ·rw[hz] at ha;cases ha
  ·rw[B7] at hz;subst hz;rw[PZ] at hl;have hl':=of_decide_eq_false hl;rcases AK.mp ha with ha | ha
   ·have:=(EV.mp h.1).2.2 a ha z (Aj.mpr rfl)
    lia
   ·rw[Aj.mp ha]
    lia
 ·rcases AK.mp hx with hx | hx
  ·exact h.2 x hx
  ·rw[Aj.mp hx];exact hs
theorem TupsAt.snoc{β:Type}{fv:β->List V}{H:Hp}{m b:FP}{l:List β}{x:β}{xs:List V}(h:TupsAt fv H m l)(hx:H m=some (.lst xs))(hb:H b=some (.tup (fv x))):TupsAt fv (upd H m (.lst (xs++[.ref b]))) m (l++[x]):=by
 obtain⟨bs,h1,h2,h3⟩:=h;rw[h1] at hx;cases hx;refine⟨bs++[b],by rw[Gn,An];rfl,by rw[Ac,Ac,h2];rfl,fun i b' x' hb' hx'=>?_⟩;have key:H b'=some (.tup (fv x')):=by
  rcases Jo hb' with q | ⟨q1,q2⟩
  ·have hi:i<bs.length:=(Ai.mp q).1;rw[AF (by lia)] at hx';exact h3 i b' x' q hx'
  ·rw[q1,h2,Ay (Ah _),B4] at hx';cases hx';rw[q2];exact hb
 rw[Gr (GE key h1 (by intro z;cases z))];exact key
def Aae(so:Nat->Stop)(n:Nat):Prop:=∀i,i<n->1<=(so i).course/\(so i).course<=14/\(so i).fret<=15/\(6<(so i).course->(so i).fret=0)
section
variable{P:FU}{w:F0}{K:Gh}{mg:Str->Option FO}{base:Heap}{B C:FP}
theorem Uh:FnScope ["cursor","signs","stops","start","stop"] ["cursor","signs","stops"] (Gq HR):=⟨rfl,rfl,rfl,by decide +kernel,rfl,by decide +kernel,by decide +kernel⟩
theorem Zh{f:FP}{fd:FZ}(F:Fun K "read_lower_stop" "read_lower_stop" HR f fd)(T:Txt K mg B C)(DS:Dfn P w K mg base C 3 "read_sign" ["cursor","table"] (Nt K B C)):FnOk P w K mg base (CXF P w C) 4 f fd ["cursor","signs","stops"] (Ug K B C):=by
 refine F.okX Uh (fun vs H Q E h=>?_) (fun cdv A outer s H vs Q E hr h=>?_)
 ·obtain⟨c,d,m,a,t,p,e,n,T,g,so,acc,rfl,_⟩:=h;rfl
 ·obtain⟨c,d,m,a,t,p,e,n,T',g,so,acc,rfl,u0,hd,hg,⟨o1,o2,o3⟩,hm,kE,kQ⟩:=h;have hr2:=hr.mono (show 2<=3 by decide);refine⟨_,Gm (Gw (i:=3) Uh.nd rfl (Or.inl rfl) (G2 (pv 0) rfl))
   (Gm (Gw (i:=4) Uh.nd rfl (Or.inl rfl) (GQ DS hr rfl (Gk (pv 0) (Gk (pv 1) Go))))
   (Gm (GS (PW.pt (UG (Li (pv 2) (fun _=>rfl)) (RY (Gy KO (HJ IS (pv 4) Gv (fun _ _=>rfl)) (HJ IS (HJ Iu (pv 2) (Sb Pr Gv) (fun _ _=>rfl)) Gv (fun _ _=>rfl)) (GC _))))) (Gp (GT T.xt hr2 rfl T.mC (pv 3))) GD)
   (Gp (Gz (pv 4))))),?_⟩
  obtain⟨dx,hc⟩:=u0.at_;refine⟨_,rfl,c,B,dx,_,_,rfl,hc,T.cl,T.nP,GM _ _ _,?_⟩;refine⟨_,rfl,_,rfl,c,d,a,t,p,e,T',g,rfl,u0,hd,hg.1,o1,o2,kE,fun i q u hw H1 u1 k1=>?_⟩;have hin:i<n:=LuP.walk_lt o3 hw;obtain⟨kl,kh⟩:=kQ i q u hw;obtain⟨b,eb,hb0⟩:=hg.2 i hin;have hb:H1 b=some (.tup (stV (so i))):=k1 _ _ hb0 (GE hb0 hc (by intro z;cases z));have hm1:=hm.keep k1 hc;obtain⟨bs,e1,e2,e3⟩:=hm1;rw[eb];rw[eb] at kh;refine⟨_,rfl,_,.inl ⟨_,SqL.of e1,rfl⟩,?_⟩;rcases B6 acc with hz | ⟨acc',l,hz⟩
  ·subst hz;have:bs=[]:=Cp.mp e2;subst this;refine Rc (Rc ?_);exact⟨_,rfl,kh rfl H1 u1 k1 hin⟩
  ·rw[B7] at hz;subst hz;rw[PZ] at kl kh;obtain⟨as,z,rfl⟩:∃as z,bs=as++[z]:=by
    rcases B6 bs with e | ⟨as,z,e⟩
    ·rw[e] at e2;simp at e2
    ·exact⟨as,z,by rw[e,B7]⟩
   have hal:as.length=acc'.length:=by simpa using e2
   have hz:=e3 as.length z l (by rw[Ay (Ah _),B4];rfl) (by rw[hal,Ay (Ah _),B4];rfl);have hne:(!((as++[z]).map V.ref).isEmpty)=true:=by cases as <;> rfl
   show if (!((as++[z]).map V.ref).isEmpty)=true then _ else _;rw[Gj hne];refine⟨_,rfl,b,_,_,_,rfl,rfl,SqT.of hb,Ie (j:=0) rfl rfl,_,rfl,_,rfl,m,_,_,_,rfl,rfl,SqL.of e1,by rw[An];exact PX _ _,z,_,_,_,rfl,rfl,SqT.of hz,Ie (j:=0) rfl rfl,_,_,rfl,rfl,_,rfl,?_⟩;refine GV (fun h=>?_) fun h=>?_
   ·have h':=of_decide_eq_true h;exact⟨_,rfl,_,rfl,fun d' hd'=>kl (decide_eq_true (by lia)) _ d' Gn⟩
   ·have h':=of_decide_eq_false (BJ _ ▸ h);exact⟨_,rfl,kh (decide_eq_false (by lia)) H1 u1 k1 hin⟩
def Xx(K:Gh)(B C:FP):Sp:=fun vs H Q E=>∃(c d a:FP) (t:Bytes) (p e:Nat) (g:Nat->V),vs=[.ref c,.ref d]/\Cur K B H c a t p e/\H d=some (.dT (kvT g LuP.germT))/\Stops H g LuP.stopOf 104 ∧
 (∀x,LuP.german p (st t p e)=.error x->Err C E x)/\∀l q u,LuP.german p (st t p e)=.ok (l,q,u)->∀(H':Hp) (nl:FP),Cur K B H' c a t q e->Keep H H' c->H nl=none->TupsAt stV H' nl l->okS l->Q (.ref nl) H'
theorem RZ:MS LuP.germT 104:=⟨by decide +kernel,by decide +kernel,by decide +kernel⟩
theorem Oy:Aae LuP.stopOf 104:=fun i hi=>by
 unfold LuP.stopOf;split
 ·show 1<=i / 16+1/\i / 16+1<=14/\i % 16<=15/\(6<i / 16+1->i % 16=0)
  lia
 ·show 1<=i-89/\i-89<=14/\0<=15/\(6<i-89->0=0)
  lia
theorem XR:FnScope ["cursor","signs","stops"] ["cursor","signs"] (Gq HA):=⟨rfl,rfl,rfl,by decide +kernel,rfl,by decide +kernel,by decide +kernel⟩
theorem Aaq{f:FP}{fd:FZ}(F:Fun K "read_german_stops" "read_german_stops" HA f fd)(T:Txt K mg B C)(M:Crs P w K mg base B C)(DS:Dfn P w K mg base C 3 "read_sign" ["cursor","table"] (Nt K B C))(DL:Dfn P w K mg base C 4 "read_lower_stop" ["cursor","signs","stops"] (Ug K B C)):
  FnOk P w K mg base (CXF P w C) 5 f fd ["cursor","signs"] (Xx K B C):=by
 refine F.okX XR (fun vs H Q E h=>?_) (fun cdv A outer s H vs Q E hr h=>?_)
 ·obtain⟨c,d,a,t,p,e,g,rfl,_⟩:=h;rfl
 ·obtain⟨c,d,a,t,p,e,g,rfl,u0,hd,hg,kE,kQ⟩:=h;have hr1:=hr.mono (show 1<=4 by decide);have hr3:=hr.mono (show 3<=4 by decide);obtain⟨o1,o2,o3⟩:=RZ;refine⟨_,Gm (GS (Gy Ho (GH M.byte hr1 (pv 0)) (Gx T.cPO) (GC _)) (Gm (GB (GH M.adv hr1 (pv 0))) (Gp (Gz (Hx Go)))) GD)
   (Gm (Gw (i:=2) XR.nd rfl (Or.inl rfl) (Hx (Gk (GQ DS hr3 rfl (Gk (pv 0) (Gk (pv 1) Go))) Go)))
   (Gm (HN IC (Gy Ho (GH M.byte hr1 (pv 0)) (Gx T.cBT) (GC _))
    (Gm (GB (GH M.adv hr1 (pv 0)))
    (Gp (GB (IN AC AB AA G6 (pv 2) (Gk (GQ DL hr rfl (Gk (pv 0) (Gk (pv 1) (Gk (pv 2) Go)))) Go))))))
   (Gp (Gz (pv 2))))),?_⟩
  obtain⟨dx,hc⟩:=u0.at_;have dc:d≠c:=GE hd hc (by intro z;cases z);refine⟨_,rfl,c,dx,_,rfl,hc,GO _ _ _ (by decide) (by decide) (by decide),c,a,t,p,e,rfl,u0,rfl,_,rfl,?_⟩;rw[HB];refine GV (fun h=>?_) fun h=>?_
  ·have heq:GA (st t p e)=((46:UInt8).toNat:Int):=of_decide_eq_true h;obtain⟨r,hr0⟩:=GP heq;have hlt:=IV u0.len hr0;have eM:LuP.german p (st t p e)=.ok ([],p+1,r):=by rw[hr0];unfold LuP.german;dsimp only;rw[Gj rfl]
   refine⟨_,rfl,c,dx,_,rfl,hc,GO _ _ _ (by decide) (by decide) (by decide),c,dx,a,p,e,rfl,hc,fun H1 h1 k1=>?_⟩;refine⟨AD _,fun m hm=>?_⟩;have sm:=Gu (o:=.lst []) hm;exact kQ _ _ _ eM _ m ((u0.move k1 ⟨dx,h1⟩ hlt).same sm) (k1.trans (Keep.of sm)) (Jg k1 ⟨_,h1⟩ hm) ⟨[],Gn,rfl,fun i b x hb=>by simp at hb⟩ ⟨List.Pairwise.nil,fun s hs=>nomatch hs⟩
  ·have hne:¬GA (st t p e)=((46:UInt8).toNat:Int):=fun z=>h (decide_eq_true z);have eM:LuP.german p (st t p e)=match GR LuP.germT [] p (st t p e) with
     |.error e=>.error e
     |.ok (i,q,u)=>HC LuP.germT LuP.stopOf [LuP.stopOf i] q u:=by
    unfold LuP.german;cases hz:st t p e with
    |nil=>unfold GR;rw[LuP.fin_none o1]
    |cons z r=>
     dsimp only;rw[Gi (HK hne z r hz)]
     all_goals (cases GR LuP.germT [] p (z::r) <;> rfl)
   refine⟨_,rfl,_,rfl,c,d,a,t,p,e,LuP.germT,g,rfl,u0,hd,hg.1,o1,o2,fun x hx=>kE x (by rw[eM,hx]),fun i q u hw H1 u1 k1=>?_⟩;have hin:i<104:=LuP.walk_lt o3 hw;obtain⟨b,eb,hb0⟩:=hg.2 i hin;have hb:H1 b=some (.tup (stV (LuP.stopOf i))):=k1 _ _ hb0 (GE hb0 hc (by intro z;cases z));rw[eb];obtain⟨f1,_,f3⟩:=LuP.front_walk _ _ _ _ _ _ _ hw;have hu:u=st t q e:=by
    rw[f3,Hg];congr 1
    lia
   rw[hw] at eM;dsimp only at eM;rw[hu] at eM;have hpq:p<q:=LuP.walk_pos o1 hw;have ht:t≠[]:=fun z=>by
    have:=u1.le;have:=u1.len;rw[z] at this;simp at this
    lia
   refine⟨(by show 1<=FT;decide),fun m hm=>?_⟩;have sm:=Gu (o:=.lst [.ref b]) hm;have hmH:H m=Option.none:=Jg k1 (let ⟨_,z⟩:=u1.at_;⟨_,z⟩) hm;refine⟨fun mm σ H'=>∃(acc:List Stop) (pos:Nat),mm=e-pos/\σ=[some (.ref c),some (.ref d),some (.ref m)]/\Cur K B H' c a t pos e/\TupsAt stV H' m acc/\Keep H H' c/\okS acc/\LuP.german p (st t p e)=HC LuP.germT LuP.stopOf acc pos (st t pos e),
    ⟨_,[LuP.stopOf i],q,rfl,rfl,u1.same sm,⟨[b],Gn,rfl,fun j b' x' hb' hx'=>by
     match j,hb',hx' with
     |0,hb',hx'=>cases hb';cases hx';exact sm _ _ hb
     |j+1,hb',_=>simp at hb'⟩,k1.trans (Keep.of sm),⟨Dh _ _,fun s hs=>by rw[Aj.mp hs];exact Oy i hin⟩,eM⟩,?_⟩
   rintro mm σ H2 ⟨acc,pos,rfl,rfl,u2,hm2,k2,hok,inv⟩;obtain⟨dx2,hc2⟩:=u2.at_;refine⟨_,rfl,c,dx2,_,rfl,hc2,GO _ _ _ (by decide) (by decide) (by decide),c,a,t,pos,e,rfl,u2,rfl,_,rfl,?_⟩;rw[HB];refine GV (fun h=>?_) fun h=>?_
   ·have heq:GA (st t pos e)=((32:UInt8).toNat:Int):=of_decide_eq_true h;obtain⟨r,hr0⟩:=GP heq;have hst:=HE hr0;have hlt:=IV u0.len hr0;refine⟨fun σ' H'=>∃(acc:List Stop) (pos':Nat),pos<pos'/\σ'=[some (.ref c),some (.ref d),some (.ref m)]/\Cur K B H' c a t pos' e/\TupsAt stV H' m acc/\Keep H H' c/\okS acc/\LuP.german p (st t p e)=HC LuP.germT LuP.stopOf acc pos' (st t pos' e),?_,?_⟩
    ·rintro σ' H' ⟨acc,pos',hp,rfl,b1,b2,b3,b4,b5⟩;have:=b1.le;exact⟨e-pos',by lia,acc,pos',rfl,rfl,b1,b2,b3,b4,b5⟩
    ·refine⟨_,rfl,c,dx2,_,rfl,hc2,GO _ _ _ (by decide) (by decide) (by decide),c,dx2,a,pos,e,rfl,hc2,fun H3 h3 k3=>?_⟩;have u3:=u2.move k3 ⟨dx2,h3⟩ hlt;have hm3:=hm2.keep k3 hc2;have hlst:∃bs:List FP,H3 m=some (.lst (bs.map V.ref))/\bs.length=acc.length:=by obtain⟨bs,e1,e2,_⟩:=hm3;exact⟨bs,e1,e2⟩
     obtain⟨xs,hxs,hxl⟩:=hlst;rw[hr0,LuP.moreR_cons] at inv;have k03:=k2.trans k3;refine⟨_,rfl,.inl ⟨rfl,_,SqL.of hxs⟩,_,rfl,_,rfl,_,rfl,c,d,m,a,t,pos+1,e,104,LuP.germT,g,LuP.stopOf,acc,rfl,u3,k03 _ _ hd dc,hg.keep k03 hc,RZ,hm3,fun x hx=>?_,fun i q u hw=>⟨fun hlo=>?_,fun hlo H4 u4 k4 hin=>?_⟩⟩
     ·rw[hst] at hx;rw[hx] at inv;exact kE x (inv)
     ·rw[hst] at hw;rw[hw] at inv;dsimp only at inv;rw[Gj hlo] at inv;exact kE _ (inv)
     ·obtain⟨f1,f2,f3⟩:=LuP.front_walk _ _ _ _ _ _ _ hw;have hu:u=st t q e:=by
       rw[f3,Hg];congr 1
       lia
      rw[hst] at hw;rw[hw] at inv;dsimp only at inv;rw[Gi (by rw[hlo];exact Ag),hu] at inv;obtain⟨b,eb,hb0⟩:=hg.2 i hin;have k04:=k03.trans k4;have hb:H4 b=some (.tup (stV (LuP.stopOf i))):=k04 _ _ hb0 (GE hb0 hc (by intro z;cases z));have hx4:=k4 _ _ hxs (GE hxs h3 (by intro z;cases z));rw[eb];refine⟨m,_,.ref b,rfl,rfl,hx4,?_,acc++[LuP.stopOf i],q,by lia,rfl,u4.write hx4 ht,(hm3.keep k4 h3).snoc hx4 hb,fun x o hx hxc=>?_,QL hok hlo (Oy i hin),inv⟩
      ·rw[Aa,hxl];exact Ar (Pk hok) (by decide)
      ·rw[Gr (fun z=>by rw[z,hmH] at hx;cases hx)];exact k04 x o hx hxc
   ·have hne2:¬GA (st t pos e)=((32:UInt8).toNat:Int):=fun z=>h (decide_eq_true z);have e2:HC LuP.germT LuP.stopOf acc pos (st t pos e)=.ok (acc,pos,st t pos e):=by
     cases hz:st t pos e with
     |nil=>exact LuP.moreR_nil _ _ _ _
     |cons z r=>exact LuP.moreR_no _ _ _ _ (HK hne2 z r hz)
    rw[e2] at inv;exact⟨_,rfl,kQ _ _ _ (inv) H2 m u2 k2 hmH hm2 hok⟩
end
open LuP (look GR Iz Stop low HC IP Hh)
def WB(acc:List Stop):Rd (List Stop)->Rd (List Stop)
 |.error e=>.error e
 |.ok (s,z,v)=>.ok (acc++s,z,v)
theorem Ou(T:SgT)(c:Nat)(l:List Nat)(p:Nat)(t:Bytes):IP T (c::l) p t=match GR T [] p t with
  |.error e=>.error e
  |.ok (i,q,u)=>match IP T l q u with
   |.error e=>.error e
   |.ok (s,z,v)=>.ok ((if i=16 then s else ⟨c,i⟩::s),z,v):=rfl
theorem Ya{T:SgT}{c:Nat}{l:List Nat}{p i q:Nat}{t u:Bytes}(acc:List Stop)(h:GR T [] p t=.ok (i,q,u)):WB acc (IP T (c::l) p t)=WB (if i=16 then acc else acc++[⟨c,i⟩]) (IP T l q u):=by
 rw[Ou,h];dsimp only;cases IP T l q u with
 |error e=>rfl
 |ok z=>
  obtain⟨s,z,v⟩:=z;dsimp only;by_cases hi:i=16
  ·rw[Gj hi,Gj hi]
  ·rw[Gi hi,Gi hi];show Except.ok _=Except.ok _;rw[AT];rfl
theorem Yx{T:SgT}{c:Nat}{l:List Nat}{p x:Nat}{t:Bytes}(acc:List Stop)(h:GR T [] p t=.error x):WB acc (IP T (c::l) p t)=.error x:=by rw[Ou,h];rfl
def NU(H:Hp)(b:FP):Int:=match H b with
 |some (.tup (.int x::_))=>x
 |_=>0
theorem Rw{H:Hp}{b:FP}{s:Stop}(h:H b=some (.tup (stV s))):NU H b=(s.course:Int):=by unfold NU;rw[h];rfl
theorem TupsAt.rise{H:Hp}{bs:List FP}{l:List Stop}(h2:bs.length=l.length)(h3:∀(i:Nat) (b:FP) (x:Stop),bs[i]?=some b->l[i]?=some x->H b=some (.tup (stV x)))(R:Nat->Nat->Prop)(hl:l.Pairwise fun a b=>R a.course b.course)(S:Int->Int->Prop)(hS:∀a b:Nat,R a b->S (a:Int) (b:Int)):
  bs.Pairwise fun b c=>S (NU H b) (NU H c):=by
 rw[Ep] at hl ⊢;intro i j hi hj hij;have e1:=h3 i bs[i] l[i] (Ae hi) (Ae (by lia));have e2:=h3 j bs[j] l[j] (Ae hj) (Ae (by lia));rw[Rw e1,Rw e2];exact hS _ _ (hl i j (by lia) (by lia) hij)
def Xz(K:Gh)(B C:FP):Sp:=fun vs H Q E=>∃(c df db mc a:FP) (t:Bytes) (p e:Nat) (TF TB:SgT) (gb:Nat->V) (cs:List Nat) (fl:Bool),vs=[.ref c,.ref df,.ref db,.ref mc]/\Cur K B H c a t p e/\H df=some (.dT (kvT gF TF))/\H db=some (.dT (kvT gb TB))/\Stops H gb LuP.bo 8/\MS TF 17/\MS TB 8/\SqT K H mc (cs.map fun(n:Nat)=>V.int (n:Int)) ∧
 cs.length<=6/\(∀n∈cs,1<=n/\n<=6)/\(cs.Pairwise fun x y=>if fl=true then y<x else x<y) ∧
 (∀x,Hh TF TB cs fl p (st t p e)=.error x->Err C E x)/\∀l q u,Hh TF TB cs fl p (st t p e)=.ok (l,q,u)->∀(H':Hp) (nl:FP),Cur K B H' c a t q e->Keep H H' c->H nl=none->TupsAt stV H' nl l->okS l->Q (.ref nl) H'
theorem ZY(i:Nat):gF i≠.non:=by unfold gF;split <;> exact fun z=>nomatch z
theorem Zo:Aae LuP.bo 8:=fun i hi=>by show 1<=7+i/\7+i<=14/\0<=15/\(6<7+i->0=0);lia
section
variable{P:FU}{w:F0}{K:Gh}{mg:Str->Option FO}{base:Heap}{B C:FP}
theorem OV:Gf "sorted"=some (.builtin "sorted"):=by decide +kernel
theorem QD:FnScope ["cursor","frets","basses","courses","stops","course","fret"] ["cursor","frets","basses","courses"] (Gq Hq):=⟨rfl,rfl,rfl,by decide +kernel,rfl,by decide +kernel,by decide +kernel⟩
theorem Z2{f:FP}{fd:FZ}(F:Fun K "read_stops_by_frets" "read_stops_by_frets" Hq f fd)(T:Txt K mg B C)(TT:TxT mg)(zs:mg "sorted"=none)(M:Crs P w K mg base B C)(DS:Dfn P w K mg base C 3 "read_sign" ["cursor","table"] (Nt K B C))(DL:Dfn P w K mg base C 4 "read_lower_stop" ["cursor","signs","stops"] (Ug K B C)):
  FnOk P w K mg base (CXF P w C) 5 f fd ["cursor","frets","basses","courses"] (Xz K B C):=by
 refine F.okX QD (fun vs H Q E h=>?_) (fun cdv A outer s H vs Q E hr h=>?_)
 ·obtain⟨c,df,db,mc,a,t,p,e,TF,TB,gb,cs,fl,rfl,_⟩:=h;rfl
 ·obtain⟨c,df,db,mc,a,t,p,e,TF,TB,gb,cs,fl,rfl,u0,hdf,hdb,hg,⟨o1,o2,o3⟩,okb,hmc,hc6,hcs,hdir,kE,kQ⟩:=h;have hr1:=hr.mono (show 1<=4 by decide);have hr3:=hr.mono (show 3<=4 by decide);refine⟨_,Gm (Gw (i:=4) QD.nd rfl (Or.inl rfl) (Hx Go))
   (Gm (Ic IC rfl (Vw (pv 3)) (GJ (i:=5) QD.nd rfl (Or.inl rfl))
    (Gm (Gw (i:=6) QD.nd rfl (Or.inl rfl) (GQ DS hr3 rfl (Gk (pv 0) (Gk (pv 1) Go))))
    (Gp (GS (Gy JP (pv 6) (Gx TT.cNS) (GC _)) (Gp (GB (IN AC AB AA G6 (pv 4) (Gk (Hn (Gk (pv 5) (Gk (pv 6) Go))) Go)))) GD))))
   (Gm (Gw (i:=4) QD.nd rfl (Or.inl rfl) (G1 Ub (by rfl) zs OV (Gk (pv 4) Go)))
   (Gm (HN IC (Gy Ho (GH M.byte hr1 (pv 0)) (Gx T.cBT) (GC _))
    (Gm (GB (GH M.adv hr1 (pv 0)))
    (Gp (GB (IN AC AB AA G6 (pv 4) (Gk (GQ DL hr rfl (Gk (pv 0) (Gk (pv 2) (Gk (pv 4) Go)))) Go))))))
   (Gp (Gz (pv 4)))))),?_⟩
  obtain⟨dx,hc⟩:=u0.at_;have tne:∀{x:Nat},x<e->t≠[]:=fun{x} hx z=>by
   have:=u0.len;rw[z] at this;simp at this
   lia
  have dfc:df≠c:=GE hdf hc (by intro z;cases z);have dbc:db≠c:=GE hdb hc (by intro z;cases z);refine⟨AD _,fun m0 hm0=>?_⟩;have s0:=Gu (o:=.lst []) hm0;have kT:∀{H':Hp},Keep H H' c->SqT K H' mc (cs.map fun(n:Nat)=>V.int (n:Int)):=fun{H'} k=>by
   rcases hmc with (h | ⟨o,h⟩) | h
   ·exact .inl (.inl (k _ _ h (GE h hc (by intro z;cases z))))
   ·exact .inl (.inr ⟨o,k _ _ h (GE h hc (by intro z;cases z))⟩)
   ·exact .inr h
  refine⟨_,rfl,mc,rfl,⟨_,kT (Keep.of s0)⟩,R0 (K:=K) (a:=mc) (xs:=cs.map fun(n:Nat)=>V.int (n:Int)) (fun i σ H'=>∃(v5 v6:Option V) (acc:List Stop) (pos:Nat),σ=[some (.ref c),some (.ref df),some (.ref db),some (.ref mc),some (.ref m0),v5,v6]/\Cur K B H' c a t pos e/\TupsAt stV H' m0 acc/\Keep H H' c/\List.Sublist (acc.map (·.course)) (cs.take i)/\(∀x∈acc,x.fret<=15)/\p<=pos ∧
    IP TF cs p (st t p e)=WB acc (IP TF (cs.drop i) pos (st t pos e)))
   ⟨none,none,[],p,rfl,u0.same s0,⟨[],Gn,rfl,fun i b x hb=>by simp at hb⟩,Keep.of s0,List.nil_sublist _,(fun x hx=>nomatch hx),Ah _,by rw[CY];cases IP TF cs p (st t p e) <;> rfl⟩ (fun i σ H' _ ⟨_,_,_,_,_,_,_,k,_⟩=>kT k) ?_ ?_⟩
  ·rintro i v σ H1 hv ⟨v5,v6,acc,pos,rfl,u1,hm1,k1,hsub,hfr,hpos,inv⟩;rw[Al] at hv;cases hci:cs[i]? with
   |none=>rw[hci] at hv;cases hv
   |some n=>
    rw[hci] at hv;cases hv;have hil:i<cs.length:=(Ai.mp hci).1;have edrop:cs.drop i=n::cs.drop (i+1):=by rw[C0 hil];congr 1;exact Option.some.inj ((Ae hil).symm.trans hci)
    rw[edrop] at inv;have bad:∀x,IP TF cs p (st t p e)=.error x->Err C E x:=fun x hx=>kE x (by unfold Hh;rw[hx]);refine⟨_,rfl,_,rfl,c,df,a,t,pos,e,TF,gF,rfl,u1,k1 _ _ hdf dfc,ZY,o1,o2,fun x hx=>bad x (by rw[inv,Yx acc hx]),fun j q u hw H2 u2 k2=>?_⟩;rw[Ya acc hw] at inv;have hj:j<17:=LuP.walk_lt o3 hw;have hpq:pos<q:=LuP.walk_pos o1 hw;obtain⟨f1,_,f3⟩:=LuP.front_walk _ _ _ _ _ _ _ hw;have hu:u=st t q e:=by
     rw[f3,Hg];congr 1
     lia
    rw[hu] at inv;have k12:=k1.trans k2;obtain⟨dx1,hc1⟩:=u1.at_;obtain⟨dx2,hc2⟩:=u2.at_;have hm2:=hm1.keep k2 hc1;have htk:cs.take (i+1)=cs.take i++[n]:=by rw[Bh,hci];rfl
    by_cases h16:j=16
    ·rw[Gj h16] at inv;subst h16;refine⟨_,rfl,rfl,_,rfl,?_⟩;show if (!decide (gF 16=V.int (-1)))=true then _ else _;rw[Gi (by decide)];exact⟨_,_,acc,q,rfl,u2,hm2,k12,by rw[htk];exact hsub.trans (List.sublist_append_left _ _),hfr,by lia,inv⟩
    ·rw[Gi h16] at inv;have hgj:gF j=.int (j:Int):=by unfold gF;rw[Gi h16]
     rw[hgj];refine⟨_,rfl,rfl,_,rfl,?_⟩;rw[HB];show if (!decide ((j:Int)=-1))=true then _ else _;rw[Gj (by rw[decide_eq_false (by lia)];rfl)];obtain⟨bs,e1,e2,e3⟩:=hm2;have ble:bs.length<=6:=by
      have:=hsub.length_le;rw[Aa,Ax] at this
      lia
     refine⟨_,rfl,.inl ⟨rfl,_,SqL.of e1⟩,_,rfl,_,rfl,(by show 2<=FT;decide),fun b hb=>?_⟩;have sb:=Gu (o:=.tup [.int (n:Int),.int (j:Int)]) hb;have hm3:TupsAt stV (upd H2 b (.tup [.int (n:Int),.int (j:Int)])) m0 acc:=TupsAt.same ⟨bs,e1,e2,e3⟩ sb;refine⟨m0,_,.ref b,rfl,rfl,sb _ _ e1,?_,_,_,acc++[⟨n,j⟩],q,rfl,(u2.same sb).write (sb _ _ e1) (tne (show pos<e by have:=u2.le;lia)),hm3.snoc (sb _ _ e1) Gn,fun x o hx hxc=>?_,?_,fun x hx=>?_,by lia,inv⟩
     ·rw[Aa];exact Ar ble (by decide)
     ·rw[Gr (fun z=>by rw[z,hm0] at hx;cases hx)];exact sb _ _ (k12 x o hx hxc)
     ·rw[htk,An];exact hsub.append (List.Sublist.refl _)
     ·rcases AK.mp hx with hx | hx
      ·exact hfr x hx
      ·rw[Aj.mp hx];show j<=15
       lia
  ·rintro σ H1 ⟨v5,v6,acc0,pos0,rfl,u1,hm1,k1,hsub,hfr,hpos,inv⟩;rw[Aa,Fz] at inv;rw[Aa,AU] at hsub;have eM:Hh TF TB cs fl p (st t p e)=HC TB LuP.bo (if fl=true then acc0.reverse else acc0) pos0 (st t pos0 e):=by
    have inv':IP TF cs p (st t p e)=.ok (acc0,pos0,st t pos0 e):=by rw[inv];show Except.ok (acc0++[],pos0,st t pos0 e)=_;rw[AX]
    unfold Hh;rw[inv']
   obtain⟨bs,e1,e2,e3⟩:=hm1;refine⟨_,rfl,m0,bs,NU H1,rfl,SqL.of e1,fun b hb=>?_,fun ds m hperm hpw hm=>?_⟩
   ·obtain⟨i,hi,rfl⟩:=DO hb;have hb1:=e3 i bs[i] acc0[i] (Ae hi) (Ae (by lia));rw[Rw hb1];exact⟨[(acc0[i].fret:Int)],hb1⟩
   have sm:=Gu (o:=.lst (ds.map V.ref)) hm;have hpc:acc0.Pairwise fun x y=>if fl=true then y.course<x.course else x.course<y.course:=Cq.mp (hdir.sublist hsub);have hmem:∀s∈acc0,1<=s.course/\s.course<=14/\s.fret<=15/\(6<s.course->s.fret=0):=fun s hs=>by
    have:=hcs s.course (hsub.subset (CJ hs));have:=hfr s hs
    lia
   have hmH:H m=Option.none:=Jg k1 (let ⟨_,z⟩:=u1.at_;⟨_,z⟩) hm;have hms:TupsAt stV (upd H1 m (.lst (ds.map V.ref))) m (if fl=true then acc0.reverse else acc0)/\okS (if fl=true then acc0.reverse else acc0):=by
    cases fl with
    |false=>
     rw[Gi Ag];have hpc':acc0.Pairwise fun x y=>x.course<y.course:=hpc.imp fun h=>by rw[Gi Ag] at h;exact h
     have hr:=TupsAt.rise e2 e3 (fun x y=>x<y) hpc' (fun x y=>x<y) (fun x y h=>by lia);rw[Pp hr hperm hpw] at sm ⊢;exact⟨⟨bs,Gn,e2,fun i b x hb hx=>sm _ _ (e3 i b x hb hx)⟩,hpc',hmem⟩
    |true=>
     rw[Gj rfl];have hpc':acc0.Pairwise fun x y=>y.course<x.course:=hpc.imp fun h=>by rw[Gj rfl] at h;exact h
     have hr:=TupsAt.rise e2 e3 (fun x y=>y<x) hpc' (fun x y=>y<x) (fun x y h=>by lia);have hr':bs.reverse.Pairwise fun b c=>NU H1 b<NU H1 c:=Dv.mpr hr;rw[Pp hr' (hperm.trans (List.reverse_perm _).symm) hpw] at sm ⊢;refine⟨⟨bs.reverse,Gn,by rw[DM,DM,e2],fun i b x hb hx=>sm _ _ ?_⟩,Dv.mpr hpc',fun s hs=>hmem s (Ec.mp hs)⟩;have hi:i<bs.length:=by have:=(Ai.mp hb).1;rw[DM] at this;exact this
     rw[EO hi] at hb;rw[EO (by lia)] at hx;rw[<-e2] at hx;exact e3 _ b x hb hx
   obtain⟨hms,hoks⟩:=hms;refine⟨fun mm σ H'=>∃(acc:List Stop) (pos:Nat),mm=e-pos/\σ=[some (.ref c),some (.ref df),some (.ref db),some (.ref mc),some (.ref m),v5,v6]/\Cur K B H' c a t pos e/\TupsAt stV H' m acc/\Keep H H' c/\okS acc/\Hh TF TB cs fl p (st t p e)=HC TB LuP.bo acc pos (st t pos e),
    ⟨_,if fl=true then acc0.reverse else acc0,pos0,rfl,rfl,u1.same sm,hms,k1.trans (Keep.of sm),hoks,eM⟩,?_⟩
   rintro mm σ H2 ⟨acc,pos,rfl,rfl,u2,hm2,k2,hok,inv⟩;obtain⟨dx2,hc2⟩:=u2.at_;refine⟨_,rfl,c,dx2,_,rfl,hc2,GO _ _ _ (by decide) (by decide) (by decide),c,a,t,pos,e,rfl,u2,rfl,_,rfl,?_⟩;rw[HB];refine GV (fun h=>?_) fun h=>?_
   ·have heq:GA (st t pos e)=((32:UInt8).toNat:Int):=of_decide_eq_true h;obtain⟨r,hr0⟩:=GP heq;have hst:=HE hr0;have hlt:=IV u0.len hr0;refine⟨fun σ' H'=>∃(acc:List Stop) (pos':Nat),pos<pos'/\σ'=[some (.ref c),some (.ref df),some (.ref db),some (.ref mc),some (.ref m),v5,v6]/\Cur K B H' c a t pos' e/\TupsAt stV H' m acc/\Keep H H' c/\okS acc/\Hh TF TB cs fl p (st t p e)=HC TB LuP.bo acc pos' (st t pos' e),?_,?_⟩
    ·rintro σ' H' ⟨acc,pos',hp,rfl,b1,b2,b3,b4,b5⟩;have:=b1.le;exact⟨e-pos',by lia,acc,pos',rfl,rfl,b1,b2,b3,b4,b5⟩
    ·refine⟨_,rfl,c,dx2,_,rfl,hc2,GO _ _ _ (by decide) (by decide) (by decide),c,dx2,a,pos,e,rfl,hc2,fun H3 h3 k3=>?_⟩;have u3:=u2.move k3 ⟨dx2,h3⟩ hlt;have hm3:=hm2.keep k3 hc2;have hlst:∃bs:List FP,H3 m=some (.lst (bs.map V.ref))/\bs.length=acc.length:=by obtain⟨bs,e1,e2,_⟩:=hm3;exact⟨bs,e1,e2⟩
     obtain⟨xs,hxs,hxl⟩:=hlst;rw[hr0,LuP.moreR_cons] at inv;have k03:=k2.trans k3;refine⟨_,rfl,.inl ⟨rfl,_,SqL.of hxs⟩,_,rfl,_,rfl,_,rfl,c,db,m,a,t,pos+1,e,8,TB,gb,LuP.bo,acc,rfl,u3,k03 _ _ hdb dbc,hg.keep k03 hc,okb,hm3,fun x hx=>?_,fun i q u hw=>⟨fun hlo=>?_,fun hlo H4 u4 k4 hin=>?_⟩⟩
     ·rw[hst] at hx;rw[hx] at inv;exact kE x (inv)
     ·rw[hst] at hw;rw[hw] at inv;dsimp only at inv;rw[Gj hlo] at inv;exact kE _ (inv)
     ·obtain⟨f1,f2,f3⟩:=LuP.front_walk _ _ _ _ _ _ _ hw;have hu:u=st t q e:=by
       rw[f3,Hg];congr 1
       lia
      rw[hst] at hw;rw[hw] at inv;dsimp only at inv;rw[Gi (by rw[hlo];exact Ag),hu] at inv;obtain⟨b,eb,hb0⟩:=hg.2 i hin;have k04:=k03.trans k4;have hb:H4 b=some (.tup (stV (LuP.bo i))):=k04 _ _ hb0 (GE hb0 hc (by intro z;cases z));have hx4:=k4 _ _ hxs (GE hxs h3 (by intro z;cases z));rw[eb];refine⟨m,_,.ref b,rfl,rfl,hx4,?_,acc++[LuP.bo i],q,by lia,rfl,u4.write hx4 (tne hlt),(hm3.keep k4 h3).snoc hx4 hb,fun x o hx hxc=>?_,QL hok hlo (Zo i hin),inv⟩
      ·rw[Aa,hxl];exact Ar (Pk hok) (by decide)
      ·rw[Gr (fun z=>by rw[z,hmH] at hx;cases hx)];exact k04 x o hx hxc
   ·have hne2:¬GA (st t pos e)=((32:UInt8).toNat:Int):=fun z=>h (decide_eq_true z);have e2:HC TB LuP.bo acc pos (st t pos e)=.ok (acc,pos,st t pos e):=by
     cases hz:st t pos e with
     |nil=>exact LuP.moreR_nil _ _ _ _
     |cons z r=>exact LuP.moreR_no _ _ _ _ (HK hne2 z r hz)
    rw[e2] at inv;exact⟨_,rfl,kQ _ _ _ (inv) H2 m u2 k2 hmH hm2 hok⟩
end
def Kp(H H':Hp):Prop:=∀b o,H b=some o->(∃xs,o=.lst xs)\/(∃xs,o=.tup xs)->H' b=some o
theorem Kp.of{H H':Hp}(s:Same H H'):Kp H H':=fun b o h _=>s b o h
theorem Kp.trans{H H1 H2:Hp}(a:Kp H H1)(b:Kp H1 H2):Kp H H2:=fun x o h q=>b x o (a x o h q) q
theorem XJ{o:HO}{u:HO}(h:(∃xs,o=.lst xs)\/(∃xs,o=.tup xs))(h1:∀xs,u≠.lst xs)(h2:∀xs,u≠.tup xs):o≠u:=by
 rintro rfl;rcases h with ⟨xs,e⟩ | ⟨xs,e⟩
 ·exact h1 xs e
 ·exact h2 xs e
theorem Kp.keep{H H':Hp}{c B dx:FP}{fs:List (Str×V)}(k:Keep H H' c)(hc:H c=some (.ins B dx fs)):Kp H H':=fun b o h q=>k b o h (GE h hc (XJ q (fun _ z=>nomatch z) (fun _ z=>nomatch z)))
theorem Kp.but{H H':Hp}{Pt:FP}{ps:Array FO}(k:Lf Pt H H')(hP:H Pt=some (.tbl ps)):Kp H H':=fun b o h q=>k b o h (GE h hP (XJ q (fun _ z=>nomatch z) (fun _ z=>nomatch z)))
theorem Kp.ovl{H:Hp}{cs:List (FP×Obj)}(n:∀c o,cs.lookup c=some o->H c=none):Kp H (L2.ovl H cs):=fun b o h _=>G3 n h
theorem Kp.unt{H:Hp}{cs:List (FP×Obj)}(hc:∀c o,cs.lookup c=some o->H c=some (fz o)):Kp H (L2.unt H cs):=fun b o h q=>HU hc h fun z e=>by rcases q with ⟨xs,q⟩ | ⟨xs,q⟩ <;> (rw[q] at e;cases e)
theorem Cur.ovl{K:Gh}{B:FP}{H:Hp}{c a:FP}{t:Bytes}{p e:Nat}{cs:List (FP×Obj)}(u:Cur K B H c a t p e)(n:∀c o,cs.lookup c=some o->H c=none):Cur K B (L2.ovl H cs) c a t p e:=⟨let ⟨dx,h⟩:=u.at_;⟨dx,G3 n h⟩,SqL.ovl u.txt n,u.le,u.len⟩
theorem Cur.unt{K:Gh}{B:FP}{H:Hp}{c a:FP}{t:Bytes}{p e:Nat}{cs:List (FP×Obj)}(u:Cur K B H c a t p e)(hc:∀c o,cs.lookup c=some o->H c=some (fz o)):Cur K B (L2.unt H cs) c a t p e:=by
 refine⟨let ⟨dx,h⟩:=u.at_;⟨dx,HU hc h (fun _ z=>by cases z)⟩,?_,u.le,u.len⟩;rcases u.txt with (h | ⟨o,h⟩) | h
 ·exact .inl (.inl (HU hc h (fun _ z=>by cases z)))
 ·exact .inl (.inr ⟨o,HU hc h (fun _ z=>by cases z)⟩)
 ·exact .inr h
theorem Cur.kb{K:Gh}{B:FP}{H H':Hp}{c a Pt:FP}{t:Bytes}{p e:Nat}{ps:Array FO}(u:Cur K B H c a t p e)(k:Lf Pt H H')(hP:H Pt=some (.tbl ps)):Cur K B H' c a t p e:=⟨let ⟨dx,h⟩:=u.at_;⟨dx,k _ _ h (GE h hP (by intro z;cases z))⟩,SqL.kb u.txt k hP,u.le,u.len⟩
theorem Keep.back{H1 H2:Hp}{c:FP}{cs:List (FP×Obj)}(k:Keep (L2.unt H1 cs) H2 c)(h1:∀c o,cs.lookup c=some o->H1 c=some (fz o))(h2:∀c o,cs.lookup c=some o->H2 c=none):Keep H1 (L2.ovl H2 cs) c:=fun b o h hb=>by
 cases q:cs.lookup b with
 |none=>rw[Hr q];exact k b o (by rw[G8 q];exact h) hb
 |some ob=>rw[Kj q,<-h1 b ob q];exact h
theorem TupsAt.ovl{β:Type}{fv:β->List V}{H:Hp}{m:FP}{l:List β}{cs:List (FP×Obj)}(h:TupsAt fv H m l)(n:∀c o,cs.lookup c=some o->H c=none):TupsAt fv (L2.ovl H cs) m l:=h.move fun b o hb _=>G3 n hb
def XB(K:Gh)(B C:FP):Sp:=fun vs H Q E=>∃(c a bt mc:FP) (t:Bytes) (p:Nat) (fs:Str) (xs:List Str) (TF TB:SgT) (cs:List Nat) (fl:Bool),vs=[.ref c,.str fs,.ref bt,.ref mc]/\Cur K B H c a t p t.length/\0<p ∧
 (∀c' Pt,Bl K "read_lines_by_frets"=some (c',Pt)->H Pt=some (.tbl #[]))/\(TL.tl fs).length=16/\(TL.tl fs).all (·<128)=true/\Iz [] 0 ((TL.tl fs).map (fun c=>[c])++[[46]])=TF/\(∀H,SqT K H bt (xs.map V.str))/\xs.length=8/\(∀x∈xs,1<=(TL.tl x).length/\(TL.tl x).length<=10)/\Iz [] 0 (xs.map TL.tl)=TB/\MS TF 17/\MS TB 8 ∧
 H mc=some (.tup (cs.map fun(n:Nat)=>V.int (n:Int)))/\cs.length<=6/\(∀n∈cs,1<=n/\n<=6)/\(cs.Pairwise fun x y=>if fl=true then y<x else x<y) ∧
 (∀x,la (Hh TF TB cs fl) 0 0 p (st t p t.length)=.error x->Err C E x)/\∀s,la (Hh TF TB cs fl) 0 0 p (st t p t.length)=.ok s->∀(H':Hp) (m:FP),Kp H H'->LinesAt stV okS H' m s->Q (.ref m) H'
section
variable{P:FU}{w:F0}{K:Gh}{mg:Str->Option FO}{base:Heap}{B C:FP}
theorem VJ:FnScope ["cursor","fret_signs","bass_signs","courses","frets","basses"] ["cursor","fret_signs","bass_signs","courses"] (Gq GK):=⟨rfl,rfl,rfl,by decide +kernel,rfl,by decide +kernel,by decide +kernel⟩
theorem Y4:LamScope ["here","frets","basses","courses"] ["here"] (Mv (Me GK)):=⟨rfl,rfl,rfl,by decide +kernel,rfl,by decide +kernel,by decide +kernel,by decide +kernel⟩
theorem WW:∀y∈(Mv (Me GK)).names,y.2=.free->(Gq GK).names.lookup y.1=some .cell:=by decide +kernel
theorem Wa:∀x,(x,F7.free)∈(Mv (Me GK)).names->x="frets"\/x="basses"\/x="courses":=by
 have:∀y∈(Mv (Me GK)).names,y.2=.free->y.1="frets"\/y.1="basses"\/y.1="courses":=by decide +kernel
 exact fun x hx=>this _ hx rfl
theorem ZP{f c' Pt:FP}{fd:FZ}(F:FunT K "read_lines_by_frets" "read_lines_by_frets" GK f fd c' Pt)(BM:QX base mg)(hT:Bl K "read_lines_by_frets"=some (c',Pt))(DF:Dfn P w K mg base C 2 "fret_table" ["signs"] Aas)(DB:Dfn P w K mg base C 2 "bass_table" ["signs"] (Aat K))
  (DL:Dfn P w K mg base C 14 "read_lines" ["cursor","read_content"] (Ph P w K mg base B C)) (DR:Dfn P w K mg base C 5 "read_stops_by_frets" ["cursor","frets","basses","courses"] (Xz K B C)):
  FnOk P w K mg base (CXF P w C) 15 f fd ["cursor","fret_signs","bass_signs","courses"] (XB K B C):=by
 refine F.okT VJ (fun vs H Q E h=>?_) (fun A outer s H vs Q E hr h=>?_)
 ·obtain⟨c,a,bt,mc,t,p,fs,xs,TF,TB,cs,fl,rfl,_⟩:=h;rfl
 ·obtain⟨c,a,bt,mc,t,p,fs,xs,TF,TB,cs,fl,rfl,u0,hp0,hPt,hf16,hf128,eTF,hbt,hx8,hx10,eTB,okF,okB,hmc,hc6,hcs,hdir,kE,kQ⟩:=h;have hPt:=hPt _ _ hT;obtain⟨gl,fdl,GL,hml,hkl,hbl⟩:=DL;obtain⟨gn,fdn,GN,hmn,hkn,hbn⟩:=DR;have hr2:=hr.mono (show 2<=14 by decide);refine⟨_,Gm (Gw (i:=4) VJ.nd rfl (Or.inr rfl) (GQ DF hr2 rfl (Gk (pv 1) Go)))
   (Gm (Gw (i:=5) VJ.nd rfl (Or.inr rfl) (GQ DB hr2 rfl (Gk (pv 2) Go)))
   (Gp (Gz (QC (C:=C) (L:=[("frets",4),("basses",5),("courses",3)]) (E:=E) GL hr rfl hml hkl hbl Mx (fun y i hy=>by simp only[Ao,Eb,or_false,Prod.mk.injEq] at hy;rcases hy with ⟨rfl,rfl⟩ | ⟨rfl,rfl⟩ | ⟨rfl,rfl⟩ <;> exact⟨rfl,rfl,rfl⟩) (Gk (pv 0) (Gk (VB (qual:="read_lines_by_frets.<locals>.<lambda>") rfl F.hd BM rfl (fun y hy e=>LC (WW y hy e))) Go)))))),?_⟩
  obtain⟨dx,hc⟩:=u0.at_;refine⟨_,rfl,fs,TL.tl fs,rfl,rfl,hf16,hf128,fun Ha df sa hdf0 hdf=>?_⟩;rw[eTF] at hdf;refine⟨_,rfl,bt,xs,rfl,hbt Ha,by lia,hx10,fun Hb db gb sb hdb0 hdb hst=>?_⟩;rw[eTB] at hdb;rw[hx8] at hst;have s02:=sa.trans sb;have hdf2:=sb _ _ hdf;have hPt2:=s02 _ _ hPt;refine⟨fun x i hx=>?_,_,rfl,hPt2,fun lf H2 kb hP2 O cz Z=>?_⟩
  ·simp only[Ao,Eb,or_false,Prod.mk.injEq] at hx;rcases hx with ⟨rfl,rfl⟩ | ⟨rfl,rfl⟩ | ⟨rfl,rfl⟩ <;> exact⟨_,rfl⟩
  have nz:∀c o,cz.lookup c=some o->H2 c=none:=fun c o e=>(Z.free c o e).1;have u2:=((u0.same s02).kb kb hPt2).ovl nz;obtain⟨dx2,hc2⟩:=u2.at_;have kp2:Kp H (L2.ovl H2 cz):=((Kp.of s02).trans (Kp.but kb hPt2)).trans (Kp.ovl nz);have hdf3:(L2.ovl H2 cz) df=some (.dT (kvT gF TF)):=G3 nz (kb _ _ hdf2 (GE hdf2 hPt2 (by intro z;cases z)));have hdb3:(L2.ovl H2 cz) db=some (.dT (kvT gb TB)):=G3 nz (kb _ _ hdb (GE hdb hPt2 (by intro z;cases z)));have hst3:Stops (L2.ovl H2 cz) gb LuP.bo 8:=⟨hst.1,fun i hi=>let ⟨b,e1,e2⟩:=hst.2 i hi;⟨b,e1,G3 nz (kb _ _ e2 (GE e2 hPt2 (by intro z;cases z)))⟩⟩;have hmc3:(L2.ovl H2 cz) mc=some (.tup (cs.map fun(n:Nat)=>V.int (n:Int))):=kp2 _ _ hmc (.inr ⟨_,rfl⟩);have LA:=Xw (P:=P) (w:=w) (K:=K) (mg:=mg) (base:=base) (C:=C) (N:=["here","frets","basses","courses"]) (ps:=["here"]) (fr:=[.ref df,.ref db,.ref mc]) O Z (fun x hx=>by
    rcases Wa x hx with rfl | rfl | rfl
    ·exact⟨4,.ref df,by simp,rfl⟩
    ·exact⟨5,.ref db,by simp,rfl⟩
    ·exact⟨3,.ref mc,by simp,rfl⟩) Y4 rfl (fun j x v e1 e2=>by
     match j,e1,e2 with
     |0,e1,e2=>cases e1;cases e2;exact⟨4,by simp,rfl⟩
     |1,e1,e2=>cases e1;cases e2;exact⟨5,by simp,rfl⟩
     |2,e1,e2=>cases e1;cases e2;exact⟨3,by simp,rfl⟩
     |j+3,e1,_=>simp at e1) (fun cl pm cd ctv=>len_1 fun _=>rfl)
  refine⟨Stop,stV,okS,Hh TF TB cs fl,c,lf,a,t,p,rfl,u2,hp0,LuP.front_byFrets _ _ _ _,LA.run 12 _ (fun vs H' Q' E' h=>by obtain⟨c',_,_,_,_,rfl,_⟩:=h;rfl) fun cd cl A' outer' s' H' vs Q' E' hF hr' hsp=>?_,fun x hx H' d hd fr=>kE x hx _ d (HU fr hd (fun _ z=>by cases z)),fun so hso H' m k' hm' hL fr=>kQ so hso _ m ((kp2.trans (Kp.keep k' hc2)).trans (Kp.unt fr)) (hL.move (Kp.unt fr))⟩;obtain⟨c1,a1,t1,p1,e1,rfl,w1,k1,⟨dx1,fs1,hc1⟩,kE1,kQ1⟩:=hsp;have hcs1:=fun c o (e:cz.lookup c=some o)=>hF c _ _ (Kj e);have up:∀{b:FP} {o:HO},(L2.ovl H2 cz) b=some o->(∀B dx fs,o≠.ins B dx fs)->(∀z,o≠fz z)->(L2.unt H' cz) b=some o:=fun{b o} h h1 h2=>HU hcs1 (k1 _ _ h (GE h hc1 (h1 _ _ _))) h2;refine⟨_,LI GN (hr'.mono (by decide)) rfl hmn hkn hbn .nil XH (Gk (pv 0) (Gk (pv 1) (Gk (pv 2) (Gk (pv 3) Go)))),?_⟩;refine⟨_,rfl,_,rfl,_,rfl,_,rfl,c1,df,db,mc,a1,t1,p1,e1,TF,TB,gb,cs,fl,rfl,w1.unt hcs1,up hdf3 (fun _ _ _ z=>nomatch z) (fun _ z=>nomatch z),up hdb3 (fun _ _ _ z=>nomatch z) (fun _ z=>nomatch z),⟨hst3.1,fun i hi=>let ⟨b,q1,q2⟩:=hst3.2 i hi;⟨b,q1,up q2 (fun _ _ _ z=>nomatch z) (fun _ z=>nomatch z)⟩⟩,okF,okB,SqT.of (up hmc3 (fun _ _ _ z=>nomatch z) (fun _ z=>nomatch z)),hc6,hcs,hdir,fun x hx H3 d hd nn=>kE1 x hx _ d (G3 nn hd),fun l q u hl H3 nl w3 k3 hnl hT3 hok nn=>?_⟩;refine kQ1 l q u hl _ nl (w3.ovl nn) (k3.back hcs1 nn) ?_ (hT3.ovl nn) hok;cases q':cz.lookup nl with
  |none=>rw[G8 q'] at hnl;exact hnl
  |some o=>obtain⟨bs,z1,_⟩:=hT3;rw[nn nl o q'] at z1;cases z1
end
def MO(K:Gh)(C:FP):Sp:=fun vs H Q E=>∃(a:FP) (t:Bytes),vs=[.ref a]/\SqL K H a (tx t)/\(∀x c' Pt,x∈(["read_lines_by_frets","read_piece"]:List Str)->Bl K x=some (c',Pt)->H Pt=some (.tbl #[])) ∧
 (∀x,LuP.pieceR t=.error x->Err C E x)/\∀ls,LuP.pieceR t=.ok ls->∀(H':Hp) (m:FP),Kp H H'->LinesAt stV okS H' m ls->Q (.ref m) H'
def CTx(K:Gh)(mg:Str->Option FO)(x:Str)(xs:List Str):Prop:=∃a,Cst mg x (.ref a)/\∀H,SqT K H a (xs.map V.str)
abbrev Qs:List Str:=["french","italian","german"]
abbrev fbX:List Str:=["a","/a","//a","///a","4","5","6","7"]
abbrev ibX:List Str:=["7","8","9","10","11","12","13","14"]
structure TxK(K:Gh)(mg:Str->Option FO):Prop where
 cF:Cst mg "FRENCH" (.int 0)
 cI:Cst mg "ITALIAN" (.int 1)
 cFF:Cst mg "FRENCH_FRETS" (.str "abcdefghiklmnopq")
 cIF:Cst mg "ITALIAN_FRETS" (.str "0123456789xyzvuw")
 kn:CTx K mg "KIND_NAMES" Qs
 fb:CTx K mg "FRENCH_BASSES" fbX
 ib:CTx K mg "ITALIAN_BASSES" ibX
theorem V1:MS LuP.kindT 3:=⟨by decide +kernel,by decide +kernel,by decide +kernel⟩
theorem Ua:MS LuP.fret0T 17:=⟨by decide +kernel,by decide +kernel,by decide +kernel⟩
theorem U6:MS LuP.fret1T 17:=⟨by decide +kernel,by decide +kernel,by decide +kernel⟩
theorem UF:MS LuP.bass0T 8:=⟨by decide +kernel,by decide +kernel,by decide +kernel⟩
theorem Uv:MS LuP.bass1T 8:=⟨by decide +kernel,by decide +kernel,by decide +kernel⟩
theorem Uw:Qs.map TL.tl=LuP.kindS:=by decide +kernel
theorem YV:fbX.map TL.tl=LuP.bass0S:=by decide +kernel
theorem X8:ibX.map TL.tl=LuP.bass1S:=by decide +kernel
theorem Zw:((TL.tl ("abcdefghiklmnopq":Str)).map (fun c=>[c])++[[46]])=LuP.fret0S:=by decide +kernel
theorem Zm:((TL.tl ("0123456789xyzvuw":Str)).map (fun c=>[c])++[[46]])=LuP.fret1S:=by decide +kernel
def tsK:List (List Nat×V):=LuP.kindS.zipIdx.map fun c=>(c.1,V.int (c.2:Int))
theorem YI{i:Nat}{x:Str}(h:Qs[i]?=some x):tsK[i]?=some (TL.tl x,.int (i:Int)):=by unfold tsK;rw[Al,CF,<-Uw,Al,h];simp
section
variable{P:FU}{w:F0}{K:Gh}{mg:Str->Option FO}{base:Heap}{B C:FP}
abbrev rpN:List Str:=["text","cursor","names","kind","signs","name"]
theorem Mf:FnScope rpN ["text"] (Gq G9):=⟨rfl,rfl,rfl,by decide +kernel,rfl,by decide +kernel,by decide +kernel⟩
theorem X7:LamScope ["here","signs"] ["here"] (Mv (Me G9)):=⟨rfl,rfl,rfl,by decide +kernel,rfl,by decide +kernel,by decide +kernel,by decide +kernel⟩
theorem Ww:∀y∈(Mv (Me G9)).names,y.2=.free->(Gq G9).names.lookup y.1=some .cell:=by decide +kernel
theorem Wu:∀x,(x,F7.free)∈(Mv (Me G9)).names->x="signs":=by
 have:∀y∈(Mv (Me G9)).names,y.2=.free->y.1="signs":=by decide +kernel
 exact fun x hx=>this _ hx rfl
theorem ZG{f c' Pt:FP}{fd:FZ}(F:FunT K "read_piece" "read_piece" G9 f fd c' Pt)(BM:QX base mg)(hT:Bl K "read_piece"=some (c',Pt))(T:Txt K mg B C)(TT:TxT mg)(TK:TxK K mg)(MT:Mth P w K mg base C B 3 "take" ["self","wanted"] (IB K B C))(DI:Mke P w K mg base C B 1 "Cursor" ["self","text","place","end"] (MV B))
  (DT:Dfn P w K mg base C 1 "sign_table" ["told"] Qj) (DS:Dfn P w K mg base C 3 "read_sign" ["cursor","table"] (Nt K B C)) (DF:Dfn P w K mg base C 15 "read_lines_by_frets" ["cursor","fret_signs","bass_signs","courses"] (XB K B C)) (DG:Dfn P w K mg base C 2 "german_table" [] Zr)
  (DL:Dfn P w K mg base C 14 "read_lines" ["cursor","read_content"] (Ph P w K mg base B C)) (DR:Dfn P w K mg base C 5 "read_german_stops" ["cursor","signs"] (Xx K B C)):
  FnOk P w K mg base (CXF P w C) 16 f fd ["text"] (MO K C):=by
 refine F.okT Mf (fun vs H Q E h=>?_) (fun A outer s H vs Q E hr h=>?_)
 ·obtain⟨a,t,rfl,_⟩:=h;rfl
 ·obtain⟨a,t,rfl,hS,hPts,kE,kQ⟩:=h;have hPt:=hPts _ _ _ (.tail _ (.head _)) hT;obtain⟨gl,fdl,GL,hml,hkl,hbl⟩:=DL;obtain⟨gn,fdn,GN,hmn,hkn,hbn⟩:=DR;obtain⟨gg,fdg,GG,hmg,hkg,hbg⟩:=DG;obtain⟨ak,hak,hsk⟩:=TK.kn;obtain⟨af,haf,hsf⟩:=TK.fb;obtain⟨ai,hai,hsi⟩:=TK.ib;have hr1:=hr.mono (show 1<=15 by decide);have hr2:=hr.mono (show 2<=15 by decide);have hr3:=hr.mono (show 3<=15 by decide);have hr14:=hr.mono (show 14<=15 by decide);refine⟨_,Gm (Gw (i:=1) Mf.nd rfl (Or.inl rfl) (U9 DI hr2 rfl (Gk (pv 0) (Gk Gv (Gk (G1 GY (by rfl) T.len PySem.boot_len (Gk (pv 0) Go)) Go)))))
   (Gm (Gw (i:=2) Mf.nd rfl (Or.inl rfl) (GQ DT hr1 rfl (Gk (Mu (own:=[("kind",3),("name",5)]) (g:=RF K 2 (JH (HY 3) (JH (HY 5) Rb))) (te:=P2 (Hm (Hw 5) (Hm (Hw 3) IR))) rfl Mf.nd (NE (by rfl) TT.enu (Gk (Gx hak) Go))
     (show BlkOk rpN (Gq G9) _ [("kind",3),("name",5)] from ⟨rfl,by decide +kernel,by decide +kernel,by decide +kernel,by decide +kernel⟩)
     (fun _ _ _ _ _=>Jm rfl (GX (GJ (i:=3) Mf.nd rfl (Or.inl rfl)) (GX (GJ (i:=5) Mf.nd rfl (Or.inl rfl)) Il))) (fun _ _ _ _ _=>Ip)
     (fun _ _ _ _ _=>Hn (Gk (pv 5) (Gk (pv 3) Go)))) Go)))
   (Gm (Gw (i:=3) Mf.nd rfl (Or.inl rfl) (GQ DS hr3 rfl (Gk (pv 1) (Gk (pv 2) Go))))
   (Gm (GB (Kr MT hr3 (pv 1) (Gk (Gx T.cNL) Go)))
   (Gm (GS (Gy Ho (pv 3) (Gx TK.cF) (GC _)) (Gp (Gz (GQ DF hr rfl (Gk (pv 1) (Gk (Gx TK.cFF) (Gk (Gx haf) (Gk (Hn (Gk Gv (Gk Gv (Gk Gv (Gk Gv (Gk Gv (Gk Gv Go))))))) Go))))))) GD)
   (Gm (GS (Gy Ho (pv 3) (Gx TK.cI) (GC _)) (Gp (Gz (GQ DF hr rfl (Gk (pv 1) (Gk (Gx TK.cIF) (Gk (Gx hai) (Gk (Hn (Gk Gv (Gk Gv (Gk Gv (Gk Gv (Gk Gv (Gk Gv Go))))))) Go))))))) GD)
   (Gm (Gw (i:=4) Mf.nd rfl (Or.inr rfl) (T5 GG hr2 rfl hmg hkg hbg .nil Mx))
   (Gp (Gz (QC (C:=C) (L:=[("signs",4)]) (E:=E) GL hr14 rfl hml hkl hbl Mx (fun y i hy=>by have e:=Aj.mp hy;cases e;exact⟨rfl,rfl,rfl⟩) (Gk (pv 1) (Gk (VB (qual:="read_piece.<locals>.<lambda>") rfl F.hd BM rfl (fun y hy e=>LC (Ww y hy e))) Go))))))))))),?_⟩
  refine⟨_,rfl,_,rfl,a,_,rfl,.inl hS,fun c dx hc0 hdx hne=>?_⟩;have hlt:(tx t).length=t.length:=by unfold tx;rw[Aa]
  refine⟨c,dx,a,0,t.length,by rw[hlt];rfl,Gn,fun H1 hc1 k1=>⟨rfl,?_⟩⟩;have s1:Same H H1:=Same.made hc0 hdx k1;have u1:Cur K B H1 c a t 0 t.length:=⟨⟨dx,hc1⟩,s1.seq hS,AD _,Ah _⟩;have toH:∀{H':Hp},Keep H1 H' c->Same H H':=fun k b o hb=>k _ _ (s1 _ _ hb) (fun z=>by rw[z,hc0] at hb;cases hb);refine .inl ⟨ak,_,rfl,hsk H1,fun D hD=>NX (K:=K) (a:=.tup ak) (xs:=Qs.map V.str) (fun i H'=>Same H1 H'/\ToldL H' D (tsK.take i)) (fun i H' _ _=>hsk H') ⟨Gu hD,ToldL.nil Gn⟩ ?_ ?_⟩
  ·rintro i v H' T' hv ⟨sH,hT'⟩ hTn;rw[Al] at hv;cases hx:Qs[i]? with
   |none=>rw[hx] at hv;cases hv
   |some x=>
    rw[hx] at hv;cases hv;have sT:=Gu (o:=.tup [.int (i:Int),.str x]) hTn;refine⟨T',_,rfl,SqT.of Gn,rfl,_,_,rfl,_,_,rfl,rfl,rfl,?_⟩;refine⟨_,rfl,_,rfl,(by show 2<=FT;decide),fun q hq=>?_⟩;have sq:=Gu (o:=.tup [.str x,.int (i:Int)]) hq;obtain⟨ys,hy,hyl⟩:=hT'.lst;have s2:=sT.trans sq;refine⟨_,s2 _ _ hy,?_,fun b o hb=>?_,?_⟩
    ·rw[hyl,Ax];exact Ar (Bc _ _) (by decide)
    ·rw[Gr (Gs hb hD)];exact s2 _ _ (sH _ _ hb)
    ·rw[Bh,YI hx];exact(hT'.same s2).snoc (s2 _ _ hy) Gn rfl
  rintro H2 ⟨s2,hT2⟩;refine⟨D,LuP.kindS,fun i=>.int (i:Int),rfl,hT2.to (by decide +kernel) (fun i tt ht=>?_),by decide,by decide +kernel,fun H3 dn s3 hdn0 hdn=>?_⟩
  ·rw[BX (by decide)] at ht;unfold tsK at ht;rw[Al,CF] at ht;cases q:LuP.kindS[i]? with
   |none=>rw[q] at ht;cases ht
   |some k=>rw[q] at ht;cases ht;simp
  rw[LuP.kind_tab] at hdn;have u3:=(u1.same s2).same s3;obtain⟨o1,o2,o3⟩:=V1;have k13:Keep H1 H3 c:=Keep.of (s2.trans s3);have est:st t 0 t.length=t:=by rw[Ny,CY]
  refine⟨_,rfl,_,rfl,c,dn,a,t,0,t.length,LuP.kindT,fun i=>.int (i:Int),rfl,u3,hdn,(fun _ z=>nomatch z),o1,o2,fun x hx=>kE x ?_,fun i q u hw H4 u4 k4=>?_⟩
  ·rw[est] at hx;unfold LuP.pieceR;rw[hx];rfl
  have hi3:i<3:=LuP.walk_lt o3 hw;have hq0:0<q:=LuP.walk_pos o1 hw;obtain⟨_,_,f3⟩:=LuP.front_walk _ _ _ _ _ _ _ hw;have hu:u=st t q t.length:=by
   rw[f3,Hg];congr 1
   lia
  rw[est] at hw;have e4:LuP.pieceR t=match G4 (Except.ok (i,q,st t q t.length):Rd Nat) with
    |.error e=>.error e
    |.ok (i,q,u)=>la (LuP.rdK (LuP.kindOf i)) 0 0 q u:=by
   unfold LuP.pieceR;rw[hw,hu]
   all_goals rfl
  obtain⟨dx4,hc4⟩:=u4.at_;refine⟨_,rfl,c,dx4,_,rfl,hc4,GO _ _ _ (by decide) (by decide) (by decide),c,a,t,q,t.length,10,rfl,u4,fun hB=>?_,fun hB=>?_⟩
  ·intro H5 u5 k5;obtain⟨r,hr0⟩:=GP hB;have hst:=HE hr0;rw[hr0] at e4;unfold G4 at e4;dsimp only at e4;rw[Gj rfl,<-hst] at e4;dsimp only at e4;have k15:Keep H1 H5 c:=(k13.trans k4).trans k5;have s5:Same H H5:=toH k15;have hp5:∀x c' Pt,x∈(["read_lines_by_frets","read_piece"]:List Str)->Bl K x=some (c',Pt)->H5 Pt=some (.tbl #[]):=fun x c' Pt hx h=>s5 _ _ (hPts x c' Pt hx h);have tup6:∀{mc:FP} {xs:List V},H5 mc=none->Cur K B (upd H5 mc (.tup xs)) c a t (q+1) t.length:=fun hm=>u5.same (Gu hm);refine⟨_,rfl,rfl,_,rfl,?_⟩;rw[HB];refine GV (fun h=>?_) fun h=>?_
   ·have h0:i=0:=by
     have:=of_decide_eq_true h
     lia
    subst h0;refine⟨_,rfl,(by show 6<=FT;decide),fun mc hmc=>?_⟩;have sm:=Gu (o:=.tup [.int 1,.int 2,.int 3,.int 4,.int 5,.int 6]) hmc;exact⟨c,a,af,mc,t,q+1,"abcdefghiklmnopq",fbX,LuP.fret0T,LuP.bass0T,[1,2,3,4,5,6],false,rfl,tup6 hmc,by lia,fun c' Pt h=>sm _ _ (hp5 _ c' Pt (.head _) h),by decide +kernel,by decide +kernel,by rw[Zw,LuP.fret0_tab],hsf,rfl,by decide +kernel,by rw[YV,LuP.bass0_tab],Ua,UF,Gn,by decide,by decide,by decide,fun x hx=>kE x (e4.trans hx),fun so hso H' m kp hL=>kQ so (e4.trans hso) H' m ((Kp.of (s5.trans sm)).trans kp) hL⟩
   ·refine⟨_,rfl,rfl,_,rfl,?_⟩;rw[HB];refine GV (fun h1=>?_) fun h1=>?_
    ·have h0:i=1:=by
      have:=of_decide_eq_true h1
      lia
     subst h0;refine⟨_,rfl,(by show 6<=FT;decide),fun mc hmc=>?_⟩;have sm:=Gu (o:=.tup [.int 6,.int 5,.int 4,.int 3,.int 2,.int 1]) hmc;exact⟨c,a,ai,mc,t,q+1,"0123456789xyzvuw",ibX,LuP.fret1T,LuP.bass1T,[6,5,4,3,2,1],true,rfl,tup6 hmc,by lia,fun c' Pt h=>sm _ _ (hp5 _ c' Pt (.head _) h),by decide +kernel,by decide +kernel,by rw[Zm,LuP.fret1_tab],hsi,rfl,by decide +kernel,by rw[X8,LuP.bass1_tab],U6,Uv,Gn,by decide,by decide,by decide,fun x hx=>kE x (e4.trans hx),fun so hso H' m kp hL=>kQ so (e4.trans hso) H' m ((Kp.of (s5.trans sm)).trans kp) hL⟩
    ·have h2:i=2:=by
      have:=of_decide_eq_false (BJ _ ▸ h);have:=of_decide_eq_false (BJ _ ▸ h1)
      lia
     subst h2;have e5:LuP.pieceR t=la LuP.german 0 0 (q+1) (st t (q+1) t.length):=e4;refine⟨rfl,fun H6 ds g s6 hds0 hds hst6=>?_⟩;rw[LuP.germ_tab] at hds;have s06:=s5.trans s6;have hPt6:=s06 _ _ hPt;refine⟨fun x i hx=>?_,_,rfl,hPt6,fun lf H7 kb hP7 O cz Z=>?_⟩
     ·have e:=Aj.mp hx;cases e;exact⟨_,rfl⟩
     have nz:∀c o,cz.lookup c=some o->H7 c=none:=fun c o e=>(Z.free c o e).1;have u7:=((u5.same s6).kb kb hPt6).ovl nz;obtain⟨dx7,hc7⟩:=u7.at_;have kp7:Kp H (L2.ovl H7 cz):=((Kp.of s06).trans (Kp.but kb hPt6)).trans (Kp.ovl nz);have hds7:(L2.ovl H7 cz) ds=some (.dT (kvT g LuP.germT)):=G3 nz (kb _ _ hds (GE hds hPt6 (by intro z;cases z)));have hst7:Stops (L2.ovl H7 cz) g LuP.stopOf 104:=⟨hst6.1,fun i hi=>let ⟨b,e1,e2⟩:=hst6.2 i hi;⟨b,e1,G3 nz (kb _ _ e2 (GE e2 hPt6 (by intro z;cases z)))⟩⟩;have LA:=Xw (P:=P) (w:=w) (K:=K) (mg:=mg) (base:=base) (C:=C) (N:=["here","signs"]) (ps:=["here"]) (fr:=[.ref ds]) O Z (fun x hx=>⟨4,.ref ds,by rw[Wu x hx];exact Aj.mpr rfl,rfl⟩) X7 rfl (fun j x v e1 e2=>by
       cases j with
       |zero=>cases e1;cases e2;exact⟨4,Aj.mpr rfl,rfl⟩
       |succ j=>simp at e1) (fun cl pm cd ctv=>len_1 fun _=>rfl)
     refine⟨Stop,stV,okS,LuP.german,c,lf,a,t,q+1,rfl,u7,by lia,LuP.front_german,LA.run 12 _ (fun vs H' Q' E' h=>by obtain⟨c',_,_,_,_,rfl,_⟩:=h;rfl) fun cd cl A' outer' s' H' vs Q' E' hF hr' hsp=>?_,fun x hx H' d hd fr=>kE x (e5.trans hx) _ d (HU fr hd (fun _ z=>by cases z)),fun so hso H' m k' hm' hL fr=>kQ so (e5.trans hso) _ m ((kp7.trans (Kp.keep k' hc7)).trans (Kp.unt fr)) (hL.move (Kp.unt fr))⟩;obtain⟨c1,a1,t1,p1,e1,rfl,w1,k1,⟨dx1,fs1,hc1⟩,kE1,kQ1⟩:=hsp;have hcs1:=fun c o (e:cz.lookup c=some o)=>hF c _ _ (Kj e);have up:∀{b:FP} {o:HO},(L2.ovl H7 cz) b=some o->(∀B dx fs,o≠.ins B dx fs)->(∀z,o≠fz z)->(L2.unt H' cz) b=some o:=fun{b o} h h1 h2=>HU hcs1 (k1 _ _ h (GE h hc1 (h1 _ _ _))) h2;refine⟨_,LI GN (hr'.mono (by decide)) rfl hmn hkn hbn .nil XH (Gk (pv 0) (Gk (pv 1) Go)),?_⟩;refine⟨_,rfl,_,rfl,c1,ds,a1,t1,p1,e1,g,rfl,w1.unt hcs1,up hds7 (fun _ _ _ z=>nomatch z) (fun _ z=>nomatch z),⟨hst7.1,fun i hi=>let ⟨b,q1,q2⟩:=hst7.2 i hi;⟨b,q1,up q2 (fun _ _ _ z=>nomatch z) (fun _ z=>nomatch z)⟩⟩,fun x hx H3 d hd nn=>kE1 x hx _ d (G3 nn hd),fun l q u hl H3 nl w3 k3 hnl hT3 hok nn=>?_⟩;refine kQ1 l q u hl _ nl (w3.ovl nn) (k3.back hcs1 nn) ?_ (hT3.ovl nn) hok;cases q':cz.lookup nl with
     |none=>rw[G8 q'] at hnl;exact hnl
     |some o=>obtain⟨bs,z1,_⟩:=hT3;rw[nn nl o q'] at z1;cases z1
  ·refine kE q ?_;rw[e4];cases hz:st t q t.length with
   |nil=>rfl
   |cons d r'=>unfold G4;dsimp only;rw[Gi (HK hB d r' hz)]
end
end Lu
namespace Lu
open PySem PySem.Spec PyProof.Rows L2 Lute LuR LuW LuI
open LuP (Stop srt Jj J0)
def KL(rs:List (List Iv))(s:Stop):Bool:=match rs[s.course-1]? with
 |none=>false
 |some r=>decide (s.fret<r.length)
def IT(rs:List (List Iv))(s:Stop):Iv:=((rs[s.course-1]?).bind fun r=>r[s.fret]?).getD unison
def IE:Ln Stop->List Stop
 |none=>[]
 |some (_,l)=>l
def JE(rs:List (List Iv)):Ln Stop->Ln Iv
 |none=>none
 |some (n,l)=>some (n,srt width (l.map (IT rs)))
def Ka(rs:List (List Iv))(ls:List (Ln Stop)):Bool:=ls.all fun v=>(IE v).all (KL rs)
theorem M3{rs:List (List Iv)}{s:Stop}(h:KL rs s=true):∃r,rs[s.course-1]?=some r/\r[s.fret]?=some (IT rs s):=by
 unfold KL at h;cases hr:rs[s.course-1]? with
 |none=>rw[hr] at h;cases h
 |some r=>rw[hr] at h;have hf:=of_decide_eq_true h;refine⟨r,rfl,?_⟩;unfold IT;rw[hr];show r[s.fret]?=some ((r[s.fret]?).getD unison);rw[Ae hf];rfl
theorem KY(f:Stop->Bool):∀(p:LuteTab.Piece) (i x:Nat),((LuteSound.struckFrom i x p).all fun s=>f s.halt_)=p.all fun v=>match v with
  |.bar=>true
  |.moment _ l=>l.all f
 |[],_,_=>rfl
 |.bar::r,i,x=>by unfold LuteSound.struckFrom;rw[KY f r,CA];rfl
 |.moment n l::r,i,x=>by unfold LuteSound.struckFrom;rw[Ds,KY f r,CA,List.all_map];rfl
theorem L0{t:Inst}(h:InOk t){s:Stop}(h1:1<=s.course)(h6:6<s.course->s.fret=0):t.place s.course s.fret=KL (tab t) s/\(KL (tab t) s=true->t.sounds s.course s.fret=IT (tab t) s):=by
 obtain⟨c,f⟩:=s;obtain⟨i,rfl⟩:∃i,c=i+1:=⟨c-1,by show c=c-1+1;have:1<=c:=h1;lia⟩;have h6:6<i+1->f=0:=h6;have hl:t.opens.length=t.courses.length+t.basses.length:=by unfold Inst.opens;rw[Ac]
 unfold KL IT Inst.place Inst.sounds;show(decide (1<=i+1)&&(decide (i+1<=t.opens.length)&&decide (f<=t.many (i+1))))=(match (tab t)[i]? with | none=>false | some r=>decide (f<r.length))/\_;rw[decide_eq_true (show 1<=i+1 by lia),CB];show _/\((match (tab t)[i]? with | none=>false | some r=>decide (f<r.length))=true->(t.opens.getD i unison).plus (t.fret f)=(((tab t)[i]?).bind fun r=>r[f]?).getD unison);by_cases hi:i<t.opens.length
 ·have hg:t.opens.getD i unison=t.opens[i]:=by rw[CW,Ae hi];rfl
  have hok:t.opens[i].ok=true:=by
   have hm:t.opens[i]∈t.opens:=Bz hi;unfold Inst.opens at hm;rcases AK.mp hm with z | z
   ·exact h.co _ z
   ·exact h.ba _ z
  have e0:t.opens[i].plus (t.fret 0)=t.opens[i]:=QT hok;rw[decide_eq_true (show i+1<=t.opens.length by lia),CB,hg];by_cases hc:i<t.courses.length
  ·have et:(tab t)[i]?=some (row t.frets i t.opens[i]):=by unfold tab;rw[AF (by simpa using hc),List.getElem?_mapIdx,Ae hc,Q8 hi hc];rfl
   have em:t.many (i+1)=t.frets.length:=by unfold Inst.many;rw[Gj (by lia)]
   rw[et,em];unfold row;by_cases h66:i<6
   ·rw[Gj h66];refine⟨?_,fun hf=>?_⟩
    ·simp only[Ad,Aa,FH]
    ·have hf':f<t.frets.length+1:=by simpa using hf
     cases f with
     |zero=>rw[e0];rfl
     |succ g=>
      show _=((t.frets.map t.opens[i].plus)[g]?).getD unison;have hg':g<t.frets.length:=by lia
      rw[Al,Ae hg'];unfold Inst.fret;rw[Gi (Ee g),Nat.succ_sub_one,CW,Ae hg'];rfl
   ·rw[Gi h66];have f0:f=0:=h6 (by lia);subst f0;exact⟨by simp,fun _=>by rw[e0];rfl⟩
  ·have et:(tab t)[i]?=some [t.opens[i]]:=by unfold tab;rw[Ay (by simpa using hc),Al,BZ,Ae (show i-t.courses.length<t.basses.length by lia),Qp hi (by lia) (by lia)];rfl
   have em:t.many (i+1)=0:=by unfold Inst.many;rw[Gi (by lia)]
   rw[et,em];refine⟨by simp[FH],fun hf=>?_⟩;have hf':f<1:=by simpa using hf
   have f0:f=0:=by lia
   subst f0;rw[e0];rfl
 ·have et:(tab t)[i]?=none:=by
   unfold tab;rw[Cg];simp
   lia
  rw[et,decide_eq_false (show ¬i+1<=t.opens.length by lia)];exact⟨rfl,fun z=>nomatch z⟩
theorem WV{t:Inst}(h:InOk t){ls:List (Ln Stop)}(hok:∀n l,some (n,l)∈ls->okS l):LuteSong.fits t (ls.map J0)=Ka (tab t) ls:=by
 show((LuteSound.struckFrom 0 0 (ls.map J0)).all fun s=>t.place s.halt_.course s.halt_.fret)=_;rw[KY fun s=>t.place s.course s.fret,List.all_map];unfold Ka;rw[BH,AI,AI];have key:∀v∈ls,((fun v=>match v with | LuteTab.Line.bar=>true | .moment _ l=>l.all fun s=>t.place s.course s.fret) ∘ J0) v=(IE v).all (KL (tab t)):=fun v hv=>by
  cases v with
  |none=>rfl
  |some nl=>
   obtain⟨n,l⟩:=nl;have ho:=hok n l hv;show(l.all fun s=>t.place s.course s.fret)=l.all (KL (tab t));rw[BH,AI,AI];constructor
   ·intro q s hs;rw[<-(L0 h (ho.2 s hs).1 (ho.2 s hs).2.2.2).1];exact q s hs
   ·intro q s hs;rw[(L0 h (ho.2 s hs).1 (ho.2 s hs).2.2.2).1];exact q s hs
 constructor
 ·intro q v hv;rw[<-key v hv];exact q v hv
 ·intro q v hv;rw[key v hv];exact q v hv
theorem Xo{t:Inst}(h:InOk t){s:Stop}(hf:KL (tab t) s=true):(IT (tab t) s).ok=true:=by obtain⟨r,h1,h2⟩:=M3 hf;exact(Ui h r (AO h1)).1 _ (AO h2)
theorem VU{t:Inst}(h:InOk t){ls:List (Ln Stop)}(hok:∀n l,some (n,l)∈ls->okS l)(hf:Ka (tab t) ls=true):LuteSong.sung t (ls.map J0)=(ls.map (JE (tab t))).map Jq:=by
 unfold LuteSong.sung;rw[A0,A0];refine CK fun v hv=>?_;cases v with
 |none=>rfl
 |some nl=>obtain⟨n,l⟩:=nl;have ho:=hok n l hv;have hfl:∀s∈l,KL (tab t) s=true:=AI.mp (AI.mp hf _ hv);have e:(l.map fun(s:Stop)=>t.sounds s.course s.fret)=l.map (IT (tab t)):=CK fun s hs=>(L0 h (ho.2 s hs).1 (ho.2 s hs).2.2.2).2 (hfl s hs);show LuteSong.Verse.moment n ((l.map fun(s:Stop)=>t.sounds s.course s.fret).foldr LuteSong.insertIv [])=LuteSong.Verse.moment n (srt width (l.map (IT (tab t))));rw[e,LuP.sort_eq _ fun y hy=>by obtain⟨s,hs,rfl⟩:=AZ.mp hy;exact Xo h (hfl s hs)]
theorem Qq:∀(as:List FP) (ns:List Iv),(ns.map width).zip (as.map V.ref)=(as.zip ns).map fun z=>(width z.2,V.ref z.1)
 |[],_=>by cases(‹List Iv›:List Iv) <;> simp
 |_::_,[]=>rfl
 |a::as,n::ns=>by rw[AM,AM,CV,Qq as ns];rfl
theorem VE{as:List FP}{ns:List Iv}{out:List V}(hl:as.length=ns.length)(h:Ord (ns.map width) (as.map V.ref) out):∃cs:List FP,out=cs.map V.ref/\cs.length=(srt width ns).length/\∀(i:Nat) (b:FP) (x:Iv),cs[i]?=some b->(srt width ns)[i]?=some x->∃j:Nat,as[j]?=some b/\ns[j]?=some x:=by
 obtain⟨ps,h1,h2,h3,h4⟩:=h;rw[Qq] at h1 h4
 let S:=srt (fun z:FP×Iv=>width z.2) (as.zip ns)
 have e:ps=S.map fun z=>(width z.2,V.ref z.1):=by refine LuP.sorted_uniq _ _ h3 (Cq.mpr (LuP.srt_sorted _ _)) fun c=>?_;rw[h4 c,Dr,Dr];exact congrArg _ (LuP.srt_filter (fun z:FP×Iv=>width z.2) c (as.zip ns)).symm
 have es:S.map Prod.snd=srt width ns:=by rw[LuP.srt_map width Prod.snd,List.map_snd_zip (by lia)]
 refine⟨S.map Prod.fst,?_,?_,fun i b x hb hx=>?_⟩
 ·rw[h2,e,A0,A0];rfl
 ·rw[<-es,Aa,Aa]
 ·rw[<-es,Al] at hx;rw[Al] at hb;cases q:S[i]? with
  |none=>rw[q] at hb;cases hb
  |some z=>
   rw[q] at hb hx;cases hb;cases hx;have hm:z∈as.zip ns:=(LuP.srt_mem _ z _).mp (AO q);obtain⟨j,hj,e⟩:=DO hm;have hz:(as.zip ns)[j]?=some z:=by rw[Ae hj,e]
   obtain⟨q1,q2⟩:=Cf.mp hz;exact⟨j,q1,q2⟩
def ZJ:Sp:=fun vs H Q _=>∃(mt m:FP) (rs:List (List Iv)) (ls:List (Ln Stop)),vs=[.ref mt,.ref m]/\TabAt H mt rs/\rs.length<=14/\(∀r∈rs,(∀x∈r,x.ok=true)/\r.length<=16)/\LinesAt stV okS H m ls/\ls.length<=512 ∧
 (Ka rs ls=false->∀H',Same H H'->Q .non H')/\(Ka rs ls=true->∀(H':Hp) (p:FP),Same H H'->LinesAt ivV okN H' p (ls.map (JE rs))->Q (.ref p) H')
section
variable{P:FU}{w:F0}{K:Gh}{mg:Str->Option FO}{base:Heap}{B C:FP}
abbrev spN:List Str:=["courses","lines","sung","length","stops","course","fret","notes"]
theorem Ls:FnScope spN ["courses","lines"] (Gq HM):=⟨rfl,rfl,rfl,by decide +kernel,rfl,by decide +kernel,by decide +kernel⟩
theorem Aab{f:FP}{fd:FZ}(F:Fun K "song_of_piece" "song_of_piece" HM f fd)(len:mg "len"=none)(zs:mg "sorted"=none)(DW:Dfn P w K mg base C 1 "width" ["interval"] (Lp K)):FnOk P w K mg base (CXF P w C) 4 f fd ["courses","lines"] ZJ:=by
 refine F.okX Ls (fun vs H Q E h=>?_) (fun cdv A outer s H vs Q E hr h=>?_)
 ·obtain⟨mt,m,rs,ls,rfl,_⟩:=h;rfl
 ·obtain⟨mt,m,rs,ls,rfl,hT,h14,hrs,hL,h512,kN,kQ⟩:=h;refine⟨_,Gm (Gw (i:=2) Ls.nd rfl (Or.inl rfl) (Hx Go))
   (Gm (Ic IC rfl (Ik (pv 1)) (Jm rfl (GX (GJ (i:=3) Ls.nd rfl (Or.inl rfl)) (GX (GJ (i:=4) Ls.nd rfl (Or.inl rfl)) Il)))
    (Gm (Ic IC rfl (Ik (pv 4)) (Jm rfl (GX (GJ (i:=5) Ls.nd rfl (Or.inl rfl)) (GX (GJ (i:=6) Ls.nd rfl (Or.inl rfl)) Il)))
     (Gp (GS (PW.pt (OH (Gy Oz (pv 5) (G1 GY (by rfl) len PySem.boot_len (Gk (pv 0) Go)) (GC _)) (LP (Gy XG (pv 6) (G1 GY (by rfl) len PySem.boot_len (Gk (HJ Iu (pv 0) (GU JC (pv 5) Gv) (fun _ _=>rfl)) Go)) (GC _))))) (Gp (Gz Lb)) GD)))
    (Gm (Nw (i:=7) (own:=[("course",5),("fret",6)]) (g:=RF K 2 (JH (HY 5) (JH (HY 6) Rb))) (te:=tOp (Wn K) (tOp (Wn K) (Hw 0) (tOp (rI0 fun i j=>.int (i-j)) (Hw 5) (tC (.int 1)))) (Hw 6)) rfl Ls.nd rfl rfl rfl (Ik (pv 4))
     (show BlkOk spN (Gq HM) _ [("course",5),("fret",6)] from ⟨rfl,by decide +kernel,by decide +kernel,by decide +kernel,by decide +kernel⟩)
     (fun _ _ _ _ _=>Jm rfl (GX (GJ (i:=5) Ls.nd rfl (Or.inl rfl)) (GX (GJ (i:=6) Ls.nd rfl (Or.inl rfl)) Il))) (fun _ _ _ _ _=>Ip)
     (fun _ _ _ _ _=>HJ Iu (HJ Iu (pv 0) (GU JC (pv 5) Gv) (fun _ _=>rfl)) (pv 6) (fun _ _=>rfl)))
    (Gp (GB (IN AC AB AA G6 (pv 2) (Gk (Hn (Gk (pv 3) (Gk (Uf DW (Room.in1 (Room.in1 hr)) zs (Gk (pv 7) Go)) Go))) Go)))))))
   (Gp (Gz (pv 2)))),?_⟩
  have hL':=hL;obtain⟨bs,hbs,hbl,hbv⟩:=hL;obtain⟨ts,htm,htl,htv⟩:=hT;refine⟨AD _,fun sg hsg=>?_⟩;have s0:=Gu (o:=.lst []) hsg;refine⟨_,rfl,m,rfl,⟨_,SqL.of (s0 _ _ hbs)⟩,Jn (K:=K) (a:=m) (xs:=bs.map V.ref) (fun i σ H'=>∃v3 v4 v5 v6 v7:Option V,σ=[some (.ref mt),some (.ref m),some (.ref sg),v3,v4,v5,v6,v7]/\Same H H'/\LinesAt ivV okN H' sg ((ls.take i).map (JE rs))/\Ka rs (ls.take i)=true)
   ⟨none,none,none,none,none,rfl,s0,⟨[],Gn,rfl,fun i b v hb=>by simp at hb⟩,rfl⟩ (fun i σ H' _ ⟨_,_,_,_,_,_,sH,_⟩=>SqL.of (sH _ _ hbs)) ?_ ?_⟩
  ·rintro i x σ H1 hx ⟨v3,v4,v5,v6,v7,rfl,sH,hS1,hfit⟩;rw[Al] at hx;cases hb:bs[i]? with
   |none=>rw[hb] at hx;cases hx
   |some b=>
    rw[hb] at hx;cases hx;have hi:i<ls.length:=by rw[<-hbl];exact(Ai.mp hb).1
    have hv:ls[i]?=some ls[i]:=Ae hi;have hin:ls[i]∈ls:=Bz hi;have tk:ls.take (i+1)=ls.take i++[ls[i]]:=by rw[Bh,hv];rfl
    have at_:=hbv i b _ hb hv;have efl:Ka rs (ls.take i++[ls[i]])=(IE ls[i]).all (KL rs):=by unfold Ka at hfit ⊢;rw[Ds,hfit,CB,CA,List.all_nil,Ex]
    have bad:∀s∈IE ls[i],KL rs s=false->Ka rs ls=false:=fun s hs hf=>by unfold Ka;rw[List.all_eq_false];refine⟨_,hin,fun z=>?_⟩;have:=AI.mp z s hs;rw[hf] at this;cases this
    rw[tk,An,efl];generalize ls[i]=v at *;have data:∃(n:Nat) (nl:FP) (cs:List FP),H b=some (.tup [.int (n:Int),.ref nl])/\H nl=some (.lst (cs.map V.ref))/\cs.length=(IE v).length/\(∀(j:Nat) (d:FP) (s:Stop),cs[j]?=some d->(IE v)[j]?=some s->H d=some (.tup (stV s)))/\okS (IE v) ∧
      ∀(H':Hp) (q pb:FP),H' pb=some (.tup [.int (n:Int),.ref q])->q≠sg->TupsAt ivV H' q (srt width ((IE v).map (IT rs)))->okN (srt width ((IE v).map (IT rs)))->LineAt ivV okN H' sg pb (JE rs v):=by
     cases v with
     |none=>obtain⟨nl,q1,q2,q3⟩:=at_;refine⟨0,nl,[],q1,q3,rfl,fun j d s hd=>by simp at hd,⟨List.Pairwise.nil,fun s hs=>nomatch hs⟩,fun H' q pb hpb hq ⟨cs,c1,c2,_⟩ _=>⟨q,hpb,hq,?_⟩⟩;have:cs=[]:=Cp.mp c2;rw[c1,this];rfl
     |some nl=>obtain⟨n,l⟩:=nl;obtain⟨nl,q1,q2,⟨cs,c1,c2,c3⟩,q4⟩:=at_;exact⟨n,nl,cs,q1,c1,c2,c3,q4,fun H' q pb hpb hq hT ho=>⟨q,hpb,hq,hT,ho⟩⟩
    obtain⟨n,nl,cs,hb1,hnl,hcl,hcv,hok,fin⟩:=data;have hl14:=Pk hok;generalize IE v=l at *;have tabr:∀{H':Hp},Same H H'->∀{c:Nat} {r:List Iv},rs[c]?=some r->∃(d:FP) (es:List FP),ts[c]?=some d/\H' d=some (.lst (es.map V.ref))/\es.length=r.length/\∀(j:Nat) (z:FP) (y:Iv),es[j]?=some z->r[j]?=some y->H' z=some (.tup (ivV y)):=fun{H'} sH' {c r} hc=>by
     have hcl:c<ts.length:=by rw[htl];exact(Ai.mp hc).1
     have hd:ts[c]?=some ts[c]:=Ae hcl;obtain⟨_,es,z1,z2,z3⟩:=htv c _ r hd hc;exact⟨_,es,hd,sH' _ _ z1,z2,fun j z y hz hy=>sH' _ _ (z3 j z y hz hy)⟩
    refine⟨b,_,rfl,SqT.of (sH _ _ hb1),rfl,_,_,rfl,_,_,rfl,rfl,?_⟩;refine⟨_,rfl,nl,rfl,⟨_,SqL.of (sH _ _ hnl)⟩,Jn (K:=K) (a:=nl) (xs:=cs.map V.ref) (fun j σ H'=>∃v5 v6 v7:Option V,σ=[some (.ref mt),some (.ref m),some (.ref sg),some (.int (n:Int)),some (.ref nl),v5,v6,v7]/\H'=H1/\(l.take j).all (KL rs)=true)
     ⟨_,_,_,rfl,rfl,rfl⟩ (fun j σ H' _ ⟨_,_,_,_,e,_⟩=>by rw[e];exact SqL.of (sH _ _ hnl)) ?_ ?_⟩
    ·rintro j y σ H' hy ⟨v5,v6,v7,rfl,rfl,hfj⟩;rw[Al] at hy;cases hd:cs[j]? with
     |none=>rw[hd] at hy;cases hy
     |some d=>
      rw[hd] at hy;cases hy;have hj:j<l.length:=by rw[<-hcl];exact(Ai.mp hd).1
      have hs:l[j]?=some l[j]:=Ae hj;have hsl:l[j]∈l:=Bz hj;have hdt:=sH _ _ (hcv j d _ hd hs);have tj:l.take (j+1)=l.take j++[l[j]]:=by rw[Bh,hs];rfl
      have hoks:=hok.2 _ hsl;rw[tj,Ds,hfj,CB,CA,List.all_nil,Ex];generalize l[j]=sp at *;refine⟨d,_,rfl,SqT.of hdt,rfl,_,_,rfl,_,_,rfl,rfl,?_⟩;refine⟨_,rfl,_,rfl,mt,_,rfl,.inl (SqL.of (sH _ _ htm)),_,_,rfl,rfl,_,rfl,?_⟩;rw[Aa,htl];by_cases hc:rs.length<sp.course
      ·show if decide ((rs.length:Int)<(sp.course:Int))=true then _ else _;rw[Gj (decide_eq_true (by lia))];refine Xd ?_;refine kN (bad sp hsl ?_) _ sH;unfold KL;rw[Cw (by lia)]
      ·show if decide ((rs.length:Int)<(sp.course:Int))=true then _ else _;rw[Gi (by rw[decide_eq_false (by lia)];exact Ag)];have hc':sp.course-1<rs.length:=by lia
       have hr:rs[sp.course-1]?=some rs[sp.course-1]:=Ae hc';obtain⟨dr,es,e1,e2,e3,_⟩:=tabr sH hr;have hix:atI (ts.map V.ref) ((sp.course:Int)-1)=some (.ref dr):=Ie (j:=sp.course-1) (by lia) (by rw[Al,e1];rfl);refine⟨_,rfl,_,rfl,_,rfl,_,_,rfl,rfl,mt,_,_,_,rfl,rfl,SqL.of (sH _ _ htm),hix,dr,_,rfl,.inl (SqL.of e2),_,_,rfl,rfl,_,rfl,?_⟩;rw[Aa,e3];have ef:KL rs sp=decide (sp.fret<(rs[sp.course-1]).length):=by unfold KL;rw[hr]
       refine GV (fun h=>?_) fun h=>?_
       ·have h':=of_decide_eq_true h;exact kN (bad sp hsl (by rw[ef];exact decide_eq_false (by lia))) _ sH
       ·have h':=of_decide_eq_false (BJ _ ▸ h);exact⟨_,_,_,rfl,rfl,by rw[ef];exact decide_eq_true (by lia)⟩
    ·rintro σ H' ⟨v5,v6,v7,rfl,rfl,hfl⟩;rw[Aa,hcl,AU] at hfl;have hfl':=AI.mp hfl;have hnok:∀y∈l.map (IT rs),y.ok=true:=fun y hy=>by obtain⟨s,hs,rfl⟩:=AZ.mp hy;obtain⟨r,z1,z2⟩:=M3 (hfl' s hs);exact(hrs r (AO z1)).1 _ (AO z2)
     refine⟨_,rfl,nl,rfl,⟨_,SqL.of (sH _ _ hnl)⟩,fun D hD=>Pc (K:=K) (a:=nl) (xs:=cs.map V.ref) (fun j H2=>Same H' H2/\∃as:List FP,as.length=j/\H2 D=some (.lst (as.map V.ref))/\∀(k:Nat) (z:FP) (s:Stop),as[k]?=some z->l[k]?=some s->H2 z=some (.tup (ivV (IT rs s)))) ⟨Gu hD,[],rfl,Gn,fun k z s hz=>by simp at hz⟩ (fun j H2 _ q=>SqL.of (q.1 _ _ (sH _ _ hnl))) ?_ ?_⟩
     ·rintro j y H2 hy ⟨s2,as,hal,hDl,hav⟩;rw[Al] at hy;cases hd:cs[j]? with
      |none=>rw[hd] at hy;cases hy
      |some d=>
       rw[hd] at hy;cases hy;have hj:j<l.length:=by rw[<-hcl];exact(Ai.mp hd).1
       have hs:l[j]?=some l[j]:=Ae hj;have hsl:l[j]∈l:=Bz hj;have s02:=sH.trans s2;have hdt:=s02 _ _ (hcv j d _ hd hs);have hoks:=hok.2 _ hsl;obtain⟨r,z1,z2⟩:=M3 (hfl' _ hsl);obtain⟨dr,es,e1,e2,e3,e4⟩:=tabr s02 z1;have hfr:l[j].fret<es.length:=by rw[e3];exact(Ai.mp z2).1
       have he:es[l[j].fret]?=some es[l[j].fret]:=Ae hfr;have hix:atI (ts.map V.ref) ((l[j].course:Int)-1)=some (.ref dr):=Ie (j:=l[j].course-1) (by lia) (by rw[Al,e1];rfl);have hix2:atI (es.map V.ref) (l[j].fret:Int)=some (.ref es[l[j].fret]):=Ie (j:=l[j].fret) rfl (by rw[Al,he];rfl);refine⟨d,_,rfl,SqT.of hdt,rfl,_,_,rfl,_,_,rfl,rfl,rfl,?_⟩;refine⟨_,rfl,_,rfl,_,_,rfl,rfl,mt,_,_,_,rfl,rfl,SqL.of (s02 _ _ htm),hix,_,rfl,dr,_,_,_,rfl,rfl,SqL.of e2,hix2,_,hDl,?_,fun c o hc=>?_,as++[es[l[j].fret]],by rw[Ac,hal];rfl,by rw[Gn,An];rfl,fun k z s hz hs'=>?_⟩
       ·rw[Aa,hal];exact Ap hj (Ak hl14 (by decide))
       ·rw[Gr (Gs hc hD)];exact s2 _ _ hc
       ·have key:H2 z=some (.tup (ivV (IT rs s))):=by
         rcases Jo hz with q | ⟨q1,q2⟩
         ·exact hav k z s q hs'
         ·rw[q1,hal,hs] at hs';cases hs';rw[q2];exact e4 _ _ _ he z2
        rw[Gr (GE key hDl (by intro z;cases z))];exact key
     ·rintro H2 ⟨s2,as,hal,hDl,hav⟩;rw[Aa,hcl] at hal;have s02:=sH.trans s2;obtain⟨sb,c1,c2,c3⟩:=hS1;have hsg2:=s2 _ _ c1;refine⟨_,rfl,.inl ⟨rfl,_,SqL.of hsg2⟩,_,rfl,_,rfl,_,rfl,D,_,(l.map (IT rs)).map width,rfl,SqL.of hDl,by rw[Aa,Aa,Aa,hal],fun k y kz hy hk H3 s3=>?_,fun q out H3 hord s3 hq hq3=>?_⟩
      ·rw[Al] at hy hk;cases hz:as[k]? with
       |none=>rw[hz] at hy;cases hy
       |some z=>
        rw[hz] at hy;cases hy;rw[Al] at hk;cases hs:l[k]? with
        |none=>rw[hs] at hk;cases hk
        |some s=>rw[hs] at hk;cases hk;exact⟨z,IT rs s,rfl,SqT.of (s3 _ _ (hav k z s hz hs)),hnok _ (CJ (AO hs)),fun H4 s4=>⟨rfl,s4⟩⟩
      ·obtain⟨ds,ed,dl,dv⟩:=VE (by rw[Aa,hal]) hord;subst ed;refine⟨(by show 2<=FT;decide),fun pb hpb=>?_⟩;have sp':=Gu (o:=.tup [.int (n:Int),.ref q]) hpb;have s23:=s3.trans sp';have qsg:q≠sg:=fun z=>by rw[z,hsg2] at hq;cases hq
       have sb2:=s23 _ _ hsg2;have hlines:LinesAt ivV okN (upd H3 pb (.tup [.int (n:Int),.ref q])) sg ((ls.take i).map (JE rs)):=LinesAt.same (LinesAt.same ⟨sb,c1,c2,c3⟩ s2) s23;have hta:TupsAt ivV (upd H3 pb (.tup [.int (n:Int),.ref q])) q (srt width (l.map (IT rs))):=⟨ds,sp' _ _ hq3,dl,fun k z y hz hy=>by
        obtain⟨j,j1,j2⟩:=dv k z y hz hy;rw[Al] at j2;cases hs:l[j]? with
        |none=>rw[hs] at j2;cases j2
        |some s=>rw[hs] at j2;cases j2;exact s23 _ _ (hav j z s j1 hs)⟩
       have hla:=fin _ q pb Gn qsg hta ⟨fun y hy=>hnok y ((LuP.srt_mem width y _).mp hy),by rw[LuP.srt_len,Aa];exact hl14⟩;refine⟨sg,_,.ref pb,rfl,rfl,sb2,?_,_,_,_,_,_,rfl,fun c o hc=>?_,hlines.snoc sb2 hla,hfl⟩
       ·rw[Aa,c2,Aa,Ax];exact Ar (Ak (Bc _ _) h512) (by decide)
       ·rw[Gr (Gs hc hsg)];exact s23 _ _ (s02 _ _ hc)
  ·rintro σ H1 ⟨v3,v4,v5,v6,v7,rfl,sH,hS1,hfit⟩;rw[Aa,hbl,AU] at hS1 hfit;exact⟨_,rfl,kQ hfit H1 sg sH hS1⟩
end
def Y3(K:Gh):Sp:=fun vs H Q _=>∃(mt m:FP) (rs:List (List Iv)) (ls:List (Ln Stop)),vs=[.ref mt,.ref m]/\TabAt H mt rs/\rs.length<=14/\(∀r∈rs,(∀x∈r,x.ok=true)/\r.length<=16)/\LinesAt stV okS H m ls/\ls.length<=512/\(∀n l,some (n,l)∈ls->n∈AJ) ∧
 (Ka rs ls=false->YM Q (-3))/\(Ka rs ls=true->∀(H':Hp) (p:FP),H' p=some (.lst ((LuteF.bytesOut (LuteSong.Song.text ((ls.map (JE rs)).map Jq))).map V.int))->Q (.ref p) H')
def spOf(K:Gh):Sp:=fun vs H Q _=>∃(a b:FP) (is ts:List Int),vs=[.ref a,.ref b]/\(∀x c' Pt,x∈(["read_lines_by_frets","read_piece"]:List Str)->Bl K x=some (c',Pt)->H Pt=some (.tbl #[]))/\SqL K H a (is.map V.int)/\(∀z∈is,0<=z/\z<=255)/\SqL K H b (ts.map V.int)/\(∀z∈ts,0<=z/\z<=255) ∧
 ∀(H':Hp) (p:FP),H' p=some (.lst ((PyWqaucp.of is ts).map V.int))->Q (.ref p) H'
theorem of_eq(is ts:List Int):PyWqaucp.of is ts=if 4096<(LuSongNeutral.bytes is).length\/65536<(LuSongNeutral.bytes ts).length then [-2] else (match readInst (LuSongNeutral.bytes is) with
  |.error _=>[-6]
  |.ok x=>match CG (LuSongNeutral.bytes ts) with
   |.error _=>[-8]
   |.ok (_,p)=>if LuteSong.fits x p=false then [-3] else LuteF.bytesOut (LuteSong.Song.text (LuteSong.sung x p))):=by
 show LuteF.answer (.sung (LuSongNeutral.bytes is) (LuSongNeutral.bytes ts))=_;show(if 4096<(LuSongNeutral.bytes is).length\/65536<(LuSongNeutral.bytes ts).length then _ else _)=_;split
 ·rfl
 ·cases readInst (LuSongNeutral.bytes is) with
  |error e=>rfl
  |ok x=>
   dsimp only;cases CG (LuSongNeutral.bytes ts) with
   |error e=>rfl
   |ok z=>rfl
theorem Tg{K:Gh}{C a:FP}{H:Hp}{t:Bytes}(hS:SqL K H a (tx t))(hP:∀x c' Pt,x∈(["read_lines_by_frets","read_piece"]:List Str)->Bl K x=some (c',Pt)->H Pt=some (.tbl #[])):
  Rdr (MO K C) a H (fun v H1=>∃m ls,v=.ref m/\LuP.pieceR t=.ok ls/\Kp H H1/\LinesAt stV okS H1 m ls) (∃x,LuP.pieceR t=.error x):=fun Q E hQ hE=>
 ⟨a,t,rfl,hS,hP,fun x hx H' d _=>hE ⟨x,hx⟩ _ _ _,fun ls hls H' m k hA=>hQ _ _ ⟨m,ls,rfl,hls,k,hA⟩⟩
theorem LinesAt.oks{β:Type}{fv:β->List V}{ok:List β->Prop}{H:Hp}{m:FP}{ls:List (Ln β)}(h:LinesAt fv ok H m ls):∀n l,some (n,l)∈ls->ok l:=fun n l hm=>by obtain⟨bs,_,h2,h3⟩:=h;obtain⟨i,hi,e⟩:=DO hm;have:=h3 i (bs[i]'(by lia)) (some (n,l)) (Ae _) (by rw[Ae hi,e]);obtain⟨_,_,_,_,z⟩:=this;exact z
section
variable{P:FU}{w:F0}{K:Gh}{mg:Str->Option FO}{base:Heap}{B C:FP}
theorem XF:FnScope ["courses","lines","song"] ["courses","lines"] (Gq Jx):=⟨rfl,rfl,rfl,by decide +kernel,rfl,by decide +kernel,by decide +kernel⟩
theorem Aai{f:FP}{fd:FZ}(F:Fun K "sung_text" "sung_text" Jx f fd)(cCB:Cst mg "CANNOT_BE" (.int (-3)))(DS:Dfn P w K mg base C 4 "song_of_piece" ["courses","lines"] ZJ)(DW:Dfn P w K mg base C 22 "write_song" ["lines"] R4)(DT:Dfn P w K mg base C 1 "told_text" ["text"] (Uo K)):
  FnOk P w K mg base (CXF P w C) 23 f fd ["courses","lines"] (Y3 K):=by
 refine F.okX XF (fun vs H Q E h=>?_) (fun cdv A outer s H vs Q E hr h=>?_)
 ·obtain⟨mt,m,rs,ls,rfl,_⟩:=h;rfl
 ·obtain⟨mt,m,rs,ls,rfl,hT,h14,hrs,hL,h512,hlen,kN,kQ⟩:=h;have hr1:=hr.mono (show 1<=22 by decide);have hr4:=hr.mono (show 4<=22 by decide);refine⟨_,Gm (Gw (i:=2) XF.nd rfl (Or.inl rfl) (GQ DS hr4 rfl (Gk (pv 0) (Gk (pv 1) Go))))
   (Gm (GS (Gy PD (pv 2) Lb (GC _)) (Gp (Gz (Hx (Gk (Gx cCB) Go)))) GD)
   (Gp (Gz (GQ DT hr1 rfl (Gk (GQ DW hr rfl (Gk (pv 2) Go)) Go))))),?_⟩
  refine⟨_,rfl,_,rfl,mt,m,rs,ls,rfl,hT,h14,hrs,hL,h512,fun hf H1 s1=>?_,fun hf H1 p s1 hp=>?_⟩
  ·refine⟨_,rfl,rfl,_,rfl,GV (fun _=>?_) fun z=>absurd (decide_eq_true rfl) z⟩;exact⟨(by show 1<=FT;decide),fun q hq=>kN hf _ q Gn⟩
  ·refine⟨_,rfl,rfl,_,rfl,GV (fun z=>?_) fun _=>?_⟩
   ·have z':V.ref p=V.non:=of_decide_eq_true z;cases z'
   ·have hln:∀n l,some (n,l)∈ls.map (JE rs)->n∈AJ:=fun n l hm=>by
     obtain⟨v,hv,e⟩:=AZ.mp hm;cases v with
     |none=>cases e
     |some nl=>obtain⟨n',l'⟩:=nl;cases e;exact hlen _ l' hv
    refine⟨_,rfl,p,ls.map (JE rs),rfl,hp,by rw[Aa];exact h512,hln,fun H2 q s2 hq=>⟨q,_,rfl,hq,?_,fun H3 z s3 hz=>kQ hf H3 z hz⟩⟩;rw[<-VP,Ac,Ad];have:=LQ LuteSong.commas (k:=3000) (ls.map (JE rs)) 0 fun n l hm=>⟨hln n l hm,RO l (hp.oks n l hm)⟩;rw[Aa] at this;have hh:(3000+4)*ls.length<=(3000+4)*512:=D1 _ h512;show 4+((Hy LuteSong.commas 0 (ls.map (JE rs))).flatMap fun q=>q++[10]).length+1<=5000000
    lia
theorem Aal:FnScope ["i","t"] ["i","t"] (Gq Ux):=⟨rfl,rfl,rfl,by decide +kernel,rfl,by decide +kernel,by decide +kernel⟩
theorem Zk{f:FP}{fd:FZ}(F:Fun K "of" "of" Ux f fd)(T:Txt K mg B C)(T2:Txt2 mg)(T3:Txt3 mg)(DA:Wm P w K mg base 41 "asked_of_texts" ["first","read_first","second","read_second","answer"] (Z3 P w K mg base C 40))
  (DN:Dfn P w K mg base C 10 "read_instrument" ["text"] (O3 K C)) (DP:Dfn P w K mg base C 16 "read_piece" ["text"] (MO K C)) (DS:Dfn P w K mg base C 23 "sung_text" ["courses","lines"] (Y3 K)):FnOk P w K mg base CX0 42 f fd ["i","t"] (spOf K):=by
 refine F.ok Aal (fun vs H Q E h=>?_) (fun cdv A outer s H vs Q E hr h=>?_)
 ·obtain⟨a,b,is,ts,rfl,_⟩:=h;rfl
 ·obtain⟨a,b,is,ts,rfl,hPt,hI,his,hS,hts,kQ⟩:=h;obtain⟨gi,hgi,CLi⟩:=DN.clb;obtain⟨gp,hgp,CLp⟩:=DP.clb;obtain⟨gs,hgs,CLs⟩:=DS.clb;have htx:∀t:Bytes,(tx t).length=t.length:=fun t=>by unfold tx;rw[Aa]
  rw[<-QY hts] at hS;rw[<-QY his] at hI;rw[of_eq] at kQ;generalize LuSongNeutral.bytes ts=t at *;generalize LuSongNeutral.bytes is=ti at *;refine⟨_,Gm (GS (PW.pt (OH (Gy Oz (G1 GY (by rfl) T.len PySem.boot_len (Gk (pv 1) Go)) (Gx T2.cMB) (GC _)) (LP (Gy Oz (G1 GY (by rfl) T.len PySem.boot_len (Gk (pv 0) Go)) (Gx T3.cMI) (GC _))))) (Gp (Gz (Hx (Gk (Gx T2.cTL) Go)))) GD)
   (Gp (Gz (RL DA hr rfl (Gk (pv 0) (Gk (Pi hgi) (Gk (pv 1) (Gk (Pi hgp) (Gk (Pi hgs) Go)))))))),?_⟩
  refine⟨_,rfl,b,_,rfl,.inl hS,_,_,rfl,rfl,_,rfl,?_⟩;rw[htx];refine Lx (b2:=decide ((4096:Int)<(ti.length:Int))) (fun Q' q=>⟨_,rfl,a,_,rfl,.inl hI,_,_,rfl,rfl,_,rfl,by rw[htx];exact q⟩) ?_;refine GV (fun h=>?_) fun h=>?_
  ·rw[Bn,decide_eq_true_eq,decide_eq_true_eq] at h;rw[Gj (by lia)] at kQ;exact⟨(by show 1<=FT;decide),fun p hp=>kQ _ p Gn⟩
  ·rw[Bn,decide_eq_true_eq,decide_eq_true_eq] at h;rw[Gi (by lia)] at kQ;refine⟨_,rfl,_,rfl,a,gi,b,gp,gs,1,O3 K C,_,_,rfl,(CLi H).mono (by decide),Ut hI,fun⟨x,hx⟩ H' p hp=>kQ H' p (by rw[hx];exact hp),?_⟩;rintro v1 H1 ⟨m1,ins,rfl,hins,hok,s1,hT⟩;rw[hins] at kQ;dsimp only at kQ;have hpq:=LuP.piece_eq t;refine⟨m1,1,MO K C,_,_,rfl,(CLp H1).mono (by decide),Tg (s1.seq hS) (fun x c' Pt hx h=>s1 _ _ (hPt x c' Pt hx h)),fun⟨x,hx⟩ H' p hp=>kQ H' p ?_,?_⟩
   ·rw[hx] at hpq;cases hr':CG t with
    |error e=>exact hp
    |ok z=>rw[hr'] at hpq;cases hpq
   ·rintro v2 H2 ⟨m2,ls,rfl,hls,kp,hL⟩;rw[hls] at hpq;cases hr':CG t with
    |error e=>rw[hr'] at hpq;cases hpq
    |ok z=>
     obtain⟨kd,pc⟩:=z;rw[hr'] at hpq kQ;have epc:pc=ls.map J0:=by have:Except.ok pc=(Except.ok (ls.map J0):Except Nat LuteTab.Piece):=hpq;injection this
     subst epc;dsimp only at kQ;obtain⟨p512,plen⟩:=LuP.piece_ok hls;rw[WV hok hL.oks] at kQ;refine⟨m2,2,Y3 K,rfl,(CLs H2).mono (by decide),m1,m2,tab ins,ls,rfl,hT.move kp,?_,Ui hok,hL,p512,plen,fun hf H' p hp=>?_,fun hf H' p hp=>?_⟩
     ·unfold tab;rw[Ac,BZ,Aa];exact hok.n14
     ·rw[Gj hf] at kQ;exact kQ H' p hp
     ·rw[Gi (by rw[hf];exact AY),VU hok hL.oks hf] at kQ;exact kQ H' p hp
end
end Lu
namespace L2
open PySem PySem.Spec PyProof.Rows
def GFn(K:Gh)(x:Str)(st:F6):Prop:=∃(f:FP) (oc:FO) (od:Option FP) (kV doc pm:FO) (an:Option FP) (cdv ct:FO) (sl:Array (Option FO)),As K FX x=some (some (.ref f)) ∧
 K.lookup f=some ⟨oc,od,.func (A5 x x (Hz st) (G5 st) (Gq st) .none kV doc pm an cdv ct),sl⟩/\Bf K cdv x=true/\AG K (.ref f)=true
def CFn(K:Gh)(B:FP)(m q:Str)(st:F6):Prop:=∃(f:FP) (oc:FO) (od:Option FP) (kV doc pm:FO) (an:Option FP) (cdv ct:FO) (sl:Array (Option FO)),AV K (.ref B) m=some (some (.ref f))/\BR K (.ref f)=true ∧
 K.lookup f=some ⟨oc,od,.func (A5 m q (Hz st) (G5 st) (Gq st) .none kV doc pm an cdv ct),sl⟩/\Bf K cdv q=true/\AG K (.ref f)=true
def Bd(x q:Str)(st:F6)(ps:List Str):Prop:=∀(kV doc pm:FO) (an:Option FP) (cdv ct:FO) (us:List FO),us.length=ps.length->bindArgs (A5 x q (Hz st) (G5 st) (Gq st) .none kV doc pm an cdv ct) ⟨us,[]⟩=pure (ps.zip us)
section
variable{P:FU}{w:F0}{K:Gh}{mg:Str->Option FO}{base h:Heap}{C B:FP}
theorem GFn.dfn{x:Str}{st:F6}{ps:List Str}{sp:Sp}{k:Nat}(g:GFn K x st)(X:K.In h)(G:h.Ns FX mg)(hb:Bd x x st ps)(H:∀f fd,Fun K x x st f fd->FnOk P w K mg base (CXF P w C) k f fd ps sp):Dfn P w K mg base C k x ps sp:=by obtain⟨f,oc,od,kV,doc,pm,an,cdv,ct,sl,a,l,c,kp⟩:=g;have F:=Ma (st:=st) l c kp;exact⟨f,_,H f _ F,Bs X G a,kp,F.binds hb⟩
theorem CFn.mth{m q:Str}{st:F6}{ps:List Str}{sp:Sp}{k:Nat}(g:CFn K B m q st)(c:Cls K B)(hb:Bd m q st ps)(H:∀f fd,Fun K m q st f fd->FnOk P w K mg base (CXF P w C) k f fd ps sp):Mth P w K mg base C B k m ps sp:=by obtain⟨f,oc,od,kV,doc,pm,an,cdv,ct,sl,a,i,l,cd,kp⟩:=g;have F:=Ma (st:=st) l cd kp;exact⟨f,_,H f _ F,c,⟨a,i,kp⟩,F.binds hb⟩
theorem CFn.mke{x q:Str}{st:F6}{ps:List Str}{sp:Sp}{k:Nat}(g:CFn K B "__init__" q st)(hm:mg x=some (.ref B))(mk:Df K B=true)(kc:AG K (.ref B)=true)(hb:Bd "__init__" q st ps)
  (H:∀f fd,Fun K "__init__" q st f fd->FnOk P w K mg base (CXF P w C) k f fd ps sp):Mke P w K mg base C B k x ps sp:=by
 obtain⟨f,oc,od,kV,doc,pm,an,cdv,ct,sl,a,i,l,cd,kp⟩:=g;have F:=Ma (st:=st) l cd kp;exact⟨f,_,H f _ F,⟨mk,a,i,kc⟩,hm,F.binds hb⟩
def Pb(es:Array Gb):Bool:=es.toList.all fun e=>match e.key with
 |.str _ _=>true
 |_=>false
theorem RG{K:Gh}{N:FP}{on:FO}{odn:Option FP}{es:Array Gb}{ep:Nat}{sln:Array (Option FO)}(l:K.lookup N=some ⟨on,odn,.dict es ep,sln⟩)(h:Pb es=true):Kq K N=true:=by unfold Kq;rw[l];exact h
def XIn(K:Gh)(C:FP)(st:F6):Prop:=∃(N fI:FP) (nm q:Str) (bs:List FO) (sn:List Str) (sub:List FO) (ab:Bool) (col:Option Bool) (dd:Option FP) (k0 k1 k2 k3 k5:Option FO) (oc:FO) (od:Option FP) (kV doc pm:FO) (an:Option FP) (cdv ct:FO) (sl:Array (Option FO)) (on:FO) (odn:Option FP) (es:Array Gb) (ep:Nat) (sln:Array (Option FO)),
 K.lookup C=some (excClassObj nm q C N bs LX.bmE true sn sub ab col dd k0 k1 k2 k3 k5 "Exception.__new__")/\K.lookup N=some ⟨on,odn,.dict es ep,sln⟩/\Pb es=true/\As K N "__init__"=some (some (.ref fI))/\As K N "place"=some none/\As K N "__setattr__"=some none ∧
 As K N "__getattribute__"=some none/\As K N "__getattr__"=some none/\AG K (.ref C)=true/\BR K (.ref fI)=true ∧
 K.lookup fI=some ⟨oc,od,.func (A5 "__init__" "Fault.__init__" (Hz st) (G5 st) (Gq st) .none kV doc pm an cdv ct),sl⟩/\Bf K cdv "Fault.__init__"=true/\AG K (.ref fI)=true
theorem XIn.xt{st:F6}{p1 p2 p3 p4:Pos}(g:XIn K C st)(S:FnScope ["self","place"] ["self","place"] (Gq st))(hbd:G5 st=[.Assign [.Attribute (.Name "self" p1) "place" p2] (.Name "place" p3) p4])
  (hl:(Gq st).names.lookup ("self":Str)=some .local/\(Gq st).names.lookup ("place":Str)=some .local) (hb:Bd "__init__" "Fault.__init__" st ["self","place"]):XTxt K C st:=by
 obtain⟨N,fI,nm,q,bs,sn,sub,ab,col,dd,k0,k1,k2,k3,k5,oc,od,kV,doc,pm,an,cdv,ct,sl,on,odn,es,ep,sln,a1,b1,b2,a3,a4,a5,a6,a7,a8,a9,l,cd,kp⟩:=g;have F:=Ma (st:=st) l cd kp;exact⟨N,fI,_,"Fault.__init__",p1,p2,p3,p4,⟨⟨nm,q,bs,sn,sub,ab,col,dd,k0,k1,k2,k3,k5,a1⟩,RG b1 b2,a3,a4,a5,a6,a7,a8,a9⟩,F,S,hbd,hl,F.binds hb⟩
def CI(K:Gh)(x:Str)(i:Int):Prop:=∃t,As K FX x=some (some (.int i t))
theorem CI.cst{x:Str}{i:Int}(c:CI K x i)(X:K.In h)(G:h.Ns FX mg):Cst mg x (.int i):=by obtain⟨t,e⟩:=c;exact⟨_,Bs X G e,t,rfl⟩
def CD(K:Gh)(x:Str)(kvs:List (Int×Int)):Prop:=∃(a:FP) (es:Array Gb) (n:Nat),As K FX x=some (some (.ref a))/\K.lookup a=some ⟨.type "dict",none,.dict es n,#[]⟩/\KPairs es.toList kvs/\(a==Gd)=false
theorem CD.at_{x:Str}{kvs:List (Int×Int)}(c:CD K x kvs)(nd:(kvs.map (·.1)).Nodup)(X:K.In h)(G:h.Ns FX mg):∃a,Cst mg x (.ref a)/\KDict K a kvs:=by obtain⟨a,es,n,e,l,p,s⟩:=c;exact⟨a,⟨_,Bs X G e,rfl⟩,⟨es,n,l,p⟩,nd,s⟩
inductive IntsB:List FO->List Int->Prop
 |nil:IntsB [] []
 |cons {i:Int} {t:Tok} {us:List FO} {ns:List Int}:IntsB us ns->IntsB (.int i t::us) (i::ns)
theorem IntsB.vals:∀{us:List FO} {ns:List Int},IntsB us ns->Vals (ns.map V.int) us
 |_,_,.nil=>.nil
 |_,_,.cons r=>.cons ⟨_,rfl⟩ r.vals
def CT(K:Gh)(x:Str)(ns:List Int):Prop:=∃(a:FP) (o:Obj) (its:List FO) (n:Nat),As K FX x=some (some (.ref a))/\K.lookup a=some o/\o.cls=.type "tuple"/\o.data=.seq its.toArray n/\IntsB its ns
theorem CT.at_{x:Str}{ns:List Int}(c:CT K x ns)(hz:ns.length<=1000)(X:K.In h)(G:h.Ns FX mg):∃a,Cst mg x (.ref a)/\∀H,SqT K H a (ns.map V.int):=by obtain⟨a,o,its,n,e,l,hc,hd,r⟩:=c;refine⟨a,⟨_,Bs X G e,rfl⟩,fun H=>.inr ⟨o,its.toArray,n,l,hc,hd,?_,by simpa using r.vals⟩⟩;have:=r.vals.length;rw[Aa] at this;rw[Aq,<-this];exact BB (JJ hz)
def CS(K:Gh)(x:Str)(s:Str):Prop:=∃t,As K FX x=some (some (.str s t))
theorem CS.cst{x:Str}{s:Str}(c:CS K x s)(X:K.In h)(G:h.Ns FX mg):Cst mg x (.str s):=by obtain⟨t,e⟩:=c;exact⟨_,Bs X G e,t,rfl⟩
theorem GFn.dfn0{x:Str}{st:F6}{ps:List Str}{sp:Sp}{k:Nat}(g:GFn K x st)(X:K.In h)(G:h.Ns FX mg)(hb:Bd x x st ps)(H:∀f fd,Fun K x x st f fd->FnOk P w K mg base CX0 k f fd ps sp):Wm P w K mg base k x ps sp:=by obtain⟨f,oc,od,kV,doc,pm,an,cdv,ct,sl,a,l,c,kp⟩:=g;have F:=Ma (st:=st) l c kp;exact⟨f,_,H f _ F,Bs X G a,kp,F.binds hb⟩
def GFnT(K:Gh)(x:Str)(st:F6):Prop:=∃(f:FP) (oc:FO) (od:Option FP) (kV doc pm:FO) (an:Option FP) (c:FP) (ct:FO) (sl:Array (Option FO)) (Pt:FP),As K FX x=some (some (.ref f)) ∧
 K.lookup f=some ⟨oc,od,.func (A5 x x (Hz st) (G5 st) (Gq st) .none kV doc pm an (.ref c) ct),sl⟩/\Bf K (.ref c) x=true/\AG K (.ref f)=true/\Ca K c Pt=true/\Bl K x=some (c,Pt)
theorem V2{x qual:Str}{st:F6}{f c Pt:FP}{oc:FO}{od an:Option FP}{osl:Array (Option FO)}{kV doc pm ct:FO}(l:K.lookup f=some ⟨oc,od,.func (A5 x qual (Hz st) (G5 st) (Gq st) .none kV doc pm an (.ref c) ct),osl⟩)
  (h:Bf K (.ref c) qual=true) (k:AG K (.ref f)=true) (hd:Ca K c Pt=true):FunT K x qual st f (A5 x qual (Hz st) (G5 st) (Gq st) .none kV doc pm an (.ref c) ct) c Pt:=⟨⟨oc,od,kV,doc,pm,an,ct,osl,rfl,l,h⟩,hd,k⟩
def Sl(vs:Array FO)(c Pt:FP):Bool:=(match (vs[11]?:Option FO) with | some (.ref P')=>P'==Pt | _=>false) &&
 (match vs.getD 18 .none with | .str _ _=>true | _=>false)&&(match vs.getD 7 .none with | .int _ _=>true | _=>false) &&
 (match vs.getD 9 .none with | .bool _=>true | _=>false)&&(match vs.getD 10 .none with | .int _ _=>true | _=>false)&&c != Pt
theorem Z7{c Pt:FP}{od:Option FP}{vs:Array FO}{sl:Array (Option FO)}(lc:K.lookup c=some ⟨.type "code",od,.fields vs,sl⟩)(h:Sl vs c Pt=true):Ca K c Pt=true:=by unfold Ca;rw[lc];exact h
theorem X3{x:Str}{f c Pt:FP}{oc:FO}{od od2:Option FP}{fd:FZ}{sl sl2:Array (Option FO)}{vs:Array FO}(a:As K FX x=some (some (.ref f)))(l:K.lookup f=some ⟨oc,od,.func fd,sl⟩)(lc:K.lookup c=some ⟨.type "code",od2,.fields vs,sl2⟩)(h11:vs[11]?=some (.ref Pt))(hc:fd.code=.ref c:=by rfl):Bl K x=some (c,Pt):=by unfold Bl;rw[a];dsimp only;rw[l];dsimp only;rw[hc];dsimp only;rw[lc];dsimp only;rw[h11]
def CDS(K:Gh)(x:Str)(kvs:List (Int×Str)):Prop:=∃(a:FP) (es:Array Gb) (n:Nat),As K FX x=some (some (.ref a))/\K.lookup a=some ⟨.type "dict",none,.dict es n,#[]⟩/\KPairsS es.toList kvs/\(a==Gd)=false
theorem CDS.at_{x:Str}{kvs:List (Int×Str)}(c:CDS K x kvs)(nd:(kvs.map (·.1)).Nodup)(X:K.In h)(G:h.Ns FX mg):∃a,Cst mg x (.ref a)/\KDictS K a kvs:=by obtain⟨a,es,n,e,l,p,s⟩:=c;exact⟨a,⟨_,Bs X G e,rfl⟩,⟨es,n,l,p⟩,nd,s⟩
theorem KPairsS.put{k:Int}{x:Str}{t u:Tok}{hs:_}{es:List Gb}{kvs:List (Int×Str)}(e:hs=hashInt k)(q:KPairsS es kvs):KPairsS (⟨hs,.int k t,.str x u⟩::es) ((k,x)::kvs):=by subst e;exact .cons q
theorem CDS.mk{x:Str}{kvs:List (Int×Str)}{p:FP}{es:Array Gb}{n:Nat}(a:As K FX x=some (some (.ref p)))(b:K.lookup p=some ⟨.type "dict",none,.dict es n,#[]⟩)(c:KPairsS es.toList kvs)(d:(p==Gd)=false):CDS K x kvs:=⟨p,es,n,a,b,c,d⟩
inductive StrsB:List FO->List Str->Prop
 |nil:StrsB [] []
 |cons {x:Str} {t:Tok} {us:List FO} {xs:List Str}:StrsB us xs->StrsB (.str x t::us) (x::xs)
theorem StrsB.vals:∀{us:List FO} {xs:List Str},StrsB us xs->Vals (xs.map V.str) us
 |_,_,.nil=>.nil
 |_,_,.cons r=>.cons ⟨_,rfl⟩ r.vals
def CTS(K:Gh)(x:Str)(xs:List Str):Prop:=∃(a:FP) (o:Obj) (its:List FO) (n:Nat),As K FX x=some (some (.ref a))/\K.lookup a=some o/\o.cls=.type "tuple"/\o.data=.seq its.toArray n/\StrsB its xs
theorem CTS.at_{x:Str}{xs:List Str}(c:CTS K x xs)(hz:xs.length<=1000)(X:K.In h)(G:h.Ns FX mg):∃a,Cst mg x (.ref a)/\∀H,SqT K H a (xs.map V.str):=by obtain⟨a,o,its,n,e,l,hc,hd,r⟩:=c;refine⟨a,⟨_,Bs X G e,rfl⟩,fun H=>.inr ⟨o,its.toArray,n,l,hc,hd,?_,by simpa using r.vals⟩⟩;have:=r.vals.length;rw[Aa] at this;rw[Aq,<-this];exact BB (JJ hz)
theorem CTS.mk{x:Str}{xs:List Str}{a:FP}{dd:Option FP}{its:List FO}{n:Nat}{sl:Array (Option FO)}(e:As K FX x=some (some (.ref a)))(l:K.lookup a=some ⟨.type "tuple",dd,.seq its.toArray n,sl⟩)(r:StrsB its xs):CTS K x xs:=⟨a,_,its,n,e,l,rfl,rfl,r⟩
theorem GFnT.dfnT{x:Str}{st:F6}{ps:List Str}{sp:Sp}{k:Nat}(g:GFnT K x st)(X:K.In h)(G:h.Ns FX mg)(hb:Bd x x st ps)(H:∀f fd c Pt,FunT K x x st f fd c Pt->Bl K x=some (c,Pt)->FnOk P w K mg base (CXF P w C) k f fd ps sp):Dfn P w K mg base C k x ps sp:=by obtain⟨f,oc,od,kV,doc,pm,an,c,ct,sl,Pt,a,l,c1,kp,hd,hT⟩:=g;have F:=V2 (st:=st) l c1 kp hd;exact⟨f,_,H f _ c Pt F hT,Bs X G a,kp,F.fn.binds hb⟩
end
end L2
namespace Lu
open PySem PySem.Spec PyProof.Rows L2 Lute LuR LuW LuteSong
open PySem.W (Codec)
structure All(K:Gh)(B C:FP):Prop where
 nB:As K FX "Cursor"=some (some (.ref B))
 nC:As K FX "Fault"=some (some (.ref C))
 pg:Cr K B Str.empty=true
 hd:CU K B=true
 po:DY K B=true
 sa:AV K (.ref B) "__setattr__"=some (some (.builtin "object.__setattr__"))
 mkB:Df K B=true
 kc:AG K (.ref B)=true
 nT:AV K (.ref B) "text"=some none
 nP:AV K (.ref B) "place"=some none
 nE:AV K (.ref B) "end"=some none
 x:XIn K C Jb
 z_len:As K FX "len"=some none
 z_abs:As K FX "abs"=some none
 z_sum:As K FX "sum"=some none
 z_zip:As K FX "zip"=some none
 z_ord:As K FX "ord"=some none
 z_tuple:As K FX "tuple"=some none
 z_enumerate:As K FX "enumerate"=some none
 z_range:As K FX "range"=some none
 z_str:As K FX "str"=some none
 z_sorted:As K FX "sorted"=some none
 m_Cursor_init:CFn K B "__init__" "Cursor.__init__" IH
 m_Cursor_byte:CFn K B "byte" "Cursor.byte" IF
 m_Cursor_advance:CFn K B "advance" "Cursor.advance" HX
 m_Cursor_take:CFn K B "take" "Cursor.take" ID
 m_Cursor_take_word:CFn K B "take_word" "Cursor.take_word" HF
 f_width:GFn K "width" Lo
 f_is_within_bounds:GFn K "is_within_bounds" HG
 f_upon:GFn K "upon" LV
 f_common_factor_of_all:GFn K "common_factor_of_all" Hf
 f_common_factor:GFn K "common_factor" HP
 f_interval_text:GFn K "interval_text" Ib
 f_power_text:GFn K "power_text" IW
 f_read_interval:GFn K "read_interval" Ia
 f_read_factors:GFn K "read_factors" Iq
 f_read_digit_of_factor:GFn K "read_digit_of_factor" Hk
 f_read_power:GFn K "read_power" IY
 f_read_signed_number:GFn K "read_signed_number" Hs
 f_read_number:GFn K "read_number" IG
 f_with_common_parts:GFn K "with_common_parts" He
 f_read_instrument:GFn K "read_instrument" HS
 f_read_string_length:GFn K "read_string_length" Hv
 f_read_fret:GFn K "read_fret" Jy
 f_read_course:GFn K "read_course" II
 f_read_bass:GFn K "read_bass" Jr
 f_begin_line:GFn K "begin_line" IX
 f_read_line_interval:GFn K "read_line_interval" Hu
 f_song_of_piece:GFn K "song_of_piece" HM
 f_read_lines:GFn K "read_lines" Jc
 f_read_length:GFn K "read_length" IK
 f_read_length_sign:GFn K "read_length_sign" HI
 f_write_lines:GFn K "write_lines" HZ
 f_read_piece:GFnT K "read_piece" G9
 f_read_lines_by_frets:GFnT K "read_lines_by_frets" GK
 f_sign_table:GFn K "sign_table" Ir
 f_read_sign:GFn K "read_sign" JA
 f_fret_table:GFn K "fret_table" Io
 f_bass_table:GFn K "bass_table" Ii
 f_german_table:GFn K "german_table" Im
 f_german_sign:GFn K "german_sign" IJ
 f_read_stops_by_frets:GFn K "read_stops_by_frets" Hq
 f_read_german_stops:GFn K "read_german_stops" HA
 f_read_lower_stop:GFn K "read_lower_stop" HR
 f_write_song:GFn K "write_song" IZ
 f_notes_text:GFn K "notes_text" Ij
 f_of:GFn K "of" Ux
 f_asked_of_texts:GFn K "asked_of_texts" HW
 f_read_or_none:GFn K "read_or_none" Iw
 f_sung_text:GFn K "sung_text" Jx
 f_told_text:GFn K "told_text" Jv
 c_END:CI K "END" (-1)
 c_NEW_LINE:CI K "NEW_LINE" 10
 c_BLANK:CI K "BLANK" 32
 c_POINT:CI K "POINT" 46
 c_MINUS:CI K "MINUS" 45
 c_SLASH:CI K "SLASH" 47
 c_ZERO:CI K "ZERO" 48
 c_ONE:CI K "ONE" 49
 c_NINE:CI K "NINE" 57
 c_CARET:CI K "CARET" 94
 c_MOST_DIGITS:CI K "MOST_DIGITS" 4
 c_MOST_POWER:CI K "MOST_POWER" 99
 c_MOST_PARTS:CI K "MOST_PARTS" 24
 c_COMMON_PARTS:CI K "COMMON_PARTS" 5354228880
 c_LETTER_B:CI K "LETTER_B" 98
 c_LETTER_C:CI K "LETTER_C" 99
 c_LETTER_F:CI K "LETTER_F" 102
 c_LEAST_LENGTH:CI K "LEAST_LENGTH" 10000
 c_MOST_LENGTH:CI K "MOST_LENGTH" 200000
 c_MOST_LENGTH_DIGITS:CI K "MOST_LENGTH_DIGITS" 7
 c_MOST_FRETS:CI K "MOST_FRETS" 15
 c_MOST_COURSES:CI K "MOST_COURSES" 14
 c_STOPPED_COURSES:CI K "STOPPED_COURSES" 6
 c_BAR_SIGN:CI K "BAR_SIGN" 124
 c_MOST_LINES:CI K "MOST_LINES" 512
 c_FRENCH:CI K "FRENCH" 0
 c_ITALIAN:CI K "ITALIAN" 1
 c_FRETS:CI K "FRETS" 16
 c_FIRST_BASS:CI K "FIRST_BASS" 7
 c_LAST_COURSE:CI K "LAST_COURSE" 14
 c_NO_STOP:CI K "NO_STOP" (-1)
 c_TOO_LONG:CI K "TOO_LONG" (-2)
 c_CANNOT_BE:CI K "CANNOT_BE" (-3)
 c_NO_FIRST_TEXT:CI K "NO_FIRST_TEXT" (-6)
 c_NO_SECOND_TEXT:CI K "NO_SECOND_TEXT" (-8)
 c_MOST_BYTES:CI K "MOST_BYTES" 65536
 c_MOST_INSTRUMENT_BYTES:CI K "MOST_INSTRUMENT_BYTES" 4096
 c_FACTOR_SIGNS:CS K "FACTOR_SIGNS" "2357"
 c_FRENCH_FRETS:CS K "FRENCH_FRETS" "abcdefghiklmnopq"
 c_ITALIAN_FRETS:CS K "ITALIAN_FRETS" "0123456789xyzvuw"
 c_GERMAN_SIXTH:CS K "GERMAN_SIXTH" "+ABCDEFGHIKLMNOP"
 c_GERMAN_CROSSINGS:CS K "GERMAN_CROSSINGS" "abcdefghiklmnopqrstvxyz&9"
 c_FIRST_LINE:CS K "FIRST_LINE" "song"
 c_FACTORS:CD K "FACTORS" [(50,0),(51,1),(53,2),(55,3)]
 c_LENGTHS:CD K "LENGTHS" [(120,1),(116,2),(115,4),(101,8),(113,16),(104,32),(119,64)]
 c_LOGARITHMS:CT K "LOGARITHMS" [6931471805599453094172321214581765680755,10986122886681096913952452369225257046474,16094379124341003746007593332261876395256,19459101490553133051053527434431797296370]
 c_UNISON:CT K "UNISON" [0,0,0,0,1]
 c_LENGTH_SIGNS:CDS K "LENGTH_SIGNS" OB
 c_KIND_NAMES:CTS K "KIND_NAMES" ["french","italian","german"]
 c_FRENCH_BASSES:CTS K "FRENCH_BASSES" ["a","/a","//a","///a","4","5","6","7"]
 c_ITALIAN_BASSES:CTS K "ITALIAN_BASSES" ["7","8","9","10","11","12","13","14"]
theorem Ve:Bd "width" "width" Lo ["interval"]:=fun _ _ _ _ _ _=>len_1 fun _=>rfl
theorem KI:Bd "is_within_bounds" "is_within_bounds" HG ["numbers"]:=fun _ _ _ _ _ _=>len_1 fun _=>rfl
theorem W5:Bd "upon" "upon" LV ["x","y"]:=fun _ _ _ _ _ _=>len_2 fun _ _=>rfl
theorem JI:Bd "common_factor_of_all" "common_factor_of_all" Hf ["numbers"]:=fun _ _ _ _ _ _=>len_1 fun _=>rfl
theorem JR:Bd "common_factor" "common_factor" HP ["a","b"]:=fun _ _ _ _ _ _=>len_2 fun _ _=>rfl
theorem L7:Bd "interval_text" "interval_text" Ib ["interval"]:=fun _ _ _ _ _ _=>len_1 fun _=>rfl
theorem Og:Bd "power_text" "power_text" IW ["power","parts"]:=fun _ _ _ _ _ _=>len_2 fun _ _=>rfl
theorem LN:Bd "read_interval" "read_interval" Ia ["text","start","end"]:=fun _ _ _ _ _ _=>len_3 fun _ _ _=>rfl
theorem My:Bd "read_factors" "read_factors" Iq ["cursor","powers"]:=fun _ _ _ _ _ _=>len_2 fun _ _=>rfl
theorem JG:Bd "read_digit_of_factor" "read_digit_of_factor" Hk ["cursor"]:=fun _ _ _ _ _ _=>len_1 fun _=>rfl
theorem Oh:Bd "read_power" "read_power" IY ["cursor","start"]:=fun _ _ _ _ _ _=>len_2 fun _ _=>rfl
theorem Kd:Bd "read_signed_number" "read_signed_number" Hs ["cursor"]:=fun _ _ _ _ _ _=>len_1 fun _=>rfl
theorem Ng:Bd "read_number" "read_number" IG ["cursor"]:=fun _ _ _ _ _ _=>len_1 fun _=>rfl
theorem Ki:Bd "with_common_parts" "with_common_parts" He ["powers"]:=fun _ _ _ _ _ _=>len_1 fun _=>rfl
theorem K9:Bd "read_instrument" "read_instrument" HS ["text"]:=fun _ _ _ _ _ _=>len_1 fun _=>rfl
theorem Kc:Bd "read_string_length" "read_string_length" Hv ["cursor"]:=fun _ _ _ _ _ _=>len_1 fun _=>rfl
theorem OW:Bd "read_fret" "read_fret" Jy ["cursor","frets"]:=fun _ _ _ _ _ _=>len_2 fun _ _=>rfl
theorem N4:Bd "read_course" "read_course" II ["cursor","frets","courses_before"]:=fun _ _ _ _ _ _=>len_3 fun _ _ _=>rfl
theorem PN:Bd "read_bass" "read_bass" Jr ["cursor","courses_before"]:=fun _ _ _ _ _ _=>len_2 fun _ _=>rfl
theorem Of:Bd "begin_line" "begin_line" IX ["cursor","word","lines_before","most"]:=fun _ _ _ _ _ _=>len_4 fun _ _ _ _=>rfl
theorem Kb:Bd "read_line_interval" "read_line_interval" Hu ["cursor"]:=fun _ _ _ _ _ _=>len_1 fun _=>rfl
theorem L5:Bd "song_of_piece" "song_of_piece" HM ["courses","lines"]:=fun _ _ _ _ _ _=>len_2 fun _ _=>rfl
theorem Oc:Bd "read_lines" "read_lines" Jc ["cursor","read_content"]:=fun _ _ _ _ _ _=>len_2 fun _ _=>rfl
theorem Nl:Bd "read_length" "read_length" IK ["cursor","before"]:=fun _ _ _ _ _ _=>len_2 fun _ _=>rfl
theorem KF:Bd "read_length_sign" "read_length_sign" HI ["cursor"]:=fun _ _ _ _ _ _=>len_1 fun _=>rfl
theorem NO:Bd "write_lines" "write_lines" HZ ["first","lines","content_text"]:=fun _ _ _ _ _ _=>len_3 fun _ _ _=>rfl
theorem Oj:Bd "read_piece" "read_piece" G9 ["text"]:=fun _ _ _ _ _ _=>len_1 fun _=>rfl
theorem JZ:Bd "read_lines_by_frets" "read_lines_by_frets" GK ["cursor","fret_signs","bass_signs","courses"]:=fun _ _ _ _ _ _=>len_4 fun _ _ _ _=>rfl
theorem Od:Bd "sign_table" "sign_table" Ir ["told"]:=fun _ _ _ _ _ _=>len_1 fun _=>rfl
theorem PU:Bd "read_sign" "read_sign" JA ["cursor","table"]:=fun _ _ _ _ _ _=>len_2 fun _ _=>rfl
theorem N5:Bd "fret_table" "fret_table" Io ["signs"]:=fun _ _ _ _ _ _=>len_1 fun _=>rfl
theorem Ob:Bd "bass_table" "bass_table" Ii ["signs"]:=fun _ _ _ _ _ _=>len_1 fun _=>rfl
theorem Mz:Bd "german_table" "german_table" Im []:=fun _ _ _ _ _ _ us hl=>match us,hl with | [],_=>rfl
theorem M0:Bd "german_sign" "german_sign" IJ ["course","fret"]:=fun _ _ _ _ _ _=>len_2 fun _ _=>rfl
theorem JX:Bd "read_stops_by_frets" "read_stops_by_frets" Hq ["cursor","frets","basses","courses"]:=fun _ _ _ _ _ _=>len_4 fun _ _ _ _=>rfl
theorem Ko:Bd "read_german_stops" "read_german_stops" HA ["cursor","signs"]:=fun _ _ _ _ _ _=>len_2 fun _ _=>rfl
theorem K3:Bd "read_lower_stop" "read_lower_stop" HR ["cursor","signs","stops"]:=fun _ _ _ _ _ _=>len_3 fun _ _ _=>rfl
theorem Om:Bd "write_song" "write_song" IZ ["lines"]:=fun _ _ _ _ _ _=>len_1 fun _=>rfl
theorem N8:Bd "notes_text" "notes_text" Ij ["notes"]:=fun _ _ _ _ _ _=>len_1 fun _=>rfl
theorem ZC:Bd "of" "of" Ux ["i","t"]:=fun _ _ _ _ _ _=>len_2 fun _ _=>rfl
theorem Lz:Bd "asked_of_texts" "asked_of_texts" HW ["first","read_first","second","read_second","answer"]:=fun _ _ _ _ _ _=>len_5 fun _ _ _ _ _=>rfl
theorem MB:Bd "read_or_none" "read_or_none" Iw ["read","text"]:=fun _ _ _ _ _ _=>len_2 fun _ _=>rfl
theorem PM:Bd "sung_text" "sung_text" Jx ["courses","lines"]:=fun _ _ _ _ _ _=>len_2 fun _ _=>rfl
theorem Pu:Bd "told_text" "told_text" Jv ["text"]:=fun _ _ _ _ _ _=>len_1 fun _=>rfl
theorem Oi:Bd "__init__" "Fault.__init__" Jb ["self","place"]:=fun _ _ _ _ _ _=>len_2 fun _ _=>rfl
theorem N3:Bd "__init__" "Cursor.__init__" IH ["self","text","place","end"]:=fun _ _ _ _ _ _=>len_4 fun _ _ _ _=>rfl
theorem NC:Bd "byte" "Cursor.byte" IF ["self"]:=fun _ _ _ _ _ _=>len_1 fun _=>rfl
theorem Lq:Bd "advance" "Cursor.advance" HX ["self"]:=fun _ _ _ _ _ _=>len_1 fun _=>rfl
theorem NZ:Bd "take" "Cursor.take" ID ["self","wanted"]:=fun _ _ _ _ _ _=>len_2 fun _ _=>rfl
theorem KH:Bd "take_word" "Cursor.take_word" HF ["self","word"]:=fun _ _ _ _ _ _=>len_2 fun _ _=>rfl
theorem Aaz:FnScope ["self","place"] ["self","place"] (Gq Jb):=⟨rfl,rfl,rfl,by decide +kernel,rfl,by decide +kernel,by decide +kernel⟩
section
variable{P:FU}{w:F0}{K:Gh}{mg:Str->Option FO}{h:Heap}{B C:FP}
theorem All.txt(A:All K B C)(X:K.In h)(G:h.Ns FX mg):Txt K mg B C where
 cl:=⟨A.pg,A.hd,A.po,A.sa⟩
 nT:=A.nT
 nP:=A.nP
 nE:=A.nE
 xt:=A.x.xt Aaz rfl ⟨rfl,rfl⟩ Oi
 mC:=Bs X G A.nC
 len:=A8 X G A.z_len
 abs:=A8 X G A.z_abs
 sum:=A8 X G A.z_sum
 zip:=A8 X G A.z_zip
 ord:=A8 X G A.z_ord
 cEND:=A.c_END.cst X G
 cMINUS:=A.c_MINUS.cst X G
 cSLASH:=A.c_SLASH.cst X G
 cZERO:=A.c_ZERO.cst X G
 cONE:=A.c_ONE.cst X G
 cNINE:=A.c_NINE.cst X G
 cCARET:=A.c_CARET.cst X G
 cMD:=A.c_MOST_DIGITS.cst X G
 cMP:=A.c_MOST_POWER.cst X G
 cMA:=A.c_MOST_PARTS.cst X G
 cCP:=A.c_COMMON_PARTS.cst X G
 cNL:=A.c_NEW_LINE.cst X G
 cPO:=A.c_POINT.cst X G
 cBS:=A.c_BAR_SIGN.cst X G
 cBI:=A.c_BLANK.cst X G
 cBT:=A.c_BLANK.cst X G
 cML:=A.c_MOST_LINES.cst X G
 fst:=A.c_FIRST_LINE.cst X G
 fac:=A.c_FACTORS.at_ (by decide) X G
 lgs:=A.c_LENGTHS.at_ (by decide) X G
 log:=A.c_LOGARITHMS.at_ (by decide) X G
theorem all_mk{fa:FP}(X:K.In h)(G:h.Ns FX mg)(hfa:mg "of"=some (.ref fa))(A:All K B C):
  ∃fd:FZ,(∀(s:FS) (us:List FO),us.length=(["i","t"]:List Str).length->BindsTo s fd ⟨us,[]⟩ ((["i","t"]:List Str).zip us))/\∀base:Heap,K.In base->base.Ns FX mg->QX base mg->FnOk P w K mg base CX0 42 fa fd ["i","t"] (spOf K):=by
 obtain⟨f,oc,od,kV,doc,pm,an,cdv,ct,sl,a,l,c,kp⟩:=A.f_of;have e:=hfa.symm.trans (Bs X G a);cases e;have F:=Ma (st:=Ux) l c kp;refine⟨_,fun s us hu=>.of_eq (ZC kV doc pm an cdv ct us hu),fun base _ _ BM=>?_⟩;have T:=A.txt X G;have M:Crs P w K mg base B C:=⟨A.m_Cursor_byte.mth T.cl NC fun f fd F=>U8 F T,A.m_Cursor_advance.mth T.cl Lq fun f fd F=>Xq F T⟩;have MT:Mth P w K mg base C B 3 "take" ["self","wanted"] (IB K B C):=A.m_Cursor_take.mth T.cl NZ fun f fd F=>VG F T M;have MW:Mth P w K mg base C B 4 "take_word" ["self","word"] (Pe K B C):=A.m_Cursor_take_word.mth T.cl KH fun f fd F=>Vu F T MT;have DI:Mke P w K mg base C B 1 "Cursor" ["self","text","place","end"] (MV B):=A.m_Cursor_init.mke (Bs X G A.nB) A.mkB A.kc N3 fun f fd F=>VQ F T;have D_read_number:=A.f_read_number.dfn (P:=P) (w:=w) (base:=base) (C:=C) X G Ng fun f fd F=>Tr F T M;have D_read_signed_number:=A.f_read_signed_number.dfn (P:=P) (w:=w) (base:=base) (C:=C) X G Kd fun f fd F=>SY F T M D_read_number;have D_common_factor:=A.f_common_factor.dfn (P:=P) (w:=w) (base:=base) (C:=C) X G JR fun f fd F=>YL F T;have D_read_digit_of_factor:=A.f_read_digit_of_factor.dfn (P:=P) (w:=w) (base:=base) (C:=C) X G JG fun f fd F=>UD F T M;have D_read_power:=A.f_read_power.dfn (P:=P) (w:=w) (base:=base) (C:=C) X G Oh fun f fd F=>UZ F T M D_read_number D_read_signed_number D_common_factor;have D_read_factors:=A.f_read_factors.dfn (P:=P) (w:=w) (base:=base) (C:=C) X G My fun f fd F=>Q3 F T M D_read_digit_of_factor D_read_power;have D_with_common_parts:=A.f_with_common_parts.dfn (P:=P) (w:=w) (base:=base) (C:=C) X G Ki fun f fd F=>Tq F T D_common_factor;have D_is_within_bounds:=A.f_is_within_bounds.dfn (P:=P) (w:=w) (base:=base) (C:=C) X G KI fun f fd F=>SO F T;have D_width:=A.f_width.dfn (P:=P) (w:=w) (base:=base) (C:=C) X G Ve fun f fd F=>Vf F T;have D_read_interval:=A.f_read_interval.dfn (P:=P) (w:=w) (base:=base) (C:=C) X G LN fun f fd F=>Qi F T M DI D_read_factors D_with_common_parts D_is_within_bounds;have D_read_length_sign:=A.f_read_length_sign.dfn (P:=P) (w:=w) (base:=base) (C:=C) X G KF fun f fd F=>WF F T M;have D_read_length:=A.f_read_length.dfn (P:=P) (w:=w) (base:=base) (C:=C) X G Nl fun f fd F=>Ti F T M MT D_read_length_sign;have D_read_lines:=A.f_read_lines.dfn (P:=P) (w:=w) (base:=base) (C:=C) X G Oc fun f fd F=>Vj F T M MT D_read_length;have T2:Txt2 mg:=⟨A.c_TOO_LONG.cst X G,A.c_NO_FIRST_TEXT.cst X G,A.c_MOST_BYTES.cst X G⟩;have T3:Txt3 mg:=⟨A.c_NO_SECOND_TEXT.cst X G,A.c_MOST_INSTRUMENT_BYTES.cst X G⟩;have TI:TxI K mg:=⟨A.c_MOST_LENGTH_DIGITS.cst X G,A.c_LEAST_LENGTH.cst X G,A.c_MOST_LENGTH.cst X G,A.c_MOST_FRETS.cst X G,A.c_MOST_COURSES.cst X G,A.c_STOPPED_COURSES.cst X G,A.c_LETTER_B.cst X G,A.c_LETTER_C.cst X G,A.c_LETTER_F.cst X G,A.c_UNISON.at_ (by decide) X G⟩;have D_gcdZ:=A.f_common_factor.dfn (P:=P) (w:=w) (base:=base) (C:=C) X G JR fun f fd F=>Sk F T;have D_cfa:=A.f_common_factor_of_all.dfn (P:=P) (w:=w) (base:=base) (C:=C) X G JI fun f fd F=>YB F D_gcdZ;have D_upon:=A.f_upon.dfn (P:=P) (w:=w) (base:=base) (C:=C) X G W5 fun f fd F=>V3 F T (A8 X G A.z_tuple) D_cfa
 have D_bl:=A.f_begin_line.dfn (P:=P) (w:=w) (base:=base) (C:=C) X G Of fun f fd F=>Aaa F T MT MW;have D_lin:=A.f_read_line_interval.dfn (P:=P) (w:=w) (base:=base) (C:=C) X G Kb fun f fd F=>YE F T M D_read_interval;have D_sl:=A.f_read_string_length.dfn (P:=P) (w:=w) (base:=base) (C:=C) X G Kc fun f fd F=>ZW F T TI M MT MW;have D_fret:=A.f_read_fret.dfn (P:=P) (w:=w) (base:=base) (C:=C) X G OW fun f fd F=>WH F T TI MT D_bl D_lin D_width;have D_course:=A.f_read_course.dfn (P:=P) (w:=w) (base:=base) (C:=C) X G N4 fun f fd F=>To F T TI MT D_bl D_lin D_upon D_is_within_bounds;have D_bass:=A.f_read_bass.dfn (P:=P) (w:=w) (base:=base) (C:=C) X G PN fun f fd F=>WO F T TI MT D_bl D_lin;have D_inst:=A.f_read_instrument.dfn (P:=P) (w:=w) (base:=base) (C:=C) X G K9 fun f fd F=>Wh F T TI M DI D_sl D_fret D_course D_bass;have D_ron:=A.f_read_or_none.dfn0 (P:=P) (w:=w) (base:=base) X G MB fun f fd F=>X6 (C:=C) F T;have D_at:=A.f_asked_of_texts.dfn0 (P:=P) (w:=w) (base:=base) X G Lz fun f fd F=>SU (C:=C) (k:=40) (by decide) F T2 T3 D_ron;have D_powt:=A.f_power_text.dfn (P:=P) (w:=w) (base:=base) (C:=C) X G Og fun f fd F=>WC F D_gcdZ;have D_ivt:=A.f_interval_text.dfn (P:=P) (w:=w) (base:=base) (C:=C) X G L7 fun f fd F=>Yt F T (A.c_FACTOR_SIGNS.cst X G) D_powt;have D_nott:=A.f_notes_text.dfn (P:=P) (w:=w) (base:=base) (C:=C) X G N8 fun f fd F=>Wj F D_ivt;have D_write:=A.f_write_lines.dfn (P:=P) (w:=w) (base:=base) (C:=C) X G NO fun f fd F=>UJ F T (A.c_LENGTH_SIGNS.at_ (by decide) X G);have D_wsong:=A.f_write_song.dfn (P:=P) (w:=w) (base:=base) (C:=C) X G Om fun f fd F=>Vq F T D_write D_nott;have D_told:=A.f_told_text.dfn (P:=P) (w:=w) (base:=base) (C:=C) X G Pu fun f fd F=>Ws F T;have TS:TxS mg:=⟨A8 X G A.z_tuple,A8 X G A.z_range⟩;have TT:TxT mg:=⟨A8 X G A.z_enumerate,A.c_NO_STOP.cst X G,A.c_FIRST_BASS.cst X G⟩;have TG:TxG mg:=⟨A8 X G A.z_str,A.c_GERMAN_SIXTH.cst X G,A.c_GERMAN_CROSSINGS.cst X G,A.c_FRETS.cst X G,A.c_LAST_COURSE.cst X G⟩;have TK:TxK K mg:=⟨A.c_FRENCH.cst X G,A.c_ITALIAN.cst X G,A.c_FRENCH_FRETS.cst X G,A.c_ITALIAN_FRETS.cst X G,A.c_KIND_NAMES.at_ (by decide) X G,A.c_FRENCH_BASSES.at_ (by decide) X G,A.c_ITALIAN_BASSES.at_ (by decide) X G⟩;have zs:=A8 X G A.z_sorted;have D_st:=A.f_sign_table.dfn (P:=P) (w:=w) (base:=base) (C:=C) X G Od fun f fd F=>Zg F T TS;have D_sg:=A.f_read_sign.dfn (P:=P) (w:=w) (base:=base) (C:=C) X G PU fun f fd F=>Zu F T M;have D_ft:=A.f_fret_table.dfn (P:=P) (w:=w) (base:=base) (C:=C) X G N5 fun f fd F=>ZN F TT D_st;have D_bt:=A.f_bass_table.dfn (P:=P) (w:=w) (base:=base) (C:=C) X G Ob fun f fd F=>ZB F TT D_st;have D_gs:=A.f_german_sign.dfn (P:=P) (w:=w) (base:=base) (C:=C) X G M0 fun f fd F=>Aar F TT TG;have D_gt:=A.f_german_table.dfn (P:=P) (w:=w) (base:=base) (C:=C) X G Mz fun f fd F=>Zs F TS TT TG D_st D_gs;have D_lo:=A.f_read_lower_stop.dfn (P:=P) (w:=w) (base:=base) (C:=C) X G K3 fun f fd F=>Zh F T D_sg;have D_ge:=A.f_read_german_stops.dfn (P:=P) (w:=w) (base:=base) (C:=C) X G Ko fun f fd F=>Aaq F T M D_sg D_lo;have D_sf:=A.f_read_stops_by_frets.dfn (P:=P) (w:=w) (base:=base) (C:=C) X G JX fun f fd F=>Z2 F T TT zs M D_sg D_lo
 have D_lf:=A.f_read_lines_by_frets.dfnT (P:=P) (w:=w) (base:=base) (C:=C) X G JZ fun f fd c Pt F hT=>ZP F BM hT D_ft D_bt D_read_lines D_sf;have D_rp:=A.f_read_piece.dfnT (P:=P) (w:=w) (base:=base) (C:=C) X G Oj fun f fd c Pt F hT=>ZG F BM hT T TT TK MT DI D_st D_sg D_lf D_gt D_read_lines D_ge;have D_sp:=A.f_song_of_piece.dfn (P:=P) (w:=w) (base:=base) (C:=C) X G L5 fun f fd F=>Aab F T.len zs D_width;have D_su:=A.f_sung_text.dfn (P:=P) (w:=w) (base:=base) (C:=C) X G PM fun f fd F=>Aai F (A.c_CANNOT_BE.cst X G) D_sp D_wsong D_told;exact Zk (C:=C) F T T2 T3 D_at D_inst D_rp D_su
end
end Lu
namespace L2
open PySem PySem.Spec PyProof.Rows
section
variable{K:Gh}
theorem GFn.mk{x:Str}{st:F6}{f:FP}{oc:FO}{od an:Option FP}{sl:Array (Option FO)}{kV doc pm cdv ct:FO}(a:As K FX x=some (some (.ref f)))
  (l:K.lookup f=some ⟨oc,od,.func (A5 x x (Hz st) (G5 st) (Gq st) .none kV doc pm an cdv ct),sl⟩) (c:Bf K cdv x=true) (k:AG K (.ref f)=true):GFn K x st:=⟨f,oc,od,kV,doc,pm,an,cdv,ct,sl,a,l,c,k⟩
theorem CFn.mk{B:FP}{m q:Str}{st:F6}{f:FP}{oc:FO}{od an:Option FP}{sl:Array (Option FO)}{kV doc pm cdv ct:FO}(a:AV K (.ref B) m=some (some (.ref f)))(i:BR K (.ref f)=true)
  (l:K.lookup f=some ⟨oc,od,.func (A5 m q (Hz st) (G5 st) (Gq st) .none kV doc pm an cdv ct),sl⟩) (c:Bf K cdv q=true) (k:AG K (.ref f)=true):CFn K B m q st:=⟨f,oc,od,kV,doc,pm,an,cdv,ct,sl,a,i,l,c,k⟩
theorem XIn.mk{C N fI:FP}{st:F6}{nm q:Str}{bs:List FO}{sn:List Str}{sub:List FO}{ab:Bool}{col:Option Bool}{dd:Option FP}{k0 k1 k2 k3 k5:Option FO}{oc on:FO}{od odn an:Option FP}{sl sln:Array (Option FO)}{kV doc pm cdv ct:FO}{es:Array Gb}{ep:Nat}
  (a:K.lookup C=some (excClassObj nm q C N bs LX.bmE true sn sub ab col dd k0 k1 k2 k3 k5 "Exception.__new__")) (b:K.lookup N=some ⟨on,odn,.dict es ep,sln⟩) (c:Pb es=true) (d:As K N "__init__"=some (some (.ref fI))) (e:As K N "place"=some none) (f:As K N "__setattr__"=some none)
  (g:As K N "__getattribute__"=some none) (h:As K N "__getattr__"=some none) (i:AG K (.ref C)=true) (j:BR K (.ref fI)=true)
  (l:K.lookup fI=some ⟨oc,od,.func (A5 "__init__" "Fault.__init__" (Hz st) (G5 st) (Gq st) .none kV doc pm an cdv ct),sl⟩) (m:Bf K cdv "Fault.__init__"=true) (n:AG K (.ref fI)=true):XIn K C st:=
 ⟨N,fI,nm,q,bs,sn,sub,ab,col,dd,k0,k1,k2,k3,k5,oc,od,kV,doc,pm,an,cdv,ct,sl,on,odn,es,ep,sln,a,b,c,d,e,f,g,h,i,j,l,m,n⟩
theorem CI.mk{x:Str}{i:Int}{t:Tok}(a:As K FX x=some (some (.int i t))):CI K x i:=⟨t,a⟩
theorem KPairs.put{k v:Int}{t u:Tok}{hs:_}{es:List Gb}{kvs:List (Int×Int)}(e:hs=hashInt k)(q:KPairs es kvs):KPairs (⟨hs,.int k t,.int v u⟩::es) ((k,v)::kvs):=by subst e;exact .cons q
theorem CD.mk{x:Str}{kvs:List (Int×Int)}{p:FP}{es:Array Gb}{n:Nat}(a:As K FX x=some (some (.ref p)))(b:K.lookup p=some ⟨.type "dict",none,.dict es n,#[]⟩)(c:KPairs es.toList kvs)(d:(p==Gd)=false):CD K x kvs:=⟨p,es,n,a,b,c,d⟩
theorem CT.mk{x:Str}{ns:List Int}{p:FP}{od:Option FP}{its:List FO}{n:Nat}{sl:Array (Option FO)}(a:As K FX x=some (some (.ref p)))(b:K.lookup p=some ⟨.type "tuple",od,.seq its.toArray n,sl⟩)(c:IntsB its ns):CT K x ns:=⟨p,_,its,n,a,b,rfl,rfl,c⟩
theorem CS.mk{x:Str}{s:Str}{t:Tok}(a:As K FX x=some (some (.str s t))):CS K x s:=⟨t,a⟩
theorem GFnT.mk{x:Str}{st:F6}{f c Pt:FP}{oc:FO}{od an od2:Option FP}{sl sl2:Array (Option FO)}{kV doc pm ct:FO}{vs:Array FO}(a:As K FX x=some (some (.ref f)))
  (l:K.lookup f=some ⟨oc,od,.func (A5 x x (Hz st) (G5 st) (Gq st) .none kV doc pm an (.ref c) ct),sl⟩) (h:Bf K (.ref c) x=true) (k:AG K (.ref f)=true)
  (lc:K.lookup c=some ⟨.type "code",od2,.fields vs,sl2⟩) (h11:vs[11]?=some (.ref Pt)) (hh:Sl vs c Pt=true):GFnT K x st:=
 ⟨f,oc,od,kV,doc,pm,an,c,ct,sl,Pt,a,l,h,k,Z7 lc hh,X3 a l lc h11⟩
end
end L2
def PySem.W.Fast.tw522056485943760334:Unit:=()
def PySem.W.Fast.tw11800909633325163520:Unit:=()
def PySem.W.Fast.tw15428986038143057203:Unit:=()
def PySem.W.Fast.tw2320470844363877028:Unit:=()
def PySem.W.Fast.tw6932789540161632999:Unit:=()
def PySem.W.Fast.tw14707079172866607166:Unit:=()
def PySem.W.Fast.tw4039139886326590183:Unit:=()
def PySem.W.Fast.tw3860522231692812645:Unit:=()
def PySem.W.Fast.tw15440175814768013560:Unit:=()
def PySem.W.Fast.tw18418304440513872824:Unit:=()
def PySem.W.Fast.tw15309154098002716101:Unit:=()
def PySem.W.Fast.tw12129629775656130974:Unit:=()
def PySem.W.Fast.tw840019281407984876:Unit:=()
def PySem.W.Fast.tw7169562481117734347:Unit:=()
def PySem.W.Fast.tw17213568921225023777:Unit:=()
def PySem.W.Fast.tw3859600045063992996:Unit:=()
def PySem.W.Fast.tw17479267366862899314:Unit:=()
def PySem.W.Fast.tw13690995087731843311:Unit:=()
def PySem.W.Fast.tw3022864815853422499:Unit:=()
def PySem.W.Fast.tw17056084481769209471:Unit:=()
def PySem.W.Fast.tw13715874962863017378:Unit:=()
def PySem.W.Fast.tw3338287583275367857:Unit:=()
def PySem.W.Fast.tw1747549349394778163:Unit:=()
def PySem.W.Fast.tw16195895991680878930:Unit:=()
def PySem.W.Fast.tw4456936540609759576:Unit:=()
def PySem.W.Fast.tw12185563635641235244:Unit:=()
def PySem.W.Fast.tw12678915865462478454:Unit:=()
def PySem.W.Fast.tw12235644245720164940:Unit:=()
def PySem.W.Fast.tw8236149354323358545:Unit:=()
def PySem.W.Fast.tw4180675601313585641:Unit:=()
def PySem.W.Fast.tw14136756358014467496:Unit:=()
def PySem.W.Fast.tw16042766814222484325:Unit:=()
def PySem.W.Fast.tw14008595437978869363:Unit:=()
def PySem.W.Fast.tw1202433156677731488:Unit:=()
def PySem.W.Fast.tw17923461919936832095:Unit:=()
def PySem.W.Fast.tw6000634067838523039:Unit:=()
def PySem.W.Fast.tw11495557528865110659:Unit:=()
def PySem.W.Fast.tw11871205732350756743:Unit:=()
def PySem.W.Fast.tw7594257922858506809:Unit:=()
def PySem.W.Fast.tw14540842493136978058:Unit:=()
def PySem.W.Fast.tw14328887533472289935:Unit:=()
def PySem.W.Fast.tw1748074668798617778:Unit:=()
def PySem.W.Fast.tw14928963114972110694:Unit:=()
def PySem.W.Fast.tw99581346829321733:Unit:=()
def PySem.W.Fast.tw2149901653290125762:Unit:=()
def PySem.W.Fast.tw313722078766848425:Unit:=()
def PySem.W.Fast.tw7427266350085243078:Unit:=()
def PySem.W.Fast.tw13882932151944088603:Unit:=()
def PySem.W.Fast.tw4421543090276542765:Unit:=()
def PySem.W.Fast.tw379895417153808588:Unit:=()
def PySem.W.Fast.tw2303709903214563397:Unit:=()
def PySem.W.Fast.tw5603339688753633743:Unit:=()
def PySem.W.Fast.tw15335501409577315031:Unit:=()
def PySem.W.Fast.tw1943914119508914432:Unit:=()
def PySem.W.Fast.tw2743191834543397793:Unit:=()
def PySem.W.Fast.tw14697489778059580068:Unit:=()
def PySem.W.Fast.tw6791270012458562344:Unit:=()
def PySem.W.Fast.tw4940301181108243259:Unit:=()
def PySem.W.Fast.tw14148633082619542561:Unit:=()
def PySem.W.Fast.tw1834377430114528908:Unit:=()
def PySem.W.Fast.tw16053692955569821443:Unit:=()
def PySem.W.Fast.tw7950537810601020336:Unit:=()
def PySem.W.Fast.tw13780595792973730596:Unit:=()
def PySem.W.Fast.tw234706947594818203:Unit:=()
def PySem.W.Fast.tw18337540368873807346:Unit:=()
def PySem.W.Fast.tw8168186896039409584:Unit:=()
def PySem.W.Fast.tw2756738484857511450:Unit:=()
def PySem.W.Fast.tw9606160933989105274:Unit:=()
def PySem.W.Fast.tw50896387967581453:Unit:=()
def PySem.W.Fast.tw9509600104612700612:Unit:=()
def PySem.W.Fast.tw577505048782282195:Unit:=()
def PySem.W.Fast.tw12811087752911659810:Unit:=()
def PySem.W.Fast.tw17497473848806143233:Unit:=()
def PySem.W.Fast.tw9754972539592666101:Unit:=()
def PySem.W.Fast.tw12504566706786667661:Unit:=()
def PySem.W.Fast.tw18230942513028997609:Unit:=()
def PySem.W.Fast.tw7660748362811935654:Unit:=()
def PySem.W.Fast.tw6762883083998240503:Unit:=()
def PySem.W.Fast.tw6644436101973603051:Unit:=()
def PySem.W.Fast.tw11625204821923610921:Unit:=()
def PySem.W.Fast.tw12429401735855975153:Unit:=()
def PySem.W.Fast.tw9346873792041310674:Unit:=()
def PySem.W.Fast.tw6979001926568409609:Unit:=()
def PySem.W.Fast.tw2622051051540985637:Unit:=()
def PySem.W.Fast.tw3294238438199657354:Unit:=()
def PySem.W.Fast.tw10867809726506362857:Unit:=()
def PySem.W.Fast.tw10707256450329662731:Unit:=()
def PySem.W.Fast.tw18403614127767275409:Unit:=()
def PySem.W.Fast.tw9101083076547370464:Unit:=()
def PySem.W.Fast.tw9397173592752171788:Unit:=()
def PySem.W.Fast.tw7703213485906739890:Unit:=()
def PySem.W.Fast.tw16666981916363594680:Unit:=()
def PySem.W.Fast.tw3370858926329287811:Unit:=()
def PySem.W.Fast.tw9813319065577768215:Unit:=()
def PySem.W.Fast.tw3469694908234730629:Unit:=()
def PySem.W.Fast.tw7530880056227512777:Unit:=()
def PySem.W.Fast.tw878382894720437904:Unit:=()
def PySem.W.Fast.tw10619657461353163211:Unit:=()
def PySem.W.Fast.tw1328569866966185956:Unit:=()
def PySem.W.Fast.tw12807656739487104815:Unit:=()
def PySem.W.Fast.tw3351245299343150689:Unit:=()
def PySem.W.Fast.tw1691540163932075547:Unit:=()
def PySem.W.Fast.tw17660281145600559843:Unit:=()
def PySem.W.Fast.tw13737322344243920657:Unit:=()
def PySem.W.Fast.tw1929268139477944054:Unit:=()
def PySem.W.Fast.tw3173906735612813338:Unit:=()
def PySem.W.Fast.tw1717413679936377478:Unit:=()
def PySem.W.Fast.tw3326264264961196315:Unit:=()
def PySem.W.Fast.tw12187669424492919948:Unit:=()
def PySem.W.Fast.tw17850162297260757899:Unit:=()
def PySem.W.Fast.tw5956375907852490601:Unit:=()
def PySem.W.Fast.tw4278434543484103489:Unit:=()
def PySem.W.Fast.tw14651039640034997829:Unit:=()
def PySem.W.Fast.tw9859515388715700080:Unit:=()
def PySem.W.Fast.tw7569835921519680970:Unit:=()
def PySem.W.Fast.tw3553821418233206082:Unit:=()
def PySem.W.Fast.tw14481526649790575003:Unit:=()
def PySem.W.Fast.tw14741647609701133332:Unit:=()
def PySem.W.Fast.tw6978973718663476748:Unit:=()
def PySem.W.Fast.tw4572192633869501426:Unit:=()
def PySem.W.Fast.tw11803211332003525004:Unit:=()
def PySem.W.Fast.tw3460929355282419622:Unit:=()
open PySem PySem.W PyProof.Rows
set_option maxRecDepth 100000 in
set_option maxHeartbeats 0 in
theorem PySem.Challenge.cw_lutesettings_s05_of_holds : PySem.Challenge.rw_lutesettings_s05_of.Holds := by
 w_on;k_headS;(case hw=>exact⟨[.list [],.list []],by decide +kernel,by decide +kernel⟩)
 k_fillS
 refine L2.walk_specT (r:=PySem.Challenge.rw_lutesettings_s05_of) (k:=42) (CX:=L2.CX0) (ps:=["i","t"]) (sp:=Lu.spOf) (["read_lines_by_frets","read_piece"]) (by decide +kernel) rfl rfl ⟨rfl,by decide,by decide⟩ (fun w h Y=>PySem.W.kIn_of Y) (fun _=>by kernel_rfl) (by decide +kernel) ?F ?S (fun _ _ _ _ z=>z)
 case F=>
  intro w mg fa h Y KX G hmg
  refine' Lu.all_mk KX G hmg ⟨?nB,?nC,?pg,?hd,?po,?sa,?mkB,?kc,?nT,?nP,?nE,?x,?z_len,?z_abs,?z_sum,?z_zip,?z_ord,?z_tuple,?z_enumerate,?z_range,?z_str,?z_sorted,?m_Cursor_init,?m_Cursor_byte,?m_Cursor_advance,?m_Cursor_take,?m_Cursor_take_word,?f_width,?f_is_within_bounds,?f_upon,?f_common_factor_of_all,?f_common_factor,?f_interval_text,?f_power_text,?f_read_interval,?f_read_factors,?f_read_digit_of_factor,?f_read_power,?f_read_signed_number,?f_read_number,?f_with_common_parts,?f_read_instrument,?f_read_string_length,?f_read_fret,?f_read_course,?f_read_bass,?f_begin_line,?f_read_line_interval,?f_song_of_piece,?f_read_lines,?f_read_length,?f_read_length_sign,?f_write_lines,?f_read_piece,?f_read_lines_by_frets,?f_sign_table,?f_read_sign,?f_fret_table,?f_bass_table,?f_german_table,?f_german_sign,?f_read_stops_by_frets,?f_read_german_stops,?f_read_lower_stop,?f_write_song,?f_notes_text,?f_of,?f_asked_of_texts,?f_read_or_none,?f_sung_text,?f_told_text,?c_END,?c_NEW_LINE,?c_BLANK,?c_POINT,?c_MINUS,?c_SLASH,?c_ZERO,?c_ONE,?c_NINE,?c_CARET,?c_MOST_DIGITS,?c_MOST_POWER,?c_MOST_PARTS,?c_COMMON_PARTS,?c_LETTER_B,?c_LETTER_C,?c_LETTER_F,?c_LEAST_LENGTH,?c_MOST_LENGTH,?c_MOST_LENGTH_DIGITS,?c_MOST_FRETS,?c_MOST_COURSES,?c_STOPPED_COURSES,?c_BAR_SIGN,?c_MOST_LINES,?c_FRENCH,?c_ITALIAN,?c_FRETS,?c_FIRST_BASS,?c_LAST_COURSE,?c_NO_STOP,?c_TOO_LONG,?c_CANNOT_BE,?c_NO_FIRST_TEXT,?c_NO_SECOND_TEXT,?c_MOST_BYTES,?c_MOST_INSTRUMENT_BYTES,?c_FACTOR_SIGNS,?c_FRENCH_FRETS,?c_ITALIAN_FRETS,?c_GERMAN_SIXTH,?c_GERMAN_CROSSINGS,?c_FIRST_LINE,?c_FACTORS,?c_LENGTHS,?c_LOGARITHMS,?c_UNISON,?c_LENGTH_SIGNS,?c_KIND_NAMES,?c_FRENCH_BASSES,?c_ITALIAN_BASSES⟩
  (case nB=>k_is)
  (case nC=>k_is)
  (case pg=>k_is)
  (case hd=>k_is)
  (case po=>k_is)
  (case sa=>k_is)
  (case mkB=>k_is)
  (case kc=>k_is)
  (case nT=>k_is)
  (case nP=>k_is)
  (case nE=>k_is)
  (case x=>refine' L2.XIn.mk ?a ?b ?c ?d ?e ?f ?g ?h ?i ?j ?l ?m ?n;(case a=>k_is);(case b=>k_is);(case c=>rfl);(case d=>k_is);(case e=>k_is);(case f=>k_is);(case g=>k_is);(case h=>k_is);(case i=>k_is);(case j=>k_is);(case l=>k_is);(case m=>k_is);(case n=>k_is))
  (case z_len=>k_is)
  (case z_abs=>k_is)
  (case z_sum=>k_is)
  (case z_zip=>k_is)
  (case z_ord=>k_is)
  (case z_tuple=>k_is)
  (case z_enumerate=>k_is)
  (case z_range=>k_is)
  (case z_str=>k_is)
  (case z_sorted=>k_is)
  (case m_Cursor_init=>refine' L2.CFn.mk ?a ?i ?l ?c ?k;(case a=>k_is);(case i=>k_is);(case l=>k_is);(case c=>k_is);(case k=>k_is))
  (case m_Cursor_byte=>refine' L2.CFn.mk ?a ?i ?l ?c ?k;(case a=>k_is);(case i=>k_is);(case l=>k_is);(case c=>k_is);(case k=>k_is))
  (case m_Cursor_advance=>refine' L2.CFn.mk ?a ?i ?l ?c ?k;(case a=>k_is);(case i=>k_is);(case l=>k_is);(case c=>k_is);(case k=>k_is))
  (case m_Cursor_take=>refine' L2.CFn.mk ?a ?i ?l ?c ?k;(case a=>k_is);(case i=>k_is);(case l=>k_is);(case c=>k_is);(case k=>k_is))
  (case m_Cursor_take_word=>refine' L2.CFn.mk ?a ?i ?l ?c ?k;(case a=>k_is);(case i=>k_is);(case l=>k_is);(case c=>k_is);(case k=>k_is))
  (case f_width=>refine' L2.GFn.mk ?a ?l ?c ?k;(case a=>k_is);(case l=>k_is);(case c=>k_is);(case k=>k_is))
  (case f_is_within_bounds=>refine' L2.GFn.mk ?a ?l ?c ?k;(case a=>k_is);(case l=>k_is);(case c=>k_is);(case k=>k_is))
  (case f_upon=>refine' L2.GFn.mk ?a ?l ?c ?k;(case a=>k_is);(case l=>k_is);(case c=>k_is);(case k=>k_is))
  (case f_common_factor_of_all=>refine' L2.GFn.mk ?a ?l ?c ?k;(case a=>k_is);(case l=>k_is);(case c=>k_is);(case k=>k_is))
  (case f_common_factor=>refine' L2.GFn.mk ?a ?l ?c ?k;(case a=>k_is);(case l=>k_is);(case c=>k_is);(case k=>k_is))
  (case f_interval_text=>refine' L2.GFn.mk ?a ?l ?c ?k;(case a=>k_is);(case l=>k_is);(case c=>k_is);(case k=>k_is))
  (case f_power_text=>refine' L2.GFn.mk ?a ?l ?c ?k;(case a=>k_is);(case l=>k_is);(case c=>k_is);(case k=>k_is))
  (case f_read_interval=>refine' L2.GFn.mk ?a ?l ?c ?k;(case a=>k_is);(case l=>k_is);(case c=>k_is);(case k=>k_is))
  (case f_read_factors=>refine' L2.GFn.mk ?a ?l ?c ?k;(case a=>k_is);(case l=>k_is);(case c=>k_is);(case k=>k_is))
  (case f_read_digit_of_factor=>refine' L2.GFn.mk ?a ?l ?c ?k;(case a=>k_is);(case l=>k_is);(case c=>k_is);(case k=>k_is))
  (case f_read_power=>refine' L2.GFn.mk ?a ?l ?c ?k;(case a=>k_is);(case l=>k_is);(case c=>k_is);(case k=>k_is))
  (case f_read_signed_number=>refine' L2.GFn.mk ?a ?l ?c ?k;(case a=>k_is);(case l=>k_is);(case c=>k_is);(case k=>k_is))
  (case f_read_number=>refine' L2.GFn.mk ?a ?l ?c ?k;(case a=>k_is);(case l=>k_is);(case c=>k_is);(case k=>k_is))
  (case f_with_common_parts=>refine' L2.GFn.mk ?a ?l ?c ?k;(case a=>k_is);(case l=>k_is);(case c=>k_is);(case k=>k_is))
  (case f_read_instrument=>refine' L2.GFn.mk ?a ?l ?c ?k;(case a=>k_is);(case l=>k_is);(case c=>k_is);(case k=>k_is))
  (case f_read_string_length=>refine' L2.GFn.mk ?a ?l ?c ?k;(case a=>k_is);(case l=>k_is);(case c=>k_is);(case k=>k_is))
  (case f_read_fret=>refine' L2.GFn.mk ?a ?l ?c ?k;(case a=>k_is);(case l=>k_is);(case c=>k_is);(case k=>k_is))
  (case f_read_course=>refine' L2.GFn.mk ?a ?l ?c ?k;(case a=>k_is);(case l=>k_is);(case c=>k_is);(case k=>k_is))
  (case f_read_bass=>refine' L2.GFn.mk ?a ?l ?c ?k;(case a=>k_is);(case l=>k_is);(case c=>k_is);(case k=>k_is))
  (case f_begin_line=>refine' L2.GFn.mk ?a ?l ?c ?k;(case a=>k_is);(case l=>k_is);(case c=>k_is);(case k=>k_is))
  (case f_read_line_interval=>refine' L2.GFn.mk ?a ?l ?c ?k;(case a=>k_is);(case l=>k_is);(case c=>k_is);(case k=>k_is))
  (case f_song_of_piece=>refine' L2.GFn.mk ?a ?l ?c ?k;(case a=>k_is);(case l=>k_is);(case c=>k_is);(case k=>k_is))
  (case f_read_lines=>refine' L2.GFn.mk ?a ?l ?c ?k;(case a=>k_is);(case l=>k_is);(case c=>k_is);(case k=>k_is))
  (case f_read_length=>refine' L2.GFn.mk ?a ?l ?c ?k;(case a=>k_is);(case l=>k_is);(case c=>k_is);(case k=>k_is))
  (case f_read_length_sign=>refine' L2.GFn.mk ?a ?l ?c ?k;(case a=>k_is);(case l=>k_is);(case c=>k_is);(case k=>k_is))
  (case f_write_lines=>refine' L2.GFn.mk ?a ?l ?c ?k;(case a=>k_is);(case l=>k_is);(case c=>k_is);(case k=>k_is))
  (case f_read_piece=>refine' L2.GFnT.mk ?a ?l ?c ?k ?lc ?h11 ?hh;(case a=>k_is);(case l=>k_is);(case c=>k_is);(case k=>k_is);(case lc=>k_is);(case h11=>rfl);(case hh=>rfl))
  (case f_read_lines_by_frets=>refine' L2.GFnT.mk ?a ?l ?c ?k ?lc ?h11 ?hh;(case a=>k_is);(case l=>k_is);(case c=>k_is);(case k=>k_is);(case lc=>k_is);(case h11=>rfl);(case hh=>rfl))
  (case f_sign_table=>refine' L2.GFn.mk ?a ?l ?c ?k;(case a=>k_is);(case l=>k_is);(case c=>k_is);(case k=>k_is))
  (case f_read_sign=>refine' L2.GFn.mk ?a ?l ?c ?k;(case a=>k_is);(case l=>k_is);(case c=>k_is);(case k=>k_is))
  (case f_fret_table=>refine' L2.GFn.mk ?a ?l ?c ?k;(case a=>k_is);(case l=>k_is);(case c=>k_is);(case k=>k_is))
  (case f_bass_table=>refine' L2.GFn.mk ?a ?l ?c ?k;(case a=>k_is);(case l=>k_is);(case c=>k_is);(case k=>k_is))
  (case f_german_table=>refine' L2.GFn.mk ?a ?l ?c ?k;(case a=>k_is);(case l=>k_is);(case c=>k_is);(case k=>k_is))
  (case f_german_sign=>refine' L2.GFn.mk ?a ?l ?c ?k;(case a=>k_is);(case l=>k_is);(case c=>k_is);(case k=>k_is))
  (case f_read_stops_by_frets=>refine' L2.GFn.mk ?a ?l ?c ?k;(case a=>k_is);(case l=>k_is);(case c=>k_is);(case k=>k_is))
  (case f_read_german_stops=>refine' L2.GFn.mk ?a ?l ?c ?k;(case a=>k_is);(case l=>k_is);(case c=>k_is);(case k=>k_is))
  (case f_read_lower_stop=>refine' L2.GFn.mk ?a ?l ?c ?k;(case a=>k_is);(case l=>k_is);(case c=>k_is);(case k=>k_is))
  (case f_write_song=>refine' L2.GFn.mk ?a ?l ?c ?k;(case a=>k_is);(case l=>k_is);(case c=>k_is);(case k=>k_is))
  (case f_notes_text=>refine' L2.GFn.mk ?a ?l ?c ?k;(case a=>k_is);(case l=>k_is);(case c=>k_is);(case k=>k_is))
  (case f_of=>refine' L2.GFn.mk ?a ?l ?c ?k;(case a=>k_is);(case l=>k_is);(case c=>k_is);(case k=>k_is))
  (case f_asked_of_texts=>refine' L2.GFn.mk ?a ?l ?c ?k;(case a=>k_is);(case l=>k_is);(case c=>k_is);(case k=>k_is))
  (case f_read_or_none=>refine' L2.GFn.mk ?a ?l ?c ?k;(case a=>k_is);(case l=>k_is);(case c=>k_is);(case k=>k_is))
  (case f_sung_text=>refine' L2.GFn.mk ?a ?l ?c ?k;(case a=>k_is);(case l=>k_is);(case c=>k_is);(case k=>k_is))
  (case f_told_text=>refine' L2.GFn.mk ?a ?l ?c ?k;(case a=>k_is);(case l=>k_is);(case c=>k_is);(case k=>k_is))
  (case c_END=>refine' L2.CI.mk ?a;(case a=>k_is))
  (case c_NEW_LINE=>refine' L2.CI.mk ?a;(case a=>k_is))
  (case c_BLANK=>refine' L2.CI.mk ?a;(case a=>k_is))
  (case c_POINT=>refine' L2.CI.mk ?a;(case a=>k_is))
  (case c_MINUS=>refine' L2.CI.mk ?a;(case a=>k_is))
  (case c_SLASH=>refine' L2.CI.mk ?a;(case a=>k_is))
  (case c_ZERO=>refine' L2.CI.mk ?a;(case a=>k_is))
  (case c_ONE=>refine' L2.CI.mk ?a;(case a=>k_is))
  (case c_NINE=>refine' L2.CI.mk ?a;(case a=>k_is))
  (case c_CARET=>refine' L2.CI.mk ?a;(case a=>k_is))
  (case c_MOST_DIGITS=>refine' L2.CI.mk ?a;(case a=>k_is))
  (case c_MOST_POWER=>refine' L2.CI.mk ?a;(case a=>k_is))
  (case c_MOST_PARTS=>refine' L2.CI.mk ?a;(case a=>k_is))
  (case c_COMMON_PARTS=>refine' L2.CI.mk ?a;(case a=>k_is))
  (case c_LETTER_B=>refine' L2.CI.mk ?a;(case a=>k_is))
  (case c_LETTER_C=>refine' L2.CI.mk ?a;(case a=>k_is))
  (case c_LETTER_F=>refine' L2.CI.mk ?a;(case a=>k_is))
  (case c_LEAST_LENGTH=>refine' L2.CI.mk ?a;(case a=>k_is))
  (case c_MOST_LENGTH=>refine' L2.CI.mk ?a;(case a=>k_is))
  (case c_MOST_LENGTH_DIGITS=>refine' L2.CI.mk ?a;(case a=>k_is))
  (case c_MOST_FRETS=>refine' L2.CI.mk ?a;(case a=>k_is))
  (case c_MOST_COURSES=>refine' L2.CI.mk ?a;(case a=>k_is))
  (case c_STOPPED_COURSES=>refine' L2.CI.mk ?a;(case a=>k_is))
  (case c_BAR_SIGN=>refine' L2.CI.mk ?a;(case a=>k_is))
  (case c_MOST_LINES=>refine' L2.CI.mk ?a;(case a=>k_is))
  (case c_FRENCH=>refine' L2.CI.mk ?a;(case a=>k_is))
  (case c_ITALIAN=>refine' L2.CI.mk ?a;(case a=>k_is))
  (case c_FRETS=>refine' L2.CI.mk ?a;(case a=>k_is))
  (case c_FIRST_BASS=>refine' L2.CI.mk ?a;(case a=>k_is))
  (case c_LAST_COURSE=>refine' L2.CI.mk ?a;(case a=>k_is))
  (case c_NO_STOP=>refine' L2.CI.mk ?a;(case a=>k_is))
  (case c_TOO_LONG=>refine' L2.CI.mk ?a;(case a=>k_is))
  (case c_CANNOT_BE=>refine' L2.CI.mk ?a;(case a=>k_is))
  (case c_NO_FIRST_TEXT=>refine' L2.CI.mk ?a;(case a=>k_is))
  (case c_NO_SECOND_TEXT=>refine' L2.CI.mk ?a;(case a=>k_is))
  (case c_MOST_BYTES=>refine' L2.CI.mk ?a;(case a=>k_is))
  (case c_MOST_INSTRUMENT_BYTES=>refine' L2.CI.mk ?a;(case a=>k_is))
  (case c_FACTOR_SIGNS=>refine' L2.CS.mk ?a;(case a=>k_is))
  (case c_FRENCH_FRETS=>refine' L2.CS.mk ?a;(case a=>k_is))
  (case c_ITALIAN_FRETS=>refine' L2.CS.mk ?a;(case a=>k_is))
  (case c_GERMAN_SIXTH=>refine' L2.CS.mk ?a;(case a=>k_is))
  (case c_GERMAN_CROSSINGS=>refine' L2.CS.mk ?a;(case a=>k_is))
  (case c_FIRST_LINE=>refine' L2.CS.mk ?a;(case a=>k_is))
  (case c_FACTORS=>refine' L2.CD.mk ?a ?b ?c ?d;(case a=>k_is);(case b=>k_is);(case c=>exact .put (by decide +kernel) (.put (by decide +kernel) (.put (by decide +kernel) (.put (by decide +kernel) (.nil)))));(case d=>rfl))
  (case c_LENGTHS=>refine' L2.CD.mk ?a ?b ?c ?d;(case a=>k_is);(case b=>k_is);(case c=>exact .put (by decide +kernel) (.put (by decide +kernel) (.put (by decide +kernel) (.put (by decide +kernel) (.put (by decide +kernel) (.put (by decide +kernel) (.put (by decide +kernel) (.nil))))))));(case d=>rfl))
  (case c_LOGARITHMS=>refine' L2.CT.mk ?a ?b ?c;(case a=>k_is);(case b=>k_is);(case c=>repeat constructor))
  (case c_UNISON=>refine' L2.CT.mk ?a ?b ?c;(case a=>k_is);(case b=>k_is);(case c=>repeat constructor))
  (case c_LENGTH_SIGNS=>refine' L2.CDS.mk ?a ?b ?c ?d;(case a=>k_is);(case b=>k_is);(case c=>exact .put (by decide +kernel) (.put (by decide +kernel) (.put (by decide +kernel) (.put (by decide +kernel) (.put (by decide +kernel) (.put (by decide +kernel) (.put (by decide +kernel) (.put (by decide +kernel) (.put (by decide +kernel) (.put (by decide +kernel) (.put (by decide +kernel) (.put (by decide +kernel) (.put (by decide +kernel) (.nil))))))))))))));(case d=>rfl))
  (case c_KIND_NAMES=>refine' L2.CTS.mk ?a ?b ?c;(case a=>k_is);(case b=>k_is);(case c=>repeat constructor))
  (case c_FRENCH_BASSES=>refine' L2.CTS.mk ?a ?b ?c;(case a=>k_is);(case b=>k_is);(case c=>repeat constructor))
  (case c_ITALIAN_BASSES=>refine' L2.CTS.mk ?a ?b ?c;(case a=>k_is);(case b=>k_is);(case c=>repeat constructor))
 case S=>
  intro K H xs a hT hwi hask hx;cases hx with
  |cons h1 h2=>
   cases h2 with
   |cons h2 h3=>
    cases h3;cases h1 with
    |lst hs ha=>
     cases h2 with
     |lst hs2 ha2=>have e:=L2.ints_dw a.1 _ ha;subst e;have e2:=L2.ints_dw a.2.1 _ ha2;subst e2;have q:((Codec.inLen 0 8192 a.1&&a.1.all (Codec.inInt 0 255))&&((Codec.inLen 0 110000 a.2.1&&a.2.1.all (Codec.inInt 0 255))&&true))=true:=hwi;rw[Av,Av,Av,Av] at q;exact⟨_,_,a.1,a.2.1,rfl,hT,hs,fun z hz=>Codec.inInt_iff.mp (AI.mp q.1.2 z hz),hs2,fun z hz=>Codec.inInt_iff.mp (AI.mp q.2.1.2 z hz),fun H' p hp=>.lst (L2.SqL.of hp) (L2.dw_ints _)⟩
