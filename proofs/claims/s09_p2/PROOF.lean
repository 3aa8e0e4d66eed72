import PyProof.Rows.All
import Wide.All
import OpenK.AllK
import Wide.FinOn
import PyProof.EqAt
import PyProof.EqKinds
import PyProof.TupleCall
import KE.BitLaws
import Open.SpecLaws
import KE.OsHead
import KE.OsGo
import KE.KLam
import KE.KNestM
import PyProof.AutoSeq1
import PyProof.Rows.FactsT3
import PyProof.Rows.FStr
import PyProof.Draws
import PyProof.EnumIter
import PyProof.StationsW
import PyProof.ExcInit
import PyProof.InstStoreFacts
import PyProof.RulesAs
import PyProof.ExcBaseAll.Exception
import PyProof.ExcArgsOwn
import PyProof.ExcAttrAll.Exception
import KE.KSortKeySt
import PyProof.Rows.CallKwBuiltin
import KE.KSortTupG
import PyProof.EnumFor
import PyProof.StrOps2
import PyProof.ListRange
import PyProof.CollectIter
import KE.KSortAsk
import PyProof.ListMulRoad
import PyProof.Rows.SeqMore
import PyProof.WalkInts
import PyProof.DictRoadsH
import PySem.Challenge.RW_lutesettings_s09_stuck
set_option bootstrap.genMatcherCode false
set_option compiler.postponeCompile true
set_option genSizeOf false
set_option compiler.extract_closed false
set_option linter.all false
set_option maxRecDepth 100000
set_option Elab.async false
set_option maxHeartbeats 2000000
open PySem renaming Value->O,Addr->Z,wpAny_bind->GE,Shared->GF,sizeLine->GI,Program->GJ,wpAny_pure->GK,wpAny->GL,mainGlobals->GM,starEach->GO,FuncData->GP,World->GQ,Expr->GR,Around->GS,wpAny_field->GT,Stmt->GU,NameKind->GV,wpAny_setField_rec->GW,wpAny_mono->GX,cellsFrom->GY,DictEntry->GZ,wpAny_Call_Name_kw->G0,sysModules->G1,wpAny_newObj_type->G2,bootBuiltins->G3,wpAny_truthy_bool->G4
open PySem.W renaming Frag->G5,nsIn->Au,findIn->AF,keepIn->AI,mg_none_of->AN,fnOf->A7,codeIn->Br,mg_of->Bs,emptyDict->BB,tabIn->BK,plainGet->BV,instObj->B4,hasDictIn->B5,codeHdIn->B9,isFn->Cc,makesIn->Cg,plainOver->Ck,callWith_K->CO,tabObj->Dh,cellsFrom_some->D5,lookIn->Eg,plainGet_of->Eo,methodObj->Ex,takerIn->EG,length_le_weightAllW->EH,kla_obj->EI,kla_fn->ES,methodCall_KW->Fd,codeHd_of_K->Fo,callWith_K0->Fp,codeRec_of->Fx,specialIn->FD,kla_eval->FM,handedIn->FN,noTabs->Ga
open List renaming getElem?_eq_getElem->Aa,length_map->Ab,length_append->Ad,getD_eq_getElem?_getD->Ae,length_cons->Af,getElem?_map->Ah,mem_singleton->Ai,getElem?_eq_some_iff->Al,size_toArray->Am,map_cons->An,mem_cons->Aq,replicate->Ar,mem_map->Av,mem_cons_of_mem->Aw,getElem?_append_right->Ax,range->Ay,mem_append->AA,getElem?_append_left->AC,getElem_mem->AG,mem_cons_self->AH,length_take->AJ,length_drop->AK,map_append->AM,mem_append_right->AQ,append_nil->AR,length_replicate->AS,getElem?_eq_none->AT,mem_range->AW,mem_of_getElem?->AX,take_length->AZ,lookup->A0,mem_append_left->A6,map_map->A8,all_eq_true->Bb,replicate_succ->Bf,mem_filter->Bg,pairwise_iff_getElem->Bk,take_succ->Bn,lookup_cons->Bp,append_assoc->Bq,pairwise_cons->Bt,mem_flatMap->Bu,sum_cons->BC,any_cons->BD,map_congr_left->BG,length_singleton->BJ,filter_cons->BL,length_range->BO,length_eq_zero_iff->BQ,find?_cons->BR,getElem?_range->BU,toList_toArray->Ca,getElem?_cons_succ->Cb,nodup_cons->Cm,length_nil->Cn,idxOf_lt_length_of_mem->Cp,mem_iff_getElem->Ct,mem_erase_of_ne->Cu,drop_drop->Cv,getElem_map->Cy,getElem?_zip_eq_some->CA,drop_eq_getElem_cons->CB,takeWhile_cons->CH,length_flatMap->CJ,findIdx?_eq_some_iff_findIdx_eq->CK,drop_succ_cons->CM,of_mem_zip->CQ,length_zip->CU,mem_filterMap->CV,length_mapIdx->CW,range_succ_eq_map->CZ,getElem?_set_self->C0,flatten_cons->C4,filter_eq_nil_iff->C5,ext_getElem?->C6,getElem?_set_ne->De,foldl_cons->Dg,filterMap_cons->Di,map_nil->Dj,zip_cons_cons->Do,nodup_nil->Dq,drop_zero->Dr,mem_of_find?_eq_some->Du,getElem_append_right->Dv,getElem?_eq_none_iff->Dx,exists_mem_of_ne_nil->Dy,take_add_one->DE,pairwise_map->DJ,length->DK,length_erase_of_mem->D1,getElem_append_left->D3,getElem_zip->D9,getElem?_replicate->Ea,sum_replicate_nat->Ef,length_set->Eh,mem_of_mem_erase->Ei,length_filter_le->Ej,eq_nil_or_concat->Ek,concat_eq_append->El,forIn_nil->Ep,erase_cons_tail->Er,erase_cons_head->Es,count_le_length->Et,getElem_range->EA,getElem_idxOf->EB,foldl->EC,filter_append->ED,nodup_append->EE,foldl_append->EF,takeWhile_append_dropWhile->EN,nodup_range->EQ,any_eq_true->ER,nil_append->EX,mem_zipIdx_iff_getElem?->EY,map_const'->EZ,forIn_cons->E3,find?_some->E4,erase_comm->E5,count_cons->E6,getElem?_take_of_lt->Ff,findIdx?->Fg,all_cons->Fh,eraseP_cons_of_pos->Fj,eraseP_cons_of_neg->Fk,take_of_length_le->Ft,getElem_cons_zero->Fu,getElem_cons_succ->Fv,drop_eq_nil_of_le->Fw,contains_iff_mem->FA,length_erase_le->FH,idxOf_cons_self->FI,idxOf?->FJ,getElem?_of_mem->FK,mem_map_of_mem->FQ,getElem_of_mem->FS,getElem_mapIdx->FT,filter_eq_self->FU,ne_nil_of_mem->F5,mem_replicate->F6,getElem?_drop->F7,count_eq_zero->F8,take_sublist->Gd,filter_congr->Ge,zipIdx_cons->Gi,isEmpty_iff->Gj,ext_getElem->Gk,zipIdx_nil->Go,range_succ->Gq,mem_mapIdx->Gr,idxOf_cons->Gs,filter_map->Gu,take_left->Gx
open PySem.Heap renaming get?_push_of_some->Ac,lt_size->Ao,get?_push_size->Ap,size_push->AY,get?_update_other->BE,get?_update_self->BZ,get?_none_of_le->Eu,get?_update_ne->FV
open Nat renaming le_refl->Ag,lt_of_lt_of_le->As,zero_le->Az,lt_of_le_of_lt->AD,le_trans->AE,ne_of_lt->AL,gcd->A5,dvd_trans->A9,lt_irrefl->Bc,mul_le_mul_right->Bj,not_lt_zero->Bo,pow_add->Bv,mul_div_cancel_left->BA,gcd_dvd_right->BF,lcm->BI,pow_succ->BW,gcd_dvd_left->BX,add_right_comm->BY,le_add_right->Cd,gcd_mul_left->Ce,dvd_lcm_left->Cf,mul_comm->Ci,le_of_lt->Cj,zero_add->Cz,le_of_mul_le_mul_left->CG,lt_or_gt_of_ne->CY,mul_le_mul->C7,succ_le_succ->Db,min_le_right->Dc,pow_le_pow_right->Df,ne_of_gt->Dm,le_of_eq->Dn,lt_succ_of_lt->DQ,le_of_succ_le->DT,lcm_one_right->DX,dvd_lcm_right->DY,dvd_gcd->DZ,add_assoc->D7,lt_succ_self->Ec,lcm_one_left->Ed,pow_mul->Ev,mul_one->Ew,mul_assoc->Ez,sub_self->EJ,lt_of_succ_lt->EK,le_succ_of_le->EL,add_comm->EM,pow_pos->ET,le_succ->EU,lcm_pos->EV,add_mul->EW,eq_of_mul_eq_mul_left->Fe,gcd_pos_of_pos_left->Fq,add_sub_cancel_left->Fs,lt_of_succ_lt_succ->Fy,add_zero->Fz,testBit_shiftLeft->FF,pos_of_dvd_of_pos->FG,mul_pos->FO,mul_add->FP,pow_le_pow_left->F0,lt_mul_div_succ->F3,add_le_add_left->F4,pos_of_ne_zero->Gb,lt_of_le_of_ne->Gc,lt_trichotomy->Gh,succ_ne_zero->Gm,shiftLeft_eq->Gn,min_eq_left->Gw,mul_div_le->Gy
open LuteTab renaming want->Aj,lengthAt->Bm,lengths->Bx
open Bool renaming false_ne_true->Ak,and_eq_true->AB,or_eq_true->Bh,noConfusion->Bi,false_eq_true->Bz,eq_iff_iff->B6,or_eq_false_iff->B8,not_eq_true'->Cq,not_true->Dd,true_and->D4,or_false->Fi,and_eq_true_iff->FL,false_or->Gz
open PySem.F renaming plainAttrs_list->AO,type_list_append->AU,slot_list_append->AV,slot_dict_getitem->Dk,args_tuple_add_2->Ds,entry_tuple_add->Dz,slot_tuple_add->D6,slot_tuple_count->E8,slot_list_remove->E9
open Option renaming map_eq_some_iff->Ba,isSome_map->Co,isSome_iff_exists->Dt,map_some->Eb,isSome_some->FE,getD_none->FZ
open Array renaming length_toList->Be,perm_iff_toList_perm->Cr,getElem?_eq_some_iff->Cs,forIn_toList->Ey,size_map->Fa,toList->Fm,getElem?_eq_none->Fn,toArray_toList->FC,find?_toList->FW,empty_append->FX,append_assoc->FY,getElem_mem->F9,toList_zip->Gf,toList_map->Gg,size_zip->Gv
open PyProof.Rows renaming callWith_type1->Bw,slot_tuple_getitem->CP,lexLt->Fb
open Int renaming natAbs_natCast->BN,natCast_mul->B7,mul_ediv_cancel'->Cw,natCast_ediv->CC,gcd->CF,lt_of_mul_lt_mul_left->CN,toNat_natCast->C8,natAbs_mul->C9,natAbs_dvd_natAbs->Da,ofNat_inj->D8,natCast_add->Em,le_of_lt->EO,mul_one->E7,mul_ediv_cancel_left->Fl
open UInt8 renaming toNat_inj->Ee,ofNat->En
open PySem.Calls renaming call_function_entry->Fc,evalArgs_plain->FB
theorem G6.{u}{c:Prop}{h:Decidable c}(n:¬c){a:Sort u}{t e:a}:ite c t e=e:=if_neg n
theorem G7.{u}{c:Prop}{h:Decidable c}(n:c){a:Sort u}{t e:a}:ite c t e=t:=if_pos n
theorem YQ{b:Type}{P:List b -> Prop}(h:∀a,P [a]):∀us:List b,us.length=1 -> P us
 |[a],_=>h a
theorem Vl{c:Type}{P:List c -> Prop}(h:∀a b,P [a,b]):∀us:List c,us.length=2 -> P us
 |[a,b],_=>h a b
theorem mO{d:Type}{P:List d -> Prop}(h:∀a b c,P [a,b,c]):∀us:List d,us.length=3 -> P us
 |[a,b,c],_=>h a b c
theorem qK{e:Type}{P:List e -> Prop}(h:∀a b c d,P [a,b,c,d]):∀us:List e,us.length=4 -> P us
 |[a,b,c,d],_=>h a b c d
theorem rK{f:Type}{P:List f -> Prop}(h:∀a b c d e,P [a,b,c,d,e]):∀us:List f,us.length=5 -> P us
 |[a,b,c,d,e],_=>h a b c d e
local macro_rules|`(tactic|decide)=>`(tactic|decide +kernel)
theorem Y.{u}{α:Sort u}{a:α}:a=a:=rfl
theorem zA{p y:A→Prop}(i:p a)(z:y a):∃a,p a∧y a:=⟨_,i,z⟩
theorem zB{p q y:A→B→Prop}(i:p a b)(j:q a b)(z:y a b):∃a b,p a b∧q a b∧y a b:=⟨_,_,i,j,z⟩
theorem zC{p q r y:A→B→C→Prop}(i:p a b c)(j:q a b c)(k:r a b c)(z:y a b c):∃a b c,p a b c∧q a b c∧r a b c∧y a b c:=⟨_,_,_,i,j,k,z⟩
theorem zD{p q r s t y:A→B→C→D→E→Prop}(i:p a b c d e)(j:q a b c d e)(k:r a b c d e)(l:s a b c d e)(m:t a b c d e)(z:y a b c d e):∃a b c d e,p a b c d e∧q a b c d e∧r a b c d e∧s a b c d e∧t a b c d e∧y a b c d e:=⟨_,_,_,_,_,i,j,k,l,m,z⟩
theorem zE{p q y:A→Prop}(i:p a)(j:q a)(z:y a):∃a,p a∧q a∧y a:=⟨_,i,j,z⟩
theorem zF{p q r y:A→B→Prop}(i:p a b)(j:q a b)(k:r a b)(z:y a b):∃a b,p a b∧q a b∧r a b∧y a b:=⟨_,_,i,j,k,z⟩
theorem zG{p q y:A→B→C→D→E→Prop}(i:p a b c d e)(j:q a b c d e)(z:y a b c d e):∃a b c d e,p a b c d e∧q a b c d e∧y a b c d e:=⟨_,_,_,_,_,i,j,z⟩
theorem zH{p q r s y:A→B→C→D→Prop}(i:p a b c d)(j:q a b c d)(k:r a b c d)(l:s a b c d)(z:y a b c d):∃a b c d,p a b c d∧q a b c d∧r a b c d∧s a b c d∧y a b c d:=⟨_,_,_,_,i,j,k,l,z⟩
theorem zI{p y:A→Prop}(a:A)(i:p a)(z:y a):∃a,p a∧y a:=⟨a,i,z⟩
theorem zJ{p q r y:A→B→C→Prop}(a:A)(b:B)(c:C)(i:p a b c)(j:q a b c)(k:r a b c)(z:y a b c):∃a b c,p a b c∧q a b c∧r a b c∧y a b c:=⟨a,b,c,i,j,k,z⟩
theorem zK{p y:A→B→Prop}(i:p a b)(z:y a b):∃a b,p a b∧y a b:=⟨_,_,i,z⟩
theorem zL{p q r y:A→B→C→D→E→Prop}(i:p a b c d e)(j:q a b c d e)(k:r a b c d e)(z:y a b c d e):∃a b c d e,p a b c d e∧q a b c d e∧r a b c d e∧y a b c d e:=⟨_,_,_,_,_,i,j,k,z⟩
theorem zM{p y:A→B→C→D→E→F→G→Prop}(a:A)(b:B)(c:C)(d:D)(e:E)(f:F)(g:G)(i:p a b c d e f g)(z:y a b c d e f g):∃a b c d e f g,p a b c d e f g∧y a b c d e f g:=⟨a,b,c,d,e,f,g,i,z⟩
theorem zN{p q r s y:A→B→C→Prop}(i:p a b c)(j:q a b c)(k:r a b c)(l:s a b c)(z:y a b c):∃a b c,p a b c∧q a b c∧r a b c∧s a b c∧y a b c:=⟨_,_,_,i,j,k,l,z⟩
theorem zO{p q r s t y:A→B→C→D→Prop}(i:p a b c d)(j:q a b c d)(k:r a b c d)(l:s a b c d)(m:t a b c d)(z:y a b c d):∃a b c d,p a b c d∧q a b c d∧r a b c d∧s a b c d∧t a b c d∧y a b c d:=⟨_,_,_,_,i,j,k,l,m,z⟩
theorem zP{p q r y:A→B→C→D→E→F→Prop}(i:p a b c d e f)(j:q a b c d e f)(k:r a b c d e f)(z:y a b c d e f):∃a b c d e f,p a b c d e f∧q a b c d e f∧r a b c d e f∧y a b c d e f:=⟨_,_,_,_,_,_,i,j,k,z⟩
theorem zQ{p q y:A→B→C→D→Prop}(i:p a b c d)(j:q a b c d)(z:y a b c d):∃a b c d,p a b c d∧q a b c d∧y a b c d:=⟨_,_,_,_,i,j,z⟩
theorem zR{p q y:A→B→Prop}(a:A)(b:B)(i:p a b)(j:q a b)(z:y a b):∃a b,p a b∧q a b∧y a b:=⟨a,b,i,j,z⟩
theorem zS{p y:A→B→C→D→E→F→Prop}(a:A)(b:B)(c:C)(d:D)(e:E)(f:F)(i:p a b c d e f)(z:y a b c d e f):∃a b c d e f,p a b c d e f∧y a b c d e f:=⟨a,b,c,d,e,f,i,z⟩
theorem zT{p y:A→B→C→Prop}(a:A)(b:B)(c:C)(i:p a b c)(z:y a b c):∃a b c,p a b c∧y a b c:=⟨a,b,c,i,z⟩
theorem zU{p y:A→B→C→D→Prop}(a:A)(b:B)(c:C)(d:D)(i:p a b c d)(z:y a b c d):∃a b c d,p a b c d∧y a b c d:=⟨a,b,c,d,i,z⟩
theorem zV{p q r y:A→B→C→D→Prop}(i:p a b c d)(j:q a b c d)(k:r a b c d)(z:y a b c d):∃a b c d,p a b c d∧q a b c d∧r a b c d∧y a b c d:=⟨_,_,_,_,i,j,k,z⟩
theorem zW{p y:A→B→C→D→E→Prop}(a:A)(b:B)(c:C)(d:D)(e:E)(i:p a b c d e)(z:y a b c d e):∃a b c d e,p a b c d e∧y a b c d e:=⟨a,b,c,d,e,i,z⟩
theorem zX{p q r s y:A→B→C→D→Prop}(a:A)(b:B)(c:C)(d:D)(i:p a b c d)(j:q a b c d)(k:r a b c d)(l:s a b c d)(z:y a b c d):∃a b c d,p a b c d∧q a b c d∧r a b c d∧s a b c d∧y a b c d:=⟨a,b,c,d,i,j,k,l,z⟩
theorem zY{p q r s t y:A→B→C→D→E→Prop}(a:A)(b:B)(c:C)(d:D)(e:E)(i:p a b c d e)(j:q a b c d e)(k:r a b c d e)(l:s a b c d e)(m:t a b c d e)(z:y a b c d e):∃a b c d e,p a b c d e∧q a b c d e∧r a b c d e∧s a b c d e∧t a b c d e∧y a b c d e:=⟨a,b,c,d,e,i,j,k,l,m,z⟩
theorem yZ{a:Prop}(h:∀b:Prop,(a→b)→b):a:=h a id
local macro_rules|`(tactic|obtain⟨$p,$q,$r,$s,*⟩:=$e)=>`(tactic|first|(refine yZ λX k=>?_;rcases $e:term with⟨$p,$q,$r,$s,*⟩)<;>(refine k ?_;clear k X)|rcases $e:term with⟨$p,$q,$r,$s,*⟩)
namespace LuW
theorem LH(c:-K<=k/\k<=K)(d:-B<=x/\x<=B):-(K*B)<=k*x/\k*x<=K*B:=by
 have e:(k*x).natAbs<=(K*B).natAbs:=by rw[C9,C9];exact C7 (by lia) (by lia)
 have a:0<=K:=by lia
 have b:0<=B:=by lia
 have f:0<=K*B:=Int.mul_nonneg a b
 lia
theorem tz
  (d:-4752<=a/\a<=4752) (f:-4752<=b/\b<=4752) (i:-4752<=c/\c<=4752) (g:-4752<=e/\e<=4752)
  (hs:-s1<=a*l0+b*l1+c*l2+e*l3/\a*l0+b*l1+c*l2+e*l3<=s1)
  (h0:D*y0=al*l0+b0:=by decide) (h1:D*y1=al*l1+b1:=by decide) (h2:D*y2=al*l2+b2:=by decide) (h3:D*y3=al*l3+b3:=by decide)
  (k:-A<=al/\al<=A:=by decide) (k0:-B0<=b0/\b0<=B0:=by decide) (k1:-B1<=b1/\b1<=B1:=by decide) (k2:-B2<=b2/\b2<=B2:=by decide) (k3:-B3<=b3/\b3<=B3:=by decide)
  (hD:A*s1+B0*4752+B1*4752+B2*4752+B3*4752<D:=by decide):y0*a+y1*b+y2*c+y3*e=0:=by
 have p:=LH k hs;have m:=LH k0 d;have j:=LH k1 f;have p2:=LH k2 i;have l:=LH k3 g;have id:D*(y0*a+y1*b+y2*c+y3*e)=al*(a*l0+b*l1+c*l2+e*l3)+b0*a+b1*b+b2*c+b3*e:=by
  have n:D*y0*a=(al*l0+b0)*a:=by rw[h0]
  have e1:D*y1*b=(al*l1+b1)*b:=by rw[h1]
  have q:D*y2*c=(al*l2+b2)*c:=by rw[h2]
  have o:D*y3*e=(al*l3+b3)*e:=by rw[h3]
  clear p m j p2 l d f i g hs h0 h1 h2 h3 k k0 k1 k2 k3 hD
  grind
 generalize y0*a+y1*b+y2*c+y3*e=t at *;have lo:-D<D*t:=by rw[id];lia
 have hi:D*t<D:=by rw[id];lia
 have h:0<D:=by lia
 have u:t<1:=by
  have:D*t<D*1:=by rwa [E7]
  exact CN this (EO h)
 have v:-1<t:=by
  have:D*(-1)<D*t:=by rwa [Int.mul_neg,E7]
  exact CN this (EO h)
 lia
theorem W0{x0 x1 x2 x3 s g p2 h r i n f q m d k p o l j a b c e dd:Int}
  (hp:s*a+g*b+p2*c+h*e=0) (hq:r*a+i*b+n*c+f*e=0) (hr:q*a+m*b+d*c+k*e=0) (hw:p*a+o*b+l*c+j*e=0)
  (h0:x0*s+x1*r+x2*q+x3*p=dd:=by decide) (h1:x0*g+x1*i+x2*m+x3*o=0:=by decide) (h2:x0*p2+x1*n+x2*d+x3*l=0:=by decide) (h3:x0*h+x1*f+x2*k+x3*j=0:=by decide)
  (hd:dd≠0:=by decide):a=0:=by
 have e:dd*a=x0*(s*a+g*b+p2*c+h*e)+x1*(r*a+i*b+n*c+f*e)+x2*(q*a+m*b+d*c+k*e)+x3*(p*a+o*b+l*c+j*e)
  -(x0*g+x1*i+x2*m+x3*o)*b-(x0*p2+x1*n+x2*d+x3*l)*c-(x0*h+x1*f+x2*k+x3*j)*e:=by
  rw[<-h0];clear hp hq hr hw h0 h1 h2 h3 hd
  grind
 rw[hp,hq,hr,hw,h1,h2,h3] at e;have t:dd*a=0:=by rw[e];simp
 exact(Int.mul_eq_zero.mp t).resolve_left hd
theorem qG{a b c e:Int}(f:-4752<=a/\a<=4752)(d:-4752<=b/\b<=4752)(h:-4752<=c/\c<=4752)(g:-4752<=e/\e<=4752)(hs:-38020<=a*6931471805599453094172321214581765680755+b*10986122886681096913952452369225257046474+c*16094379124341003746007593332261876395256+e*19459101490553133051053527434431797296370/\a*6931471805599453094172321214581765680755+b*10986122886681096913952452369225257046474+c*16094379124341003746007593332261876395256+e*19459101490553133051053527434431797296370<=38020):a=0/\b=0/\c=0/\e=0:=by
 have t0:=tz (D:=10000000000000000000000000000000000000000) (al:=(-63720680927057970)) (y0:=(-44167810327950114)) (y1:=(-70004323108765522)) (y2:=(-102554479690123575)) (y3:=(-123994719720677434)) (b0:=27963565186960156477604416398367350) (b1:=69495056669622111772152552382097780) (b2:=99652831387781173891733456944990320) (b3:=(-232812029760957949491963375739431100)) (A:=63720680927057970) (B0:=27963565186960156477604416398367350) (B1:=69495056669622111772152552382097780) (B2:=99652831387781173891733456944990320) (B3:=232812029760957949491963375739431100) f d h g hs;have t1:=tz (D:=10000000000000000000000000000000000000000) (al:=112691812246240216) (y0:=78112011930672123) (y1:=123804609765998875) (y2:=181370475050004441) (y3:=219288141165394680) (b0:=(-4857308120713823690808950498243080)) (b1:=193233459727462139337681332720201616) (b2:=(-3078445427829277751056005138815296)) (b3:=(-35957545990050761047925966364815920)) (A:=112691812246240216) (B0:=4857308120713823690808950498243080) (B1:=193233459727462139337681332720201616) (B2:=3078445427829277751056005138815296) (B3:=35957545990050761047925966364815920) f d h g hs;have i:=tz (D:=10000000000000000000000000000000000000000) (al:=(-27754744355070134)) (y0:=(-19238122796878921)) (y1:=(-30491703217321898)) (y2:=(-44669537814966208)) (y3:=(-54008238724966640)) (b0:=180427670966686289931045942279071170) (b1:=264240184124220028511468331967407516) (b2:=44636782453449813704069218984884304) (b3:=230270797036146737015959162933613580) (A:=27754744355070134) (B0:=180427670966686289931045942279071170) (B1:=264240184124220028511468331967407516) (B2:=44636782453449813704069218984884304) (B3:=230270797036146737015959162933613580) f d h g hs;have j:=tz (D:=10000000000000000000000000000000000000000) (al:=(-121789898821833505)) (y0:=(-84418324989034899)) (y1:=(-133799879481312023)) (y2:=(-196013280515372017)) (y3:=(-236992200169825562)) (b0:=(-491442386116827315358388506407303725)) (b1:=227644936029728659796852681675311370) (b2:=(-119377038795779665756620321996147720)) (b3:=243622858314674734319725785280876850) (A:=121789898821833505) (B0:=491442386116827315358388506407303725) (B1:=227644936029728659796852681675311370) (B2:=119377038795779665756620321996147720) (B3:=243622858314674734319725785280876850) f d h g hs;clear f d h g hs;have l:(-44167810327950114)*a+(-70004323108765522)*b+(-102554479690123575)*c+(-123994719720677434)*e=0:=Eq.trans (by ac_rfl) t0;have n:78112011930672123*a+123804609765998875*b+181370475050004441*c+219288141165394680*e=0:=Eq.trans (by ac_rfl) t1;have E:(-19238122796878921)*a+(-30491703217321898)*b+(-44669537814966208)*c+(-54008238724966640)*e=0:=Eq.trans (by ac_rfl) i;have C:(-84418324989034899)*a+(-133799879481312023)*b+(-196013280515372017)*c+(-236992200169825562)*e=0:=Eq.trans (by ac_rfl) j;have u:=W0 (dd:=16754) (x0:=(-21670836)) (x1:=(-150473160)) (x2:=422236642) (x3:=(-224117788)) l n E C;have v:(-70004323108765522)*b+(-44167810327950114)*a+(-102554479690123575)*c+(-123994719720677434)*e=0:=Eq.trans (by ac_rfl) t0
 have y:123804609765998875*b+78112011930672123*a+181370475050004441*c+219288141165394680*e=0:=Eq.trans (by ac_rfl) t1;have t:(-30491703217321898)*b+(-19238122796878921)*a+(-44669537814966208)*c+(-54008238724966640)*e=0:=Eq.trans (by ac_rfl) i;have m:(-133799879481312023)*b+(-84418324989034899)*a+(-196013280515372017)*c+(-236992200169825562)*e=0:=Eq.trans (by ac_rfl) j;have F:=W0 (dd:=16754) (x0:=238219554) (x1:=322200716) (x2:=309937014) (x3:=102862782) v y t m;have r:(-102554479690123575)*c+(-44167810327950114)*a+(-70004323108765522)*b+(-123994719720677434)*e=0:=Eq.trans (by ac_rfl) t0;have x:181370475050004441*c+78112011930672123*a+123804609765998875*b+219288141165394680*e=0:=Eq.trans (by ac_rfl) t1;have s:(-44669537814966208)*c+(-19238122796878921)*a+(-30491703217321898)*b+(-54008238724966640)*e=0:=Eq.trans (by ac_rfl) i;have p:(-196013280515372017)*c+(-84418324989034899)*a+(-133799879481312023)*b+(-236992200169825562)*e=0:=Eq.trans (by ac_rfl) j;have k:=W0 (dd:=16754) (x0:=303988918) (x1:=27508014) (x2:=(-483007656)) (x3:=(-23521646)) r x s p;have B:(-123994719720677434)*e+(-44167810327950114)*a+(-70004323108765522)*b+(-102554479690123575)*c=0:=Eq.trans (by ac_rfl) t0;have w:219288141165394680*e+78112011930672123*a+123804609765998875*b+181370475050004441*c=0:=Eq.trans (by ac_rfl) t1;have o:(-54008238724966640)*e+(-19238122796878921)*a+(-30491703217321898)*b+(-44669537814966208)*c=0:=Eq.trans (by ac_rfl) i;have z:(-236992200169825562)*e+(-84418324989034899)*a+(-133799879481312023)*b+(-196013280515372017)*c=0:=Eq.trans (by ac_rfl) j;have q:=W0 (dd:=16754) (x0:=(-378198932)) (x1:=(-151058393)) (x2:=74103156) (x3:=41213067) B w o z;exact⟨u,F,k,q⟩
def jK(R M B:Nat)(b:Bool):Nat:=if b then (B*B / R+1)*(M+1) / M+1 else B*B / R+1
def jH(R M B:Nat)(b:Bool):Nat:=if b then (B*B / R)*(M+1) / M else B*B / R
def nS(n:Nat)(b:Bool):Nat:=if b then 2*n+1 else 2*n
theorem Nb(x n:Nat):x ^ (2*n)=x ^ n*x ^ n:=by rw[Nat.two_mul,Bv]
theorem XW(c:0<R)(d:0<M)(b:Bool)(h:R*(M+1) ^ n<=B*M ^ n):R*(M+1) ^ (nS n b)<=jK R M B b*M ^ (nS n b):=by
 have sq:R*(M+1) ^ (2*n)<=(B*B / R+1)*M ^ (2*n):=by
  rw[Nb,Nb];have h2:=C7 h h;have a:B*B<=R*(B*B / R+1):=by
   have:=F3 (B*B) c
   lia
  refine CG ?_ c;generalize (M+1) ^ n=x at *;generalize M ^ n=y at *
  calc R*(R*(x*x))=R*x*(R*x):=by ac_rfl
   _<=B*y*(B*y):=h2
   _=B*B*(y*y):=by ac_rfl
   _<=R*(B*B / R+1)*(y*y):=Bj _ a
   _=R*((B*B / R+1)*(y*y)):=by ac_rfl
 cases b with
 |false=>exact sq
 |true=>
  show R*(M+1) ^ (2*n+1)<=((B*B / R+1)*(M+1) / M+1)*M ^ (2*n+1);generalize B*B / R+1=q at *;have a:q*(M+1)<=M*(q*(M+1) / M+1):=by
   have:=F3 (q*(M+1)) d
   lia
  rw[BW,BW];generalize (M+1) ^ (2*n)=x at *;generalize M ^ (2*n)=y at *
  calc R*(x*(M+1))=R*x*(M+1):=by ac_rfl
   _<=q*y*(M+1):=Bj _ sq
   _=q*(M+1)*y:=by ac_rfl
   _<=M*(q*(M+1) / M+1)*y:=Bj _ a
   _=(q*(M+1) / M+1)*(y*M):=by ac_rfl
theorem Ye(c:0<R)(b:Bool)(h:B*M ^ n<=R*(M+1) ^ n):jH R M B b*M ^ (nS n b)<=R*(M+1) ^ (nS n b):=by
 have sq:B*B / R*M ^ (2*n)<=R*(M+1) ^ (2*n):=by
  rw[Nb,Nb];have h2:=C7 h h;have a:R*(B*B / R)<=B*B:=Gy _ _;refine CG ?_ c;generalize (M+1) ^ n=x at *;generalize M ^ n=y at *
  calc R*(B*B / R*(y*y))=R*(B*B / R)*(y*y):=by ac_rfl
   _<=B*B*(y*y):=Bj _ a
   _=B*y*(B*y):=by ac_rfl
   _<=R*x*(R*x):=h2
   _=R*(R*(x*x)):=by ac_rfl
 cases b with
 |false=>exact sq
 |true=>
  show B*B / R*(M+1) / M*M ^ (2*n+1)<=R*(M+1) ^ (2*n+1);generalize B*B / R=q at *;have a:M*(q*(M+1) / M)<=q*(M+1):=Gy _ _;rw[BW,BW];generalize (M+1) ^ (2*n)=x at *;generalize M ^ (2*n)=y at *
  calc q*(M+1) / M*(y*M)=M*(q*(M+1) / M)*y:=by ac_rfl
   _<=q*(M+1)*y:=Bj _ a
   _=q*y*(M+1):=by ac_rfl
   _<=R*x*(M+1):=Bj _ sq
   _=R*(x*(M+1)):=by ac_rfl
theorem WN(a:0<R)(c:0<M):∀(bs:List Bool) {B n:Nat},R*(M+1) ^ n<=B*M ^ n->R*(M+1) ^ (bs.foldl nS n)<=bs.foldl (jK R M) B*M ^ (bs.foldl nS n)
 |[],_,_,h=>h
 |b::r,_,_,h=>WN a c r (XW a c b h)
theorem UM(a:0<R):∀(bs:List Bool) {B n:Nat},B*M ^ n<=R*(M+1) ^ n->bs.foldl (jH R M) B*M ^ (bs.foldl nS n)<=R*(M+1) ^ (bs.foldl nS n)
 |[],_,_,h=>h
 |b::r,_,_,h=>UM a r (Ye a b h)
theorem Nm(a:0<R)(b:0<M)(bs:List Bool)(hn:bs.foldl nS 0=n)(h:bs.foldl (jK R M) R<=p*R):(M+1) ^ n<=p*M ^ n:=by
 have q:=WN a b bs (B:=R) (n:=0) (by simp);rw[hn] at q;refine CG ?_ a
 calc R*(M+1) ^ n<=bs.foldl (jK R M) R*M ^ n:=q
  _<=p*R*M ^ n:=Bj _ h
  _=R*(p*M ^ n):=by ac_rfl
theorem Nf(a:0<R)(bs:List Bool)(hn:bs.foldl nS 0=n)(h:p*R<=bs.foldl (jH R M) R):p*M ^ n<=(M+1) ^ n:=by
 have q:=UM (M:=M) a bs (B:=R) (n:=0) (by simp);rw[hn] at q;refine CG ?_ a
 calc R*(p*M ^ n)=p*R*M ^ n:=by ac_rfl
  _<=bs.foldl (jH R M) R*M ^ n:=Bj _ h
  _<=R*(M+1) ^ n:=q
def MM:Nat:=10 ^ 40
def RR:Nat:=10 ^ 100
theorem NI:0<MM:=by decide
theorem KR:0<RR:=by decide
def PY:Nat->Nat->List Bool->List Bool
 |0,_,aE=>aE
 |f+1,n,aE=>if n=0 then aE else PY f (n / 2) ((n % 2==1)::aE)
def n2:Nat:=6931471805599453094172321214581765680755
theorem rA:(MM+1) ^ n2<=2*MM ^ n2:=Nm KR NI (PY 200 n2 []) (by decide) (by decide)
theorem iV:2*MM ^ (n2+2)<=(MM+1) ^ (n2+2):=Nf KR (PY 200 (n2+2) []) (by decide) (by decide)
def n3:Nat:=10986122886681096913952452369225257046474
theorem qV:(MM+1) ^ n3<=3*MM ^ n3:=Nm KR NI (PY 200 n3 []) (by decide) (by decide)
theorem sG:3*MM ^ (n3+2)<=(MM+1) ^ (n3+2):=Nf KR (PY 200 (n3+2) []) (by decide) (by decide)
def n5:Nat:=16094379124341003746007593332261876395256
theorem pL:(MM+1) ^ n5<=5*MM ^ n5:=Nm KR NI (PY 200 n5 []) (by decide) (by decide)
theorem oE:5*MM ^ (n5+2)<=(MM+1) ^ (n5+2):=Nf KR (PY 200 (n5+2) []) (by decide) (by decide)
def n7:Nat:=19459101490553133051053527434431797296370
theorem oO:(MM+1) ^ n7<=7*MM ^ n7:=Nm KR NI (PY 200 n7 []) (by decide) (by decide)
theorem jN:7*MM ^ (n7+2)<=(MM+1) ^ (n7+2):=Nf KR (PY 200 (n7+2) []) (by decide) (by decide)
def gC(x y z t:Nat):Nat:=n2*x+n3*y+n5*z+n7*t
def iB(x y z t:Nat):Nat:=2 ^ x*3 ^ y*5 ^ z*7 ^ t
theorem Qb(h:(M+1) ^ n<=p*M ^ n)(x:Nat):(M+1) ^ (n*x)<=p ^ x*M ^ (n*x):=by rw[Ev,Ev,<-Nat.mul_pow];exact F0 h x
theorem Ph(h:p*M ^ n<=(M+1) ^ n)(x:Nat):p ^ x*M ^ (n*x)<=(M+1) ^ (n*x):=by rw[Ev,Ev,<-Nat.mul_pow];exact F0 h x
theorem RA{a b u v w z:Nat}(h:a<=u*w)(k:b<=v*z):a*b<=(u*v)*(w*z):=by
 refine AE (C7 h k) (Dn ?_)
 ac_rfl
theorem RS{a b u v w z:Nat}(h:u*w<=a)(k:v*z<=b):(u*v)*(w*z)<=a*b:=by
 refine AE (Dn ?_) (C7 h k)
 ac_rfl
theorem nR(x y z t:Nat):(MM+1) ^ gC x y z t<=iB x y z t*MM ^ gC x y z t:=by unfold gC iB;rw[Bv,Bv,Bv,Bv,Bv,Bv];exact RA (RA (RA (Qb rA x) (Qb qV y)) (Qb pL z)) (Qb oO t)
theorem oG(x y z t:Nat):iB x y z t*MM ^ (gC x y z t+2*(x+y+z+t))<=(MM+1) ^ (gC x y z t+2*(x+y+z+t)):=by
 have e:gC x y z t+2*(x+y+z+t)=(n2+2)*x+(n3+2)*y+(n5+2)*z+(n7+2)*t:=by
  unfold gC;simp only[EW,FP]
  lia
 rw[e];unfold iB;rw[Bv,Bv,Bv,Bv,Bv,Bv];exact RS (RS (RS (Ph iV x) (Ph sG y)) (Ph oE z)) (Ph jN t)
theorem pE(g:0<M)(e:(M+1) ^ U<=A*M ^ U)(f:B*M ^ V<=(M+1) ^ V)(h:V<U):B<A:=by obtain⟨k,rfl⟩:∃k,U=V+(k+1):=⟨U-V-1,by lia⟩;have c:M ^ (k+1)<(M+1) ^ (k+1):=Nat.pow_lt_pow_left (by lia) (by lia);have p2:0<(M+1) ^ V:=ET (by lia);have d:B*M ^ V*M ^ (k+1)<=(M+1) ^ V*M ^ (k+1):=Bj _ f;have b:(M+1) ^ V*M ^ (k+1)<(M+1) ^ V*(M+1) ^ (k+1):=Nat.mul_lt_mul_of_pos_left c p2;rw[<-Bv] at b;have a:=As (AD d b) e;rw[Ez,<-Bv] at a;exact Nat.lt_of_mul_lt_mul_right a
theorem U4(h:gC x y z t+2*(x+y+z+t)<gC x' y' z' t'):iB x y z t<iB x' y' z' t':=pE NI (nR x' y' z' t') (oG x y z t) h
def eJ(a b c e:Int):Int:=a*6931471805599453094172321214581765680755+b*10986122886681096913952452369225257046474+c*16094379124341003746007593332261876395256+e*19459101490553133051053527434431797296370
theorem XY(a b c e:Int):eJ a b c e=(gC a.toNat b.toNat c.toNat e.toNat:Int)-(gC (-a).toNat (-b).toNat (-c).toNat (-e).toNat:Int):=by
 have h:∀(n:Nat) (z:Int),z*(n:Int)=((n*z.toNat:Nat):Int)-((n*(-z).toNat:Nat):Int):=by
  intro n z;rw[B7,B7,<-Int.mul_sub,Int.mul_comm];congr 1
  lia
 have h2:=h n2 a;have k:=h n3 b;have l:=h n5 c;have d:=h n7 e;unfold eJ gC;have j:(6931471805599453094172321214581765680755:Int)=(n2:Int):=by decide
 have g:(10986122886681096913952452369225257046474:Int)=(n3:Int):=by decide
 have i:(16094379124341003746007593332261876395256:Int)=(n5:Int):=by decide
 have f:(19459101490553133051053527434431797296370:Int)=(n7:Int):=by decide
 rw[j,g,i,f,h2,k,l,d];simp only[Em]
 lia
theorem Uz(d:-4752<=a/\a<=4752)(f:-4752<=b/\b<=4752)(m:-4752<=c/\c<=4752)(j:-4752<=e/\e<=4752):
  iB a.toNat b.toNat c.toNat e.toNat<iB (-a).toNat (-b).toNat (-c).toNat (-e).toNat↔eJ a b c e<0:=by
 have hd:=XY a b c e;by_cases hs:-38020<=eJ a b c e/\eJ a b c e<=38020
 ·obtain⟨l,g,k,i⟩:=qG d f m j hs;subst l g k i;constructor
  ·intro h;exact absurd h (Bc _)
  ·intro h;exact absurd h (by decide)
 ·constructor
  ·intro h;by_cases hn:eJ a b c e<0
   ·exact hn
   ·have:=U4 (x:=(-a).toNat) (y:=(-b).toNat) (z:=(-c).toNat) (t:=(-e).toNat) (x':=a.toNat) (y':=b.toNat) (z':=c.toNat) (t':=e.toNat) (by lia)
    lia
  ·intro h;exact U4 (by lia)
open Lute
theorem IQ{x:Iv}(h:x.ok=true):(-99<=x.a/\x.a<=99)/\(-99<=x.b/\x.b<=99)/\(-99<=x.c/\x.c<=99)/\(-99<=x.e/\x.e<=99)/\1<=x.d/\x.d<=24/\x.common=1:=by
 unfold Iv.ok within MOST PARTS at h;simp only[AB,decide_eq_true_eq,beq_iff_eq] at h
 lia
def width(x:Iv):Int:=eJ x.a x.b x.c x.e*(5354228880 / (x.d:Int))
theorem Um(g a b c e:Int):eJ (g*a) (g*b) (g*c) (g*e)=g*eJ a b c e:=by unfold eJ;simp only[Int.mul_add,Int.mul_assoc]
theorem Yl(q p a b c e d h g f:Int):eJ (a*q+-d*p) (b*q+-h*p) (c*q+-g*p) (e*q+-f*p)=q*eJ a b c e-p*eJ d h g f:=by
 unfold eJ
 grind
theorem Pg(a:0<g)(hz:-B<=z/\z<=B)(hd:g∣z):-B<=z / g/\z / g<=B:=by
 obtain⟨k,rfl⟩:=hd;rw[Fl _ (Int.ne_of_gt a)];have e:(g*k).natAbs=g.natAbs*k.natAbs:=C9 g k;have:k.natAbs<=g.natAbs*k.natAbs:=Nat.le_mul_of_pos_left _ (by lia)
 lia
theorem R8{x y:Iv}(T:x.ok=true)(L:y.ok=true):x.lt y=true↔(y.d:Int)*eJ x.a x.b x.c x.e-(x.d:Int)*eJ y.a y.b y.c y.e<0:=by
 obtain⟨U,z,M,F,A,x2,_⟩:=IQ T;obtain⟨S,d9,H,P,I,d6,_⟩:=IQ L;have f:∀{u v:Int},(-99<=u/\u<=99)->(-99<=v/\v<=99)->-4752<=u*(y.d:Int)+-v*(x.d:Int)/\u*(y.d:Int)+-v*(x.d:Int)<=4752:=by
  intro u v R d7;have p:=LH (k:=u) (x:=(y.d:Int)) (K:=99) (B:=24) R (by lia);have q:=LH (k:=-v) (x:=(x.d:Int)) (K:=99) (B:=24) (by lia) (by lia)
  lia
 have Q:=f U S;have d8:=f z d9;have w:=f M H;have E:=f F P;rw[<-Yl];unfold Iv.lt Iv.less Iv.plus Iv.back Iv.low Iv.down Iv.above Iv.below Iv.back Iv.common;rw[decide_eq_true_iff];dsimp only;generalize x.a*(y.d:Int)+-y.a*(x.d:Int)=a at *;generalize x.b*(y.d:Int)+-y.b*(x.d:Int)=b at *;generalize x.c*(y.d:Int)+-y.c*(x.d:Int)=c at *;generalize x.e*(y.d:Int)+-y.e*(x.d:Int)=e at *;have W:0<A5 (x.d*y.d) (A5 a.natAbs (A5 b.natAbs (A5 c.natAbs e.natAbs))):=Fq _ (FO A I);generalize C:A5 (x.d*y.d) (A5 a.natAbs (A5 b.natAbs (A5 c.natAbs e.natAbs)))=g at *;have i:g∣A5 a.natAbs (A5 b.natAbs (A5 c.natAbs e.natAbs)):=C ▸ BF _ _;have X:g∣a.natAbs:=A9 i (BX _ _);have s:=A9 i (BF _ _);have db:g∣b.natAbs:=A9 s (BX _ _);have l:=A9 s (BF _ _);have dc:g∣c.natAbs:=A9 l (BX _ _);have V:g∣e.natAbs:=A9 l (BF _ _);have d:(0:Int)<(g:Int):=by lia
 have n:(g:Int)∣a:=Da.mp (by rwa [BN]);have j:(g:Int)∣b:=Da.mp (by rwa [BN]);have o:(g:Int)∣c:=Da.mp (by rwa [BN]);have r:(g:Int)∣e:=Da.mp (by rwa [BN]);have D:=Uz (Pg d Q n) (Pg d d8 j) (Pg d w o) (Pg d E r);refine Iff.trans D ?_;have ea:=Cw n;have G:=Cw j;have N:=Cw o;have t:=Cw r;have m:=Um (g:Int) (a / g) (b / g) (c / g) (e / g);rw[ea,G,N,t] at m;rw[m];constructor
 ·intro h;exact Int.mul_neg_of_pos_of_neg d h
 ·intro h;exact CN (by rwa [Int.mul_zero]) (EO d)
theorem O1{d:Nat}(h1:1<=d)(h2:d<=24):(d:Int)*(5354228880 / (d:Int))=5354228880:=by
 have:∀n:Fin 25,n.val=0\/(n.val:Int)*(5354228880 / (n.val:Int))=5354228880:=by decide
 rcases this ⟨d,by lia⟩ with h | h
 ·simp at h;lia
 ·exact h
theorem Q3(d:x.ok=true)(c:y.ok=true):x.lt y=decide (width x<width y):=by
 obtain⟨_,_,_,_,r,m,_⟩:=IQ d;obtain⟨_,_,_,_,i,f,_⟩:=IQ c;have l:=R8 d c;have ex:=O1 r m;have o:=O1 i f;have b:x.lt y=true↔width x<width y:=by
  rw[l];unfold width;generalize eJ x.a x.b x.c x.e=u at *;generalize eJ y.a y.b y.c y.e=v at *;generalize 5354228880 / (x.d:Int)=g at *;generalize 5354228880 / (y.d:Int)=k at *;have n:(0:Int)<(x.d:Int):=by lia
  have j:(0:Int)<(y.d:Int):=by lia
  generalize (x.d:Int)=p at *;generalize (y.d:Int)=q at *;have e1:p*q*(u*g)=5354228880*(q*u):=by rw[<-ex];ac_rfl
  have e:p*q*(v*k)=5354228880*(p*v):=by rw[<-o];ac_rfl
  have a:0<p*q:=Int.mul_pos n j;constructor
  ·intro h;have h':5354228880*(q*u)<5354228880*(p*v):=by lia
   rw[<-e1,<-e] at h';exact CN h' (EO a)
  ·intro h;have h':=Int.mul_lt_mul_of_pos_left h a;rw[e1,e] at h'
   lia
 by_cases h:width x<width y
 ·rw[decide_eq_true h];exact b.mpr h
 ·rw[decide_eq_false h];cases q:x.lt y with
  |false=>rfl
  |true=>exact absurd (b.mp q) h
theorem LG(x:Iv):x.common∣x.d/\x.common∣x.a.natAbs/\x.common∣x.b.natAbs/\x.common∣x.c.natAbs/\x.common∣x.e.natAbs:=by unfold Iv.common;have b:=BF x.d (A5 x.a.natAbs (A5 x.b.natAbs (A5 x.c.natAbs x.e.natAbs)));have c:=A9 b (BF _ _);have a:=A9 c (BF _ _);exact⟨BX _ _,A9 b (BX _ _),A9 c (BX _ _),A9 a (BX _ _),A9 a (BF _ _)⟩
theorem LY(h:Nat)(a b c e:Int)(d:Nat):(⟨h*a,h*b,h*c,h*e,h*d⟩:Iv).common=h*(⟨a,b,c,e,d⟩:Iv).common:=by unfold Iv.common;simp only[C9,BN,Ce]
theorem T7{h:Nat}{a b c e:Int}{d:Nat}(g:0<h)(h1:(⟨a,b,c,e,d⟩:Iv).common=1):(⟨h*a,h*b,h*c,h*e,h*d⟩:Iv).low=⟨a,b,c,e,d⟩:=by
 unfold Iv.low;rw[LY,h1,Ew];have f:(h:Int)≠0:=by lia
 simp only[Fl _ f,BA _ g]
theorem QC(x:(⟨a,b,c,e,h*u⟩:Iv).common=1)(hd:d=h*v)(hn:A5 n.natAbs d=1)(r:A5 u v=1)
  (hA:A=a*v\/A=n*u/\a=0) (hB:B=b*v\/B=n*u/\b=0) (hC:C=c*v\/C=n*u/\c=0) (hE:E=e*v\/E=n*u/\e=0)
  (hk:A=n*u\/B=n*u\/C=n*u\/E=n*u):(⟨A,B,C,E,h*u*v⟩:Iv).common=1:=by
 generalize p:(⟨A,B,C,E,h*u*v⟩:Iv).common=g;obtain⟨l,f,j,k,i⟩:=LG ⟨A,B,C,E,h*u*v⟩;rw[p] at l f j k i;dsimp only at l f j k i;have dZ:∀{z d7:Int},(d7=z*v\/d7=n*u/\z=0)->g∣d7.natAbs->g∣v*z.natAbs:=by
  intro z d7 w m;rcases w with e | ⟨_,e⟩
  ·rwa [e,C9,BN,Ci] at m
  ·rw[e];exact Nat.dvd_zero _
 have s:g∣v:=by
  have q:g∣v*(⟨a,b,c,e,h*u⟩:Iv).common:=by
   unfold Iv.common;rw[<-Ce,<-Ce,<-Ce,<-Ce];refine DZ ?_ (DZ (dZ hA f) (DZ (dZ hB j) (DZ (dZ hC k) (dZ hE i))))
   rwa [Ci]
  rwa [x,Ew] at q
 have t:g∣u*n.natAbs:=by
  have nn:(n*(u:Int)).natAbs=u*n.natAbs:=by rw[C9,BN,Ci]
  rw[<-nn];rcases hk with q | q | q | q
  ·rwa [<-q]
  ·rwa [<-q]
  ·rwa [<-q]
  ·rwa [<-q]
 have o:g∣u:=by
  have q:g∣u*A5 n.natAbs d:=by
   rw[<-Ce];refine DZ t ?_;rw[hd];have:u*(h*v)=h*u*v:=by ac_rfl
   rwa [this]
  rwa [hn,Ew] at q
 have q:=DZ o s;rw[r] at q;exact Nat.dvd_one.mp q
structure eW(x:Iv)(k:Nat)(n:Int)(d:Nat)(y:Iv):Prop where
 pd:y.d=BI x.d d
 pa:y.a=if k=0 then n*((BI x.d d / d:Nat):Int) else x.a*((BI x.d d / x.d:Nat):Int)
 pb:y.b=if k=1 then n*((BI x.d d / d:Nat):Int) else x.b*((BI x.d d / x.d:Nat):Int)
 pc:y.c=if k=2 then n*((BI x.d d / d:Nat):Int) else x.c*((BI x.d d / x.d:Nat):Int)
 pe:y.e=if k=3 then n*((BI x.d d / d:Nat):Int) else x.e*((BI x.d d / x.d:Nat):Int)
 plow:y.common=1
theorem oX(T:x.common=1)(y:1<=x.d)(P:1<=d)(hn:A5 n.natAbs d=1)(Q:k<4)
  (h0:k=0->x.a=0) (h1:k=1->x.b=0) (h2:k=2->x.c=0) (h3:k=3->x.e=0):eW x k n d (x.plus (powerOf k n d)):=by
 obtain⟨a,b,c,e,D⟩:=x;dsimp only at *;have t:0<A5 D d:=Fq _ y;obtain⟨u,m⟩:A5 D d∣D:=BX _ _;obtain⟨v,l⟩:A5 D d∣d:=BF _ _;generalize w:A5 D d=h at *;have M:A5 u v=1:=by
  have q:h*A5 u v=h*1:=by rw[<-Ce,<-m,<-l,w,Ew]
  exact Fe t q
 have R:0<u:=Gb λz=>by rw[z,Nat.mul_zero] at m;lia
 have S:0<v:=Gb λz=>by rw[z,Nat.mul_zero] at l;lia
 have o:BI D d=h*u*v:=by
  unfold BI;rw[w]
  conv=>lhs;lhs;rw[m,l]
  have:h*u*(h*v)=h*(h*u*v):=by ac_rfl
  rw[this,BA _ t]
 have s:BI D d / d=u:=by
  rw[o];have:h*u*v=d*u:=by rw[l];ac_rfl
  rw[this,BA _ P]
 have g:BI D d / D=v:=by
  rw[o];have:h*u*v=D*v:=by rw[m]
  rw[this,BA _ y]
 have p:∀{A B C E:Int},(A=a*v\/A=n*u/\a=0)->(B=b*v\/B=n*u/\b=0)->(C=c*v\/C=n*u/\c=0)->(E=e*v\/E=n*u/\e=0)->
   (A=n*u\/B=n*u\/C=n*u\/E=n*u)->(⟨h*A,h*B,h*C,h*E,h*(h*u*v)⟩:Iv).low=⟨A,B,C,E,h*u*v⟩/\(⟨A,B,C,E,h*u*v⟩:Iv).common=1:=by
  intro A B C E d9 N G F L;have q:=QC (h:=h) (u:=u) (v:=v) (d:=d) (a:=a) (b:=b) (c:=c) (e:=e) (by rwa [<-m]) l hn M d9 N G F L;exact⟨T7 t q,q⟩
 have dd:D*d=h*(h*u*v):=by
  conv=>lhs;rw[m,l]
  ac_rfl
 have K:(d:Int)=(h:Int)*(v:Int):=by rw[<-B7,<-l]
 have H:(D:Int)=(h:Int)*(u:Int):=by rw[<-B7,<-m]
 have f:∀z:Int,z*(d:Int)+0*(D:Int)=(h:Int)*(z*(v:Int)):=by
  intro z;rw[K];simp only[Int.zero_mul,Int.add_zero]
  ac_rfl
 have r:∀z:Int,z=0->z*(d:Int)+n*(D:Int)=(h:Int)*(n*(u:Int)):=by
  intro z I;rw[I,H];simp only[Int.zero_mul,Int.zero_add]
  ac_rfl
 unfold Iv.plus powerOf;have d8:k=0\/k=1\/k=2\/k=3:=by lia
 rcases d8 with rfl | rfl | rfl | rfl
 ·obtain⟨j,i⟩:=p (A:=n*u) (B:=b*v) (C:=c*v) (E:=e*v) (.inr ⟨Y,h0 rfl⟩) (.inl rfl) (.inl rfl) (.inl rfl) (.inl rfl);show eW _ _ _ _ (Iv.low ⟨a*(d:Int)+n*(D:Int),b*(d:Int)+0*(D:Int),c*(d:Int)+0*(D:Int),e*(d:Int)+0*(D:Int),D*d⟩);rw[f,f,f,r _ (h0 rfl),dd,j];exact⟨o.symm,by rw[s];rfl,by rw[g];rfl,by rw[g];rfl,by rw[g];rfl,i⟩
 ·obtain⟨j,i⟩:=p (A:=a*v) (B:=n*u) (C:=c*v) (E:=e*v) (.inl rfl) (.inr ⟨Y,h1 rfl⟩) (.inl rfl) (.inl rfl) (.inr (.inl rfl));show eW _ _ _ _ (Iv.low ⟨a*(d:Int)+0*(D:Int),b*(d:Int)+n*(D:Int),c*(d:Int)+0*(D:Int),e*(d:Int)+0*(D:Int),D*d⟩);rw[f,f,f,r _ (h1 rfl),dd,j];exact⟨o.symm,by rw[g];rfl,by rw[s];rfl,by rw[g];rfl,by rw[g];rfl,i⟩
 ·obtain⟨j,i⟩:=p (A:=a*v) (B:=b*v) (C:=n*u) (E:=e*v) (.inl rfl) (.inl rfl) (.inr ⟨Y,h2 rfl⟩) (.inl rfl) (.inr (.inr (.inl rfl)));show eW _ _ _ _ (Iv.low ⟨a*(d:Int)+0*(D:Int),b*(d:Int)+0*(D:Int),c*(d:Int)+n*(D:Int),e*(d:Int)+0*(D:Int),D*d⟩);rw[f,f,f,r _ (h2 rfl),dd,j];exact⟨o.symm,by rw[g];rfl,by rw[g];rfl,by rw[s];rfl,by rw[g];rfl,i⟩
 ·obtain⟨j,i⟩:=p (A:=a*v) (B:=b*v) (C:=c*v) (E:=n*u) (.inl rfl) (.inl rfl) (.inl rfl) (.inr ⟨Y,h3 rfl⟩) (.inr (.inr (.inr rfl)));show eW _ _ _ _ (Iv.low ⟨a*(d:Int)+0*(D:Int),b*(d:Int)+0*(D:Int),c*(d:Int)+0*(D:Int),e*(d:Int)+n*(D:Int),D*d⟩);rw[f,f,f,r _ (h3 rfl),dd,j];exact⟨o.symm,by rw[g];rfl,by rw[g];rfl,by rw[g];rfl,by rw[s];rfl,i⟩
abbrev Lz:=Nat->Int×Nat
def JJ(P:Lz):Nat:=BI (BI (BI (BI 1 (P 0).2) (P 1).2) (P 2).2) (P 3).2
def cX(P:Lz):Iv:=⟨(P 0).1*((JJ P / (P 0).2:Nat):Int),(P 1).1*((JJ P / (P 1).2:Nat):Int),(P 2).1*((JJ P / (P 2).2:Nat):Int),(P 3).1*((JJ P / (P 3).2:Nat):Int),JJ P⟩
def Lo(P:Lz)(k:Nat)(v:Int×Nat):Lz:=λj=>if j=k then v else P j
def iF:Lz:=λ_=>(0,1)
structure cZ(P:Lz)(least:Nat):Prop where
 pos:∀j,1<=(P j).2
 zero:∀j,least<=j->P j=(0,1)
 low:(cX P).common=1
theorem N5(h:∀j,1<=(P j).2):1<=JJ P:=EV (EV (EV (EV (by decide) (h 0)) (h 1)) (h 2)) (h 3)
theorem U8:cZ iF 0:=⟨λ_=>Ag 1,λ_ _=>rfl,by decide⟩
theorem S8:cX iF=unison:=by decide
theorem Uk(h1:d∣D)(h2:D∣D')(hd:1<=d)(a:1<=D):D / d*(D' / D)=D' / d:=by obtain⟨u,rfl⟩:=h1;obtain⟨v,rfl⟩:=h2;rw[BA _ hd,BA _ a,Ez,BA _ hd]
theorem U0(h:cZ P least)(p:least<=k)(w:k<4)(hd:1<=d)(hn:A5 n.natAbs d=1):
  (cX P).plus (powerOf k n d)=cX (Lo P k (n,d))/\cZ (Lo P k (n,d)) (k+1):=by
 have s:=N5 h.pos;have g:=h.zero k p;have A:=oX (x:=cX P) (k:=k) (n:=n) (d:=d) h.low s hd hn w (λe=>by subst e;unfold cX;rw[g];simp) (λe=>by subst e;unfold cX;rw[g];simp) (λe=>by subst e;unfold cX;rw[g];simp) (λe=>by subst e;unfold cX;rw[g];simp);have m:JJ (Lo P k (n,d))=BI (JJ P) d:=by
  have z:=λj (f:k<=j)=>congrArg Prod.snd (h.zero j (AE p f));dsimp only at z;have c:k=0\/k=1\/k=2\/k=3:=by lia
  unfold JJ Lo;rcases c with rfl | rfl | rfl | rfl
  ·simp[z 0 (by lia),z 1 (by lia),z 2 (by lia),z 3 (by lia),Ed,DX]
  ·simp[z 1 (by lia),z 2 (by lia),z 3 (by lia),Ed,DX]
  ·simp[z 2 (by lia),z 3 (by lia),Ed,DX]
  ·simp[z 3 (by lia),Ed,DX]
 have v:∀j,j<4->(P j).2∣JJ P:=by
  intro j f;have c:j=0\/j=1\/j=2\/j=3:=by lia
  unfold JJ;rcases c with rfl | rfl | rfl | rfl
  ·exact A9 (DY 1 _) (A9 (Cf _ _) (A9 (Cf _ _) (Cf _ _)))
  ·exact A9 (DY _ _) (A9 (Cf _ _) (Cf _ _))
  ·exact A9 (DY _ _) (Cf _ _)
  ·exact DY _ _
 have i:∀j,j<4->(Lo P k (n,d) j).1*((JJ (Lo P k (n,d)) / (Lo P k (n,d) j).2:Nat):Int)=
   if k=j then n*((BI (cX P).d d / d:Nat):Int) else (P j).1*((JJ P / (P j).2:Nat):Int)*((BI (cX P).d d / (cX P).d:Nat):Int):=by
  intro j f;rw[m];by_cases e:k=j
  ·rw[G7 e];unfold Lo;rw[G7 e.symm];rfl
  ·rw[G6 e];unfold Lo;rw[G6 (Ne.symm e),Int.mul_assoc,<-B7];have q:=Uk (v j f) (Cf (JJ P) d) (h.pos j) s;show _=_*((JJ P / (P j).2*(BI (JJ P) d / JJ P):Nat):Int);rw[q]
 have o:(cX P).plus (powerOf k n d)=cX (Lo P k (n,d)):=by have ea:=A.pa.trans (i 0 (by decide)).symm;have u:=A.pb.trans (i 1 (by decide)).symm;have r:=A.pc.trans (i 2 (by decide)).symm;have l:=A.pe.trans (i 3 (by decide)).symm;have t:=A.pd.trans m.symm;generalize (cX P).plus (powerOf k n d)=y at *;obtain⟨a,b,c,e,dd⟩:=y;dsimp only at ea u r l t;unfold cX;rw[ea,u,r,l,t]
 refine⟨o,λj=>?_,λj f=>?_,?_⟩
 ·unfold Lo;split
  ·exact hd
  ·exact h.pos j
 ·unfold Lo;rw[G6 (by lia)];exact h.zero j (by lia)
 ·rw[<-o];exact A.plow
end LuW
namespace LuR
open Lute
def aZ{a:Type}(p:Nat)(t:Bytes)(r:Rd a):Prop:=∀v q u,r=.ok (v,q,u)->p<=q/\q-p<=t.length/\u=t.drop (q-p)
theorem LM(c:UInt8):digit c=if 48<=c.toNat/\c.toNat<=57 then some (c.toNat-48) else none:=by unfold digit;simp only[UInt8.le_iff_toNat_le];rfl
theorem Og:∀(f n p:Nat) (t:Bytes),aZ p t (moreDigits f n p t)
 |f,n,p,[]=>by intro v q u h;unfold moreDigits at h;cases h;simp
 |f,n,p,c::r=>by
  intro v q u h;unfold moreDigits at h;cases hd:digit c with
  |none=>rw[hd] at h;dsimp only at h;cases h;simp
  |some x=>
   rw[hd] at h;dsimp only at h;cases f with
   |zero=>cases h
   |succ d=>
    dsimp only at h;obtain⟨h1,h2,b⟩:=Og d _ _ r v q u h;refine⟨by lia,by simp only[Af];lia,?_⟩;obtain⟨k,a⟩:∃k,q-p=k+1:=⟨q-p-1,by lia⟩;have:q-(p+1)=k:=by lia
    rw[b,this,a,CM]
theorem Js(p:Nat)(t:Bytes):aZ p t (number p t):=by
 intro v q u h;cases t with
 |nil=>cases h
 |cons c r=>
  unfold number at h;dsimp only at h;cases hd:digit c with
  |none=>rw[hd] at h;cases h
  |some x=>
   rw[hd] at h;have step:∀{w:Rd Nat},aZ (p+1) r w->w=.ok (v,q,u)->p<=q/\q-p<=(c::r).length/\u=(c::r).drop (q-p):=by
    intro w d e;obtain⟨h1,h2,f⟩:=d v q u e;refine⟨by lia,by simp only[Af];lia,?_⟩;obtain⟨k,a⟩:∃k,q-p=k+1:=⟨q-p-1,by lia⟩;have:q-(p+1)=k:=by lia
    rw[f,this,a,CM]
   cases x with
   |zero=>
    cases r with
    |nil=>have h':(Except.ok (0,p+1,[]):Rd Nat)=.ok (v,q,u):=h;cases h';simp
    |cons x b=>
     have h':(if (digit x).isSome=true then Except.error (p+1) else Except.ok (0,p+1,x::b):Rd Nat)=.ok (v,q,u):=h;split at h'
     ·cases h'
     ·cases h';simp
   |succ m=>exact step (Og _ _ _ _) h
theorem Kk(p:Nat)(t:Bytes):aZ p t (signed p t):=by
 intro v q u h;cases t with
 |nil=>cases h
 |cons c r=>
  unfold signed at h;dsimp only at h;split at h
  ·split at h
   ·cases h
   ·have a:=Js (p+1) r;cases hn:number (p+1) r with
    |error e=>rw[hn] at h;cases h
    |ok z=>
     obtain⟨n,b,f⟩:=z;rw[hn] at h;cases h;obtain⟨h1,h2,g⟩:=a _ _ _ hn;refine⟨by lia,by simp only[Af];lia,?_⟩;obtain⟨k,d⟩:∃k,q-p=k+1:=⟨q-p-1,by lia⟩;have:q-(p+1)=k:=by lia
     rw[g,this,d,CM]
  ·have a:=Js p (c::r);cases hn:number p (c::r) with
   |error e=>rw[hn] at h;cases h
   |ok z=>obtain⟨n,b,f⟩:=z;rw[hn] at h;cases h;exact a _ _ _ hn
theorem aZ.then{p q p':Nat}{t u:Bytes}{k:Nat}(h1:p'=p+k)(h2:k<=t.length)(b:u=t.drop k)(a:p'<=q/\q-p'<=u.length):p<=q/\q-p<=t.length/\u.drop (q-p')=t.drop (q-p):=by
 subst h1 b;rw[AK] at a;refine⟨by lia,by lia,?_⟩;rw[Cv];congr 1
 lia
theorem LW(p:Nat)(t:Bytes):∀v q u,factorAt p t=.ok (v,q,u)->p<q/\q-p<=t.length/\u=t.drop (q-p)/\v.1<4/\∀n d,v.2=some (n,d)->1<=d/\A5 n.natAbs d=1:=by
 intro v q u h;cases t with
 |nil=>cases h
 |cons c r=>
  unfold factorAt at h;dsimp only at h;cases hi:([(50:UInt8),51,53,55].idxOf? c) with
  |none=>rw[hi] at h;cases h
  |some k=>
   have j:k<4:=by
    have:=List.of_findIdx?_eq_some (xs:=[(50:UInt8),51,53,55]) (p:=λx=>x==c) (i:=k) hi;cases q:([(50:UInt8),51,53,55]:List UInt8)[k]? with
    |none=>rw[q] at this;cases this
    |some x=>have:=(Al.mp q).1;simpa using this
   rw[hi] at h;dsimp only at h;split at h
   ·rename_i g;have fs:=Kk (p+1+1) g;cases hs:signed (p+1+1) g with
    |error e=>rw[hs] at h;cases h
    |ok z=>
     obtain⟨n,f,d9⟩:=z;rw[hs] at h;dsimp only at h;obtain⟨D,s,C⟩:=fs _ _ _ hs;have b:=aZ.then (p:=p) (p':=p+1+1) (k:=2) (t:=c::94::g) (u:=g) rfl (by simp) rfl ⟨D,s⟩;rw[<-C] at b;split at h
     ·rename_i w;have fn:=Js (f+1) w;cases hn:number (f+1) w with
      |error e=>rw[hn] at h;cases h
      |ok y=>
       obtain⟨d,G,H⟩:=y;rw[hn] at h;cases h;obtain⟨A,E,I⟩:=fn _ _ _ hn;have B:(47::w).length<=(c::94::g).length-(f-p):=by rw[b.2.2,AK];lia
       have m:=aZ.then (p:=p) (p':=f+1) (k:=f+1-p) (t:=c::94::g) (u:=w) (by lia) (by simp only[Af] at B ⊢;lia) (by
        have e:f+1-p=(f-p)+1:=by lia
        rw[e,<-Cv,<-b.2.2];rfl) ⟨A,E⟩
       refine⟨by lia,m.2.1,by rwa [<-m.2.2],j,?_⟩;intro o l a;dsimp only at a;split at a
       ·rename_i F;cases a;exact⟨by lia,F.2⟩
       ·cases a
     ·cases h;refine⟨by lia,b.2.1,b.2.2,j,?_⟩;intro o l a;dsimp only at a;split at a
      ·cases a
      ·cases a;exact⟨Ag _,by simp⟩
   ·cases h;refine⟨by lia,by simp,by simp,j,?_⟩;intro o l a;cases a;exact⟨Ag _,by decide⟩
def sh{a:Type}(s:Nat):Rd a->Rd a
 |.error e=>.error (e+s)
 |.ok (v,q,u)=>.ok (v,q+s,u)
def jP{a:Type}(s:Nat):Except Nat a->Except Nat a
 |.error e=>.error (e+s)
 |.ok v=>.ok v
theorem SI(s:Nat):∀(f n p:Nat) (t:Bytes),moreDigits f n (p+s) t=sh s (moreDigits f n p t)
 |f,n,p,[]=>by unfold moreDigits;rfl
 |f,n,p,c::r=>by
  unfold moreDigits;cases digit c with
  |none=>rfl
  |some x=>
   cases f with
   |zero=>rfl
   |succ a=>
    have:=SI s a (10*n+x) (p+1) r
    rwa [BY] at this
theorem Mz(s p:Nat)(t:Bytes):number (p+s) t=sh s (number p t):=by
 cases t with
 |nil=>rfl
 |cons c r=>
  unfold number;dsimp only;cases digit c with
  |none=>rfl
  |some x=>
   cases x with
   |zero=>
    cases r with
    |nil=>show(Except.ok (0,p+s+1,[]):Rd Nat)=Except.ok (0,p+1+s,[]);rw[BY]
    |cons y a=>show(if (digit y).isSome=true then Except.error (p+s+1) else Except.ok (0,p+s+1,y::a):Rd Nat)=sh s (if (digit y).isSome=true then Except.error (p+1) else Except.ok (0,p+1,y::a));rw[BY p s 1];split <;> rfl
   |succ m=>
    have:=SI s 3 (m+1) (p+1) r
    rwa [BY] at this
theorem UI(s p:Nat)(t:Bytes):signed (p+s) t=sh s (signed p t):=by
 cases t with
 |nil=>rfl
 |cons c r=>
  unfold signed;dsimp only;have e1:=Mz s (p+1) r;have a:=Mz s p (c::r);rw[BY] at e1;rw[BY p s 1];split
  ·split
   ·rfl
   ·rw[show p+1+s=p+s+1 by lia,e1];cases number (p+1) r with
    |error e=>rfl
    |ok z=>rfl
  ·rw[a];cases number p (c::r) with
   |error e=>rfl
   |ok z=>rfl
theorem T0(s p:Nat)(t:Bytes):factorAt (p+s) t=sh s (factorAt p t):=by
 cases t with
 |nil=>rfl
 |cons c r=>
  unfold factorAt;dsimp only;cases([(50:UInt8),51,53,55].idxOf? c) with
  |none=>rfl
  |some k=>
   dsimp only;split
   ·rename_i b;have e1:=UI s (p+1+1) b;rw[show p+1+1+s=p+s+1+1 by lia] at e1;rw[e1];cases signed (p+1+1) b with
    |error e=>rfl
    |ok z=>
     obtain⟨n,q,v⟩:=z;dsimp only [sh];split
     ·rename_i w;have a:=Mz s (q+1) w;rw[show q+1+s=q+s+1 by lia] at a;rw[a];cases number (q+1) w with
      |error e=>rfl
      |ok y=>rfl
     ·rfl
   ·show(Except.ok _:Rd (Nat×Option (Int×Nat)))=Except.ok _;rw[BY]
theorem Nw(s:Nat):∀(f least:Nat) (x:Iv) (p:Nat) (t:Bytes),factorsAt f least x (p+s) t=jP s (factorsAt f least x p t)
 |0,_,_,_,_=>by unfold factorsAt;rfl
 |f+1,least,x,p,t=>by
  unfold factorsAt;rw[T0];cases factorAt p t with
  |error e=>rfl
  |ok z=>
   obtain⟨⟨k,w⟩,q,u⟩:=z;dsimp only [sh];split
   ·rfl
   ·cases w with
    |none=>rfl
    |some nd=>
     obtain⟨n,d⟩:=nd;cases u with
     |nil=>dsimp only;split <;> rfl
     |cons c v=>
      dsimp only;split
      ·have a:=Nw s f (k+1) (x.plus (powerOf k n d)) (q+1) v
       rwa [show q+1+s=q+s+1 by lia] at a
      ·rfl
theorem Ma:∀(f g least:Nat) (x:Iv) (p:Nat) (t:Bytes),t.length<f->t.length<g->factorsAt f least x p t=factorsAt g least x p t
 |0,_,_,_,_,_,h,_=>absurd h (Bo _)
 |_,0,_,_,_,_,_,h=>absurd h (Bo _)
 |f+1,g+1,least,x,p,t,hf,hg=>by
  unfold factorsAt;cases hfa:factorAt p t with
  |error e=>rfl
  |ok z=>
   obtain⟨⟨k,w⟩,q,u⟩:=z;obtain⟨h1,h2,a,_⟩:=LW p t _ _ _ hfa;dsimp only;split
   ·rfl
   ·cases w with
    |none=>rfl
    |some nd=>
     obtain⟨n,d⟩:=nd;cases u with
     |nil=>rfl
     |cons c v=>
      dsimp only;split
      ·have b:v.length+1=t.length-(q-p):=by rw[<-AK,<-a];rfl
       exact Ma f g _ _ _ v (by lia) (by lia)
      ·rfl
def fa(least:Nat)(x:Iv)(p:Nat)(t:Bytes):Except Nat Iv:=factorsAt (t.length+1) least x p t
theorem pN(least:Nat)(x:Iv)(p:Nat)(t:Bytes):fa least x p t=match factorAt p t with
  |.error e=>.error e
  |.ok ((k,w),q,u)=>if k<least then .error p else match w with
   |none=>.error p
   |some (n,d)=>match u with
    |[]=>if (x.plus (powerOf k n d)).ok=true then .ok (x.plus (powerOf k n d)) else .error q
    |c::v=>if c=32 then fa (k+1) (x.plus (powerOf k n d)) (q+1) v else .error q:=by
 unfold fa
 conv=>lhs;unfold factorsAt
 cases hfa:factorAt p t with
 |error e=>rfl
 |ok z=>
  obtain⟨⟨k,w⟩,q,u⟩:=z;obtain⟨h1,h2,a,_⟩:=LW p t _ _ _ hfa;dsimp only;split
  ·rfl
  ·cases w with
   |none=>rfl
   |some nd=>
    obtain⟨n,d⟩:=nd;cases u with
    |nil=>rfl
    |cons c v=>
     dsimp only;split
     ·have b:v.length+1=t.length-(q-p):=by rw[<-AK,<-a];rfl
      exact Ma _ _ _ _ _ v (by lia) (by lia)
     ·rfl
def HP(s:Nat)(t:Bytes):Except Nat Iv:=jP s (Lute.read t)
theorem OS(s:Nat)(t:Bytes):HP s t=match t with
  |[]=>.error s
  |c::r=>if c=49 then (if r=[] then .ok unison else .error (s+1)) else fa 0 unison s (c::r):=by
 unfold HP;cases t with
 |nil=>show jP s (factorsAt 1 0 unison 0 [])=_;unfold factorsAt;show(Except.error (0+s):Except Nat Iv)=_;rw[Cz]
 |cons c r=>
  by_cases a:c=49
  ·subst a;unfold Lute.read;dsimp only;rw[G7 rfl];cases r with
   |nil=>rfl
   |cons y b=>show(Except.error (1+s):Except Nat Iv)=_;rw[G6 (by simp),EM]
  ·have this:Lute.read (c::r)=factorsAt ((c::r).length+1) 0 unison 0 (c::r):=by
    unfold Lute.read;split
    ·rename_i h;cases h;exact absurd rfl a
    ·rfl
   rw[this];dsimp only;rw[G6 a];have:=Nw s ((c::r).length+1) 0 unison 0 (c::r);rw[Cz] at this;exact this.symm
open Lute LuteSong
def J7(c:UInt8):Bool:=c != 44&&c != 10
def Ho(t:Bytes):Bytes:=t.takeWhile J7
def Sq(x:Iv)(last:Option Iv):Bool:=match last with
 |some y=>x.lt y
 |none=>false
def Jc:Nat->Nat->Option Iv->Nat->Bytes->Rd (List Iv)
 |0,_,_,p,_=>.error p
 |f+1,many,last,p,t=>if 14<=many then .error p else
  match HP p (Ho t) with
  |.error e=>.error e
  |.ok x=>if Sq x last=true then .error p else match t.drop (Ho t).length with
   |[]=>.ok ([x],p+(Ho t).length,[])
   |c::r=>if c=44 then (match r with
     |[]=>.error (p+(Ho t).length+1)
     |b::u=>if b=32 then (match Jc f (many+1) (some x) (p+(Ho t).length+2) u with
       |.error e=>.error e
       |.ok (l,q,v)=>.ok (x::l,q,v)) else .error (p+(Ho t).length+1))
    else .ok ([x],p+(Ho t).length,c::r)
def IE{a:Type}:Rd a->Rd a
 |.error e=>.error e
 |.ok (_,q,[])=>.error q
 |.ok (l,q,c::r)=>if c=10 then .ok (l,q+1,r) else .error q
theorem MK(p:Nat)(b:Bytes):HP p b=match Lute.read b with
  |.error e=>.error (p+e)
  |.ok x=>.ok x:=by
 unfold HP jP;cases Lute.read b with
 |error e=>show(Except.error (e+p):Except Nat Iv)=Except.error (p+e);rw[EM]
 |ok x=>rfl
theorem Qn{t:Bytes}{c:UInt8}{r:Bytes}(h:t.drop (Ho t).length=c::r):J7 c=false:=by
 induction t with
 |nil=>simp[Ho] at h
 |cons a t b=>
  unfold Ho at h b;rw[CH] at h;cases ha:J7 a with
  |true=>rw[ha] at h;exact b (by simpa using h)
  |false=>
   rw[ha] at h;simp at h
   rwa [<-h.1]
theorem Lq:∀(f a:Nat) (last:Option Iv) (p:Nat) (t:Bytes),notesAt f a last p t=IE (Jc f a last p t)
 |0,_,_,_,_=>by unfold notesAt Jc;rfl
 |f+1,a,last,p,t=>by
  unfold notesAt Jc;dsimp only;rw[show(List.takeWhile (λ(c:UInt8)=>c != 44&&c != 10) t)=Ho t from rfl];show(if 14<=a then _ else _)=_;by_cases d:14<=a
  ·rw[G7 d,G7 d];rfl
  ·rw[G6 d,G6 d];rw[MK];cases Lute.read (Ho t) with
   |error e=>rfl
   |ok x=>
    dsimp only;show(if Sq x last=true then _ else _)=_;cases hl:Sq x last with
    |true=>rfl
    |false=>
     rw[G6 (by decide),G6 (by decide)];cases hd:t.drop (Ho t).length with
     |nil=>rfl
     |cons c r=>
      have hs:=Qn hd;dsimp only;by_cases i:c=44
      ·subst i;have hn:¬((44:UInt8)=LuteTab.END):=by decide
       rw[G6 hn,G7 rfl];cases r with
       |nil=>rfl
       |cons b u=>
        dsimp only;by_cases g:b=32
        ·subst g;rw[G7 rfl];have k:=Lq f (a+1) (some x) (p+(Ho t).length+2) u;show(match notesAt f (a+1) (some x) (p+(Ho t).length+2) u with
          |Except.error e=>Except.error e
          |Except.ok (l,q,v)=>Except.ok (x::l,q,v):Rd (List Iv))=_
         rw[k];cases Jc f (a+1) (some x) (p+(Ho t).length+2) u with
         |error e=>rfl
         |ok z=>
          obtain⟨l,q,v⟩:=z;cases v with
          |nil=>rfl
          |cons n o=>
           by_cases j:n=10
           ·simp only[IE,G7 j]
           ·simp only[IE,G6 j]
        ·rw[G6 g];split
         ·rename_i h;cases h;exact absurd rfl g
         ·rfl
      ·rw[G6 i];have m:c=10:=by
        unfold J7 at hs;simp at hs;rcases Classical.em (c=44) with q | q
        ·exact absurd q i
        ·exact hs q
       subst m;rfl
theorem T6(t:Bytes):(Ho t).length<=t.length:=by unfold Ho;exact(List.takeWhile_prefix _).length_le
theorem K8:∀(f a:Nat) (last:Option Iv) (p:Nat) (t:Bytes),aZ p t (Jc f a last p t)
 |0,_,_,_,_=>by intro v q u h;unfold Jc at h;cases h
 |f+1,a,last,p,t=>by
  intro v q u h;have o:=T6 t;unfold Jc at h;split at h
  ·cases h
  ·cases hr:HP p (Ho t) with
   |error e=>rw[hr] at h;cases h
   |ok x=>
    rw[hr] at h;dsimp only at h;split at h
    ·cases h
    ·cases hd:t.drop (Ho t).length with
     |nil=>rw[hd] at h;cases h;exact⟨by lia,by lia,by rw[Fs];exact hd.symm⟩
     |cons c r=>
      rw[hd] at h;dsimp only at h;split at h
      ·cases r with
       |nil=>cases h
       |cons b w=>
        dsimp only at h;split at h
        ·have m:=K8 f (a+1) (some x) (p+(Ho t).length+2) w;cases hn:Jc f (a+1) (some x) (p+(Ho t).length+2) w with
         |error e=>rw[hn] at h;cases h
         |ok z=>
          obtain⟨l,s,y⟩:=z;rw[hn] at h;cases h;obtain⟨j,d,i⟩:=m _ _ _ hn;have n:w=t.drop ((Ho t).length+2):=by rw[<-Cv,hd];rfl
          have g:(c::b::w).length=t.length-(Ho t).length:=by rw[<-hd,AK]
          have b:=aZ.then (p:=p) (p':=p+(Ho t).length+2) (k:=(Ho t).length+2) (t:=t) (u:=w) (by lia) (by simp only[Af] at g;lia) n ⟨j,d⟩;exact⟨b.1,b.2.1,i.trans b.2.2⟩
        ·cases h
      ·cases h;exact⟨by lia,by lia,by rw[Fs];exact hd.symm⟩
theorem NF:∀(f g a:Nat) (last:Option Iv) (p:Nat) (t:Bytes),t.length<f->t.length<g->Jc f a last p t=Jc g a last p t
 |0,_,_,_,_,_,h,_=>absurd h (Bo _)
 |_,0,_,_,_,_,_,h=>absurd h (Bo _)
 |f+1,g+1,a,last,p,t,hf,hg=>by
  unfold Jc;cases hr:HP p (Ho t) with
  |error e=>rfl
  |ok x=>
   dsimp only;cases hd:t.drop (Ho t).length with
   |nil=>rfl
   |cons c r=>
    dsimp only;cases r with
    |nil=>rfl
    |cons b u=>
     dsimp only;have d:(c::b::u).length=t.length-(Ho t).length:=by rw[<-hd,AK]
     simp only[Af] at d;rw[NF f g (a+1) (some x) (p+(Ho t).length+2) u (by lia) (by lia)]
def nn(a:Nat)(last:Option Iv)(p:Nat)(t:Bytes):Rd (List Iv):=Jc (t.length+1) a last p t
theorem YL(a:Nat)(last:Option Iv)(p:Nat)(t:Bytes):nn a last p t=if 14<=a then .error p else
  match HP p (Ho t) with
  |.error e=>.error e
  |.ok x=>if Sq x last=true then .error p else match t.drop (Ho t).length with
   |[]=>.ok ([x],p+(Ho t).length,[])
   |c::r=>if c=44 then (match r with
     |[]=>.error (p+(Ho t).length+1)
     |b::u=>if b=32 then (match nn (a+1) (some x) (p+(Ho t).length+2) u with
       |.error e=>.error e
       |.ok (l,q,v)=>.ok (x::l,q,v)) else .error (p+(Ho t).length+1))
    else .ok ([x],p+(Ho t).length,c::r):=by
 unfold nn
 conv=>lhs;unfold Jc
 cases hr:HP p (Ho t) with
 |error e=>rfl
 |ok x=>
  dsimp only;cases hd:t.drop (Ho t).length with
  |nil=>rfl
  |cons c r=>
   dsimp only;cases r with
   |nil=>rfl
   |cons b u=>
    dsimp only;have d:(c::b::u).length=t.length-(Ho t).length:=by rw[<-hd,AK]
    simp only[Af] at d;rw[NF t.length (u.length+1) (a+1) (some x) (p+(Ho t).length+2) u (by lia) (by lia)]
def J9(p:Nat)(t:Bytes):Rd (List Iv):=match t with
 |[]=>nn 0 none p []
 |c::r=>if c=46 then .ok ([],p+1,r) else nn 0 none p (c::r)
theorem MX(p:Nat)(t:Bytes):momentAt p t=IE (J9 p t):=by
 unfold momentAt J9;cases t with
 |nil=>exact Lq 1 0 none p []
 |cons c r=>
  by_cases d:c=46
  ·subst d;dsimp only;rw[G7 rfl];cases r with
   |nil=>rfl
   |cons a r=>
    show(match Aj [LuteTab.END] (p+1) (a::r) with
     |.error e=>_
     |.ok (_,q,u)=>_)=(if a=10 then _ else _)
    unfold Aj;by_cases b:a=10
    ·rw[G7 b,G7 (show a=LuteTab.END from b)];rfl
    ·rw[G6 b,G6 (show ¬a=LuteTab.END from b)]
  ·dsimp only;rw[G6 d];split
   ·rename_i h;cases h;exact absurd rfl d
   ·exact Lq _ 0 none p (c::r)
theorem TJ(p:Nat)(t:Bytes):aZ p t (J9 p t):=by
 unfold J9;cases t with
 |nil=>exact K8 _ _ _ _ _
 |cons c r=>
  dsimp only;split
  ·intro v q u h;cases h;simp
  ·exact K8 _ _ _ _ _
theorem Lk{f:Type}{r:Rd f}(h:aZ p t r):∀v q u,IE r=.ok (v,q,u)->p<q/\q-p<=t.length/\u=t.drop (q-p)/\∃w,r=.ok (v,q-1,w)/\w=10::u:=by
 intro v q u e;cases r with
 |error x=>cases e
 |ok z=>
  obtain⟨l,a,w⟩:=z;cases w with
  |nil=>cases e
  |cons c w=>
   dsimp only [IE] at e;split at e
   ·rename_i g;cases e;subst g;obtain⟨h1,h2,b⟩:=h _ _ _ rfl;have d:(10::u:Bytes).length=t.length-(a-p):=by rw[b,AK]
    simp only[Af] at d;refine⟨by lia,by lia,?_,10::u,by simp,Y⟩;have e1:a+1-p=(a-p)+1:=by lia
    rw[e1,<-Cv,<-b];rfl
   ·cases e
def KA(last p:Nat):Bytes->Rd Nat
 |[]=>.error p
 |c::r=>if c=32/\last≠0 then .ok (last,p+1,r) else match Bm p (c::r) with
  |.error e=>.error e
  |.ok (n,q,u)=>if n=last then .error p else .ok (n,q,u)
theorem PH(p:Nat)(t:Bytes):∀v q u,Bm p t=.ok (v,q,u)->p<q/\q-p<=t.length/\u=t.drop (q-p)/\1<=v:=by
 intro v q u h;cases t with
 |nil=>cases h
 |cons c r=>
  unfold Bm at h;dsimp only at h;cases hi:([(120:UInt8),116,115,101,113,104,119].idxOf? c) with
  |none=>rw[hi] at h;cases h
  |some i=>
   rw[hi] at h;dsimp only at h;have p2:∀n:Nat,1<=2 ^ n:=λn=>ET (by decide);split at h
   ·split at h
    ·cases h
    ·cases h;refine⟨by lia,by simp only[Af];lia,?_,?_⟩
     ·rw[show p+3-p=3 by lia];rfl
     ·exact AE (p2 i) (Cd _ _)
   ·split at h <;> cases h
   ·cases h;refine⟨by lia,by simp only[Af];lia,?_,p2 i⟩;rw[show p+2-p=2 by lia];rfl
   ·cases h
theorem Lx(last p:Nat)(t:Bytes):∀v q u,KA last p t=.ok (v,q,u)->p<q/\q-p<=t.length/\u=t.drop (q-p)/\1<=v:=by
 intro v q u h;cases t with
 |nil=>cases h
 |cons c r=>
  unfold KA at h;dsimp only at h;split at h
  ·rename_i d;cases h;refine⟨by lia,by simp,by simp,by lia⟩
  ·cases hl:Bm p (c::r) with
   |error e=>rw[hl] at h;cases h
   |ok z=>
    obtain⟨n,a,b⟩:=z;rw[hl] at h;dsimp only at h;split at h
    ·cases h
    ·cases h;exact PH p (c::r) _ _ _ hl
theorem UC(p:Nat)(r:Bytes):(match Aj [LuteTab.END] p r with
  |.error e=>.error e
  |.ok (_,q,u)=>.ok ((),q,u):Rd Unit)=IE (.ok ((),p,r)):=by
 cases r with
 |nil=>rfl
 |cons a r=>
  unfold Aj IE;by_cases b:a=10
  ·rw[G7 (show a=LuteTab.END from b)];dsimp only;rw[G7 b];rfl
  ·rw[G6 (show ¬a=LuteTab.END from b)];dsimp only;rw[G6 b]
def Jd:Nat->Nat->Nat->Nat->Bytes->Except Nat Song
 |_,last,_,p,[]=>if last=0 then .error p else .ok []
 |0,_,_,p,_=>.error p
 |f+1,last,many,p,c::r=>if 512<=many then .error p else
  if c=124 then (match IE (.ok ((),p+1,r)) with
   |.error e=>.error e
   |.ok (_,q,u)=>(Jd f last (many+1) q u).map (Verse.bar::·))
  else match KA last p (c::r) with
   |.error e=>.error e
   |.ok (n,q,u)=>match IE (J9 q u) with
    |.error e=>.error e
    |.ok (l,z,v)=>(Jd f n (many+1) z v).map (Verse.moment n l::·)
theorem T9(p:Nat)(r:Bytes):Bm p (32::r)=.error p:=rfl
theorem JP:∀(f last a p:Nat) (t:Bytes),versesAt f last a p t=Jd f last a p t
 |f,last,a,p,[]=>by cases f <;> (unfold versesAt Jd;rfl)
 |0,_,_,_,c::r=>by unfold versesAt Jd;rfl
 |f+1,last,a,p,c::r=>by
  unfold versesAt Jd;show(if 512<=a then _ else _)=_;by_cases d:512<=a
  ·rw[G7 d,G7 d]
  ·rw[G6 d,G6 d];by_cases i:c=124
   ·rw[G7 i,G7 i,<-UC];cases Aj [LuteTab.END] (p+1) r with
    |error e=>rfl
    |ok z=>obtain⟨_,q,u⟩:=z;dsimp only;rw[JP f last (a+1) q u]
   ·rw[G6 i,G6 i];by_cases b:c=32
    ·rw[G7 (show c=LuteTab.BLANK from b)];subst b;unfold KA;dsimp only;by_cases g:last=0
     ·rw[G7 g,G6 (λh=>h.2 g),T9]
     ·rw[G6 g,G7 ⟨Y,g⟩];dsimp only;rw[MX];cases IE (J9 (p+1) r) with
      |error e=>rfl
      |ok z=>obtain⟨l,q,u⟩:=z;dsimp only;rw[JP f last (a+1) q u]
    ·rw[G6 (show ¬c=LuteTab.BLANK from b)];unfold KA;dsimp only;rw[G6 (λh=>b h.1)];cases Bm p (c::r) with
     |error e=>rfl
     |ok z=>
      obtain⟨n,q,u⟩:=z;dsimp only;by_cases hn:n=last
      ·rw[G7 hn,G7 hn]
      ·rw[G6 hn,G6 hn];dsimp only;rw[MX];cases IE (J9 q u) with
       |error e=>rfl
       |ok z=>obtain⟨l,j,v⟩:=z;dsimp only;rw[JP f n (a+1) j v]
def va(last a p:Nat)(t:Bytes):Except Nat Song:=Jd (t.length+1) last a p t
def Lg:Bytes:=[115,111,110,103,10]
theorem MZ(t:Bytes):readSong t=match Aj Lg 0 t with
  |.error e=>.error e
  |.ok (_,q,u)=>va 0 0 q u:=by
 unfold readSong;rw[show(LuteTab.ascii "song"++[LuteTab.END])=Lg by decide];cases Aj Lg 0 t with
 |error e=>rfl
 |ok z=>obtain⟨_,q,u⟩:=z;exact JP _ 0 0 q u
section
variable{β:Type}
abbrev Ln(β:Type):=Option (Nat×List β)
def IY(rd:Nat->Bytes->Rd (List β)):Nat->Nat->Nat->Nat->Bytes->Except Nat (List (Ln β))
 |_,last,_,p,[]=>if last=0 then .error p else .ok []
 |0,_,_,p,_=>.error p
 |f+1,last,many,p,c::r=>if 512<=many then .error p else
  if c=124 then (match IE (.ok ((),p+1,r)) with
   |.error e=>.error e
   |.ok (_,q,u)=>(IY rd f last (many+1) q u).map (none::·))
  else match KA last p (c::r) with
   |.error e=>.error e
   |.ok (n,q,u)=>match IE (rd q u) with
    |.error e=>.error e
    |.ok (l,z,v)=>(IY rd f n (many+1) z v).map (some (n,l)::·)
theorem Ky(F:∀p t,aZ p t (rd p t)):∀(f g last a p:Nat) (t:Bytes),t.length<f->t.length<g->IY rd f last a p t=IY rd g last a p t
 |f,g,last,a,p,[],_,_=>by cases f <;> cases g <;> (unfold IY;rfl)
 |0,_,_,_,_,_::_,h,_=>absurd h (Bo _)
 |_,0,_,_,_,_::_,_,h=>absurd h (Bo _)
 |f+1,g+1,last,a,p,c::r,hf,hg=>by
  simp only[Af] at hf hg;unfold IY;by_cases b:512<=a
  ·rw[G7 b,G7 b]
  ·rw[G6 b,G6 b];by_cases d:c=124
   ·rw[G7 d,G7 d];cases he:IE (.ok ((),p+1,r)) with
    |error e=>rfl
    |ok z=>
     obtain⟨x,q,u⟩:=z;have o:aZ (p+1) r (.ok ((),p+1,r):Rd Unit):=by intro v q u h;cases h;simp
     obtain⟨_,_,i,_⟩:=Lk o _ _ _ he;have s:u.length<=r.length:=by rw[i,AK];lia
     dsimp only;rw[Ky F f g last (a+1) q u (by lia) (by lia)]
   ·rw[G6 d,G6 d];cases hl:KA last p (c::r) with
    |error e=>rfl
    |ok z=>
     obtain⟨n,q,u⟩:=z;obtain⟨w,j,m,_⟩:=Lx last p (c::r) _ _ _ hl;dsimp only;cases he:IE (rd q u) with
     |error e=>rfl
     |ok z=>
      obtain⟨l,k,v⟩:=z;obtain⟨_,_,i,_⟩:=Lk (F q u) _ _ _ he;have s:u.length<r.length+1:=by rw[m,AK];simp only[Af] at j ⊢;lia
      have y:v.length<=u.length:=by rw[i,AK];lia
      dsimp only;rw[Ky F f g n (a+1) k v (by lia) (by lia)]
def la(rd:Nat->Bytes->Rd (List β))(last a p:Nat)(t:Bytes):Except Nat (List (Ln β)):=IY rd (t.length+1) last a p t
theorem mV(rd:Nat->Bytes->Rd (List β))(last a p:Nat):la rd last a p []=if last=0 then .error p else .ok []:=by unfold la IY;rfl
theorem Mc{rd:Nat->Bytes->Rd (List β)}(F:∀p t,aZ p t (rd p t))(last a p:Nat)(c:UInt8)(r:Bytes):la rd last a p (c::r)=if 512<=a then .error p else
  if c=124 then (match IE (.ok ((),p+1,r)) with
   |.error e=>.error e
   |.ok (_,q,u)=>(la rd last (a+1) q u).map (none::·))
  else match KA last p (c::r) with
   |.error e=>.error e
   |.ok (n,q,u)=>match IE (rd q u) with
    |.error e=>.error e
    |.ok (l,z,v)=>(la rd n (a+1) z v).map (some (n,l)::·):=by
 unfold la
 conv=>lhs;unfold IY
 by_cases b:512<=a
 ·rw[G7 b,G7 b]
 ·rw[G6 b,G6 b];by_cases d:c=124
  ·rw[G7 d,G7 d];cases he:IE (.ok ((),p+1,r)) with
   |error e=>rfl
   |ok z=>
    obtain⟨x,q,u⟩:=z;have k:aZ (p+1) r (.ok ((),p+1,r):Rd Unit):=by intro v q u h;cases h;simp
    obtain⟨_,_,f,_⟩:=Lk k _ _ _ he;have m:u.length<=r.length:=by rw[f,AK];lia
    dsimp only;rw[Ky F (c::r).length (u.length+1) last (a+1) q u (by simp only[Af];lia) (by lia)]
  ·rw[G6 d,G6 d];cases hl:KA last p (c::r) with
   |error e=>rfl
   |ok z=>
    obtain⟨n,q,u⟩:=z;obtain⟨o,g,j,_⟩:=Lx last p (c::r) _ _ _ hl;dsimp only;cases he:IE (rd q u) with
    |error e=>rfl
    |ok z=>
     obtain⟨l,i,v⟩:=z;obtain⟨_,_,f,_⟩:=Lk (F q u) _ _ _ he;have m:u.length<r.length+1:=by rw[j,AK];simp only[Af] at g ⊢;lia
     have s:v.length<=u.length:=by rw[f,AK];lia
     dsimp only;rw[Ky F (c::r).length (v.length+1) n (a+1) i v (by simp only[Af];lia) (by lia)]
def Kb(aE:List (Ln β))(r:Except Nat (List (Ln β))):Except Nat (List (Ln β)):=r.map λx=>aE++x
theorem UE(r:Except Nat (List (Ln β))):Kb [] r=r:=by cases r <;> rfl
theorem N8(aE:List (Ln β))(v:Ln β)(r:Except Nat (List (Ln β))):Kb aE (r.map (v::·))=Kb (aE++[v]) r:=by
 cases r with
 |error e=>rfl
 |ok s=>show Except.ok (aE++(v::s))=Except.ok (aE++[v]++s);rw[Bq];rfl
def PX(q:Nat):Bytes->Except Nat (Nat×Bytes)
 |[]=>.error q
 |c::r=>if c=10 then .ok (q+1,r) else .error q
variable{rd:Nat->Bytes->Rd (List β)}
theorem Y1(F:∀p t,aZ p t (rd p t))(last a p:Nat)(r:Bytes)(aE:List (Ln β))(h:¬512<=a):Kb aE (la rd last a p (124::r))=Kb (aE++[none]) (match PX (p+1) r with
  |.error e=>.error e
  |.ok (q,u)=>la rd last (a+1) q u):=by
 rw[Mc F,G6 h,G7 rfl];cases r with
 |nil=>rfl
 |cons d v=>
  unfold IE PX;dsimp only;by_cases hd:d=10
  ·rw[G7 hd,G7 hd];exact N8 _ _ _
  ·rw[G6 hd,G6 hd];rfl
theorem Ua(F:∀p t,aZ p t (rd p t))(aE:List (Ln β))(h:¬512<=many)(a:¬c=124)(h1:KA last p (c::r)=.ok (n,q,u))(h2:rd q u=.ok (l,q2,u2)):
  Kb aE (la rd last many p (c::r))=Kb (aE++[some (n,l)]) (match PX q2 u2 with
  |.error e=>.error e
  |.ok (z,v)=>la rd n (many+1) z v):=by
 rw[Mc F,G6 h,G6 a,h1];dsimp only;rw[h2];cases u2 with
 |nil=>rfl
 |cons d v=>
  unfold IE PX;dsimp only;by_cases hd:d=10
  ·rw[G7 hd,G7 hd];exact N8 _ _ _
  ·rw[G6 hd,G6 hd];rfl
theorem WX(F:∀p t,aZ p t (rd p t))(aE:List (Ln β))(h:¬512<=many)(a:¬c=124)(h1:KA last p (c::r)=.error x):Kb aE (la rd last many p (c::r))=.error x:=by rw[Mc F,G6 h,G6 a,h1];rfl
theorem Yb(F:∀p t,aZ p t (rd p t))(aE:List (Ln β))(h:¬512<=many)(a:¬c=124)(h1:KA last p (c::r)=.ok (n,q,u))(h2:rd q u=.error x):Kb aE (la rd last many p (c::r))=.error x:=by rw[Mc F,G6 h,G6 a,h1];dsimp only;rw[h2];rfl
end
def Qe:Ln Iv->Verse
 |none=>.bar
 |some (n,l)=>.moment n l
theorem Kl:∀(f last a p:Nat) (t:Bytes),Jd f last a p t=(IY J9 f last a p t).map (List.map Qe)
 |f,last,a,p,[]=>by cases f <;> (unfold Jd IY;split <;> rfl)
 |0,_,_,_,c::r=>by unfold Jd IY;rfl
 |f+1,last,a,p,c::r=>by
  unfold Jd IY;by_cases d:512<=a
  ·rw[G7 d,G7 d];rfl
  ·rw[G6 d,G6 d];by_cases b:c=124
   ·rw[G7 b,G7 b];cases IE (.ok ((),p+1,r)) with
    |error e=>rfl
    |ok z=>obtain⟨x,q,u⟩:=z;dsimp only;rw[Kl f last (a+1) q u];cases IY J9 f last (a+1) q u <;> rfl
   ·rw[G6 b,G6 b];cases KA last p (c::r) with
    |error e=>rfl
    |ok z=>
     obtain⟨n,q,u⟩:=z;dsimp only;cases IE (J9 q u) with
     |error e=>rfl
     |ok z=>obtain⟨l,g,v⟩:=z;dsimp only;rw[Kl f n (a+1) g v];cases IY J9 f n (a+1) g v <;> rfl
theorem pG(last a p:Nat)(t:Bytes):va last a p t=(la J9 last a p t).map (List.map Qe):=Kl _ _ _ _ _
theorem NZ:∀(f least:Nat) (x:Iv) (p:Nat) (t:Bytes) (y:Iv),factorsAt f least x p t=.ok y->y.ok=true
 |0,_,_,_,_,_,h=>by cases h
 |f+1,least,x,p,t,y,h=>by
  unfold factorsAt at h;split at h
  ·cases h
  ·rename_i k w q u _;split at h
   ·cases h
   ·cases w with
    |none=>cases h
    |some nd=>
     obtain⟨n,d⟩:=nd;dsimp only at h;cases u with
     |nil=>
      dsimp only at h;split at h
      ·rename_i a;cases h;exact a
      ·cases h
     |cons c v=>
      dsimp only at h;split at h
      ·exact NZ f _ _ _ _ _ h
      ·cases h
theorem XJ(h:Lute.read t=.ok x):x.ok=true:=by
 unfold Lute.read at h;split at h
 ·split at h
  ·cases h
   decide
  ·cases h
 ·exact NZ _ _ _ _ _ _ h
def Sd:Option Iv->List Iv->Bool
 |none,l=>climbing l
 |some y,l=>climbing (y::l)
def US:Option Iv->Iv->Bool
 |some y,x=>x.lt y
 |none,_=>false
theorem MY(h1:US last x=false)(h2:climbing (x::l)=true):Sd last (x::l)=true:=by
 cases last with
 |none=>exact h2
 |some y=>show(!(x.lt y)&&climbing (x::l))=true;have h1:x.lt y=false:=h1;rw[h1,h2];rfl
theorem QS:∀(f a:Nat) (last:Option Iv) (p:Nat) (t:Bytes) (l:List Iv) (q:Nat) (u:Bytes),notesAt f a last p t=.ok (l,q,u)->l.all Iv.ok=true/\Sd last l=true/\l.length+a<=14/\∃x r,l=x::r
 |0,_,_,_,_,_,_,_,h=>by cases h
 |f+1,a,last,p,t,l,q,u,h=>by
  unfold notesAt at h;split at h
  ·cases h
  ·rename_i g;have g:¬14<=a:=g;dsimp only at h;split at h
   ·cases h
   ·rename_i x m;have d:=XJ m;have rest:∀b:Bool,US last x=b->(if b=true then (.error p:LuteTab.Rd (List Iv)) else match t.drop (t.takeWhile λ(c:UInt8)=>c != 44&&c != 10).length with
      |[]=>.error (p+(t.takeWhile λ(c:UInt8)=>c != 44&&c != 10).length)
      |c::r=>if c=LuteTab.END then .ok ([x],p+(t.takeWhile λ(c:UInt8)=>c != 44&&c != 10).length+1,r) else match r with
       |32::u=>(match notesAt f (a+1) (some x) (p+(t.takeWhile λ(c:UInt8)=>c != 44&&c != 10).length+2) u with
        |.error e=>.error e
        |.ok (l,q,v)=>.ok (x::l,q,v))
       |_=>.error (p+(t.takeWhile λ(c:UInt8)=>c != 44&&c != 10).length+1))=.ok (l,q,u)->l.all Iv.ok=true/\Sd last l=true/\l.length+a<=14/\∃x r,l=x::r:=by
     intro b i h;cases b with
     |true=>cases h
     |false=>
      rw[G6 Ak] at h;cases hd:t.drop (t.takeWhile λ(c:UInt8)=>c != 44&&c != 10).length with
      |nil=>rw[hd] at h;cases h
      |cons c r=>
       rw[hd] at h;dsimp only at h;by_cases j:c=LuteTab.END
       ·rw[G7 j] at h;cases h;refine⟨by simp[d],MY i rfl,by simp;lia,x,[],Y⟩
       ·rw[G6 j] at h;split at h
        ·rename_i v;cases hn:notesAt f (a+1) (some x) (p+(t.takeWhile λ(c:UInt8)=>c != 44&&c != 10).length+2) v with
         |error e=>rw[hn] at h;cases h
         |ok z=>obtain⟨k,n,o⟩:=z;rw[hn] at h;cases h;obtain⟨h1,h2,s,_⟩:=QS f _ _ _ _ _ _ _ hn;refine⟨by simp only[Fh,d,h1];rfl,MY i h2,by simp only[Af];lia,x,k,Y⟩
        ·cases h
    cases last with
    |none=>exact rest _ rfl h
    |some y=>exact rest _ rfl h
theorem OU(h:momentAt p t=.ok (l,q,u)):l.all Iv.ok=true/\climbing l=true/\l.length<=14:=by
 unfold momentAt at h;split at h
 ·split at h
  ·cases h
  ·cases h;exact⟨Y,Y,by decide⟩
 ·obtain⟨h1,h2,a,_⟩:=QS _ _ _ _ _ _ _ _ h;exact⟨h1,h2,by lia⟩
theorem OV(h:Bm p t=.ok (n,q,u)):n∈Bx:=by
 cases t with
 |nil=>cases h
 |cons c r=>
  unfold Bm at h;dsimp only at h;split at h
  ·cases h
  ·rename_i i hi;have jN:i<7:=by obtain⟨h1,_⟩:=CK.mp (show Fg (λx=>x==c) _=some i by simpa [FJ] using hi);simpa using h1
   split at h
   ·split at h
    ·cases h
    ·cases h;rename_i a;have:∀j:Fin 7,j.val≠0->2 ^ j.val+2 ^ (j.val-1)∈Bx:=by decide
     exact this ⟨i,jN⟩ a
   ·split at h <;> cases h
   ·cases h;have:∀j:Fin 7,2 ^ j.val∈Bx:=by decide
    exact this ⟨i,jN⟩
   ·cases h
theorem PD{a β:Type}{r:Except Nat a}{g:a->β}{y:β}(h:r.map g=.ok y):∃x,r=.ok x/\y=g x:=by
 cases r with
 |error e=>cases h
 |ok x=>cases h;exact⟨x,Y,Y⟩
theorem OL(hn:n∈Bx)(h:l.all Iv.ok=true/\climbing l=true/\l.length<=14):Verse.ok (.moment n l)=true:=by show(Bx.contains n&&(l.all Iv.ok&&(climbing l&&decide (l.length<=14))))=true;rw[FA.mpr hn,h.1,h.2.1,decide_eq_true h.2.2];rfl
theorem Ld:∀(f last a p:Nat) (t:Bytes) (s:Song),(last=0\/last∈Bx)->versesAt f last a p t=.ok s->(a<=512->s.length+a<=512)/\(∀v∈s,Verse.ok v=true)/\(last=0->s.any Verse.isMoment=true)
 |f,last,a,p,[],s,_,h=>by
  unfold versesAt at h;split at h
  ·cases h
  ·rename_i g;cases h;exact⟨λq=>by simpa using q,⟨λv o=>absurd o (by simp),λz=>absurd z g⟩⟩
 |0,last,a,p,c::r,s,_,h=>by unfold versesAt at h;cases h
 |f+1,last,a,p,c::r,s,hlast,h=>by
  have l:∀(v:Verse) (x:Song) (lst:Nat),¬512<=a->Verse.ok v=true->(v.isMoment=true\/lst=last)->((a+1<=512->x.length+(a+1)<=512)/\(∀v∈x,Verse.ok v=true)/\(lst=0->x.any Verse.isMoment=true))->(a<=512->(v::x).length+a<=512)/\(∀u∈v::x,Verse.ok u=true)/\(last=0->(v::x).any Verse.isMoment=true):=λv x lst h1 h2 b m=>
   ⟨λq=>by have:=m.1 (by lia);rw[Af];lia,λu k=>by
    rcases Aq.mp k with rfl | k
    ·exact h2
    ·exact m.2.1 u k,λz=>by
    rw[BD];rcases b with b | b
    ·rw[b];rfl
    ·rw[m.2.2 (b.trans z),Bool.or_true]⟩
  unfold versesAt at h;split at h
  ·cases h
  ·rename_i w;have i:¬512<=a:=w;split at h
   ·split at h
    ·cases h
    ·obtain⟨x,e,rfl⟩:=PD h;exact l _ _ last i rfl (.inr rfl) (Ld f _ _ _ _ _ hlast e)
   ·split at h
    ·split at h
     ·cases h
     ·rename_i g;split at h
      ·cases h
      ·rename_i j;obtain⟨x,e,rfl⟩:=PD h;have d:last∈Bx:=hlast.resolve_left g;exact l _ _ last i (OL d (OU j)) (.inl rfl) (Ld f _ _ _ _ _ (.inr d) e)
    ·split at h
     ·cases h
     ·rename_i n q u d;split at h
      ·cases h
      ·split at h
       ·cases h
       ·rename_i j;obtain⟨x,e,rfl⟩:=PD h;exact l _ _ n i (OL (OV d) (OU j)) (.inl rfl) (Ld f _ _ _ _ _ (.inr (OV d)) e)
theorem XQ(h:readSong t=.ok s):s.length<=512/\(∀v∈s,Verse.ok v=true)/\s.any Verse.isMoment=true:=by
 unfold readSong at h;split at h
 ·cases h
 ·obtain⟨h1,h2,a⟩:=Ld _ _ _ _ _ _ (.inl rfl) h;exact⟨h1 (by decide),h2,a rfl⟩
theorem OR(h:Verse.ok (.moment n l)=true):n∈Bx/\(∀x∈l,x.ok=true)/\climbing l=true/\l.length<=14:=by have h:(Bx.contains n&&(l.all Iv.ok&&(climbing l&&decide (l.length<=14))))=true:=h;rw[AB,AB,AB] at h;exact⟨FA.mp h.1,λx a=>Bb.mp h.2.1 x a,h.2.2.1,of_decide_eq_true h.2.2.2⟩
theorem QW(h:n∈Bx):0<n:=by
 have:∀m∈Bx,0<m:=by decide
 exact this n h
open Lute LuteSong LuW
theorem Rh(y x:Iv)(i:1<=y.d)(j:1<=x.d):(y.plus x).common=1/\1<=(y.plus x).d:=by
 let w:Iv:=⟨y.a*(x.d:Int)+x.a*(y.d:Int),y.b*(x.d:Int)+x.b*(y.d:Int),y.c*(x.d:Int)+x.c*(y.d:Int),y.e*(x.d:Int)+x.e*(y.d:Int),y.d*x.d⟩
 obtain⟨b,h1,h2,k,h⟩:=LG w;have d:0<w.d:=FO i j;have c:0<w.common:=FG b d;have a:∀z:Int,w.common∣z.natAbs->(w.common:Int)*(z / (w.common:Int))=z:=λz g=>Cw (Int.ofNat_dvd_left.mpr g);have f:=LY w.common (w.a / (w.common:Int)) (w.b / (w.common:Int)) (w.c / (w.common:Int)) (w.e / (w.common:Int)) (w.d / w.common);rw[a _ h1,a _ h2,a _ k,a _ h,Nat.mul_div_cancel' b] at f;have e:y.plus x=w.low:=rfl;have l:w.common=w.common*w.low.common:=f;rw[e];refine⟨?_,?_⟩
 ·have:w.common*1=w.common*w.low.common:=by rwa [Ew]
  exact(Fe c this).symm
 ·show 1<=w.d / w.common;exact Nat.div_pos (Nat.le_of_dvd d b) c
end LuR
namespace LuI
open Lute LuR
theorem Jv:∀(l:Bytes) (p:Nat) (t:Bytes),Lute.want l p t=Aj l p t
 |[],p,t=>rfl
 |x::r,p,[]=>rfl
 |x::r,p,c::t=>by unfold Lute.want Aj;rw[Jv r (p+1) t]
def cA(t:Bytes):Bytes:=t.takeWhile λ(c:UInt8)=>c != 10
def gJ(fine:Iv->Bool)(p:Nat)(t:Bytes):Rd Iv:=match Aj [32] p t with
 |.error e=>.error e
 |.ok (_,q,u)=>match HP q (cA u) with
  |.error e=>.error e
  |.ok x=>if fine x=false then .error q else match Aj [10] (q+(cA u).length) (u.drop (cA u).length) with
   |.error e=>.error e
   |.ok (_,z,v)=>.ok (x,z,v)
theorem Ul(fine:Iv->Bool)(p:Nat)(t:Bytes):ivLine fine p t=gJ fine p t:=by
 unfold ivLine gJ;rw[Jv];cases Aj [32] p t with
 |error e=>rfl
 |ok z=>
  obtain⟨_,q,u⟩:=z;dsimp only;rw[MK];show(match Lute.read (cA u) with | .error e=>_ | .ok x=>_)=_;cases Lute.read (cA u) with
  |error e=>rfl
  |ok x=>dsimp only;rw[Jv];rfl
def eY(w:Bytes)(full:Bool)(fine:Iv->Bool)(p:Nat)(t:Bytes):Rd Iv:=match Aj w p t with
 |.error e=>.error e
 |.ok (_,q,u)=>if full=true then .error p else gJ fine q u
theorem L7:∀(l:Bytes) (p:Nat) (t:Bytes) (q:Nat) (u:Bytes),Aj l p t=.ok ((),q,u)->u.length+l.length=t.length
 |[],p,t,q,u,h=>by unfold Aj at h;cases h;rfl
 |x::r,p,[],q,u,h=>by cases h
 |x::r,p,c::t,q,u,h=>by
  unfold Aj at h;split at h
  ·have:=L7 r (p+1) t q u h;simp only[Af]
   lia
  ·cases h
theorem Yf(h:gJ fine p t=.ok (x,q,u)):u.length<t.length:=by
 unfold gJ at h;cases h1:Aj [32] p t with
 |error e=>rw[h1] at h;cases h
 |ok z=>
  obtain⟨⟨⟩,b,a⟩:=z;rw[h1] at h;dsimp only at h;have d:=L7 _ _ _ _ _ h1;cases h2:HP b (cA a) with
  |error e=>rw[h2] at h;cases h
  |ok y=>
   rw[h2] at h;dsimp only at h;split at h
   ·cases h
   ·cases h3:Aj [10] (b+(cA a).length) (a.drop (cA a).length) with
    |error e=>rw[h3] at h;cases h
    |ok z=>
     obtain⟨⟨⟩,g,f⟩:=z;rw[h3] at h;cases h;have c:=L7 _ _ _ _ _ h3;rw[AK] at c;simp only[Af,Cn] at d c
     lia
theorem Jq(h:eY w full fine p t=.ok (x,q,u)):u.length<t.length:=by
 unfold eY at h;cases h1:Aj w p t with
 |error e=>rw[h1] at h;cases h
 |ok z=>
  obtain⟨⟨⟩,a,c⟩:=z;rw[h1] at h;dsimp only at h;split at h
  ·cases h
  ·have:=Yf h;have b:=L7 _ _ _ _ _ h1
   lia
def wF:Bytes:=[102,114,101,116]
def wC:Bytes:=[99,111,117,114,115,101]
def wB:Bytes:=[98,97,115,115]
def wL:Bytes:=[108,101,110,103,116,104,32]
theorem nG:ascii "fret"=wF:=by decide
theorem pM:ascii "course"=wC:=by decide
theorem qC:ascii "bass"=wB:=by decide
theorem qJ:ascii "length "=wL:=by decide
def Q2(t:Inst)(p:Nat)(u:Bytes):Rd Iv:=eY wF (decide (15<=t.frets.length)) (λx=>(t.frets.getLastD unison).lt x) p u
def Lb(t:Inst)(p:Nat)(u:Bytes):Rd Iv:=eY wC (decide (14<=t.opens.length)) (soundsAll t.frets) p u
def ON(t:Inst)(p:Nat)(u:Bytes):Rd Iv:=eY wB (decide (14<=t.opens.length)) (λ_=>true) p u
theorem Ks(f:Nat)(t:Inst)(p:Nat)(c:UInt8)(r:Bytes):linesAt (f+1) t p (c::r)=
  if c=102/\t.courses.isEmpty=true then (match Q2 t p (c::r) with
   |.error e=>.error e
   |.ok (x,q,u)=>linesAt f { t with frets:=t.frets++[x] } q u)
  else if c=99/\t.basses.isEmpty=true then (match Lb t p (c::r) with
   |.error e=>.error e
   |.ok (x,q,u)=>linesAt f { t with courses:=t.courses++[x] } q u)
  else if c=98/\t.courses.isEmpty=false then (match ON t p (c::r) with
   |.error e=>.error e
   |.ok (x,q,u)=>linesAt f { t with basses:=t.basses++[x] } q u)
  else .error p:=by
 rw[linesAt];rw[nG,pM,qC];unfold Q2 Lb ON eY;simp only[Ul,Jv];by_cases h1:c=102/\t.courses.isEmpty=true
 ·rw[G7 h1,G7 h1];cases Aj wF p (c::r) with
  |error e=>rfl
  |ok z=>
   obtain⟨_,q,u⟩:=z;dsimp only;by_cases h2:15<=t.frets.length
   ·rw[G7 (show FRETS<=t.frets.length from h2),G7 (decide_eq_true h2)]
   ·rw[G6 (show ¬FRETS<=t.frets.length from h2),G6 (by rw[decide_eq_false h2];exact Ak)]
    all_goals (cases gJ (λx=>(t.frets.getLastD unison).lt x) q u <;> rfl)
 ·rw[G6 h1,G6 h1];by_cases b:c=99/\t.basses.isEmpty=true
  ·rw[G7 b,G7 b];cases Aj wC p (c::r) with
   |error e=>rfl
   |ok z=>
    obtain⟨_,q,u⟩:=z;dsimp only;by_cases h2:14<=t.opens.length
    ·rw[G7 (show COURSES<=t.opens.length from h2),G7 (decide_eq_true h2)]
    ·rw[G6 (show ¬COURSES<=t.opens.length from h2),G6 (by rw[decide_eq_false h2];exact Ak)]
     all_goals (cases gJ (soundsAll t.frets) q u <;> rfl)
  ·rw[G6 b,G6 b];by_cases a:c=98/\t.courses.isEmpty=false
   ·rw[G7 a,G7 a];cases Aj wB p (c::r) with
    |error e=>rfl
    |ok z=>
     obtain⟨_,q,u⟩:=z;dsimp only;by_cases h2:14<=t.opens.length
     ·rw[G7 (show COURSES<=t.opens.length from h2),G7 (decide_eq_true h2)]
     ·rw[G6 (show ¬COURSES<=t.opens.length from h2),G6 (by rw[decide_eq_false h2];exact Ak)]
      all_goals (cases gJ (λ_=>true) q u <;> rfl)
   ·rw[G6 a,G6 a]
theorem Tf:∀(f g:Nat) (t:Inst) (p:Nat) (u:Bytes),u.length<f->u.length<g->linesAt f t p u=linesAt g t p u
 |f,g,t,p,[],_,_=>by cases f <;> cases g <;> (unfold linesAt;rfl)
 |0,_,_,_,_::_,h,_=>absurd h (Bo _)
 |_,0,_,_,_::_,_,h=>absurd h (Bo _)
 |f+1,g+1,t,p,c::r,hf,hg=>by
  rw[Ks,Ks];have a:∀(R:Rd Iv) (T:Iv->Inst),(∀x q u,R=.ok (x,q,u)->u.length<(c::r).length)->(match R with
   |.error e=>.error e
   |.ok (x,q,u)=>linesAt f (T x) q u:Except Nat Inst)=(match R with
   |.error e=>.error e
   |.ok (x,q,u)=>linesAt g (T x) q u):=by
   intro R T b;cases R with
   |error e=>rfl
   |ok z=>obtain⟨x,q,u⟩:=z;have:=b x q u rfl;exact Tf f g (T x) q u (by lia) (by lia)
  have k1:=a (Q2 t p (c::r)) (λx=>{ t with frets:=t.frets++[x] }) λx q u h=>Jq h;have k2:=a (Lb t p (c::r)) (λx=>{ t with courses:=t.courses++[x] }) λx q u h=>Jq h;have k3:=a (ON t p (c::r)) (λx=>{ t with basses:=t.basses++[x] }) λx q u h=>Jq h;rw[k1,k2,k3]
def li(t:Inst)(p:Nat)(u:Bytes):Except Nat Inst:=linesAt (u.length+1) t p u
theorem UQ(t:Inst)(p:Nat):li t p []=if t.courses.isEmpty=true then .error p else .ok t:=by unfold li linesAt;rfl
def gM(R:Rd Iv)(T:Iv->Inst):Except Nat Inst:=match R with
 |.error e=>.error e
 |.ok (x,q,u)=>li (T x) q u
theorem Lf(t:Inst)(p:Nat)(c:UInt8)(r:Bytes):li t p (c::r)=
  if c=102/\t.courses.isEmpty=true then gM (Q2 t p (c::r)) λx=>{ t with frets:=t.frets++[x] }
  else if c=99/\t.basses.isEmpty=true then gM (Lb t p (c::r)) λx=>{ t with courses:=t.courses++[x] }
  else if c=98/\t.courses.isEmpty=false then gM (ON t p (c::r)) λx=>{ t with basses:=t.basses++[x] }
  else .error p:=by
 have a:∀(R:Rd Iv) (T:Iv->Inst),(∀x q u,R=.ok (x,q,u)->u.length<(c::r).length)->(match R with
   |.error e=>.error e
   |.ok (x,q,u)=>linesAt (c::r).length (T x) q u:Except Nat Inst)=gM R T:=by
  intro R T b;unfold gM;cases R with
  |error e=>rfl
  |ok z=>obtain⟨x,q,u⟩:=z;have:=b x q u rfl;exact Tf _ _ (T x) q u (by lia) (by lia)
 rw[<-a (Q2 t p (c::r)) _ λx q u h=>Jq h,<-a (Lb t p (c::r)) _ λx q u h=>Jq h,<-a (ON t p (c::r)) _ λx q u h=>Jq h];exact Ks _ t p c r
def QO(p:Nat)(u:Bytes):Rd Nat:=match longNumber p u with
 |.error e=>.error e
 |.ok (n,q,v)=>if n<10000\/200000<n then .error p else match Aj [10] q v with
  |.error e=>.error e
  |.ok (_,q,v)=>.ok (n,q,v)
def Lp(t:Bytes):Rd Nat:=match Aj wL 0 t with
 |.error e=>.error e
 |.ok (_,p,u)=>QO p u
theorem QJ(t:Bytes):readInst t=match Lp t with
  |.error e=>.error e
  |.ok (n,q,v)=>li ⟨n,[],[],[]⟩ q v:=by
 unfold readInst Lp QO;rw[qJ,Jv];cases Aj wL 0 t with
 |error e=>rfl
 |ok z=>
  obtain⟨_,p,u⟩:=z;dsimp only;cases longNumber p u with
  |error e=>rfl
  |ok z=>
   obtain⟨n,q,v⟩:=z;dsimp only;by_cases h:n<10000\/200000<n
   ·rw[G7 (show n<SHORT\/LONG<n from h),G7 h]
   ·rw[G6 (show ¬(n<SHORT\/LONG<n) from h),G6 h,Jv];cases Aj [10] q v with
    |error e=>rfl
    |ok z=>rfl
theorem Y3(h:gJ fine p t=.ok (x,q,u)):(∃b,Lute.read b=.ok x)/\fine x=true:=by
 unfold gJ at h;cases h1:Aj [32] p t with
 |error e=>rw[h1] at h;cases h
 |ok z=>
  obtain⟨⟨⟩,c,a⟩:=z;rw[h1] at h;dsimp only at h;cases h2:HP c (cA a) with
  |error e=>rw[h2] at h;cases h
  |ok y=>
   rw[h2] at h;dsimp only at h;cases hf:fine y with
   |false=>rw[hf,G7 rfl] at h;cases h
   |true=>
    rw[hf,G6 (by decide)] at h;cases h3:Aj [10] (c+(cA a).length) (a.drop (cA a).length) with
    |error e=>rw[h3] at h;cases h
    |ok z=>
     rw[h3] at h;cases h;refine⟨⟨cA a,?_⟩,hf⟩;rw[MK] at h2;cases h4:Lute.read (cA a) with
     |error e=>rw[h4] at h2;cases h2
     |ok z=>rw[h4] at h2;cases h2;rfl
theorem Pj(h:eY w full fine p t=.ok (x,q,u)):full=false/\(∃b,Lute.read b=.ok x)/\fine x=true:=by
 unfold eY at h;cases h1:Aj w p t with
 |error e=>rw[h1] at h;cases h
 |ok z=>
  obtain⟨⟨⟩,a,c⟩:=z;rw[h1] at h;dsimp only at h;cases full with
  |true=>cases h
  |false=>exact⟨Y,Y3 h⟩
def gQ(fine:Iv->Bool)(q:Nat)(u:Bytes):Rd Iv:=match HP q (cA u) with
  |.error e=>.error e
  |.ok x=>if fine x=false then .error q else match Aj [10] (q+(cA u).length) (u.drop (cA u).length) with
   |.error e=>.error e
   |.ok (_,z,v)=>.ok (x,z,v)
theorem O9:∀(l m:Bytes) (p:Nat) (t:Bytes),Aj (l++m) p t=match Aj l p t with
  |.error e=>.error e
  |.ok (_,q,u)=>Aj m q u
 |[],m,p,t=>rfl
 |x::r,m,p,[]=>rfl
 |x::r,m,p,c::t=>by
  show(if c=x then Aj (r++m) (p+1) t else .error p)=match (if c=x then Aj r (p+1) t else .error p:LuteTab.Rd Unit) with
   |.error e=>.error e
   |.ok (_,q,u)=>Aj m q u
  by_cases h:c=x
  ·rw[G7 h,G7 h];exact O9 r m (p+1) t
  ·rw[G6 h,G6 h]
theorem Sc(w:Bytes)(fine:Iv->Bool)(p:Nat)(t:Bytes):eY w false fine p t=match Aj (w++[32]) p t with
  |.error e=>.error e
  |.ok (_,q,u)=>gQ fine q u:=by
 rw[O9];unfold eY;cases Aj w p t with
 |error e=>rfl
 |ok z=>obtain⟨_,q,u⟩:=z;dsimp only;rw[G6 (by decide)];unfold gJ gQ;rfl
theorem Nt(w:Bytes)(fine:Iv->Bool)(p:Nat)(t:Bytes):∃e,eY w true fine p t=.error e:=by
 unfold eY;cases Aj w p t with
 |error e=>exact⟨e,Y⟩
 |ok z=>exact⟨p,Y⟩
end LuI
namespace LuC
open Lute LuteSong LuteTab
def cnt:List (List Iv)->List Iv->Nat
 |[],l=>if l.isEmpty=true then 1 else 0
 |r::rs,l=>((r.filter λx=>l.contains x).map λx=>cnt rs (l.erase x)).sum+(if l.length<=rs.length then cnt rs l else 0)
theorem S6:∀rs:List (List Iv),cnt rs []=1
 |[]=>rfl
 |r::rs=>by
  unfold cnt;have e:(r.filter λx=>([]:List Iv).contains x)=[]:=by rw[C5];intro x _;simp
  rw[e,G7 (show([]:List Iv).length<=rs.length from Az _),S6 rs];rfl
theorem Pr:∀(rs:List (List Iv)) (l:List Iv),rs.length<l.length->cnt rs l=0
 |[],l,h=>by
  unfold cnt;cases l with
  |nil=>simp at h
  |cons x r=>rfl
 |r::rs,l,h=>by
  unfold cnt;simp only[Af] at h;rw[G6 (by lia),Fz];have e:((r.filter λx=>l.contains x).map λx=>cnt rs (l.erase x))=(r.filter λx=>l.contains x).map λ_=>0:=by
   refine BG λx a=>?_;have b:x∈l:=by have:=(Bg.mp a).2;simpa using this
   refine Pr rs _ ?_;rw[D1 b]
   lia
  rw[e,EZ,Ef];rfl
def dd(l:List Iv):List Iv:=l.foldl (λD x=>if x∈D then D else D++[x]) []
theorem SU(l:List Iv)(x:Iv):dd (l++[x])=if x∈dd l then dd l else dd l++[x]:=by unfold dd;rw[EF];rfl
theorem NS(l:List Iv):(dd l).Nodup/\(∀x,x∈dd l↔x∈l)/\(dd l).length<=l.length:=by
 have g:∀(n:Nat) (l:List Iv),l.length=n->(dd l).Nodup/\(∀x,x∈dd l↔x∈l)/\(dd l).length<=l.length:=λn=>by
  induction n with
  |zero=>
  intro l k;rw[BQ.mp k];exact⟨Dq,λx=>Iff.rfl,Ag _⟩
  |succ n j=>
  intro f c;obtain⟨l,x,e⟩:∃l x,f=l++[x]:=by
   rcases Ek f with e | ⟨l,x,e⟩
   ·rw[e] at c;cases c
   ·exact⟨l,x,by rw[e,El]⟩
  subst e;obtain⟨h1,h2,m⟩:=j l (by rw[Ad] at c;simpa using c);rw[SU];by_cases d:x∈dd l
  ·rw[G7 d];refine⟨h1,λy=>?_,by rw[Ad];lia⟩;rw[AA,Ai,<-h2];exact⟨.inl,λz=>z.elim id λe=>e ▸ d⟩
  ·rw[G6 d];refine⟨EE.mpr ⟨h1,by simp,λa h b i e=>d (by rw[Ai.mp i] at e;exact e ▸ h)⟩,λy=>?_,by rw[Ad,Ad];simpa using m⟩;rw[AA,AA,h2]
 exact g _ l rfl
def unit(D:List Iv)(x:Iv):Nat:=1+16 ^ (D.idxOf x+1)
def bA(D l:List Iv):Nat:=(l.map (unit D)).sum
def S(D l:List Iv):Nat:=(l.map λx=>16 ^ D.idxOf x).sum
theorem WT(D l:List Iv):bA D l=l.length+16*S D l:=by
 unfold bA S
 induction l with
 |nil=>rfl
 |cons x r a=>
  rw[An,BC,An,BC,Af,a];unfold unit;rw[BW]
  lia
theorem Nd(h:l.length<=15):bA D l % 16=l.length:=by
 rw[WT]
 lia
theorem KL(D l:List Iv):bA D l=0↔l=[]:=by
 rw[WT];cases l with
 |nil=>simp[S]
 |cons x r=>simp only[Af,reduceCtorEq,iff_false];lia
theorem La:∀{l:List Iv} {x:Iv},x∈l->bA D (l.erase x)=bA D l-unit D x/\unit D x<=bA D l
 |y::r,x,h=>by
  by_cases e:y=x
  ·subst e;rw[Es];unfold bA;rw[An,BC]
   lia
  ·have a:x∈r:=by
    rcases Aq.mp h with z | z
    ·exact absurd z.symm e
    ·exact z
   obtain⟨h1,h2⟩:=La a;rw[Er (by simpa using e)];unfold bA at h1 h2 ⊢;rw[An,BC,An,BC,h1]
   lia
theorem S4(D:List Iv)(j:Nat):∀l:List Iv,∃a c h low:Nat,S D l=a+c*16 ^ j+h*16 ^ (j+1)/\16*a<=low*16 ^ j/\low+c<=l.length/\(c≠0↔∃x∈l,D.idxOf x=j)
 |[]=>⟨0,0,0,0,by simp[S],by simp,by simp,by simp⟩
 |x::r=>by
  obtain⟨a,c,h,low,e1,g,i,f⟩:=S4 D j r;have d:S D (x::r)=16 ^ D.idxOf x+S D r:=by unfold S;rw[An,BC]
  rcases Gh (D.idxOf x) j with q | q | q
  ·refine zU (a+16 ^ D.idxOf x) c h (low+1) (by rw[d,e1];lia) ⟨?_,by simp only[Af];lia,?_⟩
   ·have:16 ^ (D.idxOf x+1)<=16 ^ j:=Df (by decide) q;rw[BW] at this;rw[EW,FP]
    lia
   ·rw[f];constructor
    ·rintro⟨y,b,e⟩;exact⟨y,Aw _ b,e⟩
    ·rintro⟨y,b,e⟩;rcases Aq.mp b with z | z
     ·rw[z] at e;lia
     ·exact⟨y,z,e⟩
  ·refine zU a (c+1) h low ?_ ⟨g,by simp only[Af];lia,?_⟩
   ·rw[d,e1,q,EW]
    lia
   ·exact⟨λ_=>⟨x,AH,q⟩,λ_=>Gm _⟩
  ·refine zU a c (h+16 ^ (D.idxOf x-(j+1))) low ?_ ⟨g,by simp only[Af];lia,?_⟩
   ·have:16 ^ (D.idxOf x-(j+1))*16 ^ (j+1)=16 ^ D.idxOf x:=by
     rw[<-Bv];congr 1
     lia
    rw[d,e1,EW,this]
    lia
   ·rw[f];constructor
    ·rintro⟨y,b,e⟩;exact⟨y,Aw _ b,e⟩
    ·rintro⟨y,b,e⟩;rcases Aq.mp b with z | z
     ·rw[z] at e;lia
     ·exact⟨y,z,e⟩
theorem Wm(n k:Nat):n &&& (15*16 ^ k)=n / 16 ^ k % 16*16 ^ k:=by
 have e:(16:Nat) ^ k=2 ^ (4*k):=by rw[Ev]
 rw[e];have a:15*2 ^ (4*k)=(2 ^ 4-1) <<< (4*k):=by rw[Gn]
 have b:n / 2 ^ (4*k) % 16*2 ^ (4*k)=((n >>> (4*k)) % 2 ^ 4) <<< (4*k):=by rw[Gn,Nat.shiftRight_eq_div_pow]
 rw[a,b];refine Nat.eq_of_testBit_eq λi=>?_;rw[Nat.testBit_and,FF,FF,Nat.testBit_mod_two_pow,Nat.testBit_shiftRight,Nat.testBit_two_pow_sub_one];by_cases h:4*k<=i
 ·have:4*k+(i-4*k)=i:=by lia
  simp only[h,decide_true,D4,this];rw[Bool.and_comm]
 ·simp[h]
def mask(D:List Iv)(x:Iv):Nat:=15*16 ^ (D.idxOf x+1)
theorem Nh(s:l.length<=15)(p:x∈D)(n:∀y∈l,y∈D):(bA D l &&& mask D x)≠0↔x∈l:=by
 obtain⟨a,c,h,low,e1,t,u,d⟩:=S4 D (D.idxOf x) l;have j:0<16 ^ D.idxOf x:=ET (by decide);have o:bA D l / 16 ^ (D.idxOf x+1)=S D l / 16 ^ D.idxOf x:=by
  rw[BW,Ci,<-Nat.div_div_eq_div_mul,WT];congr 1
  lia
 have f:a<16 ^ D.idxOf x:=by
  have:low*16 ^ D.idxOf x<=15*16 ^ D.idxOf x:=Bj _ (by lia)
  lia
 have g:S D l / 16 ^ D.idxOf x % 16=c:=by
  have:S D l=a+16 ^ D.idxOf x*(c+h*16):=by
   rw[e1,BW,FP,Ci c,<-Ez,<-Ez,Ci h]
   lia
  rw[this,Nat.add_mul_div_left _ _ j,Nat.div_eq_of_lt f]
  lia
 unfold mask;rw[Wm,o,g];have:c*16 ^ (D.idxOf x+1)≠0↔c≠0:=by
  have r:0<16 ^ (D.idxOf x+1):=ET (by decide);constructor
  ·intro z w;exact z (by rw[w,Nat.zero_mul])
  ·intro z w;rcases Nat.mul_eq_zero.mp w with q | q
   ·exact z q
   ·lia
 rw[this,d];constructor
 ·rintro⟨y,b,e⟩;have m:=n y b;have:y=x:=by have i:=EB (Cp m);have k:=EB (Cp p);rw[<-i,<-k];simp only[e]
  exact this ▸ b
 ·exact λz=>⟨x,z,Y⟩
abbrev Ch:=Nat×Nat×Nat
def HR(D r:List Iv):List Ch:=(r.zipIdx.filter λp=>decide (p.1∈D)).map λp=>(p.2,unit D p.1,mask D p.1)
theorem UD(D r:List Iv)(x:Iv):HR D (r++[x])=if x∈D then HR D r++[(r.length,unit D x,mask D x)] else HR D r:=by
 unfold HR;rw[List.zipIdx_append,ED,AM];by_cases h:x∈D
 ·rw[G7 h];simp[List.zipIdx,h]
 ·rw[G6 h];simp[List.zipIdx,h]
def Ji:List (List Ch)->Nat->Nat
 |[],n=>if n=0 then 1 else 0
 |ch::r,n=>if n=0 then 1 else if r.length+1<n % 16 then 0 else Ji r n+(ch.map λc=>if (n &&& c.2.2)≠0 then Ji r (n-c.2.1) else 0).sum
theorem Za{a:Type}(p:a->Bool)(f:a->Nat)(l:List a):(l.map λx=>if p x=true then f x else 0).sum=((l.filter p).map f).sum:=by
 induction l with
 |nil=>rfl
 |cons x r b=>
  rw[An,BC,b,BL];cases p x with
  |true=>simp
  |false=>simp
theorem NX:∀(rs:List (List Iv)) (l:List Iv),l.length<=14->(∀y∈l,y∈D)->Ji (rs.map (HR D)) (bA D l)=cnt rs l
 |[],l,h14,hD=>by
  unfold Ji cnt;cases l with
  |nil=>rfl
  |cons x r=>show(if bA D (x::r)=0 then 1 else 0)=0;rw[G6 (by rw[KL];simp)]
 |r::rs,l,h14,hD=>by
  by_cases f:l=[]
  ·rw[f,S6,An];unfold Ji;rfl
  ·rw[An];unfold Ji;rw[G6 (by rwa [KL]),Nd (by lia),Ab];by_cases b:rs.length+1<l.length
   ·rw[G7 b,Pr _ _ (by simpa using b)]
   ·rw[G6 b,NX rs l h14 hD];show _=((r.filter λx=>l.contains x).map λx=>cnt rs (l.erase x)).sum+(if l.length<=rs.length then cnt rs l else 0);rw[EM];congr 1
    ·conv=>lhs;arg 1;arg 2;unfold HR
     rw[A8];have e:∀p∈r.zipIdx.filter (λp=>decide (p.1∈D)),((λc:Ch=>if (bA D l &&& c.2.2)≠0 then Ji (rs.map (HR D)) (bA D l-c.2.1) else 0) ∘ λp:Iv×Nat=>(p.2,unit D p.1,mask D p.1)) p=(λp:Iv×Nat=>if (l.contains p.1)=true then cnt rs (l.erase p.1) else 0) p:=by
      intro p g;have d:p.1∈D:=by simpa using (Bg.mp g).2
      show(if (bA D l &&& mask D p.1)≠0 then Ji (rs.map (HR D)) (bA D l-unit D p.1) else 0)=if (l.contains p.1)=true then cnt rs (l.erase p.1) else 0;by_cases a:p.1∈l
      ·rw[G7 ((Nh (by lia) d hD).mpr a),G7 (by simpa using a),<-(La a).1];exact NX rs _ (AE (FH) h14) λy h=>hD y (Ei h)
      ·rw[G6 (λz=>a ((Nh (by lia) d hD).mp z)),G6 (by simpa using a)]
     rw[BG e,Za (λp:Iv×Nat=>l.contains p.1) (λp=>cnt rs (l.erase p.1)),List.filter_filter];have i:(r.zipIdx.filter λp=>l.contains p.1&&decide (p.1∈D))=r.zipIdx.filter λp=>l.contains p.1:=by
      refine Ge λp _=>?_;cases q:l.contains p.1 with
      |false=>rfl
      |true=>simp[hD p.1 (by simpa using q)]
     rw[i];have j:(r.filter λx=>l.contains x)=(r.zipIdx.filter λp=>l.contains p.1).map Prod.fst:=by
      conv=>lhs;rw[<-List.zipIdx_map_fst 0 r]
      rw[Gu];rfl
     rw[j,A8];rfl
    ·by_cases q:l.length<=rs.length
     ·rw[G7 q]
     ·rw[G6 q,Pr _ _ (by lia)]
end LuC
namespace LuG
def X0(F:List Nat):Prop:=F.Pairwise λx y=>x<y\/(x=1/\y=1)
def UP:List (List (List Nat)):=[[[]],[[2],[3],[4]],[[2,3],[2,4],[3,4]],[[2,3,4]]]
theorem mQ:∀u:List Nat,(∀x∈u,2<=x/\x<=4)->u.Pairwise (·<·)->u.length<4/\u∈UP.getD u.length []
 |[],_,_=>by decide
 |[x],h,_=>by
  have:=h x (.head _);have:x=2\/x=3\/x=4:=by lia
  rcases this with rfl | rfl | rfl <;> decide
 |[x,y],h,hp=>by
  have h1:=h x (.head _);have h2:=h y (.tail _ (.head _));have c:x<y:=(Bt.mp hp).1 y (.head _);have:(x=2/\y=3)\/(x=2/\y=4)\/(x=3/\y=4):=by lia
  rcases this with ⟨rfl,rfl⟩ | ⟨rfl,rfl⟩ | ⟨rfl,rfl⟩ <;> decide
 |[x,y,z],h,hp=>by
  have h1:=h x (.head _);have c:=h z (.tail _ (.tail _ (.head _)));have a:=Bt.mp hp;have d:x<y:=a.1 y (.head _);have e:y<z:=(Bt.mp a.2).1 z (.head _);have:x=2/\y=3/\z=4:=by lia
  obtain⟨rfl,rfl,rfl⟩:=this
  decide
 |x::y::z::v::r,h,hp=>by
  have h1:=h x (.head _);have c:=h v (.tail _ (.tail _ (.tail _ (.head _))));have a:=Bt.mp hp;have b:=Bt.mp a.2;have d:x<y:=a.1 y (.head _);have e:y<z:=b.1 z (.head _);have f:z<v:=(Bt.mp b.2).1 v (.head _)
  lia
theorem SB:∀k,∀u∈UP.getD k [],u.length=k/\(∀x∈u,2<=x/\x<=4)/\u.Pairwise (·<·)
 |0=>by decide
 |1=>by decide
 |2=>by decide
 |3=>by decide
 |k+4=>λu a=>by simp[UP] at a
theorem NG:∀F:List Nat,X0 F->(∀x∈F,1<=x/\x<=4)->∃a u,F=Ar a 1++u/\(∀x∈u,2<=x/\x<=4)/\u.Pairwise (·<·)
 |[],_,_=>⟨0,[],Y,(λ_ h=>nomatch h),.nil⟩
 |x::F,hr,hx=>by
  have c:=Bt.mp hr;have h1:=hx x (.head _);by_cases e:x=1
  ·obtain⟨a,u,rfl,h2,f⟩:=NG F c.2 λy b=>hx y (.tail _ b);exact⟨a+1,u,by rw[e,Bf];rfl,h2,f⟩
  ·refine⟨0,x::F,Y,λy b=>?_,?_⟩
   ·rcases Aq.mp b with rfl | d
    ·lia
    ·have:=c.1 y d;have:=hx y (.tail _ d)
     lia
   ·refine Bt.mpr ⟨λy b=>by have:=c.1 y b;lia,?_⟩;refine c.2.imp_of_mem λ{y z} b g h=>?_;have:=c.1 y b
    lia
theorem RI(a:Nat)(h2:∀x∈u,2<=x/\x<=4)(d:u.Pairwise (·<·)):X0 (Ar a 1++u):=by
 refine List.pairwise_append.mpr ⟨?_,d.imp λh=>.inl h,λx c y b=>?_⟩
 ·rw[Bk];intro i j hi e f;simp
 ·rw[(F6.mp c).2];have:=h2 y b
  lia
structure Od(fs:List Nat)(od:List Nat):Prop where
 perm:od.Perm (Ay fs.length)
 srt:od.Pairwise λk l=>fs.getD k 0<fs.getD l 0\/(fs.getD k 0=fs.getD l 0/\l<k)
def Tg(fs g:List Nat):Prop:=∀i j,i<fs.length->j<fs.length->i≠j->(g.getD i 0=g.getD j 0->g.getD i 0=1/\fs.getD i 0=fs.getD j 0)/\(g.getD i 0<g.getD j 0->fs.getD i 0<fs.getD j 0\/(fs.getD i 0=fs.getD j 0/\j<i))
def fR(od F:List Nat)(n:Nat):List Nat:=(Ay n).map λk=>F.getD (od.idxOf k) 0
section
variable{fs od:List Nat}
theorem Od.len(h:Od fs od):od.length=fs.length:=by rw[h.perm.length_eq,BO]
theorem Od.mem(h:Od fs od):k∈od↔k<fs.length:=by rw[h.perm.mem_iff,AW]
theorem Od.nd(h:Od fs od):od.Nodup:=h.perm.nodup_iff.mpr EQ
theorem Od.ix(h:Od fs od)(b:k<fs.length):od.idxOf k<od.length/\od[od.idxOf k]?=some k:=by have c:=h.mem.mpr b;have a:=Cp c;exact⟨a,by rw[Aa a,EB a]⟩
theorem Od.lt(h:Od fs od)(hi:i<fs.length)(e:j<fs.length)(f:od.idxOf i<od.idxOf j):fs.getD i 0<fs.getD j 0\/(fs.getD i 0=fs.getD j 0/\j<i):=by
 obtain⟨c,a⟩:=h.ix hi;obtain⟨d,b⟩:=h.ix e;have:=Bk.mp h.srt _ _ c d f;rw[Aa c] at a;rw[Aa d] at b
 rwa [Option.some.inj a,Option.some.inj b] at this
theorem Od.ne(h:Od fs od)(hi:i<fs.length)(c:j<fs.length)(hn:i≠j):od.idxOf i≠od.idxOf j:=λe=>by have a:=(h.ix hi).2;have b:=(h.ix c).2;rw[e,b] at a;exact hn (Option.some.inj a).symm
theorem Wi(hi:i<n):(fR od F n).getD i 0=F.getD (od.idxOf i) 0:=by unfold fR;rw[Ae,Ah,BU hi];rfl
theorem X1(h:Od fs od)(c:g.length=fs.length):fR od (od.map λk=>g.getD k 0) fs.length=g:=by
 refine C6 λi=>?_;by_cases hi:i<fs.length
 ·unfold fR;obtain⟨b,a⟩:=h.ix hi;rw[Ah,BU hi];show some ((od.map λk=>g.getD k 0).getD (od.idxOf i) 0)=_;rw[Ae,Ah,a];show some (g.getD i 0)=_;rw[Ae,Aa (by lia)];rfl
 ·rw[AT (by unfold fR;simp;lia),AT (by lia)]
theorem Od.frets(h:Od fs od):(od.map λk=>fs.getD k 0).Perm fs/\(od.map λk=>fs.getD k 0).Pairwise (·<=·):=by
 refine⟨?_,DJ.mpr (h.srt.imp λh=>by lia)⟩;have:=h.perm.map λk=>fs.getD k 0;have e:(Ay fs.length).map (λk=>fs.getD k 0)=fs:=by
  refine C6 λi=>?_;by_cases hi:i<fs.length
  ·rw[Ah,BU hi,Aa hi];show some (fs.getD i 0)=_;rw[Ae,Aa hi];rfl
  ·rw[AT (by simp;lia),AT (by lia)]
 rwa [e] at this
theorem M4(m:Nat):∀l:List Nat,l.Pairwise (·<=·)->(∀x∈l,m<=x)->∀i,i<l.count m↔l[i]?=some m
 |[],_,_,i=>by simp
 |x::l,hp,hm,i=>by
  have b:=Bt.mp hp;have f:=M4 m l b.2 λy d=>hm y (.tail _ d);by_cases e:x=m
  ·subst e;rw[List.count_cons_self];cases i with
   |zero=>simp
   |succ i=>rw[Cb,<-f i];lia
  ·have a:l.count m=0:=by
    rw[F8];intro c;have:=b.1 m c;have:=hm x (.head _)
    lia
   rw[List.count_cons_of_ne e,a];constructor
   ·intro h;lia
   ·intro h;cases i with
    |zero=>exact absurd (Option.some.inj h) e
    |succ i=>rw[Cb] at h;exact absurd (AX h) (F8.mp a)
def iE(fs od:List Nat)(m:Nat):List (List Nat):=(Ay (fs.count m+1)).flatMap λa=>if fs.length-a<4 then (UP.getD (fs.length-a) []).map λu=>fR od (Ar a 1++u) fs.length else []
theorem MN(c:X0 F)(b:p<q)(a:q<F.length):F.getD p 0<F.getD q 0\/(F.getD p 0=1/\F.getD q 0=1):=by
 have:=Bk.mp c p q (by lia) a b
 rwa [Ae,Ae,Aa (show p<F.length by lia),Aa a]
theorem PK(h2:∀x∈u,2<=x/\x<=4)(b:p<(Ar a 1++u).length):(Ar a 1++u).getD p 0=1↔p<a:=by
 rw[Ae];by_cases h:p<a
 ·rw[AC (by simpa using h),Ea,G7 h];simp[h]
 ·rw[Ad,AS] at b;rw[Ax (by simpa using h),AS,Aa (by lia)];have:=h2 _ (AG (show p-a<u.length by lia));show u[p-a]=1↔_
  lia
theorem Xy(h:Od fs od)(T:∀x∈fs,m<=x)(S:m∈fs):g∈iE fs od m↔g.length=fs.length/\(∀x∈g,1<=x/\x<=4)/\Tg fs g:=by
 have w:=h.frets;have P:(od.map λk=>fs.getD k 0).count m=fs.count m:=w.1.count_eq m;have ac:∀p,p<fs.count m↔(od.map λk=>fs.getD k 0)[p]?=some m:=λp=>by rw[<-P];exact M4 m _ w.2 (λx d=>T x (w.1.mem_iff.mp d)) p
 have s:∀{i:Nat},i<fs.length->(od.idxOf i<fs.count m↔fs.getD i 0=m):=λ{i} hi=>by rw[ac,Ah,(h.ix hi).2];exact⟨λe=>Option.some.inj e,λe=>congrArg some e⟩
 constructor
 ·intro f;obtain⟨a,L,f⟩:=Bu.mp f;have d7:a<=fs.count m:=by have:=AW.mp L;lia
  have ad:a<=fs.length:=AE d7 (Et);split at f
  ·obtain⟨u,hu,rfl⟩:=Av.mp f;obtain⟨K,c,B⟩:=SB _ u hu;have r:=RI a c B;have d8:(Ar a 1++u).length=fs.length:=by rw[Ad,AS,K];lia
   have N:∀x∈Ar a 1++u,1<=x/\x<=4:=λx d=>by
    rcases AA.mp d with z | z
    ·rw[(F6.mp z).2];decide
    ·have:=c x z;lia
   refine⟨by unfold fR;simp,λx d=>?_,λi j hi n d9=>?_⟩
   ·obtain⟨i,hi,rfl⟩:=Av.mp d;have aa:=AW.mp hi;have:=(h.ix aa).1;rw[h.len] at this;rw[Ae,Aa (by lia)];exact N _ (AG _)
   ·rw[Wi hi,Wi n];have t:=(h.ix hi).1;have A:=(h.ix n).1;rw[h.len,<-d8] at t A;have F:=h.ne hi n d9;refine⟨λe=>?_,λl=>?_⟩
    ·have one:(Ar a 1++u).getD (od.idxOf i) 0=1:=by
      rcases CY F with z | z
      ·rcases MN r z A with q | q
       ·lia
       ·exact q.1
      ·rcases MN r z t with q | q
       ·lia
       ·exact q.2
     have a1:=(PK c t).mp one;have a2:=(PK c A).mp (e.symm.trans one);exact⟨one,by rw[(s hi).mp (by lia),(s n).mp (by lia)]⟩
    ·rcases CY F with z | z
     ·exact h.lt hi n z
     ·rcases MN r z t with q | q <;> lia
  ·cases f
 ·rintro⟨ab,X,y⟩;have V:∀{k l:Nat},k<fs.length->l<fs.length->k≠l->(fs.getD k 0<fs.getD l 0\/(fs.getD k 0=fs.getD l 0/\l<k))->g.getD k 0<g.getD l 0\/(g.getD k 0=1/\g.getD l 0=1):=λ{k l} b o hn ae=>by
   obtain⟨t1,t2⟩:=y k l b o hn;obtain⟨_,I⟩:=y l k o b (Ne.symm hn);rcases Gh (g.getD k 0) (g.getD l 0) with z | z | z
   ·exact .inl z
   ·have:=t1 z;exact .inr ⟨this.1,by lia⟩
   ·have:=I z
    lia
  have r:X0 (od.map λk=>g.getD k 0):=by refine DJ.mpr ?_;have:=h.srt.and h.nd;refine this.imp_of_mem λ{k l} b o q=>V (h.mem.mp b) (h.mem.mp o) q.2 q.1
  have W:∀x∈od.map λk=>g.getD k 0,1<=x/\x<=4:=λx d=>by obtain⟨k,b,rfl⟩:=Av.mp d;have ag:=h.mem.mp b;rw[Ae,Aa (by lia)];exact X _ (AG _)
  obtain⟨a,u,e,c,B⟩:=NG _ r W;obtain⟨u4,u5⟩:=mQ u c B;have o:a+u.length=fs.length:=by
   have:=congrArg DK e;rw[Ab,h.len,Ad,AS] at this
   lia
  have af:a<=fs.count m:=by
   refine Nat.le_of_not_lt λU=>?_;have v:fs.count m<od.length:=by rw[h.len];lia
   have b:od[fs.count m]<fs.length:=h.mem.mp (AG v);have hz:0<fs.count m:=List.count_pos_iff.mpr S;have C:0<od.length:=by lia
   have D:od[0]<fs.length:=h.mem.mp (AG C);have G:od.idxOf od[0]=0:=h.nd.idxOf_getElem 0 C;have jU:od.idxOf od[fs.count m]=fs.count m:=h.nd.idxOf_getElem _ v;have m0:=(s D).mp (by rwa [G]);have Q:¬fs.getD od[fs.count m] 0=m:=λq=>by
    have:=(s b).mpr q
    lia
   have H:∀{p:Nat} (E:p<od.length),p<a->g.getD od[p] 0=1:=λ{p} E M=>by
    have e1:(od.map λk=>g.getD k 0).getD p 0=g.getD od[p] 0:=by rw[Ae,Ah,Aa E];rfl
    rw[<-e1,e];exact(PK c (by rw[Ad,AS];lia)).mpr M
   have d6:=H C (by lia);have R:=H v U;have hn:od[0]≠od[fs.count m]:=λq=>by
    have:=congrArg (λx=>od.idxOf x) q;rw[G,jU] at this
    lia
   have:=((y _ _ D b hn).1 (by rw[d6,R])).2;exact Q (by rwa [<-this])
  refine Bu.mpr ⟨a,AW.mpr (by lia),?_⟩;rw[G7 (show fs.length-a<4 by lia),show fs.length-a=u.length by lia];exact Av.mpr ⟨u,u5,by rw[<-e,X1 h ab]⟩
end
open LuteTab LuteHand LuteSong
structure gX(fs:List Nat)(p:Nat)(g:List Nat):Prop where
 p1:1<=p
 p15:p<=15
 len:g.length=fs.length
 reach:∀i,i<fs.length->reaches p (g.getD i 0) (fs.getD i 0)=true
 tog:Tg fs g
def dH(fs:List Nat):Prop:=∃p g,gX fs p g
theorem NO:∀l:List (Stop×Nat),allTogether l=true↔l.Pairwise λx y=>together x y=true
 |[]=>by simp[allTogether]
 |x::r=>by unfold allTogether;rw[AB,Bb,NO r,Bt]
theorem PQ(h:x.1.course<y.1.course):together x y=true↔(x.2=y.2->x.2=1/\x.1.fret=y.1.fret)/\(x.2<y.2->x.1.fret<y.1.fret)/\(y.2<x.2->y.1.fret<x.1.fret\/y.1.fret=x.1.fret):=by
 unfold together;by_cases e:x.2=y.2
 ·rw[G7 e,AB,beq_iff_eq,beq_iff_eq];exact⟨λq=>⟨λ_=>q,λz=>by lia,λz=>by lia⟩,λq=>q.1 e⟩
 ·rw[G6 e];by_cases l:x.2<y.2
  ·simp only[G7 l,Bh,AB,decide_eq_true_eq,beq_iff_eq];constructor
   ·intro q;exact⟨λz=>absurd z e,λ_=>by lia,λz=>by lia⟩
   ·intro q;exact .inl (q.2.1 l)
  ·simp only[G6 l,Bh,AB,decide_eq_true_eq,beq_iff_eq];constructor
   ·intro q;exact⟨λz=>absurd z e,λz=>absurd z l,λ_=>by lia⟩
   ·intro q;have:=q.2.2 (by lia)
    lia
def jW(l:List Stop):Prop:=l.Pairwise λa b=>a.course<b.course
theorem VM(e:jW l)(o:g.length=l.length):allTogether (l.zip g)=true↔Tg (l.map (·.fret)) g:=by
 rw[NO,Bk];have n:(l.zip g).length=l.length:=by rw[CU];lia
 have d:∀{i:Nat} (hi:i<l.length),(l.map (·.fret)).getD i 0=l[i].fret:=λ{i} hi=>by rw[Ae,Ah,Aa hi];rfl
 have c:∀{i:Nat} (hi:i<l.length),g.getD i 0=g[i]'(by lia):=λ{i} hi=>by rw[Ae,Aa (by lia)];rfl
 have b:∀{i:Nat} (hi:i<(l.zip g).length),(l.zip g)[i]=(l[i]'(by lia),g[i]'(by lia)):=λ{i} hi=>D9;constructor
 ·intro h i j hi a f;rw[Ab] at hi a;rw[d hi,d a,c hi,c a];rcases CY f with z | z
  ·have t:=h i j (by lia) (by lia) z;rw[b (by lia),b (by lia),PQ (Bk.mp e i j hi a z)] at t;exact⟨t.1,λq=>.inl (t.2.1 q)⟩
  ·have t:=h j i (by lia) (by lia) z;rw[b (by lia),b (by lia),PQ (Bk.mp e j i a hi z)] at t;refine⟨λq=>?_,λq=>?_⟩
   ·have:=t.1 q.symm;exact⟨by rw[q];exact this.1,this.2.symm⟩
   ·rcases t.2.2 q with w | w
    ·exact .inl w
    ·exact .inr ⟨w,z⟩
 ·intro h i j hi a f;rw[n] at hi a;rw[b (by lia),b (by lia),PQ (Bk.mp e i j hi a f)];have t1:=h i j (by simpa using hi) (by simpa using a) (by lia);have k:=h j i (by simpa using a) (by simpa using hi) (by lia);rw[d hi,d a,c hi,c a] at t1;rw[d hi,d a,c hi,c a] at k;refine⟨t1.1,λq=>?_,λq=>?_⟩
  ·have m:=t1.2 q;show l[i].fret<l[j].fret
   lia
  ·have m:=k.2 q;show l[j].fret<l[i].fret\/l[j].fret=l[i].fret
   lia
theorem JR(p:Nat):∀(h:List Held) (g:List Nat),g∈choices p h↔g.length=h.length/\∀i,i<h.length->reaches p (g.getD i 0) ((h.map λx=>x.halt_.fret).getD i 0)=true
 |[],g=>by unfold choices;rw[Ai];exact⟨λe=>by subst e;exact⟨Y,λi hi=>absurd hi (Bo _)⟩,λe=>BQ.mp e.1⟩
 |s::r,g=>by
  unfold choices;rw[Bu];constructor
  ·rintro⟨f,c,b⟩;obtain⟨l,d,rfl⟩:=Av.mp b;obtain⟨h1,h2⟩:=(JR p r l).mp d;refine⟨by rw[Af,Af,h1],λi hi=>?_⟩;cases i with
   |zero=>exact(Bg.mp c).2
   |succ i=>exact h2 i (by simpa using hi)
  ·rintro⟨h1,h2⟩;cases g with
   |nil=>simp at h1
   |cons f l=>
    have a:reaches p f s.halt_.fret=true:=h2 0 (by simp);refine⟨f,Bg.mpr ⟨?_,a⟩,Av.mpr ⟨l,(JR p r l).mpr ⟨by simpa using h1,λi hi=>h2 (i+1) (by simpa using hi)⟩,Y⟩⟩;unfold reaches at a;simp only[AB,decide_eq_true_eq] at a;have:f=1\/f=2\/f=3\/f=4:=by lia
    simpa using this
theorem O0(h:jW l):g∈grips (l.map λs=>(⟨s,false⟩:Held))↔gX (l.map (·.fret)) g.pos g.fingers:=by
 have e1:(l.map λs=>(⟨s,false⟩:Held)).map Held.halt_=l:=by rw[A8];exact List.map_id _
 have k:((l.map λs=>(⟨s,false⟩:Held)).map λx=>x.halt_.fret)=l.map (·.fret):=by rw[A8];rfl
 have m:Grip.on g (l.map λs=>(⟨s,false⟩:Held))=l.zip g.fingers:=by unfold Grip.on;rw[e1]
 unfold grips;rw[Bg,Bu];constructor
 ·rintro⟨⟨i,hi,o⟩,a⟩;obtain⟨f,t,rfl⟩:=Av.mp o;obtain⟨d,c⟩:=(JR _ _ _).mp t;rw[k] at c;rw[Ab] at d c;unfold Grip.ok at a;rw[m] at a;simp only[AB] at a;have q:i<15:=AW.mp hi;exact⟨Db (Az _),q,by rwa [Ab],λj p=>c j (by simpa using p),(VM h d).mp a.2.2.2.2⟩
 ·rintro⟨h1,h2,n,b,u⟩;rw[Ab] at n b;have e:g.fingers.length=l.length:=n;refine⟨⟨g.pos-1,AW.mpr (by show g.pos-1<15;lia),Av.mpr ⟨g.fingers,(JR _ _ _).mpr ⟨by rwa [Ab],λi hi=>?_⟩,?_⟩⟩,?_⟩
  ·rw[k,show g.pos-1+1=g.pos by lia];exact b i (by simpa using hi)
  ·rw[show g.pos-1+1=g.pos by lia]
  ·unfold Grip.ok;rw[m];simp only[AB,decide_eq_true_eq,beq_iff_eq,Bb,Ab];refine⟨h1,h2,e,λx r=>?_,(VM h e).mpr u⟩;obtain⟨i,hi,rfl⟩:=FS r;have v:(l.zip g.fingers).length=l.length:=by rw[CU];lia
   have:=b i (by lia);rw[D9]
   rwa [Ae,Ae,Ah,Aa (by lia),Aa (by lia)] at this
theorem dH.out(h:dH (a++x::b)):dH (a++b):=by
 obtain⟨p,g,ok⟩:=h
 let ix:Nat->Nat:=λi=>if i<a.length then i else i+1
 have o:(a++x::b).length=a.length+b.length+1:=by rw[Ad,Af];lia
 have e:∀i,i<a.length+b.length->(a++b).getD i 0=(a++x::b).getD (ix i) 0:=λi hi=>by
  show _=(a++x::b).getD (if i<a.length then i else i+1) 0;rw[Ae,Ae];by_cases h:i<a.length
  ·rw[G7 h,AC h,AC h]
  ·rw[G6 h,Ax (by lia),Ax (by lia),show i+1-a.length=(i-a.length)+1 by lia,Cb]
 let l:=(Ay (a.length+b.length)).map λi=>g.getD (ix i) 0
 have d:∀i,i<a.length+b.length->l.getD i 0=g.getD (ix i) 0:=λi hi=>by show((Ay (a.length+b.length)).map λi=>g.getD (ix i) 0).getD i 0=_;rw[Ae,Ah,BU hi];rfl
 have f:∀i,i<a.length+b.length->ix i<(a++x::b).length:=λi hi=>by show(if i<a.length then i else i+1)<_;rw[o];split <;> lia
 have k:∀i j,i<j->ix i<ix j:=λi j h=>by show(if i<a.length then i else i+1)<(if j<a.length then j else j+1);split <;> split <;> lia
 refine⟨p,l,ok.p1,ok.p15,by show((Ay (a.length+b.length)).map _).length=_;rw[Ab,BO,Ad],λi hi=>?_,λi j hi c m=>?_⟩
 ·rw[Ad] at hi;rw[d i hi,e i hi];exact ok.reach _ (f i hi)
 ·rw[Ad] at hi c;rw[d i hi,e i hi,d j c,e j c];have r:ix i≠ix j:=by
   rcases CY m with z | z
   ·have:=k i j z;lia
   ·have:=k j i z;lia
  obtain⟨t1,s⟩:=ok.tog (ix i) (ix j) (f i hi) (f j c) r;refine⟨t1,λq=>?_⟩;rcases s q with z | ⟨n,t⟩
  ·exact .inl z
  ·refine .inr ⟨n,?_⟩;rcases CY m with z | z
   ·have:=k i j z;lia
   ·exact z
theorem dH.sub:∀{fs' fs:List Nat} (a:List Nat),dH (a++fs)->fs'.Sublist fs->dH (a++fs'):=by
 intro fs' fs a h s
 induction s generalizing a with
 |slnil=>exact h
 |cons x s b=>exact b a h.out
 |cons_cons x s b=>
  have:=b (a++[x]) (by rwa [Bq])
  rwa [Bq] at this
open Lute LuteTab LuteHand LuteSong
inductive Pl:List (List Iv)->List Iv->List Nat->Prop
 |nil:Pl [] [] []
 |skip {r:List Iv} {rs:List (List Iv)} {l:List Iv} {fs:List Nat}:Pl rs l fs->Pl (r::rs) l fs
 |put {r:List Iv} {rs:List (List Iv)} {l:List Iv} {fs:List Nat} {f:Nat} {x:Iv}:r[f]?=some x->x∈l->Pl rs (l.erase x) fs->Pl (r::rs) l (if f=0 then fs else f::fs)
theorem Pl.len(h:Pl rs l fs):l.length<=rs.length:=by
 induction h with
 |nil=>exact Ag _
 |skip _ a=>rw[Af];lia
 |put _ b _ a=>rw[D1 b] at a;rw[Af];lia
def Hd(rs:List (List Iv))(l:List Iv)(a:List Nat):Prop:=∃fs,Pl rs l fs/\dH (a++fs)
theorem Pl.less(h:Pl rs l fs)(a:x∈l):∃fs',fs'.Sublist fs/\Pl rs (l.erase x) fs':=by
 induction h with
 |nil=>cases a
 |skip _ b=>obtain⟨fs',s,p⟩:=b a;exact⟨fs',s,.skip p⟩
 |@put r rs l fs f y g d c b=>
  by_cases e:x=y
  ·subst e;refine⟨fs,?_,.skip c⟩;split
   ·exact List.Sublist.refl _
   ·exact List.sublist_cons_self _ _
  ·obtain⟨fs',s,p⟩:=b (Cu e |>.mpr a);rw[E5] at p;refine⟨if f=0 then fs' else f::fs',?_,.put g (Cu (Ne.symm e) |>.mpr d) p⟩;split
   ·exact s
   ·exact s.cons_cons _
theorem Pl.in_:∀{l:List Iv} {fs:List Nat},Pl (g++[z]::rs) l fs->Pl (g++rs) l fs\/(z∈l/\Pl (g++rs) (l.erase z) fs):=by
 induction g with
 |nil=>
  intro l fs h;cases h with
  |skip h=>exact .inl h
  |@put _ _ _ fs f x a d i=>
   cases f with
   |zero=>cases a;exact .inr ⟨d,i⟩
   |succ f=>simp at a
 |cons r g j=>
  intro l fs h;cases h with
  |skip h=>
   rcases j h with q | ⟨b,c⟩
   ·exact .inl (.skip q)
   ·exact .inr ⟨b,.skip c⟩
  |@put _ _ _ fs f x a d i=>
   rcases j i with q | ⟨b,c⟩
   ·exact .inl (.put a d q)
   ·refine .inr ⟨Ei b,?_⟩;rw[E5] at c;refine .put a ?_ c;by_cases e:x=z
    ·subst e;exact b
    ·exact(Cu e).mpr d
theorem Pl.more:∀{l:List Iv} {fs:List Nat},Pl (a++rs) l fs->Pl (a++r::rs) l fs:=by
 induction a with
 |nil=>exact λh=>.skip h
 |cons q a b=>
  intro l fs h;cases h with
  |skip h=>exact .skip (b h)
  |put e d c=>exact .put e d (b c)
theorem Pl.out:∀{l:List Iv} {fs:List Nat},z∈l->Pl (b++rs) (l.erase z) fs->Pl (b++[z]::rs) l fs:=by
 induction b with
 |nil=>exact λa h=>.put (f:=0) rfl a h
 |cons q b g=>
  intro l fs a h;cases h with
  |skip h=>exact .skip (g a h)
  |@put _ _ _ fs f x j c d=>
   rw[E5] at d;have i:=Ei c;refine .put j i (g ?_ d);by_cases e:z=x
   ·subst e;exact c
   ·exact(Cu e).mpr a
def dJ:List (List Iv)->List Iv->List Iv
 |[],l=>l
 |[z]::rs,l=>if z∈l then dJ rs (l.erase z) else dJ rs l
 |_::rs,l=>dJ rs l
def JG(rs:List (List Iv)):List (List Iv):=rs.filter λr=>decide (1<r.length)
theorem RE:∀(rs:List (List Iv)) (a:List (List Iv)) (l:List Iv),(∀r∈rs,r≠[])->(Hd (a++rs) l []↔Hd (a++JG rs) (dJ rs l) [])
 |[],a,l,_=>by simp[JG,dJ]
 |[]::rs,a,l,h=>absurd rfl (h [] (.head _))
 |[z]::rs,a,l,h=>by
  have f:=λl=>RE rs a l λr g=>h r (.tail _ g);have e:JG ([z]::rs)=JG rs:=by unfold JG;rw[BL,G6 (by simp)]
  rw[e];unfold dJ;by_cases d:z∈l
  ·rw[G7 d,<-f];constructor
   ·rintro⟨fs,c,b⟩;rcases c.in_ with q | ⟨_,q⟩
    ·obtain⟨fs',s,p⟩:=q.less d;exact⟨fs',p,b.sub [] s⟩
    ·exact⟨fs,q,b⟩
   ·rintro⟨fs,c,b⟩;exact⟨fs,c.out d,b⟩
  ·rw[G6 d,<-f];constructor
   ·rintro⟨fs,c,b⟩;rcases c.in_ with q | ⟨q,_⟩
    ·exact⟨fs,q,b⟩
    ·exact absurd q d
   ·rintro⟨fs,c,b⟩;exact⟨fs,c.more,b⟩
 |(y::z::r)::rs,a,l,h=>by
  have e:JG ((y::z::r)::rs)=(y::z::r)::JG rs:=by unfold JG;rw[BL,G7 (by simp)]
  have f:=RE rs (a++[y::z::r]) l λr g=>h r (.tail _ g);rw[Bq,Bq] at f
  rwa [e]
section
variable(t:Inst)
def Zw(c:Nat):List Iv:=(stopsOn t c).map λs=>t.sounds s.course s.fret
def cG(s:List Stop):List Nat:=(s.filter λs=>decide (1<=s.fret)).map (·.fret)
theorem Rl(c f:Nat)(s:List Stop):cG (⟨c,f⟩::s)=if f=0 then cG s else f::cG s:=by
 unfold cG;rw[BL];by_cases h:f=0
 ·rw[G7 h,G6 (by simp[h])]
 ·rw[G6 h,G7 (by simp;lia),An]
variable{t}
theorem Lh:∀(cs:List Nat) (l:List Iv) (s:List Stop),(∀c∈cs,∀(f:Nat) (s:Stop),(stopsOn t c)[f]?=some s->s=⟨c,f⟩)->s∈placedOn t cs l->Pl (cs.map (Zw t)) l (cG s)/\(s.map (·.course)).Sublist cs
 |[],l,s,_,h=>by
  unfold placedOn at h;split at h
  ·rename_i k;rw[Ai.mp h,Gj.mp k];exact⟨.nil,.slnil⟩
  ·cases h
 |c::cs,l,s,hc,h=>by
  have g:∀d∈cs,∀(f:Nat) (s:Stop),(stopsOn t d)[f]?=some s->s=⟨d,f⟩:=λd hd=>hc d (.tail _ hd);unfold placedOn at h;rcases AA.mp h with h | h
  ·obtain⟨st,i,hs⟩:=Bu.mp h;obtain⟨s',j,rfl⟩:=Av.mp hs;obtain⟨h1,h2⟩:=Bg.mp i;obtain⟨f,m,e⟩:=FS h1;have a:(stopsOn t c)[f]?=some st:=by rw[Aa m,e]
   have b:=hc c (.head _) f st a;obtain⟨p,q⟩:=Lh cs _ s' g j;refine⟨?_,?_⟩
   ·subst b;rw[Rl];refine .put (x:=t.sounds c f) ?_ (by simpa using h2) p;show((stopsOn t c).map _)[f]?=_;rw[Ah,a];rfl
   ·subst b;exact q.cons_cons c
  ·split at h
   ·obtain⟨p,q⟩:=Lh cs l s g h;exact⟨.skip p,q.cons _⟩
   ·cases h
theorem MD:∀(cs:List Nat) (l:List Iv) (fs:List Nat),(∀c∈cs,∀(f:Nat) (s:Stop),(stopsOn t c)[f]?=some s->s=⟨c,f⟩)->Pl (cs.map (Zw t)) l fs->∃s∈placedOn t cs l,cG s=fs
 |[],l,fs,_,h=>by cases h;exact⟨[],by unfold placedOn;simp,Y⟩
 |c::cs,l,fs,hc,h=>by
  have e:∀d∈cs,∀(f:Nat) (s:Stop),(stopsOn t d)[f]?=some s->s=⟨d,f⟩:=λd hd=>hc d (.tail _ hd);rw[An] at h;unfold placedOn;cases h with
  |skip h=>obtain⟨s,h1,h2⟩:=MD cs l fs e h;have b:=h.len;rw[Ab] at b;exact⟨s,AQ _ (by rwa [G7 b]),h2⟩
  |@put _ _ _ fs f x g j i=>
   have a:((stopsOn t c).map λs=>t.sounds s.course s.fret)[f]?=some x:=g;rw[Ah] at a;cases hf:(stopsOn t c)[f]? with
   |none=>rw[hf] at a;cases a
   |some st=>rw[hf] at a;cases a;have k:=hc c (.head _) f st hf;obtain⟨s,h1,h2⟩:=MD cs _ fs e i;refine⟨st::s,A6 _ (Bu.mpr ⟨st,Bg.mpr ⟨AX hf,by simpa using j⟩,Av.mpr ⟨s,h1,Y⟩⟩),?_⟩;subst k;rw[Rl,h2]
theorem TK(hn:t.opens.length=n)(j:∀c∈(Ay n).map λi=>i+1,∀(f:Nat) (s:Stop),(stopsOn t c)[f]?=some s->s=⟨c,f⟩)(l:List Iv):(holds t l).isEmpty=false↔Hd (((Ay n).map λi=>i+1).map (Zw t)) l []:=by
 have w:(((Ay n).map λi=>i+1)).Pairwise (·<·):=DJ.mpr (List.pairwise_lt_range.imp λh=>by lia);have k:∀s,s∈placedOn t ((Ay n).map λi=>i+1) l->(grips (LuteSong.heldOf s)≠[]↔dH (cG s)):=λs hs=>by
  have v:=(Lh _ l s j hs).2;have m:jW (s.filter λs=>decide (1<=s.fret)):=by have:s.Pairwise λa b=>a.course<b.course:=DJ.mp (w.sublist v);exact this.sublist List.filter_sublist
  constructor
  ·intro h;obtain⟨g,d⟩:=Dy _ h;exact⟨_,_,(O0 m).mp d⟩
  ·rintro⟨p,g,ok⟩;exact F5 ((O0 (g:=⟨p,g⟩) m).mpr ok)
 unfold holds placings;rw[hn];constructor
 ·intro h;have h':((placedOn t ((Ay n).map λi=>i+1) l).flatMap λs=>(grips (LuteSong.heldOf s)).map λg=>(⟨s,g⟩:Hold))≠[]:=λz=>by rw[z] at h;cases h
  obtain⟨hd,q⟩:=Dy _ h';obtain⟨s,hs,o⟩:=Bu.mp q;obtain⟨g,d,_⟩:=Av.mp o;exact⟨cG s,(Lh _ l s j hs).1,(k s hs).mp (F5 d)⟩
 ·rintro⟨fs,r,x⟩;obtain⟨s,hs,e⟩:=MD _ l fs j r;have u:dH (cG s):=by rwa [e]
  obtain⟨g,d⟩:=Dy _ ((k s hs).mpr u);cases hz:((placedOn t ((Ay n).map λi=>i+1) l).flatMap λs=>(grips (LuteSong.heldOf s)).map λg=>(⟨s,g⟩:Hold)) with
  |nil=>have:(⟨s,g⟩:Hold)∈((placedOn t ((Ay n).map λi=>i+1) l).flatMap λs=>(grips (LuteSong.heldOf s)).map λg=>(⟨s,g⟩:Hold)):=Bu.mpr ⟨s,hs,Av.mpr ⟨g,d,Y⟩⟩;rw[hz] at this;cases this
  |cons a b=>rfl
end
open Lute LuteTab LuteHand LuteSong LuC
def low(fs g:List Nat):List Int:=(fs.zip g).map λp=>(p.1:Int)-(p.2:Int)
theorem LI(b:g.length=fs.length):y∈low fs g↔∃i,i<fs.length/\y=(fs.getD i 0:Int)-(g.getD i 0:Int):=by
 unfold low;constructor
 ·intro h;obtain⟨p,a,rfl⟩:=Av.mp h;obtain⟨i,hi,rfl⟩:=Ct.mp a;rw[CU] at hi;refine⟨i,by lia,?_⟩;rw[D9,Ae,Ae,Aa (by lia),Aa (by lia)];rfl
 ·rintro⟨i,hi,rfl⟩;refine Av.mpr ⟨(fs[i],g[i]'(by lia)),Ct.mpr ⟨i,by rw[CU];lia,by rw[D9]⟩,?_⟩;rw[Ae,Ae,Aa hi,Aa (by lia)];rfl
theorem PB(a:g.length=fs.length):(low fs g).length=fs.length:=by
 unfold low;rw[Ab,CU]
 lia
theorem Xn(a:g.length=fs.length)(e:∀x∈g,1<=x/\x<=4)(k:Tg fs g)(m:mx∈low fs g)(l:∀y∈low fs g,y<=mx)(q:mn∈low fs g)(o:∀y∈low fs g,mn<=y):
  gX fs p g↔1<=p/\mx<=p/\p<=15/\(p:Int)<=mn+2:=by
 have b:∀i,i<fs.length->(reaches p (g.getD i 0) (fs.getD i 0)=true↔(fs.getD i 0:Int)-(g.getD i 0:Int)<=p/\(p:Int)<=(fs.getD i 0:Int)-(g.getD i 0:Int)+2):=λi hi=>by
  have n:1<=g.getD i 0/\g.getD i 0<=4:=by rw[Ae,Aa (by lia)];exact e _ (AG _)
  unfold reaches;rw[AB,AB,AB,decide_eq_true_iff,decide_eq_true_iff,decide_eq_true_iff,decide_eq_true_iff]
  lia
 constructor
 ·rintro⟨h,f,_,d,_⟩;obtain⟨i,hi,t⟩:=(LI a).mp m;obtain⟨j,c,s⟩:=(LI a).mp q;have h1:=(b i hi).mp (d i hi);have h2:=(b j c).mp (d j c);exact⟨h,by lia,f,by lia⟩
 ·rintro⟨h1,h2,r,n⟩;refine⟨h1,r,a,λi hi=>(b i hi).mpr ?_,k⟩;have:=l _ ((LI a).mpr ⟨i,hi,Y⟩);have:=o _ ((LI a).mpr ⟨i,hi,Y⟩)
  lia
theorem XM(h:fs.length<=14):(iE fs od m).length<=8:=by
 have d:fs.count m<=fs.length:=Et;have e:(iE fs od m).length=((Ay (fs.count m+1)).map λa=>if fs.length-a<4 then (UP.getD (fs.length-a) []).length else 0).sum:=by
  unfold iE;rw[CJ];congr 1;refine BG λa _=>?_;split
  ·rw[Ab]
  ·rfl
 rw[e];have b:∀n,n<15->∀c,c<n+1->((Ay (c+1)).map λa=>if n-a<4 then (UP.getD (n-a) []).length else 0).sum<=8:=by decide
 exact b _ (by lia) _ (by lia)
theorem UX:∀{l:List Nat} {x:Nat},x∈l->x<=l.sum
 |y::r,x,h=>by
  rw[BC];rcases Aq.mp h with e | h
  ·lia
  ·have:=UX h
   lia
theorem Pl.cnt(h:Pl rs l fs):0<cnt rs l:=by
 induction h with
 |nil=>exact Nat.one_pos
 |@skip r rs l fs a d=>
  unfold LuC.cnt;rw[G7 a.len]
  lia
 |@put r rs l fs f x e c a d=>
  unfold LuC.cnt;have b:x∈r.filter λx=>l.contains x:=Bg.mpr ⟨AX e,by simpa using c⟩;have:=UX (Av.mpr ⟨x,b,Y⟩:LuC.cnt rs (l.erase x)∈(r.filter λx=>l.contains x).map λx=>LuC.cnt rs (l.erase x))
  lia
theorem Pl.none:∀rs:List (List Iv),Pl rs [] []
 |[]=>.nil
 |_::rs=>.skip (Pl.none rs)
theorem Pl.no(h:Pl rs l fs):l=[]->fs=[]:=by
 induction h with
 |nil=>exact λ_=>rfl
 |skip _ b=>exact b
 |put _ a _ _=>intro e;rw[e] at a;cases a
theorem Zo:Hd rs [] pre↔dH pre:=by
 constructor
 ·rintro⟨fs,a,b⟩
  rwa [a.no rfl,AR] at b
 ·intro h;exact⟨[],Pl.none rs,by rwa [AR]⟩
theorem Zg(h:Hd rs l pre):dH pre:=by
 obtain⟨fs,_,a⟩:=h;have:=a.sub (fs':=[]) pre (List.nil_sublist _)
 rwa [AR] at this
theorem ZE(h:Hd rs l pre):cnt rs l≠0:=by
 obtain⟨fs,a,_⟩:=h;have:=a.cnt
 lia
def held(a:List Nat)(f:Nat):List Nat:=if f=0 then a else a++[f]
theorem W1:Hd (r::rs) l pre↔(∃f x,r[f]?=some x/\x∈l/\Hd rs (l.erase x) (held pre f))\/Hd rs l pre:=by
 constructor
 ·rintro⟨fs,b,a⟩;cases b with
  |skip b=>exact .inr ⟨fs,b,a⟩
  |@put _ _ _ fs f x d c b=>
   refine .inl ⟨f,x,d,c,fs,b,?_⟩;unfold held;by_cases h:f=0
   ·rw[G7 h] at a ⊢;exact a
   ·rw[G6 h] at a ⊢
    rwa [Bq]
 ·rintro(⟨f,x,d,c,fs,b,a⟩ | ⟨fs,b,a⟩)
  ·refine⟨_,.put d c b,?_⟩;unfold held at a;by_cases h:f=0
   ·rw[G7 h] at a ⊢;exact a
   ·rw[G6 h] at a ⊢
    rwa [Bq] at a
  ·exact⟨fs,.skip b,a⟩
theorem SN:c∈HR D r↔∃y,y∈D/\r[c.1]?=some y/\c.2.1=unit D y/\c.2.2=mask D y:=by
 unfold HR;constructor
 ·intro h;obtain⟨p,g,rfl⟩:=Av.mp h;obtain⟨h1,h2⟩:=Bg.mp g;exact⟨p.1,by simpa using h2,EY.mp h1,Y,Y⟩
 ·rintro⟨y,h1,h2,f,e⟩;refine Av.mpr ⟨(y,c.1),Bg.mpr ⟨EY.mpr h2,by simpa using h1⟩,?_⟩;obtain⟨a,b,d⟩:=c;simp only at f e ⊢;rw[f,e]
end LuG
open PySem PySem.Spec PyProof.Rows
namespace L2
abbrev bF:=Sum Int Str
def OH:bF->O->Bool
 |.inl k,v=>O.isInt k v
 |.inr x,v=>O.isStrOf x v
def oW(w:GQ):bF->Int
 |.inl k=>hashInt k
 |.inr x=>hashStr w x
theorem Ih:∀{k:bF} {v:O},OH k v=true->(∃i t,k=Sum.inl i/\v=O.int i t)\/(∃x t,k=Sum.inr x/\v=O.str x t)
 |.inl i,v,h=>by obtain⟨t,e⟩:=O.isInt_shape (k:=i) (v:=v) h;exact .inl ⟨i,t,Y,e⟩
 |.inr x,v,h=>by obtain⟨t,e⟩:=O.isStrOf_shape (x:=x) (v:=v) h;exact .inr ⟨x,t,Y,e⟩
theorem TM(i:Int)(t:Tok):OH (.inl i) (.int i t)=true:=by simp[OH,O.isInt]
theorem TC(x:Str)(t:Tok):OH (.inr x) (.str x t)=true:=by simp[OH,O.isStrOf]
theorem YZ(a b:Int):decide ((Sum.inl a:bF)=Sum.inl b)=(a==b):=by
 by_cases e:a=b
 ·subst e;simp
 ·have h:¬(Sum.inl a:bF)=Sum.inl b:=λq=>e (Sum.inl.inj q);rw[decide_eq_false h];exact(beq_eq_false_iff_ne.mpr e).symm
theorem ZJ(a b:Str):decide ((Sum.inr a:bF)=Sum.inr b)=decide (a=b):=by
 by_cases e:a=b
 ·subst e;simp
 ·have h:¬(Sum.inr a:bF)=Sum.inr b:=λq=>e (Sum.inr.inj q);rw[decide_eq_false h,decide_eq_false e]
theorem ZW(a:Int)(b:Str):decide ((Sum.inl a:bF)=Sum.inr b)=false:=decide_eq_false (λq=>nomatch q)
theorem ZG(a:Str)(b:Int):decide ((Sum.inr a:bF)=Sum.inl b)=false:=decide_eq_false (λq=>nomatch q)
def HJ(prog:GJ)(w:GQ):PySem.KeyKind prog w bF where
 is:=OH
 hash:=oW w
 inj:=λv a b ha hb=>by
  rcases Ih ha with ⟨i,t,rfl,rfl⟩ | ⟨x,t,rfl,rfl⟩
  ·rcases Ih hb with ⟨j,u,rfl,e⟩ | ⟨y,u,rfl,e⟩
   ·injection e with e1 _;rw[e1]
   ·exact nomatch e
  ·rcases Ih hb with ⟨j,u,rfl,e⟩ | ⟨y,u,rfl,e⟩
   ·exact nomatch e
   ·injection e with e1 _;rw[e1]
 byValue:=λk v h=>by rcases Ih h with ⟨i,t,rfl,rfl⟩ | ⟨x,t,rfl,rfl⟩ <;> rfl
 pyHash:=λhv h=>by
  rcases Ih hv with ⟨i,t,rfl,rfl⟩ | ⟨x,t,rfl,rfl⟩
  ·exact wpAny_pyHash_int h
  ·exact wpAny_pyHash_str h
 eqBool:=λhu hv h=>by
  rcases Ih hu with ⟨i,t,rfl,rfl⟩ | ⟨x,t,rfl,rfl⟩
  ·rcases Ih hv with ⟨j,u,rfl,rfl⟩ | ⟨y,u,rfl,rfl⟩
   ·rw[YZ] at h;exact wpAny_eqBool_int h
   ·rw[ZW] at h;exact SeqAt.EqAt.int_str i t y u _ _ _ _ h
  ·rcases Ih hv with ⟨j,u,rfl,rfl⟩ | ⟨y,u,rfl,rfl⟩
   ·rw[ZG] at h;exact SeqAt.EqAt.str_int x t j u _ _ _ _ h
   ·rw[ZJ] at h;exact wpAny_eqBool_str h
 «strs»:=λk x t v h=>by
  rcases Ih h with ⟨i,u,rfl,e⟩ | ⟨y,u,rfl,e⟩
  ·exact nomatch e
  ·injection e with e1 _;subst e1;cases v <;> rfl
theorem KG(prog:GJ)(w:GQ)(i:Int)(t:Tok):(HJ prog w).is (.inl i) (.int i t)=true:=TM i t
theorem Ro(prog:GJ)(w:GQ)(x:Str)(t:Tok):(HJ prog w).is (.inr x) (.str x t)=true:=TC x t
inductive V where
 |non | bl (b:Bool) | int (i:Int) | str (x:Str) | byt (b:Array UInt8) | flt (b:UInt64) | ref (a:Z) | ty (n:String)
 deriving DecidableEq
local macro_rules|`(command|def $n:declId $s:optDeclSig $v:declVal)=>`(command|noncomputable def $n:declId $s:optDeclSig $v:declVal)
local macro_rules|`(command|abbrev $n:declId $s:optDeclSig $v:declVal)=>`(command|noncomputable abbrev $n:declId $s:optDeclSig $v:declVal)
def RelV:V->O->Prop
 |.non,u=>u=O.none
 |.bl b,u=>u=O.bool b
 |.int i,u=>∃t,u=O.int i t
 |.str x,u=>∃t,u=O.str x t
 |.byt b,u=>∃t,u=O.bytes b t
 |.flt b,u=>∃t,u=O.float b t
 |.ref a,u=>u=O.ref a
 |.ty n,u=>u=O.type n
abbrev aJ:List V->List O->Prop:=Paired RelV
theorem aJ.length(r:aJ xs us):xs.length=us.length:=Paired.length r
theorem aJ.get:∀{xs:List V} {us:List O} {i:Nat} {x:V},aJ xs us->xs[i]?=some x->∃u,us[i]?=some u/\RelV x u
 |_,_,_,_,.nil,e=>by simp at e
 |_,_,0,_,.cons r _,e=>by simp at e;subst e;exact⟨_,Y,r⟩
 |_,_,i+1,x,.cons _ t,e=>by obtain⟨u,h1,h2⟩:=aJ.get (i:=i) (x:=x) t (by simpa using e);exact⟨u,by simpa using h1,h2⟩
theorem aJ.set(r:RelV x u):∀{xs:List V} {us:List O} (i:Nat),aJ xs us->aJ (xs.set i x) (us.set i u)
 |_,_,_,.nil=>.nil
 |_,_,0,.cons _ t=>.cons r t
 |_,_,i+1,.cons q t=>.cons q (aJ.set r i t)
theorem aJ.append:∀{xs ys:List V} {us a:List O},aJ xs us->aJ ys a->aJ (xs++ys) (us++a)
 |_,_,_,_,.nil,s=>s
 |_,_,_,_,.cons r t,s=>.cons r (aJ.append t s)
theorem aJ.take:∀{xs:List V} {us:List O} (n:Nat),aJ xs us->aJ (xs.take n) (us.take n)
 |_,_,0,_=>.nil
 |_,_,_+1,.nil=>.nil
 |_,_,n+1,.cons r t=>.cons r (aJ.take n t)
theorem aJ.drop:∀{xs:List V} {us:List O} (n:Nat),aJ xs us->aJ (xs.drop n) (us.drop n)
 |_,_,0,r=>r
 |_,_,_+1,.nil=>.nil
 |_,_,n+1,.cons _ t=>aJ.drop n t
def cE:Option V->Option O->Prop
 |some v,some u=>RelV v u
 |none,none=>True
 |_,_=>False
def KV{κ:Type}:List (κ×V)->List (κ×O)->Prop:=Paired λ(p:κ×V) (q:κ×O)=>p.1=q.1/\RelV p.2 q.2
def kV:bF->V
 |.inl i=>.int i
 |.inr x=>.str x
inductive HO where
 |lst (xs:List V)
 |tup (xs:List V)
 |dK (aB:List (bF×V)) | dT (aB:List (List bF×V))
 |set (S:Int->Bool) (n:Nat)
 |ins (C dx:Z) (fs:List (Str×V))
 |own (x:Z)
 |xd (fs:List (Str×V))
 |met (f x:Z)
 |rng (lo hi:Int)
 |frz (o:Obj) (u:HO)
 |tbl (ps:Array O)
 |ext (φ:Heap->Prop)
def HO.tg:HO -> Nat
 |.lst _=>0
 |.tup _=>1
 |.dK _=>2
 |.dT _=>3
 |.set _ _=>4
 |.ins _ _ _=>5
 |.own _=>6
 |.xd _=>7
 |.met _ _=>8
 |.rng _ _=>9
 |.frz _ _=>10
 |.tbl _=>11
 |.ext _=>12
theorem aO{o u:HO}(h:(o.tg==u.tg)=false:=by rfl):o≠u:=λe=>by rw[e,beq_self_eq_true] at h;cases h
abbrev Hp:=Z->Option HO
def aK(H:Hp)(a:Z)(o:HO):Hp:=λb=>if b=a then some o else H b
theorem G9:aK H a o a=some o:=by unfold aK;rw[G7 rfl]
theorem Hf(h:b≠a):aK H a o b=H b:=by unfold aK;rw[G6 h]
theorem Ni:aK (aK H a o) a u=aK H a u:=by funext b;unfold aK;split <;> rfl
theorem Hq{H:Hp}{a b:Z}{o u:HO}(h:H a=some o)(h':H b=some u)(d:o≠u):a≠b:=by intro e;subst e;rw[h] at h';exact d (Option.some.inj h')
theorem Hk{H:Hp}{a b:Z}{o:HO}(h:H a=some o)(h':H b=none):a≠b:=by intro e;subst e;rw[h] at h';cases h'
theorem Jx{h:Heap}{x:Obj}(a:x.dict=none)(b:x.isFreed=false:=by rfl):∀o,(h.push x).get? h.objs.size=some o->o.dict=none:=λo e=>by rw[Ap _ b] at e;cases e;exact a
theorem Nq{h:Heap}{a:Z}{x:Obj}(e:h.get? a=some x)(c:x.dict=none):∀o,h.get? a=some o->o.dict=none:=λo b=>by rw[e] at b;cases b;exact c
section
variable(P:GJ)(w:GQ)
def aT(H:Hp)(h:Heap)(a:Z):HO->Prop
 |.lst xs=>xs.length<=GI/\∃(aD:List O) (n:Nat),aJ xs aD/\h.get? a=some { cls:=.type "list",data:=.seq aD.toArray n }
 |.tup xs=>(xs.length<=GI/\∀o,h.get? a=some o->o.dict=none)/\∃aD:List O,aJ xs aD/\IsTup h a aD.toArray
 |.dK aB=>aB.length<=GI/\(a==G1)=false/\∃vs,KV aB vs/\h.DictOf (HJ P w) a vs
 |.dT aB=>aB.length<=GI/\(a==G1)=false/\∃xs:List (List bF×Z×O),
   Paired (λ(p:List bF×V) (q:List bF×Z×O)=>p.1=q.1/\H q.2.1=some (.tup (p.1.map kV))/\RelV p.2 q.2.2) aB xs ∧
   ∃o es ep,h.get? a=some o/\o.ExactDict/\o.data=.dict es ep/\es.toList=xs.map (entryOfKey (tupleKind (HJ P w)))/\(xs.map (·.1)).Nodup
 |.set S n=>h.SetOf (intKind P w) a S n
 |.ins C dx fs=>H dx=some (.own a)/\fs.length<=1000/\dx≠a/\h.get? a=some (B4 C dx) ∧
   ∃mA,h.Ns1 dx mA/\(∀f,cE (fs.lookup f) (mA f))/\PySem.Within mA (fs.map (·.1))
 |.own _=>∃o,h.get? a=some o
 |.xd fs=>∃mA,h.Ns1 a mA/\∀f,cE (fs.lookup f) (mA f)
 |.rng lo hi=>∃t u v,h.get? a=some { cls:=.type "range",data:=.fields #[.int lo t,.int hi u,.int 1 v] }
 |.frz o u=>h.get? a=some o/\aT H h a u
 |.tbl ps=>h.get? a=some { cls:=.none,data:=.fields ps }
 |.met f x=>h.get? a=some (Ex (.ref f) (.ref x))
 |.ext φ=>φ h/\(∃o,h.get? a=some o)/\∀h1 h2:Heap,φ h1->(∀o,h1.get? a=some o->h2.get? a=some o)->φ h2
def bU(H:Hp)(h:Heap):Prop:=∀a o,H a=some o->aT P w H h a o
end
section
variable{P:GJ}{w:GQ}{H H':Hp}{h h':Heap}{a:Z}{o:HO}
theorem aT.lt(x:aT P w H h a o):a<h.objs.size:=by
 cases o with
 |lst xs=>obtain⟨_,_,_,_,e⟩:=x;exact Ao e
 |tup xs=>obtain⟨_,_,_,p⟩:=x;exact p.lt
 |dK aB=>obtain⟨_,_,_,_,o,_,_,e,_⟩:=x;exact Ao e
 |dT aB=>obtain⟨_,_,_,_,o,_,_,e,_⟩:=x;exact Ao e
 |set S n=>obtain⟨o,_,_,_,e,_⟩:=x;exact Ao e
 |ins C dx fs=>obtain⟨_,_,_,e,_⟩:=x;exact Ao e
 |own y=>obtain⟨_,e⟩:=x;exact Ao e
 |xd fs=>obtain⟨_,⟨_,_,_,e,_⟩,_⟩:=x;exact Ao e
 |rng lo hi=>obtain⟨_,_,_,e⟩:=x;exact Ao e
 |frz b u=>obtain⟨e,_⟩:=x;exact Ao e
 |tbl ps=>exact Ao (show h.get? a=some _ from x)
 |met f y=>exact Ao (show h.get? a=some _ from x)
 |ext φ=>obtain⟨_,⟨_,e⟩,_⟩:=x;exact Ao e
theorem Paired.mapP{e β:Type}{F G:e->β->Prop}:∀{c:List e} {d:List β},Paired F c d->(∀a b,F a b->G a b)->Paired G c d
 |_,_,.nil,_=>.nil
 |_,_,.cons r t,f=>.cons (f _ _ r) (Paired.mapP t f)
theorem aT.stay(x:aT P w H h a o)(k:∀b u,(b=a\/H b=some (.own a))->h.get? b=some u->h'.get? b=some u)
  (ho:∀b,H b=some (.own a)->H' b=some (.own a)) (ht:∀b xs,H b=some (.tup xs)->H' b=some (.tup xs)):aT P w H' h' a o:=by
 induction o with
 |lst xs=>obtain⟨z,aD,n,r,e⟩:=x;exact⟨z,aD,n,r,k _ _ (.inl rfl) e⟩
 |tup xs=>obtain⟨⟨z,l⟩,aD,r,g,e,c⟩:=x;exact⟨⟨z,Nq (k _ _ (.inl rfl) e) (l _ e)⟩,aD,r,g,k _ _ (.inl rfl) e,c⟩
 |dK aB=>obtain⟨z,y,vs,r,g,es,ep,e,c⟩:=x;exact⟨z,y,vs,r,zT g es ep (k _ _ (.inl rfl) e) c⟩
 |dT aB=>obtain⟨z,y,xs,r,g,es,ep,e,c⟩:=x;exact⟨z,y,xs,Paired.mapP r λp q z=>⟨z.1,ht _ _ z.2.1,z.2.2⟩,zT g es ep (k _ _ (.inl rfl) e) c⟩
 |set S n=>obtain⟨g,es,ep,t,e,c⟩:=x;exact zU g es ep t (k _ _ (.inl rfl) e) c
 |ins C dx fs=>obtain⟨d,z,ne,e,mA,⟨od,es,ep,i,c⟩,r⟩:=x;exact⟨ho _ d,z,ne,k _ _ (.inl rfl) e,mA,⟨od,es,ep,k _ _ (.inr d) i,c⟩,r⟩
 |own y=>obtain⟨g,e⟩:=x;exact⟨g,k _ _ (.inl rfl) e⟩
 |xd fs=>obtain⟨mA,⟨od,es,ep,e,c⟩,r⟩:=x;exact⟨mA,⟨od,es,ep,k _ _ (.inl rfl) e,c⟩,r⟩
 |rng lo hi=>obtain⟨t,u,v,e⟩:=x;exact⟨t,u,v,k _ _ (.inl rfl) e⟩
 |frz g u j=>obtain⟨e,q⟩:=x;exact⟨k _ _ (.inl rfl) e,j q⟩
 |tbl ps=>have e:h.get? a=some { cls:=.none,data:=.fields ps }:=x;show h'.get? a=some { cls:=.none,data:=.fields ps };exact k a _ (.inl rfl) e
 |met f y=>have e:h.get? a=some (Ex (.ref f) (.ref y)):=x;show h'.get? a=some (Ex (.ref f) (.ref y));exact k a _ (.inl rfl) e
 |ext φ=>obtain⟨p,⟨o,e⟩,st⟩:=x;exact⟨st _ _ p λo q=>k _ _ (.inl rfl) q,⟨o,k _ _ (.inl rfl) e⟩,st⟩
theorem bU.lt(x:bU P w H h)(e:H a=some o):a<h.objs.size:=(x a o e).lt
theorem bU.fresh(x:bU P w H h)(e:h.objs.size<=a):H a=none:=by
 cases q:H a with
 |none=>rfl
 |some u=>exact absurd (As (x.lt q) e) (Bc _)
theorem bU.kept(x:bU P w H h)(k:∀b u,h.get? b=some u->h'.get? b=some u):bU P w H h':=λa o e=>(x a o e).stay (λb u _ q=>k b u q) (λ_ q=>q) λ_ _ q=>q
theorem bU.laid(x:bU P w H h)(k:∀b u,h.get? b=some u->h'.get? b=some u)(f:h.objs.size<=a)(g:aT P w (aK H a o) h' a o):bU P w (aK H a o) h':=λb u e=>by
 have hn:=x.fresh f;by_cases d:b=a
 ·subst d;rw[G9] at e;cases e;exact g
 ·rw[Hf d] at e;exact(x b u e).stay (λc v _ q=>k c v q) (λc q=>by rwa [Hf (Hk q hn)]) λc xs q=>by rwa [Hf (Hk q hn)]
end
def Rd(H:Hp)(a:Z)(u:HO):Prop:=H a=some u\/∃o,H a=some (.frz o u)
theorem Rd.ok(r:Rd H a u)(x:bU P w H h):aT P w H h a u:=by
 rcases r with r | ⟨o,r⟩
 ·exact x a u r
 ·obtain⟨_,q⟩:=x a _ r;exact q
def iM:Option HO->Prop
 |some (.lst _)=>True
 |some (.dK _)=>True
 |some (.dT _)=>True
 |some (.set _ _)=>True
 |some (.ins _ _ _)=>True
 |some (.ext _)=>True
 |_=>False
section
variable{P:GJ}{w:GQ}{H:Hp}{h h':Heap}{x e:Z}{o':HO}
theorem bU.write(ok:bU P w H h)(j:iM (H x))(l:e=x\/H e=some (.own x))(k:∀b u,b≠e->h.get? b=some u->h'.get? b=some u)(n:∃u,h'.get? e=some u)
  (new:aT P w (aK H x o') h' x o'):bU P w (aK H x o') h':=λb u q=>by
 have g:∀c y,H c=some (.own y)->c≠x:=λc y r z=>by subst z;rwa [r] at j
 have m:∀c xs,H c=some (.tup xs)->c≠x:=λc xs r z=>by subst z;rwa [r] at j
 by_cases a:b=x
 ·subst a;rw[G9] at q;cases q;exact new
 ·rw[Hf a] at q;by_cases d:b=e
  ·have i:H b=some (.own x):=by
    rcases l with z | z
    ·exact absurd (d.trans z) a
    ·rwa [d]
   rw[q] at i;cases i;obtain⟨v,o⟩:=n;exact⟨v,by rwa [d]⟩
  ·refine(ok b u q).stay (λc v f r=>k c v ?_ r) (λc r=>by rwa [Hf (g c b r)]) λc xs r=>by rwa [Hf (m c xs r)]
   rcases f with rfl | f
   ·exact d
   ·rintro rfl;rcases l with z | z
    ·exact g c b f z
    ·rw[f] at z;cases z;exact a rfl
end
structure Un(fs ex:List Z)(H H':Hp)(h h':Heap):Prop where
 keep:∀b o,h.get? b=some o->H b=none->b∉fs->b∉ex->h'.get? b=some o
 slot:∀b o,h.get? b=some o->H b=none->b∈fs->b∉ex->∃sl,h'.get? b=some { o with slots:=sl }
 free:∀b o,h.get? b=some o->H b=none->b∉ex->H' b=none
 there:∀b o,h.get? b=some o->b∉ex->∃o',h'.get? b=some o'
 tups:∀b xs,H b=some (.tup xs)->H' b=some (.tup xs)
 frzs:∀b o u,H b=some (.frz o u)->H' b=some (.frz o u)
 tbls:∀b ps,H b=some (.tbl ps)->∃more,H' b=some (.tbl (ps++more))
section
variable{fs fs' ex ex':List Z}{H H1 H2:Hp}{h h1 h2 h':Heap}{a x e:Z}{o:HO}
theorem Un.any(u:Un fs ex H H1 h h1)(q:h.get? b=some ob)(n:H b=none)(a:b∉ex):∃sl,h1.get? b=some { ob with slots:=sl }:=by
 by_cases c:b∈fs
 ·exact u.slot b ob q n c a
 ·exact⟨ob.slots,u.keep b ob q n c a⟩
theorem Un.kept(k:∀b u,h.get? b=some u->h'.get? b=some u):Un fs ex H H h h':=⟨λb a q _ _ _=>k b a q,λb a q _ _ _=>⟨a.slots,k b a q⟩,λ_ _ _ n _=>n,λb a q _=>⟨a,k b a q⟩,λ_ _ q=>q,λ_ _ _ q=>q,λ_ ps q=>⟨#[],by rw[q];simp⟩⟩
theorem Un.refl:Un fs ex H H h h:=Un.kept λ_ _ q=>q
theorem Un.laid(k:∀b u,h.get? b=some u->h'.get? b=some u)(hp:h.objs.size<=a)(hn:H a=none):Un fs ex H (aK H a o) h h' where
 keep:=λb u q _ _ _=>k b u q
 slot:=λb u q _ _ _=>⟨u.slots,k b u q⟩
 free:=λb u q n _=>by rwa [Hf (AL (As (Ao q) hp))]
 there:=λb u q _=>⟨u,k b u q⟩
 tups:=λb xs q=>by rwa [Hf (Hk q hn)]
 frzs:=λb u xs q=>by rwa [Hf (Hk q hn)]
 tbls:=λb ps q=>⟨#[],by rw[Hf (Hk q hn),q];simp⟩
theorem Un.write(a:iM (H x))(j:e=x\/H e=some (.own x))(k:∀b u,b≠e->h.get? b=some u->h'.get? b=some u)(i:∃u,h'.get? e=some u):Un fs ex H (aK H x o) h h':=by
 have f:∀b,H b=none->b≠x:=λb n z=>by subst z;rwa [n] at a
 have d:∀b,H b=none->b≠e:=λb n z=>by
  subst z;rcases j with r | r
  ·exact f b n r
  ·rw[n] at r;cases r
 have c:∀b u,H b=some u->¬iM (some u)->b≠x:=λb u q nm z=>by subst z;rw[q] at a;exact nm a
 refine⟨λb u q n _ _=>k b u (d b n) q,λb u q n _ _=>⟨u.slots,k b u (d b n) q⟩,λb u q n _=>by rwa [Hf (f b n)],λb u q _=>?_,λb xs q=>by rwa [Hf (c b _ q λz=>z)],λb u xs q=>by rwa [Hf (c b _ q λz=>z)],λb ps q=>⟨#[],by rw[Hf (c b _ q λz=>z),q];simp⟩⟩
 by_cases g:b=e
 ·subst g;exact i
 ·exact⟨u,k b u g q⟩
end
def gB(h:Heap)(H:Hp):List Z:=(Ay h.objs.size).filter λa=>(H a).isSome
def Ou(h:Heap)(H:Hp):Heap:=PySem.W.hideAll h (gB h H)
theorem Uu(h:Heap)(H:Hp):(Ou h H).objs.size=h.objs.size:=PySem.W.hideAll_size _ _
theorem Vz(e:h.get? b=some o)(n:H b=none):(Ou h H).get? b=some o:=PySem.W.hideAll_get _ e λa=>by have q:(H b).isSome=true:=(Bg.mp a).2;rw[n] at q;simp at q
theorem Yh(e:(Ou h H).get? b=some o):h.get? b=some o/\H b=none:=by
 have a:h.get? b=some o:=PySem.W.of_hideAll (gB h H) e;refine⟨a,?_⟩;cases q:H b with
 |none=>rfl
 |some x=>have c:b∈gB h H:=Bg.mpr ⟨AW.mpr (Ao a),by simp[q]⟩;have z:(Ou h H).get? b=none:=PySem.W.hideAll_none (gB h H) c;rw[z] at e;cases e
structure Mod(K:G5)(mg:Str->Option O)(base:Heap):Prop where
 kin:K.In base
 glob:base.Ns GM mg
 blt:∃mb,base.Ns builtinsNs mb/\∀x:Str,x≠"__name__"->mb x=G3 x
 nolimit:base.NoLimit
structure Cx where
 prog:GJ
 w:GQ
 K:G5
 mg:Str->Option O
 base:Heap
 A:GS
 N:List Str
 s_0:GF
 H_0:Hp
 env:Env
 outer:List Env
 stack:List Env
 ex:List Z
 fn:Str->Bool
 calm:Bool
 pn:List (Z×Obj)
 xe:O->GF->Prop
def cG(l:List Env):List Z:=l.filterMap (·.frame)
abbrev Cx.fs(X:Cx):List Z:=cG X.outer
def iO(a:Scope)(x:Str):Prop:=a.names.lookup x=some .local\/a.names.lookup x=some .cell\/a.names.lookup x=some .free
def Loc(a:Scope)(x:Str):Prop:=a.names.lookup x=some .local\/a.names.lookup x=some .cell
def pH(env:Env)(h:Heap)(m:Str->Option O)(x:Str)(u:O):Prop:=(env.kindOf x=some .local/\m x=some u)\/((env.kindOf x=some .cell\/env.kindOf x=some .free)/\∃c,env.cells.lookup x=some c/\h.IsCell c (some u))
structure Cx.Ok(X:Cx):Prop where
 mod:Mod X.K X.mg X.base
 kind:X.env.scope.kind=.function
 glob:X.env.globals=GM
 blt:X.env.builtins=builtinsNs
 above:X.s_0.heap.objs.size<=X.env.locals
 inj:∀x y c,X.env.cells.lookup x=some c->X.env.cells.lookup y=some c->x=y
 has:∀x,(X.env.kindOf x=some .cell\/X.env.kindOf x=some .free)->∃c,X.env.cells.lookup x=some c
 cab:∀x c,X.fn x=true->X.env.cells.lookup x=some c->X.s_0.heap.objs.size<=c
 hd:X.calm=true->X.A.handled=none
 frames:X.A.frames=some X.stack
 stk:X.stack=X.outer\/(X.stack=X.env::X.outer/\X.env.frame=some X.env.locals)
 exf:∀b∈X.ex,b≠X.env.locals/\∀x c,X.env.cells.lookup x=some c->c≠b
 bs:∀b o,X.base.get? b=some o->X.s_0.heap.get? b=some o/\X.H_0 b=none
 bsz:X.base.objs.size<=X.s_0.heap.objs.size
 noex:∀b o,X.base.get? b=some o->b∉X.ex
 exfs:∀b∈X.ex,b∉X.fs
 funs:X.s_0.heap.FunFrames X.base X.outer
 frf:∀b∈X.fs,X.H_0 b=none
structure Inv(X:Cx)(aA:List (Z×Obj))(σ:List (Option V))(H:Hp)(s:GF):Prop where
 ok:X.Ok
 os:s.os=X.s_0.os
 bare:AllBare s.gens
 base:Un X.fs X.ex X.H_0 H X.s_0.heap s.heap
 loc:∃m,s.heap.Ns X.env.locals m/\∀(i:Nat) (x:Str) (v:V),X.N[i]?=some x->σ[i]?=some (some v)->iO X.env.scope x->∃u,RelV v u/\pH X.env s.heap m x u
 cell:∀x c,X.env.cells.lookup x=some c->∃v,s.heap.IsCell c v
 free:H X.env.locals=none
 freeC:∀x c,X.env.cells.lookup x=some c->H c=none
 pin:∀p∈X.pn++aA,s.heap.get? p.1=some p.2/\H p.1=none/\p.1≠X.env.locals/\p.1∉X.fs/\∀v,p.2.data≠.cell v
 hok:bU X.prog X.w H s.heap
 len:σ.length=X.N.length
section
variable{X:Cx}{aA:List (Z×Obj)}{σ:List (Option V)}{H H':Hp}{s:GF}{h':Heap}
theorem Cx.Ok.nofr(ok:X.Ok)(e:X.base.get? b=some o):b∉X.fs:=λa=>by have:=(ok.funs.mem a).1;rw[e] at this;cases this
theorem Inv.bs(I:Inv X aA σ H s):∀b o,X.base.get? b=some o->s.heap.get? b=some o/\H b=none:=λb o e=>⟨I.base.keep b o (I.ok.bs b o e).1 (I.ok.bs b o e).2 (I.ok.nofr e) (I.ok.noex b o e),I.base.free b o (I.ok.bs b o e).1 (I.ok.bs b o e).2 (I.ok.noex b o e)⟩
theorem Inv.bk(I:Inv X aA σ H s):∀b o,X.base.get? b=some o->s.heap.get? b=some o:=λb o e=>(I.bs b o e).1
theorem Inv.mod(I:Inv X aA σ H s):Mod X.K X.mg X.base:=I.ok.mod
theorem Inv.kIn(I:Inv X aA σ H s):X.K.In s.heap:=I.ok.mod.kin.keeps I.bk
theorem Inv.lt(I:Inv X aA σ H s):X.env.locals<s.heap.objs.size:=let ⟨_,hn,_⟩:=I.loc;hn.lt
theorem Inv.sz(I:Inv X aA σ H s):X.s_0.heap.objs.size<=s.heap.objs.size:=AE I.ok.above (Cj I.lt)
theorem Inv.nofs(I:Inv X aA σ H s)(h:s.heap.objs.size<=a):a∉X.fs:=λc=>by obtain⟨_,o,b,_⟩:=I.ok.funs.mem c;exact absurd (As (Ao b) (AE I.sz h)) (Bc _)
theorem Inv.cne(I:Inv X aA σ H s):∀x c,X.env.cells.lookup x=some c->c≠X.env.locals:=λx c e z=>by obtain⟨v,o,a,hd⟩:=I.cell x c e;obtain⟨m,⟨o',es,ep,b,d,_⟩,_⟩:=I.loc;rw[z,b] at a;cases a;rw[d] at hd;cases hd
theorem Inv.funs(I:Inv X aA σ H s):s.heap.FunFrames X.base X.outer:=by
 have all:∀(l:List Env),(∀b∈cG l,b∈X.fs)->X.s_0.heap.FunFrames X.base l->s.heap.FunFrames X.base l:=by
  intro l
  induction l with
  |nil=>intro _ _;trivial
  |cons env r f=>intro hs h;obtain⟨g,⟨L,o,c,hn,i,hd⟩,j⟩:=h;have d:L∈X.fs:=hs L (by unfold cG;rw[Di,c];exact AH);obtain⟨sl,e⟩:=I.base.slot L o i (I.ok.frf L d) d λz=>I.ok.exfs L z d;exact⟨g,⟨L,_,c,hn,e,hd⟩,f (λb a=>hs b (by unfold cG;rw[Di,c];exact Aw _ a)) j⟩
 exact all X.outer (λ_ a=>a) I.ok.funs
theorem Inv.stack(I:Inv X aA σ H s):s.heap.FunFrames X.base X.stack:=by
 rcases I.ok.stk with e | ⟨e,a⟩
 ·rw[e];exact I.funs
 ·rw[e];obtain⟨m,hn,_⟩:=I.loc;refine .cons (by rw[I.ok.kind];decide) a hn ?_ I.funs;exact Eu (AE I.ok.bsz I.ok.above)
theorem Inv.stkSub(I:Inv X aA σ H s):∀b∈cG X.stack,b∈X.env.locals::X.fs:=λb a=>by
 rcases I.ok.stk with e | ⟨e,c⟩
 ·rw[e] at a;exact Aw _ a
 ·rw[e] at a;unfold cG at a
  rwa [Di,c] at a
theorem Inv.stkFree(I:Inv X aA σ H s):∀b∈cG X.stack,H b=none:=λb a=>by
 rcases Aq.mp (I.stkSub b a) with e | a
 ·rw[e];exact I.free
 ·obtain⟨_,o,c,_⟩:=I.ok.funs.mem a;exact I.base.free b o c (I.ok.frf b a) λz=>I.ok.exfs b z a
theorem Inv.step{g':Array GenState}{t':Nat}{d':Drawn}{ch:List Z}(I:Inv X aA σ H s)
  (hch:∀b∈ch,(b∈X.ex\/X.s_0.heap.objs.size<=b)/\b≠X.env.locals/\(∀x c,X.env.cells.lookup x=some c->c≠b)/\∀p∈X.pn++aA,p.1≠b)
  (keep:∀b o,b≠X.env.locals->b∉X.fs->b∉ch->s.heap.get? b=some o->H b=none->h'.get? b=some o)
  (slot:∀b o,b≠X.env.locals->b∈X.fs->b∉ch->s.heap.get? b=some o->H b=none->∃sl,h'.get? b=some { o with slots:=sl }) (free:∀b o,b∉ch->s.heap.get? b=some o->H b=none->H' b=none)
  (there:∀b o,b∉ch->s.heap.get? b=some o->∃o',h'.get? b=some o')
  (tups:∀b xs,H b=some (.tup xs)->H' b=some (.tup xs)) (frzs:∀b o u,H b=some (.frz o u)->H' b=some (.frz o u)) (tbls:∀b ps,H b=some (.tbl ps)->∃more,H' b=some (.tbl (ps++more)))
  (ns:∀m,s.heap.Ns X.env.locals m->h'.Ns X.env.locals m) (hok:bU X.prog X.w H' h') (hg:AllBare g'):
  Inv X aA σ H' { s with heap:=h',gens:=g',drawn:=d',toks:=t' }:=by
 have B:∀b o,X.s_0.heap.get? b=some o->b≠X.env.locals:=λb o e=>AL (As (Ao e) I.ok.above);have t:∀b o,X.s_0.heap.get? b=some o->b∉X.ex->b∉ch:=λb o e a f=>by
  rcases(hch b f).1 with z | z
  ·exact a z
  ·exact absurd (As (Ao e) z) (Bc _)
 have w:∀x c,X.env.cells.lookup x=some c->∀v,s.heap.IsCell c v->h'.IsCell c v:=λx c e v ⟨o,g,hd⟩=>by
  have h:c∉ch:=λz=>(hch c z).2.2.1 x c e rfl;by_cases C:c∈X.fs
  ·obtain⟨sl,q⟩:=slot c o (I.cne x c e) C h g (I.freeC x c e);exact⟨_,q,hd⟩
  ·exact⟨o,keep c o (I.cne x c e) C h g (I.freeC x c e),hd⟩
 refine⟨I.ok,I.os,hg,⟨λb o e n f a=>?_,λb o e n f a=>?_,λb o e n a=>?_,λb o e a=>?_,λb xs e=>tups b xs (I.base.tups b xs e),λb o xs e=>frzs b o xs (I.base.frzs b o xs e),λb ps e=>?_⟩,?_,λx c e=>?_,?_,λx c e=>?_,λp A=>?_,hok,I.len⟩
 ·exact keep b o (B b o e) f (t b o e a) (I.base.keep b o e n f a) (I.base.free b o e n a)
 ·obtain⟨sl,e1⟩:=I.base.slot b o e n f a;obtain⟨d9,j⟩:=slot b _ (B b o e) f (t b o e a) e1 (I.base.free b o e n a);exact⟨d9,j⟩
 ·obtain⟨o',e1⟩:=I.base.there b o e a;exact free b o' (t b o e a) e1 (I.base.free b o e n a)
 ·obtain⟨o',e1⟩:=I.base.there b o e a;exact there b o' (t b o e a) e1
 ·obtain⟨D,e1⟩:=I.base.tbls b ps e;obtain⟨G,j⟩:=tbls b _ e1;exact⟨D++G,by rw[j,FY]⟩
 ·obtain⟨m,hn,F⟩:=I.loc;refine⟨m,ns m hn,λi x v e1 j E=>?_⟩;obtain⟨u,r,l⟩:=F i x v e1 j E;refine⟨u,r,?_⟩;rcases l with l | ⟨k,c,e,z⟩
  ·exact .inl l
  ·exact .inr ⟨k,c,e,w x c e _ z⟩
 ·obtain⟨v,z⟩:=I.cell x c e;exact⟨v,w x c e v z⟩
 ·obtain⟨m,⟨o,_,_,g,_⟩,_⟩:=I.loc;exact free _ o (λz=>(hch _ z).2.1 rfl) g I.free
 ·obtain⟨v,o,g,hd⟩:=I.cell x c e;exact free c o (λz=>(hch c z).2.2.1 x c e rfl) g (I.freeC x c e)
 ·obtain⟨e,n,ne,y,d⟩:=I.pin p A;have h:p.1∉ch:=λz=>(hch p.1 z).2.2.2 p A rfl;exact⟨keep p.1 p.2 ne y h e n,free p.1 p.2 h e n,ne,y,d⟩
theorem Inv.un{t':Nat}(I:Inv X aA σ H s)(u:Un X.fs [] H H' s.heap h')(h:bU X.prog X.w H' h'):Inv X aA σ H' { s with heap:=h',toks:=t' }:=by obtain⟨m,⟨o,es,ep,d,r⟩,_⟩:=id I.loc;obtain⟨sl,k⟩:=u.any d I.free (by simp);exact I.step (g':=s.gens) (d':=s.drawn) (ch:=[]) (λ_ z=>nomatch z) (λb o _ a _ e n=>u.keep b o e n a (by simp)) (λb o _ a _ e n=>u.slot b o e n a (by simp)) (λb o _ e n=>u.free b o e n (by simp)) (λb o _ e=>u.there b o e (by simp)) u.tups u.frzs u.tbls (λl f=>by obtain⟨o',j,i,c,g⟩:=f;rw[d] at c;cases c;exact zT _ j i k g) h I.bare
theorem Inv.call{g':Array GenState}{t':Nat}{d':Drawn}{ch:List Z}(I:Inv X aA σ H s)(u:Un (cG X.stack) ch H H' s.heap h')(l:bU X.prog X.w H' h')(h:AllBare g')
  (hch:∀b∈ch,(b∈X.ex\/X.s_0.heap.objs.size<=b)/\b≠X.env.locals/\(∀x c,X.env.cells.lookup x=some c->c≠b)/\∀p∈X.pn++aA,p.1≠b):
  Inv X aA σ H' { s with heap:=h',gens:=g',drawn:=d',toks:=t' }:=by
 obtain⟨m,⟨o,es,ep,g,r⟩,_⟩:=id I.loc;obtain⟨sl,d⟩:=u.any g I.free λz=>(hch _ z).2.1 rfl;exact I.step (ch:=ch) hch (λb o d i a e n=>u.keep b o e n (λz=>(Aq.mp (I.stkSub b z)).elim d i) a) (λb o _ _ a e n=>u.any e n a) (λb o a e n=>u.free b o e n a) (λb o a e=>u.there b o e a) u.tups u.frzs u.tbls (λv j=>by obtain⟨o',t,q,f,k⟩:=j;rw[g] at f;cases f;exact zT _ t q d k) l h
theorem Inv.turned{t':Nat}{it:Z}(I:Inv X aA σ H s)(k:∀b o,b≠it->s.heap.get? b=some o->h'.get? b=some o)(hn:H it=none)(f:it≠X.env.locals)
  (h1:it∈X.ex\/X.s_0.heap.objs.size<=it) (h2:∀x c,X.env.cells.lookup x=some c->c≠it) (h3:∀p∈X.pn++aA,p.1≠it):Inv X aA σ H { s with heap:=h',toks:=t' }:=by
 have d:∀b u,H b=some u->b≠it:=λb u e z=>by rw[z,hn] at e;cases e
 refine I.step (g':=s.gens) (d':=s.drawn) (ch:=[it]) (λb g=>?_) (λb o _ _ a e _=>k b o (λz=>a (by simp[z])) e) (λb o _ _ a e _=>⟨o.slots,k b o (λz=>a (by simp[z])) e⟩) (λ_ _ _ _ n=>n)
  (λb o a e=>⟨o,k b o (λz=>a (by simp[z])) e⟩) (λ_ _ e=>e) (λ_ _ _ e=>e) (λb ps e=>⟨#[],by rw[e];simp⟩) (λm h=>?_) (λb u e=>?_) I.bare
 ·have e:b=it:=by simpa using g
  subst e;exact⟨h1,f,h2,h3⟩
 ·obtain⟨o,es,ep,i,r⟩:=h;exact⟨o,es,ep,k _ o (Ne.symm f) i,r⟩
 ·refine(I.hok b u e).stay (λc v a q=>k c v ?_ q) (λ_ q=>q) λ_ _ q=>q;rcases a with z | z
  ·rw[z];exact d b u e
  ·exact d c _ z
theorem Inv.tok(I:Inv X aA σ H s)(t:Nat):Inv X aA σ H { s with toks:=t }:=I.un (h':=s.heap) (t':=t) Un.refl I.hok
theorem Inv.kept(I:Inv X aA σ H s)(k:∀b u,s.heap.get? b=some u->h'.get? b=some u):Inv X aA σ H { s with heap:=h',toks:=t' }:=I.un (Un.kept k) (I.hok.kept k)
theorem Inv.laid(I:Inv X aA σ H s)(k:∀b u,s.heap.get? b=some u->h'.get? b=some u)(c:s.heap.objs.size<=a)(d:aT X.prog X.w (aK H a o) h' a o):
  Inv X aA σ (aK H a o) { s with heap:=h',toks:=t' }:=I.un (Un.laid k c (I.hok.fresh c)) (I.hok.laid k c d)
theorem Inv.write(I:Inv X aA σ H s)(a:iM (H x))(d:e=x\/H e=some (.own x))(k:∀b u,b≠e->s.heap.get? b=some u->h'.get? b=some u)(c:∃u,h'.get? e=some u)
  (new:aT X.prog X.w (aK H x o) h' x o):Inv X aA σ (aK H x o) { s with heap:=h',toks:=t' }:=I.un (Un.write a d k c) (I.hok.write a d k c new)
theorem Inv.weak(I:Inv X aA σ H s)(c:σ'.length=σ.length)(w:∀(i:Nat) v,σ'[i]?=some (some v)->σ[i]?=some (some v)):Inv X aA σ' H s:=⟨I.ok,I.os,I.bare,I.base,let ⟨m,hn,hl'⟩:=I.loc;⟨m,hn,λi x v e1 a b=>hl' i x v e1 (w i v a) b⟩,I.cell,I.free,I.freeC,I.pin,I.hok,c.trans I.len⟩
theorem Inv.pins_of(I:Inv X aA σ H s)(h:∀p∈a,s.heap.get? p.1=some p.2/\H p.1=none/\p.1≠X.env.locals/\p.1∉X.fs/\∀v,p.2.data≠.cell v):Inv X a σ H s:=⟨I.ok,I.os,I.bare,I.base,I.loc,I.cell,I.free,I.freeC,λp b=>(AA.mp b).elim (λz=>I.pin p (A6 _ z)) (h p),I.hok,I.len⟩
theorem Oi{N:List Str}(d:N.Nodup){i j:Nat}{x:Str}(a:N[i]?=some x)(b:N[j]?=some x):i=j:=by obtain⟨h1,e1⟩:=Al.mp a;obtain⟨h2,c⟩:=Al.mp b;exact(List.getElem_inj d).mp (e1.trans c.symm)
theorem OG{M:Model}{A:GS}{E:O->GF->Prop}{i:Nat}{x:Str}{v:V}{u:O}{Q:Unit->GF->Prop}(I:Inv X aA σ H s)(S:X.N.Nodup)(hi:X.N[i]?=some x)(g:Loc X.env.scope x)(r:RelV v u)
  (h:∀s',Inv X aA (σ.set i (some v)) H s'->(∃a,Heap.SameBut a s.heap s'.heap/\(a=X.env.locals\/X.env.cells.lookup x=some a))->Q () s') (hf:X.fn x=true\/X.env.scope.names.lookup x=some .local:=by first | exact .inl rfl | exact .inr rfl | assumption):GL M A (storeName X.env x u) Q E s:=by
 obtain⟨m,hn,hl⟩:=id I.loc;have ab:(X.env.scope.kind==.class || (X.env.scope.kind==.module&&X.env.locals != X.env.globals))=false:=by rw[I.ok.kind];rfl
 have W:i<σ.length:=by rw[I.len];exact(Al.mp hi).1
 have cne:=I.cne;have d6:∀{a:Z} {h':Heap},(∃o,s.heap.get? a=some o/\H a=none)->Heap.SameBut a s.heap h'->bU X.prog X.w H h':=λ{a h'} ha hs b ob e=>by
  obtain⟨_,_,U⟩:=ha;refine(I.hok b ob e).stay (λc C f q=>(hs.2 c ?_).trans q) (λ_ q=>q) λ_ _ q=>q;rintro rfl;rcases f with rfl | f
  ·rw[U] at e;cases e
  ·rw[U] at f;cases f
 rcases g with t | t
 ·refine wpAny_storeName_local t hn (λh' aa hs=>?_) ab;obtain⟨oL,_,_,ac,_⟩:=id hn;refine h _ ⟨I.ok,I.os,I.bare,⟨λb o e n w g=>?_,λb o e n w g=>?_,I.base.free,λb o e g=>?_,I.base.tups,I.base.frzs,I.base.tbls⟩,⟨_,aa,λj y K e1 l d8=>?_⟩,λy c e=>?_,I.free,I.freeC,λp F=>?_,d6 ⟨oL,ac,I.free⟩ hs,by simpa using I.len⟩ ⟨_,hs,.inl rfl⟩
  ·exact(hs.2 b (AL (As (Ao e) I.ok.above))).trans (I.base.keep b o e n w g)
  ·obtain⟨sl,e1⟩:=I.base.slot b o e n w g;exact⟨sl,(hs.2 b (AL (As (Ao e) I.ok.above))).trans e1⟩
  ·obtain⟨o',e1⟩:=I.base.there b o e g;exact⟨o',(hs.2 b (AL (As (Ao e) I.ok.above))).trans e1⟩
  ·by_cases B:j=i
   ·subst B;rw[hi] at e1;cases e1;rw[C0 W] at l;cases l;exact⟨u,r,.inl ⟨t,by simp⟩⟩
   ·rw[De (Ne.symm B)] at l;obtain⟨N,G,q⟩:=hl j y K e1 l d8;refine⟨N,G,?_⟩;rcases q with ⟨k,e⟩ | ⟨k,c,e,z⟩
    ·refine .inl ⟨k,?_⟩;have:y≠x:=λe=>B (Oi S e1 (e ▸ hi));simp[this,e]
    ·exact .inr ⟨k,c,e,z.sameBut hs (cne y c e)⟩
  ·obtain⟨C,z⟩:=I.cell y c e;exact⟨C,z.sameBut hs (cne y c e)⟩
  ·obtain⟨e,n,ne,d9,d⟩:=I.pin p F;exact⟨(hs.2 p.1 ne).trans e,n,ne,d9,d⟩
 ·have L:X.fn x=true:=by
   rcases hf with z | z
   ·exact z
   ·rw[z] at t;cases t
  obtain⟨c,f⟩:=I.ok.has x (.inl t);obtain⟨C,z⟩:=I.cell x c f;refine wpAny_storeName_cell I.ok.kind t f z (λh' T hs=>?_);obtain⟨R,d7,ad⟩:=id z;refine h { s with heap:=h' } ⟨I.ok,I.os,I.bare,⟨λb o e n w g=>?_,λb o e n w g=>?_,I.base.free,λb o e g=>?_,I.base.tups,I.base.frzs,I.base.tbls⟩,⟨m,hn.sameBut hs (Ne.symm (cne x c f)),λj y K e1 l d8=>?_⟩,λy D e=>?_,I.free,I.freeC,λp F=>?_,d6 ⟨R,d7,I.freeC x c f⟩ hs,by simpa using I.len⟩ ⟨c,hs,.inr f⟩
  ·exact(hs.2 b (AL (As (Ao e) (I.ok.cab x c L f)))).trans (I.base.keep b o e n w g)
  ·obtain⟨sl,e1⟩:=I.base.slot b o e n w g;exact⟨sl,(hs.2 b (AL (As (Ao e) (I.ok.cab x c L f)))).trans e1⟩
  ·obtain⟨o',e1⟩:=I.base.there b o e g;exact⟨o',(hs.2 b (AL (As (Ao e) (I.ok.cab x c L f)))).trans e1⟩
  ·by_cases B:j=i
   ·subst B;rw[hi] at e1;cases e1;rw[C0 W] at l;cases l;exact⟨u,r,.inr ⟨.inl t,c,f,T⟩⟩
   ·rw[De (Ne.symm B)] at l;obtain⟨N,G,q⟩:=hl j y K e1 l d8;refine⟨N,G,?_⟩;rcases q with q | ⟨k,D,e,z'⟩
    ·exact .inl q
    ·refine .inr ⟨k,D,e,z'.sameBut hs ?_⟩;rintro rfl;exact B (Oi S e1 (I.ok.inj _ _ _ e f ▸ hi))
  ·by_cases P:D=c
   ·subst P;exact⟨_,T⟩
   ·obtain⟨w2,z2⟩:=I.cell y D e;exact⟨w2,z2.sameBut hs P⟩
  ·obtain⟨e,n,ne,d9,d⟩:=I.pin p F;refine⟨(hs.2 p.1 ?_).trans e,n,ne,d9,d⟩;intro q;rw[q,d7] at e;have q':R=p.2:=Option.some.inj e;exact d C (by rwa [<-q'])
theorem NU{E:O->GF->Prop}{Q:Unit->GF->Prop}(I:Inv X aA σ H s)(b:X.N.Nodup)(hi:X.N[i]?=some x)(a:Loc X.env.scope x)(r:RelV v u)
  (h:∀s',Inv X aA (σ.set i (some v)) H s'->Q () s') (hf:X.fn x=true\/X.env.scope.names.lookup x=some .local:=by first | exact .inl rfl | exact .inr rfl | assumption):GL M A (storeName X.env x u) Q E s:=
 OG I b hi a r (λs' c _=>h s' c) hf
theorem Inv.call'(I:Inv X aA σ H s)(f:s'.os=s.os)(u:Un (cG X.stack) ch H H' s.heap s'.heap)(h:bU X.prog X.w H' s'.heap)(a:AllBare s'.gens)
  (hch:∀b∈ch,(b∈X.ex\/X.s_0.heap.objs.size<=b)/\b≠X.env.locals/\(∀x c,X.env.cells.lookup x=some c->c≠b)/\∀p∈X.pn++aA,p.1≠b):Inv X aA σ H' s':=by
 obtain⟨h',d,i,g,o'⟩:=s';have e:o'=s.os:=f;subst e;exact I.call (g':=d) (t':=g) (d':=i) u h a hch
end
abbrev XK:=O->Option Z->Hp->Prop
abbrev St:=List (Option V)
abbrev VK:=V->Hp->Prop
abbrev TE:=St->Hp->VK->Prop
abbrev TT:=St->Hp->(Bool->Hp->Prop)->Prop
abbrev TA:=St->Hp->(List V->Hp->Prop)->Prop
structure eG where
 nx:St->Hp->Prop
 rt:VK
 bk:St->Hp->Prop:=λ_ _=>False
 ct:St->Hp->Prop:=λ_ _=>False
abbrev TS:=eG->St->Hp->Prop
def EP(X:Cx)(aA:List (Z×Obj))(σ:St)(Q:VK)(u:O)(s':GF):Prop:=∃v H',Inv X aA σ H' s'/\RelV v u/\Q v H'
def TP(X:Cx)(aA:List (Z×Obj))(σ:St)(Q:Bool->Hp->Prop)(b:Bool)(s':GF):Prop:=∃H',Inv X aA σ H' s'/\Q b H'
def AP(X:Cx)(aA:List (Z×Obj))(σ:St)(Q:List V->Hp->Prop)(us:List O)(s':GF):Prop:=∃vs H',Inv X aA σ H' s'/\aJ vs us/\Q vs H'
def SP(X:Cx)(aA:List (Z×Obj))(D:eG)(f:Flow)(s':GF):Prop:=
 match f with
 |.next=>∃a H',Inv X aA a H' s'/\D.nx a H'
 |.brk=>∃a H',Inv X aA a H' s'/\D.bk a H'
 |.cont=>∃a H',Inv X aA a H' s'/\D.ct a H'
 |.ret u=>∃v a H',Inv X aA a H' s'/\RelV v u/\D.rt v H'
def PE(X:Cx)(e:GR)(t:TE):Prop:=∀(aA:List (Z×Obj)) (s:GF) (σ:St) (H:Hp) (Q:VK),Inv X aA σ H s->t σ H Q->GL (model X.prog X.w) X.A (eval e X.env) (EP X aA σ Q) X.xe s
def PT(X:Cx)(e:GR)(t:TT):Prop:=∀(aA:List (Z×Obj)) (s:GF) (σ:St) (H:Hp) (Q:Bool->Hp->Prop),Inv X aA σ H s->t σ H Q->GL (model X.prog X.w) X.A (isTrue e X.env (eval e X.env)) (TP X aA σ Q) X.xe s
def PW(X:Cx)(e:GR)(t:TT):Prop:=∀(whole:Sem O) (aA:List (Z×Obj)) (s:GF) (σ:St) (H:Hp) (Q:Bool->Hp->Prop),Inv X aA σ H s->t σ H Q->GL (model X.prog X.w) X.A (isTrue e X.env whole) (TP X aA σ Q) X.xe s
theorem PW.pt(h:PW X e t):PT X e t:=h _
def PA(X:Cx)(es:List GR)(t:TA):Prop:=∀(pos:Pos) (aA:List (Z×Obj)) (s:GF) (σ:St) (H:Hp) (Q:List V->Hp->Prop),Inv X aA σ H s->t σ H Q->GL (model X.prog X.w) X.A (spliced (backTo pos (GO es X.env))) (AP X aA σ Q) X.xe s
def PS(X:Cx)(st:GU)(t:TS):Prop:=∀(aA:List (Z×Obj)) (s:GF) (σ:St) (H:Hp) (D:eG),Inv X aA σ H s->t D σ H->GL (model X.prog X.w) X.A (exec st X.env) (SP X aA D) X.xe s
def eQ(X:Cx)(st:List GU)(t:TS):Prop:=∀(aA:List (Z×Obj)) (s:GF) (σ:St) (H:Hp) (D:eG),Inv X aA σ H s->t D σ H->GL (model X.prog X.w) X.A (execs st X.env) (SP X aA D) X.xe s
theorem aW{c:Type}{t:Sem c}{Q b:c->GF->Prop}{E:O->GF->Prop}(h:GL M A t Q E s)(d:∀a s,Q a s->b a s):GL M A t b E s:=GX h d λ_ _ x=>x
section
variable{X:Cx}
def HW(i:Nat):TE:=λσ H Q=>∃v,σ[i]?=some (some v)/\Q v H
def tC(v:V):TE:=λ_ H Q=>Q v H
theorem Wo(o:X.N[i]?=some x)(j:iO X.env.scope x)(hd:(x==("__debug__":Str))=false:=by decide)(g:(x==("__classdict__":Str))=false:=by decide):PE X (.Name x pos) (HW i):=by
 intro aA s σ H Q I h;obtain⟨v,e,h⟩:=h;obtain⟨m,hn,n⟩:=I.loc;obtain⟨u,r,l⟩:=n i x v o e j;have b:EP X aA σ Q u s:=⟨v,H,I,r,h⟩;rcases l with ⟨a,k⟩ | ⟨a,c,f,d⟩
 ·exact wpAny_Name (wpAny_loadName_local I.ok.kind a hn k b) hd
 ·rcases a with a | a
  ·exact wpAny_Name (wpAny_loadName_cell I.ok.kind a f d b) hd
  ·exact wpAny_Name (wpAny_loadName_free I.ok.kind a f d b g) hd
theorem Hm{i j pos}:PE X (.Constant (.int i) j pos) (tC (.int i)):=λ_ _ _ H _ I h=>wpAny_Constant_int ⟨.int i,H,I.tok _,⟨_,Y⟩,h⟩
theorem YV{b j pos}:PE X (.Constant (.bool b) j pos) (tC (.bl b)):=λ_ _ _ H _ I h=>Constant_bool ⟨.bl b,H,I,Y,h⟩
theorem RP{j pos}:PE X (.Constant .none j pos) (tC .non):=λ_ _ _ H _ I h=>Constant_none ⟨.non,H,I,Y,h⟩
theorem PZ{x j pos}:PE X (.Constant (.str x) j pos) (tC (.str x)):=λ_ _ _ H _ I h=>Calls.Constant_str ⟨.str x,H,I.tok _,⟨_,Y⟩,h⟩
def Gl(X:Cx)(x:Str):Prop:=X.env.kindOf x=some .globalImplicit
theorem Kr{E:O->GF->Prop}{Q:O->GF->Prop}(I:Inv X aA σ H s)(a:Gl X x)(b:X.mg x=some u)(h:Q u s)
  (hd:(x==("__debug__":Str))=false:=by decide):GL (model X.prog X.w) X.A (eval (.Name x pos) X.env) Q E s:=
 Calls.Name_function_global I.ok.kind a (Calls.loadGlobal_global (by rw[I.ok.glob];exact I.mod.glob.keeps I.bk) b h) hd
theorem KW{E:O->GF->Prop}{Q:O->GF->Prop}(I:Inv X aA σ H s)(a:Gl X x)(c:X.mg x=none)(b:G3 x=some u)(h:Q u s)
  (hn:x≠"__name__":=by decide) (hd:(x==("__debug__":Str))=false:=by decide):GL (model X.prog X.w) X.A (eval (.Name x pos) X.env) Q E s:=by
 obtain⟨d,h1,h2⟩:=I.mod.blt;exact Calls.Name_function_global I.ok.kind a (Calls.loadGlobal_builtin (by rw[I.ok.glob];exact I.mod.glob.keeps I.bk) c (by rw[I.ok.blt];exact h1.keeps I.bk) ((h2 x hn).trans b) h) hd
theorem Sn(a:Gl X x)(b:X.mg x=some u)(r:RelV v u)(hd:(x==("__debug__":Str))=false:=by decide):PE X (.Name x pos) (tC v):=λ_ _ _ H _ I h=>Kr I a b ⟨v,H,I,r,h⟩ hd
variable{a b:GR}{ta tb:TE}{pos:Pos}
def PC(X:Cx)(op:CmpOp)(a b:GR)(t:TE):Prop:=
 ∀(aA:List (Z×Obj)) (s:GF) (σ:St) (H:Hp) (Q:VK),Inv X aA σ H s->t σ H Q->
  GL (model X.prog X.w) X.A (eval a X.env) (λv c=>GL (model X.prog X.w) X.A (eval b X.env) (λu d=>GL (model X.prog X.w) X.A (compareOp op v u) (EP X aA σ Q) X.xe d) X.xe c) X.xe s
def tB(t:TE):TT:=λσ H Q=>t σ H λx H1=>∃c,x=.bl c/\Q c H1
theorem KI(h:PC X op a b t)(h1:behindInMarks op b=false:=by first | exact nobehind _ (by decide) (by decide) | rfl):PT X (.Compare a [op] [b] pos) (tB t):=by intro aA s σ H Q I e;refine wpAny_isTrue_Compare1 (aW (h aA s σ H _ I e) λv l h1=>aW h1 λu j h2=>aW h2 λc k ⟨x,H1,g,i,f⟩=>?_) h1;obtain⟨d,rfl,q⟩:=f;cases i;exact G4 ⟨H1,g,q⟩
theorem N1(h:PE X e t)(a:∀whole,isTrue e X.env whole=(do let v ← whole;standAt e.pos;holding [v] (truthy v)):=by intro _;rfl):PT X e (tB t):=by intro aA s σ H Q I b;refine isTrue_plain (aW (h aA s σ H _ I b) λv i ⟨x,H1,f,g,c⟩=>?_) (a _);obtain⟨d,rfl,q⟩:=c;cases g;exact G4 ⟨H1,f,q⟩
variable{tA tB':TT}{rest:List GR}
def qP(t u:TT):TT:=λσ H Q=>t σ H λc H1=>if c=true then u σ H1 Q else Q false H1
def mW(t u:TT):TT:=λσ H Q=>t σ H λc H1=>if c=true then Q true H1 else u σ H1 Q
def lK(t:TT):TT:=λσ H Q=>t σ H λc H1=>Q (!c) H1
theorem Xm(b:PT X a tA):PW X (.BoolOp .And [a] pos) tA:=by
 intro wh aA s σ H Q I h;refine isTrue_and (aW (b aA s σ H Q I h) λc d e=>?_);cases c with
 |true=>exact isTrue_and_nil e
 |false=>exact e
theorem Mu(b:PT X a tA):PW X (.BoolOp .Or [a] pos) tA:=by
 intro wh aA s σ H Q I h;refine isTrue_or (aW (b aA s σ H Q I h) λc d e=>?_);cases c with
 |false=>exact isTrue_or_nil e
 |true=>exact e
theorem Z3(f:PT X a tA)(g:PW X (.BoolOp .And (b::rest) pos) tB'):PW X (.BoolOp .And (a::b::rest) pos) (qP tA tB'):=by
 intro wh aA s σ H Q I h;refine isTrue_and (aW (f aA s σ H _ I h) λc i qQ=>?_);obtain⟨H1,e,d⟩:=qQ;cases c with
 |true=>exact g wh aA i σ H1 Q e d
 |false=>exact⟨H1,e,d⟩
theorem OP(f:PT X a tA)(g:PW X (.BoolOp .Or (b::rest) pos) tB'):PW X (.BoolOp .Or (a::b::rest) pos) (mW tA tB'):=by
 intro wh aA s σ H Q I h;refine isTrue_or (aW (f aA s σ H _ I h) λc i qQ=>?_);obtain⟨H1,e,d⟩:=qQ;cases c with
 |true=>exact⟨H1,e,d⟩
 |false=>exact g wh aA i σ H1 Q e d
theorem MF(b:PT X a tA):PT X (.UnaryOp .Not a pos) (lK tA):=by intro aA s σ H Q I h;exact isTrue_not (b aA s σ H (λc H1=>Q (!c) H1) I h)
def rS(ta tb:TE):TE:=λσ H Q=>ta σ H λx H1=>∃c,x=.bl c/\if c=true then tb σ H1 Q else Q (.bl false) H1
theorem Ze{op}(h:PE X a t):PE X (.BoolOp op [a] pos) t:=λaA s σ H Q I b=>BoolOp_one (h aA s σ H Q I b)
theorem ZR(f:PE X a ta)(g:PE X (.BoolOp .And (b::rest) pos) tb):PE X (.BoolOp .And (a::b::rest) pos) (rS ta tb):=by
 intro aA s σ H Q I h;refine BoolOp_and (aW (f aA s σ H _ I h) λv i qQ=>?_);obtain⟨x,H1,e,j,d⟩:=qQ;obtain⟨c,rfl,d⟩:=d;cases j;refine G4 ?_;cases c with
 |true=>exact g aA i σ H1 Q e d
 |false=>exact⟨.bl false,H1,e,Y,d⟩
def lU(t:TT)(ta tb:TE):TE:=λσ H Q=>t σ H λc H1=>if c=true then ta σ H1 Q else tb σ H1 Q
theorem QX(k:PT X c tA)(i:PE X a ta)(j:PE X b tb):PE X (.IfExp c a b pos) (lU tA ta tb):=by
 intro aA s σ H Q I h;refine wpAny_IfExp (aW (k aA s σ H _ I h) λd f qQ=>?_);obtain⟨H1,g,e⟩:=qQ;cases d with
 |true=>exact i aA f σ H1 Q g e
 |false=>exact j aA f σ H1 Q g e
end
def aP(K:G5)(H:Hp)(a:Z)(xs:List V):Prop:=
 Rd H a (.lst xs) ∨
  ∃(o:Obj) (aD:Array O) (n:Nat),K.lookup a=some o/\o.cls=.type "list"/\o.dict=none/\o.data=.seq aD n/\aD.size<=GI/\aJ xs aD.toList
def aQ(K:G5)(H:Hp)(a:Z)(xs:List V):Prop:=
 Rd H a (.tup xs) ∨
  ∃(o:Obj) (aD:Array O) (n:Nat),K.lookup a=some o/\o.cls=.type "tuple"/\o.data=.seq aD n/\aD.size<=GI/\aJ xs aD.toList
def rX:O->Option V
 |.none=>some .non
 |.bool b=>some (.bl b)
 |.int i _=>some (.int i)
 |.str x _=>some (.str x)
 |.bytes b _=>some (.byt b)
 |.float b _=>some (.flt b)
 |.ref a=>some (.ref a)
 |.type n=>some (.ty n)
 |_=>none
theorem RelV.abs(r:RelV x u):rX u=some x:=by
 cases x with
 |non=>cases r;rfl
 |bl _=>cases r;rfl
 |int _=>obtain⟨t,rfl⟩:=r;rfl
 |str _=>obtain⟨t,rfl⟩:=r;rfl
 |byt _=>obtain⟨t,rfl⟩:=r;rfl
 |flt _=>obtain⟨t,rfl⟩:=r;rfl
 |ref _=>cases r;rfl
 |ty _=>cases r;rfl
theorem RelV.inj(r:RelV x u)(q:RelV y u):x=y:=Option.some.inj (r.abs.symm.trans q.abs)
theorem aJ.inj:∀{xs ys:List V} {us:List O},aJ xs us->aJ ys us->xs=ys
 |_,_,_,.nil,.nil=>rfl
 |_,_,_,.cons r t,.cons r' t'=>by rw[r.inj r',aJ.inj t t']
section
variable{X:Cx}{aA:List (Z×Obj)}{σ:St}{H:Hp}{s:GF}{a:Z}{xs ys:List V}
theorem aP.of{K:G5}(h:H a=some (.lst xs)):aP K H a xs:=.inl (.inl h)
theorem aQ.of{K:G5}(h:H a=some (.tup xs)):aQ K H a xs:=.inl (.inl h)
theorem Inv.list(I:Inv X aA σ H s)(h:aP X.K H a xs):∃aD:List O,aJ xs aD/\PlainL s.heap a aD.toArray/\xs.length<=GI:=by
 rcases h with h | ⟨o,aD,n,b,c,hd,hs,d,r⟩
 ·obtain⟨z,aD,n,r,e⟩:=h.ok I.hok;exact⟨aD,r,⟨_,n,e,Y,Y,Y⟩,z⟩
 ·refine⟨aD.toList,r,⟨o,n,I.kIn a o b,c,hd,by simpa using hs⟩,?_⟩;have e:=r.length;simp only[Be] at e
  lia
theorem Inv.tuple(I:Inv X aA σ H s)(h:aQ X.K H a xs):∃aD:List O,aJ xs aD/\IsTup s.heap a aD.toArray/\xs.length<=GI:=by
 rcases h with h | ⟨o,aD,n,b,c,hs,d,r⟩
 ·obtain⟨z,aD,r,p⟩:=h.ok I.hok;exact⟨aD,r,p,z.1⟩
 ·refine⟨aD.toList,r,⟨o,I.kIn a o b,c,n,by simpa using hs⟩,?_⟩;have e:=r.length;simp only[Be] at e
  lia
theorem Inv.list_inj(I:Inv X aA σ H s)(h:aP X.K H a xs)(h':aP X.K H a ys):xs=ys:=by
 obtain⟨aD,r,⟨o,n,e,_,_,d⟩,_⟩:=I.list h;obtain⟨i,g,⟨o',j,b,_,_,c⟩,_⟩:=I.list h';rw[e] at b;cases b;rw[d] at c;injection c with f _;have:aD=i:=by simpa using congrArg Fm f
 subst this;exact r.inj g
theorem Inv.tuple_inj(I:Inv X aA σ H s)(h:aQ X.K H a xs)(h':aQ X.K H a ys):xs=ys:=by
 obtain⟨aD,r,⟨o,e,_,n,d⟩,_⟩:=I.tuple h;obtain⟨i,g,⟨o',b,_,j,c⟩,_⟩:=I.tuple h';rw[e] at b;cases b;rw[d] at c;injection c with f _;have:aD=i:=by simpa using congrArg Fm f
 subst this;exact r.inj g
end
abbrev Cx.wish(X:Cx)(E:O->GF->Prop):Cx:={ X with xe:=E }
abbrev Cx.nox(X:Cx):Cx:=X.wish λ_ _=>False
theorem Cx.Ok.wish{X:Cx}(ok:X.Ok)(E:O->GF->Prop):(X.wish E).Ok:=⟨ok.mod,ok.kind,ok.glob,ok.blt,ok.above,ok.inj,ok.has,ok.cab,ok.hd,ok.frames,ok.stk,ok.exf,ok.bs,ok.bsz,ok.noex,ok.exfs,ok.funs,ok.frf⟩
theorem Cx.Ok.unwish{X:Cx}{E:O->GF->Prop}(ok:(X.wish E).Ok):X.Ok:=⟨ok.mod,ok.kind,ok.glob,ok.blt,ok.above,ok.inj,ok.has,ok.cab,ok.hd,ok.frames,ok.stk,ok.exf,ok.bs,ok.bsz,ok.noex,ok.exfs,ok.funs,ok.frf⟩
section
variable{X:Cx}{aA:List (Z×Obj)}{σ:St}{H:Hp}{s:GF}{E:O->GF->Prop}
theorem Inv.wish(I:Inv X aA σ H s)(E:O->GF->Prop):Inv (X.wish E) aA σ H s:=⟨I.ok.wish E,I.os,I.bare,I.base,I.loc,I.cell,I.free,I.freeC,I.pin,I.hok,I.len⟩
theorem Inv.unwish(I:Inv (X.wish E) aA σ H s):Inv X aA σ H s:=⟨I.ok.unwish,I.os,I.bare,I.base,I.loc,I.cell,I.free,I.freeC,I.pin,I.hok,I.len⟩
theorem SP.unwish(h:SP (X.wish E) aA D f s'):SP X aA D f s':=by
 cases f with
 |next=>obtain⟨a,H',I,q⟩:=h;exact⟨a,H',I.unwish,q⟩
 |brk=>obtain⟨a,H',I,q⟩:=h;exact⟨a,H',I.unwish,q⟩
 |cont=>obtain⟨a,H',I,q⟩:=h;exact⟨a,H',I.unwish,q⟩
 |ret u=>obtain⟨v,a,H',I,r,q⟩:=h;exact⟨v,a,H',I.unwish,r,q⟩
theorem eQ.nox{st:List GU}{t:TS}(h:eQ X.nox st t):eQ X st t:=λaA s σ H D I a=>GX (h aA s σ H D (I.wish _) a) (λ_ _ q=>q.unwish) λ_ _ z=>False.elim z
end
section
variable{X:Cx}{st:GU}{rest:List GU}{t u:TS}{e:GR}{te:TE}{pos:Pos}
def Qx:TS:=λD σ H=>D.nx σ H
def Q4(t u:TS):TS:=λD σ H=>t { D with nx:=u D } σ H
theorem Hu:eQ X [] Qx:=λ_ _ σ H _ I h=>wpAny_execs_nil ⟨σ,H,I,h⟩
theorem He(h1:PS X st t)(h2:eQ X rest u):eQ X (st::rest) (Q4 t u):=by
 intro aA s σ H D I h;refine wpAny_execs_cons (aW (h1 aA s σ H { D with nx:=u D } I h) λf c q=>?_);cases f with
 |next=>obtain⟨a,H',b,q⟩:=q;exact h2 aA c a H' D b q
 |ret v=>exact q
 |brk=>exact q
 |cont=>exact q
theorem Hh(h1:PS X st t):eQ X [st] t:=by
 intro aA s σ H D I h;refine wpAny_execs_cons (aW (h1 aA s σ H D I h) λf a q=>?_);cases f with
 |next=>exact wpAny_execs_nil q
 |ret v=>exact q
 |brk=>exact q
 |cont=>exact q
theorem Inv.quiet(I:Inv X aA σ H s):interactive X.env=false:=by simp[interactive,I.ok.kind]
def YN(te:TE):TS:=λD σ H=>te σ H λ_ H1=>D.nx σ H1
theorem Hv(a:PE X e te)(hs:swapsWith e none pos.line X.env=pure false:=by rfl):PS X (.Expr e pos) (YN te):=by intro aA s σ H D I h;exact wpAny_Expr_any (aW (a aA s σ H _ I h) λv d qQ=>by obtain⟨x,H1,c,f,b⟩:=qQ;exact ⟨σ,H1,c,b⟩) I.quiet hs
def Tl(te:TE):TS:=λD σ H=>te σ H D.rt
theorem Hx(a:PE X e te):PS X (.Return (some e) pos) (Tl te):=by intro aA s σ H D I h;exact wpAny_Return_some (aW (a aA s σ H _ I h) λv f qQ=>by obtain⟨x,H1,c,d,b⟩:=qQ;exact ⟨x,σ,H1,c,d,b⟩)
def pP:TS:=λD _ H=>D.rt .non H
theorem P3:PS X (.Return none pos) pP:=λ_ _ σ H _ I h=>wpAny_Return_none ⟨.non,σ,H,I,Y,h⟩
def Wb(c:TT)(t u:TS):TS:=λD σ H=>c σ H λb H1=>if b=true then t D σ H1 else u D σ H1
theorem HG(k:PT X c tc)(i:eQ X a t)(j:eQ X b u):PS X (.If c a b pos) (Wb tc t u):=by
 intro aA s σ H D I h;refine wpAny_If (aW (k aA s σ H _ I h) λd f qQ=>?_);obtain⟨H1,g,e⟩:=qQ;cases d with
 |true=>exact i aA f σ H1 D g e
 |false=>exact j aA f σ H1 D g e
end
abbrev TG:=V->St->Hp->(St->Hp->Prop)->Prop
abbrev iY:=List V->St->Hp->(St->Hp->Prop)->Prop
def PG(X:Cx)(b:GR)(t:TG):Prop:=
 ∀(aA:List (Z×Obj)) (s:GF) (σ:St) (H:Hp) (v:V) (u:O) (Q:St->Hp->Prop),Inv X aA σ H s->RelV v u->t v σ H Q->
  GL (model X.prog X.w) X.A (assign b X.env u) (λ_ s'=>∃a H',Inv X aA a H' s'/\Q a H') X.xe s
def jI(X:Cx)(c:List GR)(t:iY):Prop:=
 ∀(aA:List (Z×Obj)) (s:GF) (σ:St) (H:Hp) (vs:List V) (b:List O) (Q:St->Hp->Prop),Inv X aA σ H s->aJ vs b->t vs σ H Q->
  GL (model X.prog X.w) X.A (assignInOrder ((assignEach c X.env).map (·.2)) b) (λ_ s'=>∃a H',Inv X aA a H' s'/\Q a H') X.xe s
abbrev mK:=V->V->V->Hp->(Hp->Prop)->Prop
def lL(X:Cx)(t:mK):Prop:=
 ∀(aA:List (Z×Obj)) (s:GF) (σ:St) (H:Hp) (o i v:V) (a b u:O) (Q:Hp->Prop),Inv X aA σ H s->RelV o a->RelV i b->RelV v u->t o i v H Q->
  GL (model X.prog X.w) X.A (setItem a b u) (λ_ s'=>∃H',Inv X aA σ H' s'/\Q H') X.xe s
abbrev jV:=V->V->Hp->VK->Prop
def lB(X:Cx)(op:Operator)(t:jV):Prop:=
 ∀(aA:List (Z×Obj)) (s:GF) (σ:St) (H:Hp) (x y:V) (v u:O) (Q:VK),Inv X aA σ H s->RelV x v->RelV y u->t x y H Q->
  GL (model X.prog X.w) X.A (inplaceOp op v u) (EP X aA σ Q) X.xe s
section
variable{X:Cx}{pos:Pos}
def IF(i:Nat):TG:=λv σ H Q=>Q (σ.set i (some v)) H
theorem W8(b:X.N.Nodup)(hi:X.N[i]?=some x)(a:Loc X.env.scope x)(c:X.fn x=true\/X.env.scope.names.lookup x=some .local:=by first | exact .inl rfl | exact .inr rfl | assumption):PG X (.Name x pos) (IF i):=by intro aA s σ H v u Q I r h;exact wpAny_assign_Name (NU I b hi a r (λs' d=>⟨_,H,d,h⟩) c)
def T5:iY:=λvs σ H Q=>vs=[]/\Q σ H
def KH(t:TG)(u:iY):iY:=λvs σ H Q=>∃v r,vs=v::r/\t v σ H λa H'=>u r a H' Q
theorem JM:jI X [] T5:=by intro aA s σ H vs a Q I r h;obtain⟨e,h⟩:=h;subst e;cases r;exact assignInOrder_nil ⟨σ,H,I,h⟩
theorem HU(h1:PG X e t)(h2:jI X es u)
  (hs:(assignEach (e::es) X.env).map (·.2)=assign e X.env::(assignEach es X.env).map (·.2):=by rfl):jI X (e::es) (KH t u):=by
 intro aA s σ H vs i Q I r h;obtain⟨v,g,e1,h⟩:=h;subst e1;cases r with
 |cons r b=>rw[hs];refine assignInOrder_cons (aW (h1 aA s σ H _ _ _ I r h) λ_ c qQ=>?_);obtain⟨f,H1,d,a⟩:=qQ;exact h2 aA c f H1 _ _ Q d b a
def Tj(K:G5)(n:Nat)(t:iY):TG:=λv σ H Q=>∃a xs,v=.ref a/\aQ K H a xs/\xs.length=n/\t xs σ H Q
theorem KO(m:X.calm=true)(h:jI X es t)
  (hn:(assignEach es X.env).length=n:=by rfl) (hst:(assignEach es X.env).findIdx? (·.1)=none:=by rfl):PG X (.Tuple es k pos) (Tj X.K n t):=by
 intro aA s σ H v u Q I r c;obtain⟨a,xs,e1,f,i,c⟩:=c;subst e1;cases r;obtain⟨aD,d,g,p⟩:=I.tuple f;refine assign_Tuple_tuple (I.ok.hd m) g (by simp[hn,<-i,d.length]) hst λh' j=>?_;have l:Inv X aA σ H { s with heap:=h' }:=I.kept (t':=s.toks) λb o e=>j b o (AL (Ao e)) e;exact h aA _ σ H xs _ Q l (by simpa using d) c
def sM(to b:TE)(t:mK):TG:=λv σ H Q=>to σ H λo H1=>b σ H1 λi H2=>t o i v H2 λa=>Q σ a
theorem Wt(n:PE X o to)(hi:PE X i ti)(hs:lL X t)
  (ha:∀v,assign (.Subscript o i pos) X.env v=(do
   let a ← holding [v] (eval o X.env)
   let b ← holding [v,a] (eval i X.env)
   standAt pos
   holding [v,a,b] (setItem a b v)
   release [v,a,b] []):=by intro _;rfl):PG X (.Subscript o i pos) (sM to ti t):=by
 intro aA s σ H v u Q I r h;rw[ha];refine GE (wpAny_holding (aW (n aA s σ H _ I h) λa l qQ=>?_));obtain⟨x,H1,p,q,k⟩:=qQ;refine GE (wpAny_holding (aW (hi aA l σ H1 _ p k) λb d qQ=>?_));obtain⟨y,H2,j,c,m⟩:=qQ;refine GE (wpAny_standAt (GE (wpAny_holding (aW (hs aA d σ H2 x y v a b u _ j q c r m) λ_ w qQ=>?_))));obtain⟨g,e,f⟩:=qQ;exact wpAny_release ⟨σ,g,e,f⟩
def Uv(te:TE)(g:TG):TS:=λD σ H=>te σ H λx H1=>g x σ H1 D.nx
theorem Vk(b:PE X e te)(a:PG X tg g)(hs:swapsWithSole [tg] e pos.line X.env=pure false:=by rfl)(c:swappedStores [tg] e X.env=pure none:=by rfl)
  (h1:(assignEach [tg] X.env).map (·.2)=[assign tg X.env]:=by rfl):PS X (.Assign [tg] e pos) (Uv te g):=by
 intro aA s σ H D I h;refine wpAny_Assign_stores (aW (b aA s σ H _ I h) λv f qQ=>?_) hs c;obtain⟨x,H1,i,j,d⟩:=qQ;rw[h1];exact aW (a aA f σ H1 x v _ i j d) λ_ k q=>q
theorem Ms(f:X.N.Nodup)(hi:X.N[i]?=some x)(d:Loc X.env.scope x)(b:PE X e te)(hs:swapsWith e (some (.Name x pos')) pos.line X.env=pure false:=by rfl)(g:X.fn x=true\/X.env.scope.names.lookup x=some .local:=by first | exact .inl rfl | exact .inr rfl | assumption):
  PS X (.Assign [.Name x pos'] e pos) (Uv te (IF i)):=by
 intro aA s σ H D I h;refine wpAny_Assign_Name (aW (b aA s σ H _ I h) λv m qQ=>?_) hs;obtain⟨y,H1,j,k,c⟩:=qQ;exact NU j f hi d k (λl a=>⟨_,H1,a,c⟩) g
theorem cM{X:Cx}{pos:Pos}(i:Nat){x:Str}(b:X.N.Nodup)(hi:X.N[i]?=some x:=by exact rfl)(a:X.env.scope.names.lookup x=some .local:=by exact rfl):PG X (.Name x pos) (IF i):=W8 b hi (.inl a) (.inr a)
theorem bG{X:Cx}{pos:Pos}(i:Nat){x:Str}{e:GR}{te:TE}{pos':Pos}(c:X.N.Nodup)(b:PE X e te)(hi:X.N[i]?=some x:=by exact rfl)(a:X.env.scope.names.lookup x=some .local:=by exact rfl)(hs:swapsWith e (some (.Name x pos')) pos.line X.env=pure false:=by exact rfl):PS X (.Assign [.Name x pos'] e pos) (Uv te (IF i)):=Ms c hi (.inl a) b hs (.inr a)
def nQ(i:Nat)(te:TE)(a:jV):TS:=λD σ H=>∃x,σ[i]?=some (some x)/\te σ H λy H1=>a x y H1 λz H2=>D.nx (σ.set i (some z)) H2
theorem UK(j:X.N.Nodup)(hi:X.N[i]?=some x)(b:Loc X.env.scope x)(n:PE X e te)(K:lB X op ti)(t:X.fn x=true\/X.env.scope.names.lookup x=some .local:=by first | exact .inl rfl | exact .inr rfl | assumption):
  PS X (.AugAssign (.Name x pos') op e pos) (nQ i te ti):=by
 intro aA s σ H D I h;obtain⟨v,e1,h⟩:=h;obtain⟨m,hn,B⟩:=I.loc;have L:iO X.env.scope x:=by rcases b with k | k;exact .inl k;exact .inr (.inl k)
 obtain⟨u,r,l⟩:=B i x v hi e1 L;refine wpAny_AugAssign_Name ?_;have d:GL (model X.prog X.w) X.A (eval e X.env) (λw G=>GL (model X.prog X.w) X.A (inplaceOp op u w) (λr f=>GL (model X.prog X.w) X.A (storeName X.env x r) (λ_=>SP X aA D .next) X.xe f) X.xe G) X.xe s:=by refine aW (n aA s σ H _ I h) λw p ⟨y,H1,E,M,o⟩=>?_;refine aW (K aA p σ H1 v y u w _ E r M o) λz P qQ=>?_;obtain⟨d8,H2,d9,g,q⟩:=qQ;exact NU d9 j hi b g (λQ F=>⟨_,H2,F,q⟩) t
 rcases l with ⟨a,A⟩ | ⟨a,c,N,C⟩
 ·exact wpAny_loadName_local I.ok.kind a hn A d
 ·rcases a with a | a
  ·exact wpAny_loadName_cell I.ok.kind a N C d
  ·rcases b with k | k
   ·have:X.env.scope.names.lookup x=some .free:=a;rw[k] at this;cases this
   ·have:X.env.scope.names.lookup x=some .free:=a;rw[k] at this;cases this
def rO(f:Int->Int->Int):jV:=λx y H Q=>∃i j,x=.int i/\y=.int j/\Q (.int (f i j)) H
theorem Vx:lB X .Add (rO λi j=>i+j):=by intro aA s σ H x y v u Q I c b h;obtain⟨i,j,e1,a,q⟩:=h;subst e1;subst a;obtain⟨t,rfl⟩:=c;obtain⟨d,rfl⟩:=b;exact iadd_int ⟨.int _,H,I.tok _,⟨_,Y⟩,q⟩
def Zq(c:TT)(tb:TS):TS:=λD σ H=>∃W:Nat->St->Hp->Prop,(∃m,W m σ H)/\∀m σ H,W m σ H->
 c σ H λb H1=>if b=true then ∃N:St->Hp->Prop,(∀d H',N d H'->∃a,a<m/\W a d H')/\tb { D with nx:=N,ct:=N,bk:=D.nx } σ H1 else D.nx σ H1
theorem IJ(o:PassesOwn (model X.prog X.w) X.A X.env X.xe)(C:PT X c tc)(t:eQ X body tb):PS X (.While c body [] pos) (Zq tc tb):=by
 intro aA s σ H D I h;obtain⟨W,⟨u,x⟩,w⟩:=h;refine wpAny_While (codeAny_whileLoop (λn s'=>∃q H',Inv X aA q H' s'/\W n q H') ?_ u ⟨σ,H,I,x⟩);rintro n z ⟨e,H1,B,A⟩;refine wpAny_passesOwn o (aW (C aA z e H1 _ B (w n e H1 A)) λb y qQ=>?_);obtain⟨H2,r,i⟩:=qQ;cases b with
 |true=>
  obtain⟨N,p,i⟩:=i;rw[G7 rfl];refine wpAny_passesOwn o (aW (t aA y e H2 _ r i) λf E g=>?_);cases f with
  |next=>obtain⟨a,d,l,n3⟩:=g;obtain⟨m,k,j⟩:=p a d n3;exact⟨m,k,a,d,l,j⟩
  |cont=>obtain⟨a,d,l,n3⟩:=g;obtain⟨m,k,j⟩:=p a d n3;exact⟨m,k,a,d,l,j⟩
  |brk=>exact g
  |ret v=>exact g
 |false=>rw[G6 Ak];exact wpAny_execs_nil ⟨e,H2,r,i⟩
end
structure It where
 go:Nat->Hp->Prop
 yld:Nat->Hp->V->Hp->Prop
 stop:Nat->Hp->Prop
def M6(X:Cx)(aA:List (Z×Obj))(H:Hp)(b:Z):Prop:=H b=none/\b≠X.env.locals/\b∉X.fs/\(b∈X.ex\/X.s_0.heap.objs.size<=b)/\(∀x c,X.env.cells.lookup x=some c->c≠b)/\∀p∈X.pn++aA,p.1≠b
theorem Inv.fpOk(I:Inv X aA σ H s)(a:s.heap.objs.size<=b)(hn:H' b=none):M6 X aA H' b:=by
 refine⟨hn,Dm (As I.lt a),I.nofs a,.inr (AE I.sz a),λx c e z=>?_,λp d z=>?_⟩
 ·obtain⟨v,q⟩:=I.cell x c e;exact absurd (As q.lt (by rwa [z])) (Bc _)
 ·exact absurd (As (Ao (I.pin p d).1) (by rwa [z])) (Bc _)
structure eV(P:GJ)(w:GQ)(K:G5)(tg:GR)(d9:It)(fp:List Z)(it:Z)(tn:Nat->Heap->Prop):Prop where
 mem:it∈fp
 obj:∀i h,tn i h->∀b∈fp,∃o,h.get? b=some o/\∀v,o.data≠.cell v
 keep:∀i h h',tn i h->(∀b∈fp,∀o,h.get? b=some o->h'.get? b=some o)->tn i h'
 item:∀(X:Cx),X.prog=P->X.w=w->X.K=K->X.calm=true->∀(i:Nat) (aA:List (Z×Obj)) (s:GF) (σ:St) (H:Hp) (E:O->GF->Prop),Inv X aA σ H s->(∀b∈fp,M6 X aA H b)->tn i s.heap->d9.go i H->
  GL (model P w) X.A (pyNext (.ref it)) (λr s1=>∃u,r=some u ∧
   GL (model P w) X.A (letOwnedTupleGo tg (.ref it) u) (λ_ s2=>∃x H',Inv X aA σ H' s2/\RelV x u/\d9.yld i H x H'/\tn (i+1) s2.heap/\∀b∈fp,H' b=none) E s1) E s
 done:∀(X:Cx),X.prog=P->X.w=w->X.K=K->X.calm=true->∀(i:Nat) (aA:List (Z×Obj)) (s:GF) (σ:St) (H:Hp) (E:O->GF->Prop),Inv X aA σ H s->(∀b∈fp,M6 X aA H b)->tn i s.heap->d9.stop i H->
  GL (model P w) X.A (pyNext (.ref it)) (λr s1=>r=none/\Inv X aA σ H s1) E s
 self:∀(A:GS) (i:Nat) (s:GF) (Q:O->GF->Prop) (E:O->GF->Prop),tn i s.heap->Q (.ref it) s->GL (model P w) A (pyIter (.ref it)) Q E s
abbrev TI:=St->Hp->(It->Hp->Prop)->Prop
def kC(X:Cx)(aA:List (Z×Obj))(σ:St)(tg:GR)(R:It->Hp->Prop)(d:O)(s2:GF):Prop:=∃(it:Z) (c:List Z) (a:Nat->Heap->Prop) (d9:It) (H':Hp),d=.ref it/\Inv X aA σ H' s2/\eV X.prog X.w X.K tg d9 c it a/\a 0 s2.heap/\(∀b∈c,M6 X aA H' b)/\R d9 H'
def PI(X:Cx)(tg iter:GR)(a:TI):Prop:=
 ∀(aA:List (Z×Obj)) (s:GF) (σ:St) (H:Hp) (R:It->Hp->Prop),Inv X aA σ H s->a σ H R->
  GL (model X.prog X.w) X.A (eval iter X.env) (λv b=>GL (model X.prog X.w) X.A (pyIter v) (kC X aA σ tg R) X.xe b) X.xe s
theorem SM{E:O->GF->Prop}{Q:Unit->GF->Prop}(a:s.heap.get? it=some o)(b:o.cls=.type n)(hd:o.data=.fields vs)
  (hn:["enumerate","zip","dict_itemiterator","dict_reverseitemiterator","odict_iterator","itertools.zip_longest","itertools.pairwise"].contains n=false) (hQ:Q () s):GL M A (letOwnedTupleGo tg (.ref it) u) Q E s:=by
 unfold letOwnedTupleGo;cases tg <;> first
  |exact GK hQ
  |(cases u <;> first
    |exact GK hQ
    |(refine GE (wpAny_load a ?_)
      rw[b,hd];show GL M A (if (["enumerate","zip","dict_itemiterator","dict_reverseitemiterator","odict_iterator","itertools.zip_longest","itertools.pairwise"].contains n&&vs[0]?==some (rawInt _))=true then _ else _) Q E s;rw[G6 (by intro h;rw[hn,Bool.false_and] at h;cases h)];exact GK hQ))
def gN(K:G5)(a:Z):It:=⟨λi H=>∃xs x,aP K H a xs/\xs[i]?=some x,λi H x H'=>H'=H/\∀xs,aP K H a xs->xs[i]?=some x,λi H=>∃xs,aP K H a xs/\xs.length<=i⟩
def iX(K:G5)(a:Z):It:=⟨λi H=>∃xs x,aQ K H a xs/\xs[i]?=some x,λi H x H'=>H'=H/\∀xs,aQ K H a xs->xs[i]?=some x,λi H=>∃xs,aQ K H a xs/\xs.length<=i⟩
def gS(lo:Int)(n:Nat):It:=⟨λi _=>i<n,λi H x H'=>H'=H/\x=.int (lo+i),λi _=>n<=i⟩
theorem Ur{P:GJ}{w:GQ}{K:G5}{tg:GR}(a it:Z):eV P w K tg (gN K a) [it] it (λi h=>h.IsListIter it a i) where
 mem:=by simp
 obj:=λi h st b hb=>by
  have e:b=it:=by simpa using hb
  subst e;obtain⟨o,e,c,d⟩:=st;exact⟨o,e,λv z=>by rw[d] at z;cases z⟩
 keep:=λi h h' st k=>st.at λo e=>k it (by simp) o e
 item:=by intro X hP hw hK hc i aA s σ H E I hf st hg;subst hP hw hK;obtain⟨xs,x,hq,hx⟩:=hg;obtain⟨aD,rv,p,hz⟩:=I.list hq;obtain⟨u,hu,ru⟩:=rv.get hx;obtain⟨f0,f1,f2,f3,f4,f5⟩:=hf it (by simp);refine wpAny_pyNext_list_item st p.isList (x:=u) (by simpa using hu) λh' st' sb=>?_;have I1:Inv X aA σ H { s with heap:=h' }:=I.turned (t':=s.toks) (λb o hb e=>(sb.2 b hb).trans e) f0 f1 f3 f4 f5;obtain⟨o,e,c,d⟩:=id st';exact⟨u,Y,SM (s:={ s with heap:=h' }) e c d (by decide) ⟨x,H,I1,ru,⟨Y,λys hy=>by rwa [I.list_inj hy hq]⟩,st',λb hb=>(hf b hb).1⟩⟩
 done:=by intro X hP hw hK hc i aA s σ H E I hf st hg;subst hP hw hK;obtain⟨xs,hq,hx⟩:=hg;obtain⟨aD,rv,p,hz⟩:=I.list hq;obtain⟨f0,f1,f2,f3,f4,f5⟩:=hf it (by simp);have hl:=rv.length;exact wpAny_pyNext_list_end (I.ok.hd hc) st p.isList (by simp;lia) λh' eb=>⟨Y,I.turned (t':=s.toks) (λb o hb e=>eb b o hb e) f0 f1 f3 f4 f5⟩
 self:=λ_ _ _ _ _ st h=>wpAny_pyIter_listiter st h
theorem Ry{P:GJ}{w:GQ}{K:G5}{tg:GR}(a it:Z):eV P w K tg (iX K a) [it] it (λi h=>h.IsTupleIter it a i) where
 mem:=by simp
 obj:=λi h st b hb=>by
  have e:b=it:=by simpa using hb
  subst e;obtain⟨o,e,c,d⟩:=st;exact⟨o,e,λv z=>by rw[d] at z;cases z⟩
 keep:=λi h h' st k=>st.at λo e=>k it (by simp) o e
 item:=by intro X hP hw hK hc i aA s σ H E I hf st hg;subst hP hw hK;obtain⟨xs,x,hq,hx⟩:=hg;obtain⟨aD,rv,p,hz⟩:=I.tuple hq;obtain⟨u,hu,ru⟩:=rv.get hx;obtain⟨f0,f1,f2,f3,f4,f5⟩:=hf it (by simp);refine wpAny_pyNext_tuple_item st (show s.heap.IsTuple a aD.toArray from p) (x:=u) (by simpa using hu) λh' st' sb=>?_;have I1:Inv X aA σ H { s with heap:=h' }:=I.turned (t':=s.toks) (λb o hb e=>(sb.2 b hb).trans e) f0 f1 f3 f4 f5;obtain⟨o,e,c,d⟩:=id st';exact⟨u,Y,SM (s:={ s with heap:=h' }) e c d (by decide) ⟨x,H,I1,ru,⟨Y,λys hy=>by rwa [I.tuple_inj hy hq]⟩,st',λb hb=>(hf b hb).1⟩⟩
 done:=by intro X hP hw hK hc i aA s σ H E I hf st hg;subst hP hw hK;obtain⟨xs,hq,hx⟩:=hg;obtain⟨aD,rv,p,hz⟩:=I.tuple hq;obtain⟨f0,f1,f2,f3,f4,f5⟩:=hf it (by simp);have hl:=rv.length;exact wpAny_pyNext_tuple_end (I.ok.hd hc) st (show s.heap.IsTuple a aD.toArray from p) (by simp;lia) λh' eb=>⟨Y,I.turned (t':=s.toks) (λb o hb e=>eb b o hb e) f0 f1 f3 f4 f5⟩
 self:=λ_ _ _ _ _ st h=>wpAny_pyIter_tupleiter st h
theorem RZ{P:GJ}{w:GQ}{K:G5}{tg:GR}(it:Z)(lo:Int)(n:Nat):eV P w K tg (gS lo n) [it] it (λi h=>IsRangeIter h it (lo+(i:Nat)*1) ((n:Int)-(i:Nat)) 1) where
 mem:=by simp
 obj:=λi h st b hb=>by
  have e:b=it:=by simpa using hb
  subst e;exact⟨_,st,λv z=>by have z':Data.fields _=Data.cell v:=z;cases z'⟩
 keep:=λi h h' st k=>k it (by simp) _ st
 item:=by intro X hP hw hK hc i aA s σ H E I hf st hg;subst hP hw hK;obtain⟨f0,f1,f2,f3,f4,f5⟩:=hf it (by simp);have W:=Walks.range (prog:=X.prog) (w:=X.w) (I.ok.hd hc) it lo 1 n;refine W.item i s _ _ hg st λv h' tk hv st' kk=>?_;obtain⟨t,rfl⟩:=hv;have I1:Inv X aA σ H { s with heap:=h',toks:=tk }:=I.turned (λb o hb e=>kk b o (by simpa using hb) e) f0 f1 f3 f4 f5;refine zI _ Y (SM (s:={ s with heap:=h',toks:=tk }) (n:="range_iterator") st' rfl rfl (by decide) ⟨.int (lo+i),H,I1,⟨t,?_⟩,⟨Y,Y⟩,st',λb hb=>(hf b hb).1⟩);rw[E7]
 done:=by intro X hP hw hK hc i aA s σ H E I hf st hg;subst hP hw hK;obtain⟨f0,f1,f2,f3,f4,f5⟩:=hf it (by simp);exact wpAny_pyNext_range_end (I.ok.hd hc) st (by have:n<=i:=hg;lia) λh' eb=>⟨Y,I.turned (t':=s.toks) (λb o hb e=>eb b o hb e) f0 f1 f3 f4 f5⟩
 self:=λ_ _ _ _ _ st h=>wpAny_pyIter_rangeiter st h
section
variable{X:Cx}{tg:GR}
def sC(K:G5)(tl:TE):TI:=λσ H R=>tl σ H λx H1=>∃a,x=.ref a/\(∃xs,aP K H1 a xs)/\R (gN K a) H1
def oS(K:G5)(tl:TE):TI:=λσ H R=>tl σ H λx H1=>∃a,x=.ref a/\(∃xs,aQ K H1 a xs)/\R (iX K a) H1
theorem Iz{l:GR}{tl:TE}(j:PE X l tl):PI X tg l (sC X.K tl):=by
 intro aA s σ H R I h;refine aW (j aA s σ H _ I h) λv c qQ=>?_;obtain⟨x,H1,d,k,i⟩:=qQ;obtain⟨a,e,⟨xs,f⟩,q⟩:=i;subst e;cases k;obtain⟨aD,m,p,n⟩:=d.list f;refine wpAny_pyIter_list p.isList ?_;refine zD Y (d.kept (t':=c.toks) λb o e=>Ac _ e) (Ur a _) ⟨_,Ap _ rfl,Y,Y⟩ (λb g=>?_) q;have e:b=c.heap.objs.size:=by simpa using g
 subst e;exact d.fpOk (Ag _) (d.hok.fresh (Ag _))
theorem Wn{l:GR}{tl:TE}(j:PE X l tl):PI X tg l (oS X.K tl):=by
 intro aA s σ H R I h;refine aW (j aA s σ H _ I h) λv c qQ=>?_;obtain⟨x,H1,d,k,i⟩:=qQ;obtain⟨a,e,⟨xs,f⟩,q⟩:=i;subst e;cases k;obtain⟨aD,m,p,n⟩:=d.tuple f;refine wpAny_pyIter_tuple (show c.heap.IsTuple a aD.toArray from p) ?_;refine zD Y (d.kept (t':=c.toks) λb o e=>Ac _ e) (Ry a _) ⟨_,Ap _ rfl,Y,Y⟩ (λb g=>?_) q;have e:b=c.heap.objs.size:=by simpa using g
 subst e;exact d.fpOk (Ag _) (d.hok.fresh (Ag _))
theorem Ri{aA:List (Z×Obj)}{σ:St}{H:Hp}{s:GF}{R:It->Hp->Prop}{E:O->GF->Prop}{lo hi:Int}{t u v:Tok}{tk:Nat}(I:Inv X aA σ H s)(h1:-(2 ^ 62)<=lo)(h2:lo<2 ^ 62)(g:-(2 ^ 62)<=hi)(d:hi<2 ^ 62)
  (q:R (gS lo (hi-lo).toNat) H):GL (model X.prog X.w) X.A (pyIter (.ref s.heap.objs.size)) (kC X aA σ tg R) E { s with heap:=s.heap.push { cls:=.type "range",data:=.fields #[.int lo t,.int hi u,.int 1 v] },toks:=tk }:=by
 refine wpAny_pyIter_range (IsRange.new ..) (small_one h1 h2 g d) ?_;have a:Inv X aA σ H { s with heap:=s.heap.push { cls:=.type "range",data:=.fields #[.int lo t,.int hi u,.int 1 v] },toks:=tk }:=I.kept λb o e=>Ac _ e;refine zD Y (a.kept (t':=tk) λb o e=>Ac _ e) (RZ _ lo (hi-lo).toNat) ?_ (λb c=>?_) q
 ·have e1:lo+((0:Nat):Int)*1=lo:=by simp
  have f:(((hi-lo).toNat:Nat):Int)-((0:Nat):Int)=Builtin.Range.rangeSize lo hi 1:=by rw[rangeSize_one];split <;> lia
  show IsRangeIter _ _ (lo+((0:Nat):Int)*1) ((((hi-lo).toNat:Nat):Int)-((0:Nat):Int)) 1;rw[e1,f];exact Ap _ rfl
 ·have e:b=(s.heap.push { cls:=.type "range",data:=.fields #[.int lo t,.int hi u,.int 1 v] }).objs.size:=by simpa using c
  subst e;exact a.fpOk (Ag _) (a.hok.fresh (Ag _))
def qQ(ta:TA):TI:=λσ H R=>ta σ H λvs H1=>∃j:Int,vs=[.int j]/\-(2 ^ 62)<=j/\j<2 ^ 62/\R (gS 0 j.toNat) H1
def mZ(ta:TA):TI:=λσ H R=>ta σ H λvs H1=>∃i j:Int,vs=[.int i,.int j]/\(-(2 ^ 62)<=i/\i<2 ^ 62/\-(2 ^ 62)<=j/\j<2 ^ 62)/\R (gS i (j-i).toNat) H1
theorem TZ{a:GR}{ta:TA}{p pos:Pos}(d:Gl X "range")(f:X.mg "range"=none)(c:PA X [a] ta)(hs:GO [a] X.env=[(false,eval a X.env)]:=by rfl):PI X tg (.Call (.Name "range" p) [a] [] pos) (qQ ta):=by
 intro aA s σ H R I h;refine Call_ (KW I d f boot_range (Bw (aW (c pos aA s σ H _ I h) λn m qQ=>?_) hs rfl));obtain⟨vs,H1,k,l,b⟩:=qQ;obtain⟨j,e,b,i,q⟩:=b;subst e;cases l with
 |cons r g=>cases g;obtain⟨t,rfl⟩:=r;exact call_range_1 (Ri k (by lia) (by lia) b i (by simpa using q))
theorem O4(k:Gl X "range")(m:X.mg "range"=none)(g:PA X [a,b] ta)(hs:GO [a,b] X.env=[(false,eval a X.env),(false,eval b X.env)]:=by rfl)(f:GO [b] X.env=[(false,eval b X.env)]:=by rfl):
  PI X tg (.Call (.Name "range" p) [a,b] [] pos) (mZ ta):=by
 intro aA s σ H R I h;refine Call_ (KW I k m boot_range (Bw (aW (g pos aA s σ H _ I h) λx z qQ=>?_) (by rw[hs,f]) (by rw[f];rfl)));obtain⟨vs,H1,u,v,c⟩:=qQ;obtain⟨i,j,e,⟨c,o,l,w⟩,q⟩:=c;subst e;cases v with
 |cons r d=>
  cases d with
  |cons n d=>cases d;obtain⟨t,rfl⟩:=r;obtain⟨y,rfl⟩:=n;exact call_range_2 (Ri u c o l w q)
def oJ(c:TI)(g:TG)(tb:TS):TS:=λD σ H=>c σ H λd9 H1=>∃W:Nat->Nat->St->Hp->Prop,(∃m,W 0 m σ H1)/\∀i m σ H,W i m σ H->
 (d9.stop i H/\D.nx σ H)\/(d9.go i H/\∃N:St->Hp->Prop,(∀b H',N b H'->∃a,a<m/\W (i+1) a b H')/\∀x H',d9.yld i H x H'->g x σ H' λd H2=>tb { D with nx:=N,ct:=N,bk:=D.nx } d H2)
def Nu(a:List Z)(h:Heap):List (Z×Obj):=a.filterMap λb=>(h.get? b).map λo=>(b,o)
theorem LF(a:b∈fp)(e:h.get? b=some o):(b,o)∈Nu fp h:=CV.mpr ⟨b,a,by rw[e];rfl⟩
theorem Tu(d:p∈Nu fp h):p.1∈fp/\h.get? p.1=some p.2:=by
 obtain⟨b,c,e⟩:=CV.mp d;cases q:h.get? b with
 |none=>rw[q] at e;cases e
 |some o=>rw[q] at e;have a:(b,o)=p:=Option.some.inj e;subst a;exact⟨c,q⟩
theorem Inv.pinned(I:Inv X aA σ H s)(l:∀b∈a,M6 X aA H b)(k:∀b∈a,∃o,s.heap.get? b=some o/\∀v,o.data≠.cell v):Inv X (aA++Nu a s.heap) σ H s:=I.pins_of λp j=>(AA.mp j).elim (λz=>I.pin p (AQ _ z)) λz=>by obtain⟨c,e⟩:=Tu z;obtain⟨g,h,i,_⟩:=l p.1 c;obtain⟨o,f,d⟩:=k p.1 c;rw[e] at f;cases f;exact⟨e,g,h,i,d⟩
theorem Inv.unpinned(I:Inv X (aA++pl) σ H s):Inv X aA σ H s:=I.pins_of λp a=>I.pin p (AQ _ (A6 _ a))
theorem IX(p:PassesOwn (model X.prog X.w) X.A X.env X.xe)(Q:X.calm=true)(hi:PI X tg iter wi)(hg:PG X tg g)(a:eQ X body tb)
  (hs:∀x,foldedSetIterable iter X.env x=pure x:=by intro _;rfl):PS X (.For tg iter body [] pos) (oJ wi g tb):=by
 intro aA s σ H D I h;refine wpAny_For (aW (hi aA s σ H _ I h) λv s1 h1=>aW h1 λaf s2 h2=>?_) hs;obtain⟨it,w,L,d9,H2,e,I2,T,R,P,W,⟨U,w0⟩,aa⟩:=h2;subst e;have A:∀{H':Hp},(∀b∈w,H' b=none)->∀b∈w,M6 X aA H' b:=λhn b a=>⟨hn b a,(P b a).2⟩;refine codeAny_forLoop_any (λn s'=>∃i t H',Inv X aA t H' s'/\L i s'.heap/\(∀b∈w,H' b=none)/\W i n t H') ?_ U (zJ 0 σ H2 I2 R (λb a=>(P b a).1) w0);rintro n K ⟨i,q,y,d8,F,M,d6⟩;rcases aa i n q y d6 with ⟨ad,qn⟩ | ⟨go,N,d7,step⟩
 ·refine wpAny_passesOwn p (aW (T.done X rfl rfl rfl Q i aA K q y X.xe d8 (A M) F ad) λr s4 ⟨C,I4⟩=>?_);subst C;exact wpAny_execs_nil ⟨q,y,I4,qn⟩
 ·refine wpAny_passesOwn p (aW (T.item X rfl rfl rfl Q i aA K q y X.xe d8 (A M) F go) λr s4 qQ=>?_);obtain⟨u,C,h4⟩:=qQ;subst C;refine wpAny_passesOwn p (aW h4 λ_ G qQ=>?_);obtain⟨x,E,I5,V,y5,z,ae⟩:=qQ;have ac:=I5.pinned (A ae) (T.obj _ _ z);refine wpAny_passesOwn p (aW (hg _ G q E x u _ ac V (step x E y5)) λ_ s6 qQ=>?_);obtain⟨ab,H6,I6,q6⟩:=qQ;refine wpAny_passesOwn p (aW (a _ s6 ab H6 _ I6 q6) λf B l=>?_);have again:∀{j:St} {k:Hp},Inv X (aA++Nu w G.heap) j k B->N j k->∃m,m<n/\∃i t H',Inv X aA t H' B/\L i B.heap/\(∀b∈w,H' b=none)/\W i m t H':=λ{j k} c n7=>by obtain⟨m',hm,S⟩:=d7 j k n7;refine⟨m',hm,i+1,j,k,c.unpinned,T.keep _ _ _ z λb a o e=>(c.pin (b,o) (AQ _ (AQ _ (LF a e)))).1,λb a=>?_,S⟩;obtain⟨o,e,d⟩:=T.obj _ _ z b a;exact(c.pin (b,o) (AQ _ (AQ _ (LF a e)))).2.1
  cases f with
  |next=>obtain⟨j,k,c,n7⟩:=l;exact again c n7
  |cont=>obtain⟨j,k,c,n7⟩:=l;exact again c n7
  |brk=>obtain⟨j,k,c,l⟩:=l;exact⟨j,k,c.unpinned,l⟩
  |ret v=>obtain⟨x7,j,k,c,r7,l⟩:=l;exact⟨x7,j,k,c.unpinned,r7,l⟩
end
theorem Jg{K:G5}{a:Z}{xs:List V}{g:TG}{tb:TS}{D:eG}{σ:St}{H:Hp}(b:Nat->St->Hp->Prop)(h:b 0 σ H)(k:∀i σ H,i<=xs.length->b i σ H->aP K H a xs)
  (hs:∀i x σ H,xs[i]?=some x->b i σ H->g x σ H λc H2=>tb { D with nx:=b (i+1),ct:=b (i+1),bk:=D.nx } c H2) (hd:∀σ H,b xs.length σ H->D.nx σ H):
  ∃W:Nat->Nat->St->Hp->Prop,(∃m,W 0 m σ H)/\∀i m σ H,W i m σ H->
   ((gN K a).stop i H/\D.nx σ H)\/((gN K a).go i H/\∃N:St->Hp->Prop,(∀σ' H',N σ' H'->∃d,d<m/\W (i+1) d σ' H')/\∀x H',(gN K a).yld i H x H'->g x σ H' λc H2=>tb { D with nx:=N,ct:=N,bk:=D.nx } c H2):=by
 refine⟨λi m σ H=>m=xs.length-i/\i<=xs.length/\b i σ H,⟨xs.length,by simp,Az _,h⟩,?_⟩;rintro i m σ H ⟨rfl,hi,p⟩;have q:=k i σ H hi p;by_cases f:i<xs.length
 ·refine .inr ⟨⟨xs,xs[i],q,by simp[f]⟩,b (i+1),λσ' H' j=>⟨xs.length-(i+1),by lia,Y,f,j⟩,λx H' y=>?_⟩;obtain⟨e,y⟩:=y;subst e;exact hs i x σ _ (y xs q) p
 ·have e:i=xs.length:=by lia
  subst e;exact .inl ⟨⟨xs,q,Ag _⟩,hd σ H p⟩
theorem SW{K:G5}{a:Z}{xs:List V}{g:TG}{tb:TS}{D:eG}{σ:St}{H:Hp}(b:Nat->St->Hp->Prop)(h:b 0 σ H)(k:∀i σ H,i<=xs.length->b i σ H->aQ K H a xs)
  (hs:∀i x σ H,xs[i]?=some x->b i σ H->g x σ H λc H2=>tb { D with nx:=b (i+1),ct:=b (i+1),bk:=D.nx } c H2) (hd:∀σ H,b xs.length σ H->D.nx σ H):
  ∃W:Nat->Nat->St->Hp->Prop,(∃m,W 0 m σ H)/\∀i m σ H,W i m σ H->
   ((iX K a).stop i H/\D.nx σ H)\/((iX K a).go i H/\∃N:St->Hp->Prop,(∀σ' H',N σ' H'->∃d,d<m/\W (i+1) d σ' H')/\∀x H',(iX K a).yld i H x H'->g x σ H' λc H2=>tb { D with nx:=N,ct:=N,bk:=D.nx } c H2):=by
 refine⟨λi m σ H=>m=xs.length-i/\i<=xs.length/\b i σ H,⟨xs.length,by simp,Az _,h⟩,?_⟩;rintro i m σ H ⟨rfl,hi,p⟩;have q:=k i σ H hi p;by_cases f:i<xs.length
 ·refine .inr ⟨⟨xs,xs[i],q,by simp[f]⟩,b (i+1),λσ' H' j=>⟨xs.length-(i+1),by lia,Y,f,j⟩,λx H' y=>?_⟩;obtain⟨e,y⟩:=y;subst e;exact hs i x σ _ (y xs q) p
 ·have e:i=xs.length:=by lia
  subst e;exact .inl ⟨⟨xs,q,Ag _⟩,hd σ H p⟩
theorem OY{lo:Int}{n:Nat}{g:TG}{tb:TS}{D:eG}{σ:St}{H:Hp}(a:Nat->St->Hp->Prop)(f:a 0 σ H)
  (hs:∀i σ H,i<n->a i σ H->g (.int (lo+i)) σ H λc H2=>tb { D with nx:=a (i+1),ct:=a (i+1),bk:=D.nx } c H2) (hd:∀σ H,a n σ H->D.nx σ H):
  ∃W:Nat->Nat->St->Hp->Prop,(∃m,W 0 m σ H)/\∀i m σ H,W i m σ H->
   ((gS lo n).stop i H/\D.nx σ H)\/((gS lo n).go i H/\∃N:St->Hp->Prop,(∀σ' H',N σ' H'->∃d,d<m/\W (i+1) d σ' H')/\∀x H',(gS lo n).yld i H x H'->g x σ H' λc H2=>tb { D with nx:=N,ct:=N,bk:=D.nx } c H2):=by
 refine⟨λi m σ H=>m=n-i/\i<=n/\a i σ H,⟨n,by simp,Az _,f⟩,?_⟩;rintro i m σ H ⟨rfl,hi,p⟩;by_cases b:i<n
 ·refine .inr ⟨b,a (i+1),λσ' H' h=>⟨n-(i+1),by lia,Y,b,h⟩,λx H' y=>?_⟩;obtain⟨e,y⟩:=y;subst e y;exact hs i σ _ b p
 ·have e:i=n:=by lia
  subst e;exact .inl ⟨Ag _,hd σ H p⟩
abbrev R2:=V->V->Hp->VK->Prop
def dC(X:Cx)(f:O->O->Sem O)(r:R2):Prop:=
 ∀(aA:List (Z×Obj)) (s:GF) (σ:St) (H:Hp) (x y:V) (v u:O) (Q:VK),Inv X aA σ H s->RelV x v->RelV y u->r x y H Q->
  GL (model X.prog X.w) X.A (f v u) (EP X aA σ Q) X.xe s
def jS(X:Cx)(f:O->Sem O)(r:V->Hp->VK->Prop):Prop:=
 ∀(aA:List (Z×Obj)) (s:GF) (σ:St) (H:Hp) (x:V) (v:O) (Q:VK),Inv X aA σ H s->RelV x v->r x H Q->
  GL (model X.prog X.w) X.A (f v) (EP X aA σ Q) X.xe s
def JD(X:Cx)(f:O)(r:List V->Hp->VK->Prop):Prop:=
 ∀(aA:List (Z×Obj)) (s:GF) (σ:St) (H:Hp) (xs:List V) (a:List O) (Q:VK),Inv X aA σ H s->aJ xs a->r xs H Q->
  GL (model X.prog X.w) X.A (call f a) (EP X aA σ Q) X.xe s
def pY(X:Cx)(r:V->Hp->(Bool->Hp->Prop)->Prop):Prop:=
 ∀(aA:List (Z×Obj)) (s:GF) (σ:St) (H:Hp) (x:V) (v:O) (Q:Bool->Hp->Prop),Inv X aA σ H s->RelV x v->r x H Q->
  GL (model X.prog X.w) X.A (truthy v) (TP X aA σ Q) X.xe s
def dQ(r:R2)(ta tb:TE):TE:=λσ H Q=>ta σ H λx H1=>tb σ H1 λy H2=>r x y H2 Q
def nZ(r:V->Hp->VK->Prop)(ta:TE):TE:=λσ H Q=>ta σ H λx H1=>r x H1 Q
def rI(C:Int->Int->Prop)(g:Int->Int->V):R2:=λx y H Q=>∃i j,x=.int i/\y=.int j/\C i j/\Q (g i j) H
def fW(g:Int->Int->V):R2:=λx y H Q=>∃i j,x=.int i/\y=.int j/\Q (g i j) H
def rU(g:Int->V):V->Hp->VK->Prop:=λx H Q=>∃i,x=.int i/\Q (g i) H
section
variable{X:Cx}{a b c:GR}{ta tb tc:TE}{pos:Pos}
theorem jZ(d:PE X a ta)(e:PE X b tb){aA:List (Z×Obj)}{s:GF}{σ:St}{H:Hp}{R:V->V->Hp->Prop}(I:Inv X aA σ H s)
  (h:ta σ H λx H1=>tb σ H1 λy H2=>R x y H2) {Q:O->GF->Prop} {f:O->O->Sem O}
  (hf:∀v u s2 x y H2,Inv X aA σ H2 s2->RelV x v->RelV y u->R x y H2->GL (model X.prog X.w) X.A (f v u) Q X.xe s2):
  GL (model X.prog X.w) X.A (eval a X.env) (λv c=>GL (model X.prog X.w) X.A (eval b X.env) (λu i=>GL (model X.prog X.w) X.A (f v u) Q X.xe i) X.xe c) X.xe s:=by
 refine aW (d aA s σ H _ I h) λv l qQ=>?_;obtain⟨x,H1,n,o,k⟩:=qQ;refine aW (e aA l σ H1 _ n k) λu s2 qQ=>?_;obtain⟨y,H2,j,g,m⟩:=qQ;exact hf v u s2 x y H2 j o g m
theorem HH(j:dC X (binaryOp op) r)(c:PE X a ta)(d:PE X b tb):PE X (.BinOp a op b pos) (dQ r ta tb):=by intro aA s σ H Q I h;exact wpAny_BinOp (jZ c d I h λv u e x y H2 g f i q=>j aA e σ H2 x y v u Q g f i q)
theorem QA{r:V->Hp->VK->Prop}(e:jS X (unaryOp op) r)(b:PE X a ta):PE X (.UnaryOp op a pos) (nZ r ta):=by intro aA s σ H Q I h;exact UnaryOp_ (aW (b aA s σ H _ I h) λv d qQ=>by obtain⟨x,H1,f,g,c⟩:=qQ;exact e aA d σ H1 x v Q f g c)
theorem jG{f:O->O->Sem O}{C:Int->Int->Prop}{g:Int->Int->Int}
  (rule:∀(i j:Int) (t u:Tok) (s:GF) (Q:O->GF->Prop) (E:O->GF->Prop),C i j->Q (.int (g i j) s.toks) { s with toks:=s.toks+1 }->GL (model X.prog X.w) X.A (f (.int i t) (.int j u)) Q E s):
  dC X f (rI C λi j=>.int (g i j)):=by
 intro aA s σ H x y v u Q I c b h;obtain⟨i,j,rfl,rfl,d,q⟩:=h;obtain⟨t,rfl⟩:=c;obtain⟨a,rfl⟩:=b;exact rule i j t a s _ _ d ⟨.int (g i j),H,I.tok _,⟨_,Y⟩,q⟩
theorem Zv{f:O->O->Sem O}{g:Int->Int->Int}
  (rule:∀(i j:Int) (t u:Tok) (s:GF) (Q:O->GF->Prop) (E:O->GF->Prop),Q (.int (g i j) s.toks) { s with toks:=s.toks+1 }->GL (model X.prog X.w) X.A (f (.int i t) (.int j u)) Q E s):
  dC X f (fW λi j=>.int (g i j)):=by
 intro aA s σ H x y v u Q I c b h;obtain⟨i,j,rfl,rfl,q⟩:=h;obtain⟨t,rfl⟩:=c;obtain⟨a,rfl⟩:=b;exact rule i j t a s _ _ ⟨.int (g i j),H,I.tok _,⟨_,Y⟩,q⟩
theorem ZC{f:O->O->Sem O}{g:Int->Int->Bool}
  (rule:∀(i j:Int) (t u:Tok) (s:GF) (Q:O->GF->Prop) (E:O->GF->Prop),Q (.bool (g i j)) s->GL (model X.prog X.w) X.A (f (.int i t) (.int j u)) Q E s):
  dC X f (fW λi j=>.bl (g i j)):=by
 intro aA s σ H x y v u Q I c b h;obtain⟨i,j,rfl,rfl,q⟩:=h;obtain⟨t,rfl⟩:=c;obtain⟨a,rfl⟩:=b;exact rule i j t a s _ _ ⟨.bl (g i j),H,I,Y,q⟩
def Zr(i j:Int):Prop:=0<j/\j<1073741824
def pC(i j:Int):Prop:=0<=j/\j<=1000000/\i.natAbs<2 ^ 64
def eZ(i j:Int):Prop:=(-(2 ^ 64)<i/\i<2 ^ 64)\/(-(2 ^ 64)<j/\j<2 ^ 64)
theorem eZ.ok(h:eZ i j):IntMulOk i j:=by
 rcases h with ⟨h1,h2⟩ | ⟨h1,h2⟩
 ·exact .of_left (intBits_le_64 h1 h2)
 ·exact .of_right (intBits_le_64 h1 h2)
theorem IU:dC X (binaryOp .Add) (fW λi j=>.int (i+j)):=Zv λ_ _ _ _ _ _ _ q=>add_int q
theorem JX:dC X (binaryOp .Sub) (fW λi j=>.int (i-j)):=Zv λ_ _ _ _ _ _ _ q=>sub_int q
theorem JC:dC X (binaryOp .Mult) (rI eZ λi j=>.int (i*j)):=jG λ_ _ _ _ _ _ _ a q=>mul_int q a.ok
theorem LN:dC X (binaryOp .FloorDiv) (rI Zr λi j=>.int (i / j)):=jG λi j _ _ _ _ _ a q=>by have h1:(0:Int)<j:=a.1;have h2:j<1073741824:=a.2;exact floordiv_int (by lia) (by rwa [Int.fdiv_eq_ediv_of_nonneg i (by lia)]) (.inl (PyProof.noPylong_small (by lia)))
theorem X6:dC X (binaryOp .Mod) (rI (λ_ j=>j≠0) λi j=>.int (i.fmod j)):=jG λ_ _ _ _ _ _ _ a q=>mod_int' a q
theorem YY:dC X (binaryOp .LShift) (rI pC λi j=>.int (i*2 ^ j.toNat)):=jG λ_ _ _ _ _ _ _ a q=>lshift_int_small a.1 a.2.1 a.2.2 q
theorem Si:dC X (binaryOp .BitAnd) (fW λi j=>.int (Builtin.bitAnd i j)):=Zv λ_ _ _ _ _ _ _ q=>and_int q
theorem qH{f:O->Sem O}{g:Int->Int}
  (rule:∀(i:Int) (t:Tok) (s:GF) (Q:O->GF->Prop) (E:O->GF->Prop),Q (.int (g i) s.toks) { s with toks:=s.toks+1 }->GL (model X.prog X.w) X.A (f (.int i t)) Q E s):
  jS X f (rU λi=>.int (g i)):=by
 intro aA s σ H x v Q I a h;obtain⟨i,rfl,q⟩:=h;obtain⟨t,rfl⟩:=a;exact rule i t s _ _ ⟨.int (g i),H,I.tok _,⟨_,Y⟩,q⟩
theorem Oo:jS X (unaryOp .USub) (rU λi=>.int (-i)):=qH λ_ _ _ _ _ q=>neg_int q
end
def mE:V->V->Bool
 |.non,.non=>true | .non,.int _=>true | .int _,.non=>true | .non,.bl _=>true | .bl _,.non=>true | .non,.str _=>true | .str _,.non=>true
 |.int _,.int _=>true | .bl _,.bl _=>true | .str _,.str _=>true | .byt _,.byt _=>true
 |.int _,.str _=>true | .str _,.int _=>true | .bl _,.str _=>true | .str _,.bl _=>true
 |_,_=>false
def lT:R2:=λx y H Q=>mE x y=true/\Q (.bl (decide (x=y))) H
def lG:R2:=λx y H Q=>mE x y=true/\Q (.bl (!decide (x=y))) H
theorem Sw:decide (V.int i=V.int j)=(i==j):=by rw[B6];simp
theorem Vy:decide (V.bl i=V.bl j)=(i==j):=by rw[B6];simp
theorem SE:decide (V.str i=V.str j)=(i==j):=by rw[B6];simp
theorem SA:decide (V.byt i=V.byt j)=(i.toList==j.toList):=by rw[B6];cases i;cases j;simp
section
variable{X:Cx}{a b c:GR}{ta tb tc:TE}{pos:Pos}
theorem HQ(I:Inv X aA σ H s)(q:Q (.bl k) H)(e:k=k'):EP X aA σ Q (.bool k') s:=by subst e;exact⟨.bl k,H,I,Y,q⟩
theorem Ip:dC X (compareOp .Eq) lT:=by
 intro aA s σ H x y v u Q I c a h;obtain⟨hs,q⟩:=h;cases x with
 |non=>
  cases c;cases y with
  |non=>cases a;exact PySem.EqNone.eq_none_none (HQ I q (by simp))
  |bl j=>cases a;exact PySem.EqNone.eq_none_bool (HQ I q (by simp))
  |int j=>obtain⟨b,rfl⟩:=a;exact PySem.EqNone.eq_none_int (HQ I q (by simp))
  |str j=>obtain⟨b,rfl⟩:=a;exact PySem.EqNone.eq_none_str (HQ I q (by simp))
  |_=>exact absurd (show false=true from hs) Ak
 |bl i=>
  cases c;cases y with
  |non=>cases a;exact PySem.EqNone.eq_bool_none (HQ I q (by simp))
  |bl j=>cases a;exact eq_bool (HQ I q Vy)
  |str j=>obtain⟨b,rfl⟩:=a;exact PySem.EqMixed.eq_bool_str (HQ I q (by simp))
  |_=>exact absurd (show false=true from hs) Ak
 |int i=>
  obtain⟨t,rfl⟩:=c;cases y with
  |non=>cases a;exact PySem.EqNone.eq_int_none (HQ I q (by simp))
  |int j=>obtain⟨b,rfl⟩:=a;exact eq_int (HQ I q Sw)
  |str j=>obtain⟨b,rfl⟩:=a;exact PySem.EqMixed.eq_int_str (HQ I q (by simp))
  |_=>exact absurd (show false=true from hs) Ak
 |str i=>
  obtain⟨t,rfl⟩:=c;cases y with
  |non=>cases a;exact PySem.EqNone.eq_str_none (HQ I q (by simp))
  |bl j=>cases a;exact PySem.EqMixed.eq_str_bool (HQ I q (by simp))
  |int j=>obtain⟨b,rfl⟩:=a;exact PySem.EqMixed.eq_str_int (HQ I q (by simp))
  |str j=>obtain⟨b,rfl⟩:=a;exact eq_str (HQ I q SE)
  |_=>exact absurd (show false=true from hs) Ak
 |byt i=>
  obtain⟨t,rfl⟩:=c;cases y with
  |byt j=>obtain⟨b,rfl⟩:=a;exact PySem.W.eq_bytes (HQ I q SA)
  |_=>exact absurd (show false=true from hs) Ak
 |_=>cases y <;> exact absurd (show false=true from hs) Ak
theorem Ki:dC X (compareOp .NotEq) lG:=by
 intro aA s σ H x y v u Q I c a h;obtain⟨hs,q⟩:=h;cases x with
 |non=>
  cases c;cases y with
  |non=>cases a;exact PySem.EqNone.ne_none_none (HQ I q (by simp))
  |bl j=>cases a;exact PySem.EqNone.ne_none_bool (HQ I q (by simp))
  |int j=>obtain⟨b,rfl⟩:=a;exact PySem.EqNone.ne_none_int (HQ I q (by simp))
  |str j=>obtain⟨b,rfl⟩:=a;exact PySem.EqNone.ne_none_str (HQ I q (by simp))
  |_=>exact absurd (show false=true from hs) Ak
 |bl i=>
  cases c;cases y with
  |non=>cases a;exact PySem.EqNone.ne_bool_none (HQ I q (by simp))
  |bl j=>cases a;exact ne_bool (HQ I q (congrArg not Vy))
  |str j=>obtain⟨b,rfl⟩:=a;exact PySem.EqMixed.ne_bool_str (HQ I q (by simp))
  |_=>exact absurd (show false=true from hs) Ak
 |int i=>
  obtain⟨t,rfl⟩:=c;cases y with
  |non=>cases a;exact PySem.EqNone.ne_int_none (HQ I q (by simp))
  |int j=>obtain⟨b,rfl⟩:=a;exact ne_int (HQ I q (congrArg not Sw))
  |str j=>obtain⟨b,rfl⟩:=a;exact PySem.EqMixed.ne_int_str (HQ I q (by simp))
  |_=>exact absurd (show false=true from hs) Ak
 |str i=>
  obtain⟨t,rfl⟩:=c;cases y with
  |non=>cases a;exact PySem.EqNone.ne_str_none (HQ I q (by simp))
  |bl j=>cases a;exact PySem.EqMixed.ne_str_bool (HQ I q (by simp))
  |int j=>obtain⟨b,rfl⟩:=a;exact PySem.EqMixed.ne_str_int (HQ I q (by simp))
  |str j=>obtain⟨b,rfl⟩:=a;exact ne_str (HQ I q (congrArg not SE))
  |_=>exact absurd (show false=true from hs) Ak
 |byt i=>
  obtain⟨t,rfl⟩:=c;cases y with
  |byt j=>obtain⟨b,rfl⟩:=a;exact PySem.W.ne_bytes (HQ I q (congrArg not SA))
  |_=>exact absurd (show false=true from hs) Ak
 |_=>cases y <;> exact absurd (show false=true from hs) Ak
theorem S5:dC X (compareOp .Lt) (fW λi j=>.bl (decide (i<j))):=ZC λ_ _ _ _ _ _ _ q=>lt_int q
theorem Mg:dC X (compareOp .LtE) (fW λi j=>.bl (decide (i<=j))):=ZC λ_ _ _ _ _ _ _ q=>le_int q
theorem LP:dC X (compareOp .Gt) (fW λi j=>.bl (decide (j<i))):=ZC λ_ _ _ _ _ _ _ q=>gt_int q
theorem UY:dC X (compareOp .Is) (λx y H Q=>y=.non/\Q (.bl (decide (x=.non))) H):=by
 intro aA s σ H x y v u Q I a b h;obtain⟨rfl,q⟩:=h;cases b;refine is_none_gen (HQ I q ?_);cases x <;> first
  |(cases a;rfl)
  |(obtain⟨t,rfl⟩:=a;rfl)
theorem Hw(b:GR)(h:op≠.In:=by decide)(h2:op≠.NotIn:=by decide):behindInMarks op b=false:=by
 have e1:(op==CmpOp.In)=false:=by cases op <;> first | rfl | exact absurd rfl h
 have a:(op==CmpOp.NotIn)=false:=by cases op <;> first | rfl | exact absurd rfl h2
 cases b <;> simp[behindInMarks,e1,a]
theorem Mp(k:dC X (compareOp op) r)(c:PE X a ta)(d:PE X b tb)(f:behindInMarks op b=false):PE X (.Compare a [op] [b] pos) (dQ r ta tb):=by intro aA s σ H Q I h;exact wpAny_Compare1 (jZ c d I h λv u e x y H2 i g j q=>k aA e σ H2 x y v u Q i g j q) f
def N4(t:TE):TT:=λσ H Q=>t σ H λx H'=>∃k,x=.bl k/\Q k H'
theorem Hs(A:dC X (compareOp op) r)(f:PE X a ta)(g:PE X b tb)(o:behindInMarks op b=false):PT X (.Compare a [op] [b] pos) (N4 (dQ r ta tb)):=by
 intro aA s σ H Q I h;refine wpAny_isTrue_Compare1 (aW (f aA s σ H _ I h) λv t ⟨x,H1,B,C,q⟩=>aW (g aA t σ H1 _ B q) λu j ⟨y,H2,p,i,w⟩=>aW (A aA j σ H2 x y v u _ p C i w) λc D qQ=>?_) o;obtain⟨z,n,l,d,k,e,m⟩:=qQ
 subst e;cases d;exact G4 ⟨n,l,m⟩
def ZO(r b:R2)(ta tb tc:TE):TE:=λσ H Q=>ta σ H λx H1=>tb σ H1 λy H2=>r x y H2 λz a=>∃k,z=.bl k ∧
 (if k=true then tc σ a λc d=>b y c d Q else Q (.bl false) a)
theorem NA(U:dC X (compareOp op) r)(F:dC X (compareOp op') r')(o:PE X a ta)(l:PE X b tb)(S:PE X c tc)
  (hm:lastMarks [op,op'] [b,c]=false:=by with_unfolding_all rfl):PT X (.Compare a [op,op'] [b,c] pos) (N4 (ZO r r' ta tb tc)):=by
 intro aA s σ H Q I h;refine isTrue_chain (aW (o aA s σ H _ I h) λv t ⟨x,H1,N,V,q⟩=>test_link (aW (l aA t σ H1 _ N q) λu p ⟨y,H2,R,f,A⟩=>aW (U aA p σ H2 x y v u _ R V f A) λd d9 qQ=>?_)) hm;obtain⟨z,i,j,w,k,e,g⟩:=qQ
 subst e;cases w;refine G4 ?_;cases k with
 |false=>obtain⟨d6,L,G⟩:=g;cases L;exact ite_ff ⟨i,j,G⟩
 |true=>refine ite_tt (test_last (aW (S aA d9 σ i _ j g) λd8 D ⟨P,T,M,K,C⟩=>aW (F aA D σ T y P u d8 _ M f K C) λd' s5 ⟨d7,m,W,n,k2,B,E⟩=>?_));subst B;cases n;exact G4 ⟨m,W,E⟩
def kP(K:G5)(x:V)(H:Hp)(k:Bool):Prop:=
 match x with
 |.non=>k=false
 |.bl b=>k=b
 |.int i=>k=(i != 0)
 |.str y=>y.length<=GI/\k=((y.length:Int) != 0)
 |.byt y=>y.size<=GI/\k=((y.size:Int) != 0)
 |.ref p=>(∃xs,aP K H p xs/\k=!xs.isEmpty)\/(∃xs,aQ K H p xs/\k=!xs.isEmpty)\/∃aB,H p=some (.dK aB)/\k=!aB.isEmpty
 |_=>False
theorem Sl{κ:Type}{aB:List (κ×V)}{vs:List (κ×O)}(r:KV aB vs):(!vs.isEmpty)=!aB.isEmpty:=by cases r <;> rfl
theorem NH(r:aJ xs aD):(!aD.toArray.isEmpty)=!xs.isEmpty:=by cases r <;> simp
theorem MA:(GI:Nat)<2 ^ 63:=by rw[sizeLine_eq];decide
theorem ZZ:pY X (λx H Q=>∃k,kP X.K x H k/\Q k H):=by
 intro aA s σ H x v Q I c h;obtain⟨k,e,q⟩:=h;have n:=MA;have hs:GI=16777216:=sizeLine_eq;cases x with
 |non=>cases c;have a:k=false:=e;subst a;exact truthy_none ⟨H,I,q⟩
 |bl b=>cases c;have a:k=b:=e;subst a;exact G4 ⟨H,I,q⟩
 |int i=>obtain⟨t,rfl⟩:=c;have a:k=(i != 0):=e;subst a;exact PySem.P.truthy_int ⟨H,I,q⟩
 |str y=>obtain⟨t,rfl⟩:=c;obtain⟨l,a⟩:y.length<=GI/\k=((y.length:Int) != 0):=e;subst a;exact PySem.P.truthy_str (by lia) ⟨H,I.tok _,q⟩
 |byt y=>obtain⟨t,rfl⟩:=c;obtain⟨l,a⟩:y.size<=GI/\k=((y.size:Int) != 0):=e;subst a;exact PySem.W.truthy_bytes (by lia) ⟨H,I.tok _,q⟩
 |ref p=>
  cases c;have a:(∃xs,aP X.K H p xs/\k=!xs.isEmpty)\/(∃xs,aQ X.K H p xs/\k=!xs.isEmpty)\/∃aB,H p=some (.dK aB)/\k=!aB.isEmpty:=e;rcases a with ⟨xs,d,a⟩ | ⟨xs,d,a⟩ | ⟨aB,d,a⟩
  ·subst a;obtain⟨aD,r,pl,f⟩:=I.list d;have g:=r.length;exact wpAny_truthy_list pl.isList (by simp only[Am];lia) ⟨H,I.tok _,by rwa [NH r]⟩
  ·subst a;obtain⟨aD,r,pl,f⟩:=I.tuple d;have g:=r.length;exact truthy_tuple pl (by simp only[Am];lia) ⟨H,I.tok _,by rwa [NH r]⟩
  ·subst a;obtain⟨f,j,vs,r,m⟩:aB.length<=GI/\(p==G1)=false/\∃vs,KV aB vs/\s.heap.DictOf (HJ X.prog X.w) p vs:=I.hok p _ d;have g:aB.length=vs.length:=Paired.length r;exact wpAny_truthy_dict j m (by lia) ⟨H,I.tok _,by rwa [Sl r]⟩
 |_=>exact(show False from e).elim
theorem Md(b:PE X a ta)(c:∀whole,isTrue a X.env whole=(do let v ← whole;standAt a.pos;holding [v] (truthy v))):
  PT X a (λσ H Q=>ta σ H λx H'=>∃k,kP X.K x H' k/\Q k H'):=by
 intro aA s σ H Q I h;exact isTrue_plain (aW (b aA s σ H _ I h) λv e qQ=>by obtain⟨x,H1,f,g,d⟩:=qQ;exact ZZ aA e σ H1 x v Q f g d) (c _)
theorem OT(r:aJ [x] us):∃u,us=[u]/\RelV x u:=by
 cases r with
 |cons b a=>cases a;exact⟨_,Y,b⟩
theorem YT(r:aJ [x,y] us):∃u a,us=[u,a]/\RelV x u/\RelV y a:=by
 cases r with
 |cons e b=>
  cases b with
  |cons d c=>cases c;exact⟨_,_,Y,e,d⟩
theorem QF:JD X (.builtin "abs") (λxs H Q=>∃i,xs=[.int i]/\Q (.int (if i<0 then -i else i)) H):=by intro aA s σ H xs a Q I r h;obtain⟨i,rfl,q⟩:=h;obtain⟨u,rfl,t,rfl⟩:=OT r;exact call_abs_int λu tk=>⟨.int (if i<0 then -i else i),H,I.tok _,⟨_,Y⟩,q⟩
theorem Ut(b:X.calm=true):JD X (.builtin "max") (λxs H Q=>∃i j,xs=[.int i,.int j]/\Q (.int (if j > i then j else i)) H):=by
 intro aA s σ H xs e Q I r h;obtain⟨i,j,rfl,q⟩:=h;obtain⟨u,c,rfl,⟨t,rfl⟩,⟨d,rfl⟩⟩:=YT r;refine max_two_ints (I.ok.hd b) λh' tk k=>⟨_,H,I.kept k,?_,q⟩;by_cases a:j > i
 ·rw[G7 a,G7 a];exact⟨_,Y⟩
 ·rw[G6 a,G6 a];exact⟨_,Y⟩
theorem Uo(b:X.calm=true):JD X (.builtin "min") (λxs H Q=>∃i j,xs=[.int i,.int j]/\Q (.int (if j<i then j else i)) H):=by
 intro aA s σ H xs e Q I r h;obtain⟨i,j,rfl,q⟩:=h;obtain⟨u,c,rfl,⟨t,rfl⟩,⟨d,rfl⟩⟩:=YT r;refine min_two_ints (I.ok.hd b) λh' tk k=>⟨_,H,I.kept k,?_,q⟩;by_cases a:j<i
 ·rw[G7 a,G7 a];exact⟨_,Y⟩
 ·rw[G6 a,G6 a];exact⟨_,Y⟩
theorem Vt:JD X (.builtin "ord") (λxs H Q=>∃x,xs=[.str x]/\x.length=1/\Q (.int (x.cps.getD 0 0:Nat)) H):=by intro aA s σ H xs b Q I r h;obtain⟨x,rfl,a,q⟩:=h;obtain⟨u,rfl,t,rfl⟩:=OT r;exact ord_of_one a ⟨.int _,H,I.tok _,⟨_,Y⟩,q⟩
end
structure fM(h:Heap)(x dx C:Z)(mA:Str->Option O):Prop where
 obj:h.get? x=some (B4 C dx)
 ns:h.Ns1 dx mA
 ne:dx≠x
theorem TV{h:Heap}{dx:Z}{mA:Str->Option O}(n:h.Ns1 dx mA):∃od,h.get? dx=some od/\∀name,Eg name od=some (mA name):=by
 obtain⟨o,es,ep,i,hd,f,_,d⟩:=n;refine⟨o,i,λname=>?_⟩;have e:=d name;unfold nsFind findBy at e;rw[<-FW] at e;unfold Eg;rw[hd];dsimp only;split
 ·rename_i y q;rw[q] at e;exact congrArg some e
 ·rename_i q;rw[q] at e;have a:es.toList.any (·.refKey)=false:=by rw[List.any_eq_false];intro y g;obtain⟨z,t,b⟩:=f y (Array.mem_toList_iff.mp g);simp[GZ.refKey,b]
  have c:¬es.toList.any (·.refKey)=true:=by rw[a];exact Ak
  rw[G6 c];exact congrArg some e
theorem fM.look(I:fM h x dx C mA):∃od,PySem.W.InstAt h x (B4 C dx) C (some od)/\∀name,Eg name od=some (mA name):=
 let ⟨od,ho,hl⟩:=TV I.ns
 ⟨od,⟨I.obj,Y,Y,ho⟩,hl⟩
section
variable{prog:GJ}{w:GQ}{A:GS}{E:O->GF->Prop}{s:GF}{K:G5}{x dx C f:Z}{mA:Str->Option O}{name:Str}{v:O}
theorem WZ{Q:O->GF->Prop}(X:K.In s.heap)(I:fM s.heap x dx C mA)(b:BV K C name=true)(c:B5 K C=true)
  (ha:AF K (.ref C) name=some none) (hv:mA name=some v) (hv':FN v=true) (h:Q v { s with toks:=s.toks+1 }):
  GL (model prog w) A (getAttr (.ref x) name expr) Q E s:=by
 obtain⟨od,d9,a⟩:=I.look;exact PySem.W.get_value X d9 (Eo b).1 (PySem.W.findObj_own c ha rfl (by rw[a,hv])) hv' h
theorem Vw{Q:O×List O->GF->Prop}(X:K.In s.heap)(I:fM s.heap x dx C mA)(a:BV K C name=true)
  (hf:AF K (.ref C) name=some (some (.ref f))) (ht:Cc K (.ref f)=true) (hv:mA name=none) (h:Q (.ref f,[.ref x]) s):
  GL (model prog w) A (getMethod (.ref x) name pl) Q E s:=by
 obtain⟨od,d9,b⟩:=I.look;exact PySem.W.method_fn X d9 (Eo a).1 (Eo a).2 hf (beq_iff_eq.mp ht) (by show(Eg name od).map (·.isSome)=some false;rw[b,hv];rfl) h
theorem Yv{Q:Unit->GF->Prop}(X:K.In s.heap)(I:fM s.heap x dx C mA)
  (hs:AF K (.ref C) "__setattr__"=some (some (.builtin "object.__setattr__"))) (hp:Ck K C=true) (ht:EG K C name=some none) (hh:B5 K C=true)
  (hw:PySem.Within mA ns) (hsz:ns.length<=GI)
  (h:∀h',fM h' x dx C (λy=>if y=name then some v else mA y)->Heap.SameBut dx s.heap h'->Q () { s with heap:=h',toks:=s.toks+2 }):
  GL (model prog w) A (setAttr (.ref x) name v) Q E s:=by
 obtain⟨od,d9,n⟩:=I.look;refine PySem.W.set_plain X d9 hs (PySem.W.osa_open (s:={ s with toks:=s.toks+1 }) (r:=none) X d9 hp ht λb=>?_);obtain⟨cd,g,f⟩:=PySem.W.any_some hh;have j:s.heap.get? x=some ⟨.ref C,some dx,.plain,#[]⟩:=I.obj;refine GE (GK (GE (GE (wpAny_loadPart j (GE (PySem.W.Looks.here (s:={ s with toks:=s.toks+1 }) (PySem.W.looks_clsIn X g) ?_))))));rw[f];refine GK (a:=some dx) (GE (GK (GE ?_)));refine wpAny_nsSet1 (s:={ s with toks:=s.toks+1 }) I.ns λh' d c=>?_;obtain⟨o,l,m,i,e,k⟩:=d.count (PySem.Within.cons name v hw);refine GE (wpAny_lookBehind i (by rw[e];exact pastItsLine_dict (AE k (by rw[Af];lia))) ?_);exact GK (h _ ⟨(c.2 _ (Ne.symm I.ne)).trans I.obj,d,I.ne⟩ c)
theorem WQ{R:Result->GF->Prop}(X:K.In s.heap)(b:Cg K C=true)
  (hi:AF K (.ref C) "__init__"=some (some (.ref f))) (hf:PySem.W.typeIn K (.ref f)=some (.type "function"))
  (h:codeAny (model prog w) (A.under (.builtin "type.__call__" ⟨.ref C::vs,kw⟩)) (.call (.ref f) ⟨.ref (s.heap.objs.size+1)::vs,kw⟩) (PySem.W.InitBack (s.heap.objs.size+1) R)
   { s with heap:=(s.heap.push BB).push (B4 C s.heap.objs.size) }):
  codeAny (model prog w) A (.call (.ref C) ⟨vs,kw⟩) R s:=by
 obtain⟨c,g,d,t,os⟩:=s;exact PySem.W.make_core (PySem.W.makes_of X b) (PySem.W.looks_findIn X hi) (λa=>PySem.W.bind_fn X a hf) (.inl rfl) h
end
def H0(f:Str)(v:V):List (Str×V)->List (Str×V)
 |[]=>[(f,v)]
 |(g,x)::r=>if g=f then (g,v)::r else (g,x)::H0 f v r
theorem Hl(f g:Str)(v:V):∀fs:List (Str×V),(H0 f v fs).lookup g=if g=f then some v else fs.lookup g
 |[]=>by
  show A0 g [(f,v)]=_;by_cases h:g=f
  ·have a:(g==f)=true:=beq_iff_eq.mpr h;simp only[A0,a,G7 h]
  ·have a:(g==f)=false:=beq_eq_false_iff_ne.mpr h;simp only[A0,a,G6 h]
 |(k,x)::r=>by
  have c:=Hl f g v r;rw[show H0 f v ((k,x)::r)=(if k=f then (k,v)::r else (k,x)::H0 f v r) from rfl];by_cases b:k=f
  ·rw[G7 b];by_cases h:g=k
   ·have a:(g==k)=true:=beq_iff_eq.mpr h;simp only[A0,a,G7 (h.trans b)]
   ·have a:(g==k)=false:=beq_eq_false_iff_ne.mpr h;simp only[A0,a,G6 (λe:g=f=>h (e.trans b.symm))]
  ·rw[G6 b];by_cases h:g=k
   ·have a:(g==k)=true:=beq_iff_eq.mpr h;simp only[A0,a,G6 (λe:g=f=>b (h.symm.trans e))]
   ·have a:(g==k)=false:=beq_eq_false_iff_ne.mpr h;simp only[A0,a];exact c
theorem My(f:Str)(v:V):∀fs:List (Str×V),f∈(H0 f v fs).map (·.1)/\∀g,g∈fs.map (·.1)->g∈(H0 f v fs).map (·.1)
 |[]=>⟨by simp[H0],λg h=>by simp at h⟩
 |(k,x)::r=>by
  obtain⟨i1,b⟩:=My f v r;rw[show H0 f v ((k,x)::r)=(if k=f then (k,v)::r else (k,x)::H0 f v r) from rfl];by_cases a:k=f
  ·rw[G7 a];subst a;exact⟨by simp,λg h=>by simpa using h⟩
  ·rw[G6 a];refine⟨?_,λg h=>?_⟩
   ·rw[An];exact Aw _ i1
   ·rw[An] at h ⊢;rcases Aq.mp h with e | e
    ·exact Aq.mpr (.inl e)
    ·exact Aw _ (b g e)
theorem M5(f:Str)(v:V):∀fs:List (Str×V),(H0 f v fs).length<=fs.length+1
 |[]=>by simp[H0]
 |(k,x)::r=>by
  have b:=M5 f v r;rw[show H0 f v ((k,x)::r)=(if k=f then (k,v)::r else (k,x)::H0 f v r) from rfl];by_cases a:k=f
  ·rw[G7 a,Af,Af];lia
  ·rw[G6 a,Af,Af];lia
theorem cE.some_of(r:cE (some v) o):∃u,o=some u/\RelV v u:=by
 cases o with
 |none=>exact(show False from r).elim
 |some u=>exact⟨u,Y,r⟩
theorem cE.none_of(r:cE none o):o=none:=by
 cases o with
 |none=>rfl
 |some u=>exact(show False from r).elim
theorem UB(r:RelV v u):FN u=true:=by
 cases v with
 |non=>cases(show u=O.none from r);rfl
 |bl b=>cases(show u=O.bool b from r);rfl
 |int i=>obtain⟨t,e⟩:=(show ∃t,u=O.int i t from r);cases e;rfl
 |str x=>obtain⟨t,e⟩:=(show ∃t,u=O.str x t from r);cases e;rfl
 |byt b=>obtain⟨t,e⟩:=(show ∃t,u=O.bytes b t from r);cases e;rfl
 |flt b=>obtain⟨t,e⟩:=(show ∃t,u=O.float b t from r);cases e;rfl
 |ref a=>cases(show u=O.ref a from r);rfl
 |ty n=>cases(show u=O.type n from r);rfl
section
variable{P:GJ}{w:GQ}{H H':Hp}{h h':Heap}{a C dx:Z}{fs fs':List (Str×V)}
theorem P6(b:bU P w H h)(e:H a=some (.ins C dx fs)):∃mA,fM h a dx C mA/\(∀f,cE (fs.lookup f) (mA f))/\PySem.Within mA (fs.map (·.1))/\fs.length<=1000/\H dx=some (.own a):=by obtain⟨d,z,ne,c,mA,n,r,q⟩:=(show aT P w H h a (.ins C dx fs) from b a _ e);exact⟨mA,⟨c,n,ne⟩,r,q,z,d⟩
end
structure eP(K:G5)(C:Z):Prop where
 pg:BV K C Str.empty=true
 hd:B5 K C=true
 po:Ck K C=true
 sa:AF K (.ref C) "__setattr__"=some (some (.builtin "object.__setattr__"))
theorem eP.get{K:G5}{C:Z}(c:eP K C)(f:Str):BV K C f=true:=c.pg
def bC(K:G5)(C:Z)(f:Str):Prop:=AF K (.ref C) f=some none
theorem bC.taker{K:G5}{C:Z}{f:Str}(n:bC K C f):EG K C f=some none:=by unfold EG;rw[show AF K (.ref C) f=some none from n];rfl
structure sO(K:G5)(C:Z)(f:Str)(v:V)(u:O):Prop where
 at_:AF K (.ref C) f=some (some u)
 rel:RelV v u
 get:FD K u "__get__"=some none
 cp:PySem.W.copiedNames.contains f=false
structure iA(K:G5)(C:Z)(m:Str)(f:Z):Prop where
 at_:AF K (.ref C) m=some (some (.ref f))
 fn:Cc K (.ref f)=true
 kp:AI K (.ref f)=true
section
variable{X:Cx}{aA:List (Z×Obj)}{σ:St}{H:Hp}{s:GF}{a C dx:Z}{fs:List (Str×V)}{f:Str}{v:V}{A:GS}{E:O->GF->Prop}
theorem NR{Q:O->GF->Prop}(I:Inv X aA σ H s)(e:H a=some (.ins C dx fs))(c:eP X.K C)(n:bC X.K C f)(l:fs.lookup f=some v)
  (h:∀u s',Inv X aA σ H s'->RelV v u->Q u s'):GL (model X.prog X.w) A (getAttr (.ref a) f b) Q E s:=by
 obtain⟨mA,d8,r,_,_,_⟩:=P6 I.hok e;obtain⟨u,g,d⟩:=cE.some_of (v:=v) (o:=mA f) (by rw[<-l];exact r f);exact WZ I.kIn d8 (c.get f) c.hd n g (UB d) (h u _ (I.tok _) d)
theorem N6{Q:O×List O->GF->Prop}(I:Inv X aA σ H s)(e:H a=some (.ins C dx fs))(c:eP X.K C)(k:iA X.K C m g)(l:fs.lookup m=none)
  (h:Q (.ref g,[.ref a]) s):GL (model X.prog X.w) A (getMethod (.ref a) m pl) Q E s:=by
 obtain⟨mA,d8,r,_,_,_⟩:=P6 I.hok e;have hn:mA m=none:=cE.none_of (by rw[<-l];exact r m);exact Vw I.kIn d8 (c.get m) k.at_ k.fn hn h
theorem Oe{Q:Unit->GF->Prop}(I:Inv X aA σ H s)(e:H a=some (.ins C dx fs))(c:eP X.K C)(n:bC X.K C f)(v:fs.length<1000)(t:RelV y u)
  (h:∀s',Inv X aA σ (aK H a (.ins C dx (H0 f y fs))) s'->Q () s'):GL (model X.prog X.w) A (setAttr (.ref a) f u) Q E s:=by
 obtain⟨mA,d8,r,i,_,p⟩:=P6 I.hok e;have m:(fs.map (·.1)).length<=GI:=by rw[Ab,sizeLine_eq];lia
 refine Yv I.kIn d8 c.sa c.po n.taker c.hd i m λh' d j=>h _ ?_;have hd:∃o,h'.get? dx=some o:=let ⟨o,_,_,e',_⟩:=d.ns;⟨o,e'⟩;refine I.write (x:=a) (e:=dx) (by rw[e];exact True.intro) (.inr p) (λb q l z=>(j.2 b l).trans z) hd ?_;refine⟨by rwa [Hf d8.ne],?_,d8.ne,d.obj,_,d.ns,λg=>?_,λg k=>?_⟩
 ·have:=M5 f y fs;lia
 ·show cE ((H0 f y fs).lookup g) (if g=f then some u else mA g);rw[Hl];by_cases q:g=f
  ·rwa [G7 q,G7 q]
  ·rw[G6 q,G6 q];exact r g
 ·by_cases q:g=f
  ·rw[q];exact(My f y fs).1
  ·refine(My f y fs).2 g (i g λz=>k ?_);show(if g=f then some u else mA g)=none
   rwa [G6 q]
theorem Inv.made(I:Inv X aA σ H s):Inv X aA σ (aK (aK H s.heap.objs.size (.own (s.heap.objs.size+1))) (s.heap.objs.size+1) (.ins C s.heap.objs.size []))
  { s with heap:=(s.heap.push BB).push (B4 C s.heap.objs.size) }:=by
 have e1:(s.heap.push BB).get? s.heap.objs.size=some BB:=Ap s.heap rfl;have g:((s.heap.push BB).push (B4 C s.heap.objs.size)).get? (s.heap.objs.size+1)=some (B4 C s.heap.objs.size):=by
  have:=Ap (s.heap.push BB) (o:=B4 C s.heap.objs.size) rfl
  rwa [AY] at this
 have f:(s.heap.push BB).Ns s.heap.objs.size (λ_=>none):=zJ BB (#[]) _ e1 Y (λe c=>absurd c (by simp)) (λ_=>rfl);have h:=I.laid (a:=s.heap.objs.size) (o:=.own (s.heap.objs.size+1)) (h':=s.heap.push BB) (t':=s.toks) (λb u q=>Ac _ q) (Ag _) ⟨_,e1⟩;refine h.laid (a:=s.heap.objs.size+1) (o:=.ins C s.heap.objs.size []) (t':=s.toks) (λb u q=>Ac _ q) (Dn (AY _ _)) ?_;have ne:s.heap.objs.size≠s.heap.objs.size+1:=AL (Ec _);refine⟨by rw[Hf ne,G9],Az _,ne,g,λ_=>none,(Heap.Ns1.of_empty f).at λo q=>Ac _ q,λ_=>True.intro,λy d=>absurd rfl d⟩
theorem Xz{Q:O->GF->Prop}(b:attributeBase e f env (eval e env)=eval e env)
  (h:GL (model prog w) A (eval e env) (λo a=>GL (model prog w) A (getAttr o f true) Q E a) E s):GL (model prog w) A (eval (.Attribute e f pos) env) Q E s:=
 Attribute_any_ h (by rw[arm_eval_Attribute,b])
end
def VP(K:G5)(ta:TE)(f:Str):TE:=λσ H Q=>ta σ H λx H1=>∃a C dx fs v,x=.ref a/\H1 a=some (.ins C dx fs)/\eP K C/\bC K C f/\fs.lookup f=some v/\Q v H1
def pU(K:G5)(ta tv:TE)(f:Str):TS:=λD σ H=>tv σ H λy H1=>ta σ H1 λx H2=>∃a C dx fs,x=.ref a/\H2 a=some (.ins C dx fs)/\eP K C/\bC K C f/\fs.length<1000 ∧
 D.nx σ (aK H2 a (.ins C dx (H0 f y fs)))
def lO(X:Cx)(op:Operator)(rd:V->V->Hp->VK->Prop):Prop:=∀(aA:List (Z×Obj)) (s:GF) (σ:St) (H:Hp) (x y:V) (u v:O) (Q:VK),Inv X aA σ H s->RelV x u->RelV y v->rd x y H Q->GL (model X.prog X.w) X.A (inplaceOp op u v) (EP X aA σ Q) X.xe s
def Yj(K:G5)(ta tv:TE)(rd:V->V->Hp->VK->Prop)(f:Str):TS:=λD σ H=>ta σ H λx H1=>∃a C dx fs v,x=.ref a/\H1 a=some (.ins C dx fs)/\eP K C/\bC K C f/\fs.lookup f=some v ∧
 tv σ H1 λy H2=>rd v y H2 λz c=>∃b fs',c a=some (.ins C b fs')/\fs'.length<1000/\D.nx σ (aK c a (.ins C b (H0 f z fs')))
section
variable{X:Cx}{o e value:GR}{f:Str}{pos pos' tpos:Pos}{ta tv:TE}
theorem Hy(j:PE X e ta)(b:attributeBase e f X.env (eval e X.env)=eval e X.env):PE X (.Attribute e f pos) (VP X.K ta f):=by intro aA s σ H Q I h;refine Xz b (aW (j aA s σ H _ I h) λu o qQ=>?_);obtain⟨x,H1,k,g,a,C,dx,fs,v,ex,ea,c,n,l,q⟩:=qQ;subst ex;obtain rfl:u=O.ref a:=g;exact NR k ea c n l λp m i d=>⟨v,H1,i,d,q⟩
theorem JE(b:PE X o ta)(d:PE X value tv)(hs:swapsWith value (some (.Attribute o f pos')) pos.line X.env=pure false):PS X (.Assign [.Attribute o f pos'] value pos) (pU X.K ta tv f):=by intro aA s σ H D I h;refine plainObj_wpAny_Assign_Attribute (aW (d aA s σ H _ I h) λu m ⟨y,H1,r,k,q⟩=>aW (b aA m σ H1 _ r q) λg t qQ=>?_) hs;obtain⟨x,H2,j,i,a,C,dx,fs,ex,ea,c,n,l,p⟩:=qQ;subst ex;obtain rfl:g=O.ref a:=i;exact Oe j ea c n l k λv e=>⟨σ,_,e,p⟩
theorem TD{rd:V->V->Hp->VK->Prop}(g:PE X o ta)(G:PE X value tv)(b:lO X op rd):PS X (.AugAssign (.Attribute o f tpos) op value pos) (Yj X.K ta tv rd f):=by intro aA s σ H D I h;refine wpAny_AugAssign_AttributeAny (aW (g aA s σ H _ I h) λk N qQ=>?_);obtain⟨x,H1,E,r,a,C,dx,fs,v,ex,ea,c,n,l,q⟩:=qQ;subst ex;obtain rfl:k=O.ref a:=r;refine NR E ea c n l λu i K j=>aW (G aA i σ H1 _ K q) λe t ⟨y,H2,d9,w,m⟩=>aW (b aA t σ H2 v y u e _ d9 j w m) λR d8 qQ=>?_;obtain⟨z,Q,A,d,M,fs',F,B,p⟩:=qQ;exact Oe A F c n B d λP L=>⟨σ,_,L,p⟩
def sB:V->V->Hp->VK->Prop:=λx y H Q=>∃i j,x=.int i/\y=.int j/\Q (.int (i+j)) H
theorem ZI:lO X .Add sB:=by rintro aA s σ H x y u v Q I c b ⟨i,j,rfl,rfl,q⟩;obtain⟨t,rfl⟩:=(show ∃t,u=O.int i t from c);obtain⟨a,rfl⟩:=(show ∃a,v=O.int j a from b);exact PyProof.Rows.iadd_int ⟨.int (i+j),H,I.tok _,⟨_,Y⟩,q⟩
end
section
variable{X:Cx}{aA:List (Z×Obj)}{σ:St}{H:Hp}{s:GF}{A:GS}{E:O->GF->Prop}{Q:O->GF->Prop}{c:O}{b:Bool}
inductive dU(K:G5)(H:Hp):V->O->Prop where
 |non:dU K H .non (.type "NoneType")
 |bl (x:Bool):dU K H (.bl x) (.type "bool")
 |int (i:Int):dU K H (.int i) (.type "int")
 |str (x:Str):dU K H (.str x) (.type "str")
 |flt (x:UInt64):dU K H (.flt x) (.type "float")
 |lst {a:Z} {xs:List V} (e:H a=some (.lst xs)):dU K H (.ref a) (.type "list")
 |frz {a:Z} {o:Obj} {xs:List V} (e:H a=some (.frz o (.lst xs))):dU K H (.ref a) (.type "list")
 |tup {a:Z} {xs:List V} (e:H a=some (.tup xs)):dU K H (.ref a) (.type "tuple")
 |dK {a:Z} {aB:List (bF×V)} (e:H a=some (.dK aB)):dU K H (.ref a) (.type "dict")
 |dT {a:Z} {aB:List (List bF×V)} (e:H a=some (.dT aB)):dU K H (.ref a) (.type "dict")
 |ins {a C dx:Z} {fs:List (Str×V)} (e:H a=some (.ins C dx fs)) (cl:eP K C) (ha:AF K (.ref C) "__class__"=some (some (.builtin "object.__class__")))
   (hn:FD K (.builtin "object.__class__") "__get__"=some (some (.builtin "getset_descriptor.__get__"))) (htk:PySem.W.takesIn K (.builtin "object.__class__")=some true)
   (hm:PySem.W.mroIn K C (.type "object")=some true):dU K H (.ref a) (.ref C)
end
structure aY(k:Nat)(A:GS):Prop where
 hd:A.handled=none
 dp:A.depth+3*k+5<recursionLimit
 un:A.units+16*k+200<cLine
theorem aY.mono(r:aY k A)(h:j<=k:=by decide):aY j A:=⟨r.hd,by have:=r.dp;lia,by have:=r.un;lia⟩
theorem aY.deeper(r:aY (k+1) A)(env:Env):aY k (A.deeper env):=⟨r.hd,by have:=r.dp;show A.depth+1+3*k+5<_;lia,by have:=r.un;show A.units+3+16*k+200<_;lia⟩
theorem aY.in1(r:aY (k+1) A):aY k A.in1:=⟨r.hd,by have:=r.dp;show A.depth+3*k+5<_;lia,by have:=r.un;show A.units+1+16*k+200<_;lia⟩
theorem R6{A:GS}{C:Z}{us:List O}{a:List (Str×O)}:(A.under (.builtin "type.__call__" ⟨.ref C::us,a⟩)).depth=A.depth+1:=by first | rfl | simp[GS.under,Code.weight,Code.isCreation,Code.isGuard,Code.isCaller,Code.frames,Code.isFrame,guardIds]
theorem RC{A:GS}{C:Z}{us:List O}{a:List (Str×O)}:(A.under (.builtin "type.__call__" ⟨.ref C::us,a⟩)).units=A.units+1:=by first | rfl | simp[GS.under,Code.cUnits,Code.frames,Code.isFrame]
theorem aY.make(r:aY (k+1) A)(C:Z)(us:List O)(a:List (Str×O)):aY k (A.under (.builtin "type.__call__" ⟨.ref C::us,a⟩)):=⟨r.hd,by have:=r.dp;rw[R6];lia,by have:=r.un;rw[RC];lia⟩
theorem aY.depth(r:aY k A):A.depth<recursionLimit:=by have:=r.dp;lia
theorem aY.units(r:aY k A):A.units+64<cLine:=by have:=r.un;lia
def JL:TA:=λ_ H Q=>Q [] H
def Ii(ta:TE)(a:TA):TA:=λσ H Q=>ta σ H λx H1=>a σ H1 λxs H2=>Q (x::xs) H2
section
variable{X:Cx}{e:GR}{es:List GR}{te:TE}{t:TA}{pos:Pos}
theorem Hg:PA X [] JL:=λ_ _ _ _ H Q I h=>Calls.spliced_nil ⟨[],H,I,.nil,h⟩
theorem G8(a:PE X e te)(i:PA X es t)(hs:GO (e::es) X.env=(false,eval e X.env)::GO es X.env:=by rfl):PA X (e::es) (Ii te t):=by intro pos aA s σ H Q I h;rw[hs];show GL _ _ (spliced ((false,eval e X.env)::backTo pos (GO es X.env))) _ _ s;refine Calls.spliced_cons (aW (a aA s σ H _ I h) λu f ⟨x,H1,j,k,d⟩=>?_);exact aW (i pos aA f σ H1 _ j d) λm l ⟨xs,H2,c,b,g⟩=>⟨x::xs,H2,c,.cons k b,g⟩
def Qk(t:TA):TE:=λσ H Q=>t σ H λxs H1=>xs.length<=GI/\∀p,H1 p=none->Q (.ref p) (aK H1 p (.tup xs))
def Z4(t:TA):TE:=λσ H Q=>t σ H λxs H1=>xs.length<=GI/\∀p,H1 p=none->Q (.ref p) (aK H1 p (.lst xs))
theorem Ik{x1}(h:PA X es t):PE X (.Tuple es x1 pos) (Qk t):=by intro aA s σ H Q I d;refine wpAny_Tuple_spliced (aW (h pos aA s σ H _ I d) λf a ⟨xs,H1,c,r,z,q⟩=>⟨by rwa [<-r.length],?_⟩);have g:H1 a.heap.objs.size=none:=c.hok.fresh (Ag _);refine⟨.ref a.heap.objs.size,aK H1 a.heap.objs.size (.tup xs),c.laid (t':=a.toks) (λb u e=>Ac _ e) (Ag _) ?_,Y,q _ g⟩;exact⟨⟨z,Jx rfl⟩,f,r,⟨_,Ap _ rfl,Y,_,Y⟩⟩
theorem Iw(h:PA X es t):PE X (.List es pos) (Z4 t):=by intro aA s σ H Q I d;refine wpAny_List_spliced (aW (h pos aA s σ H _ I d) λf a ⟨xs,H1,c,r,z,q⟩=>⟨by rwa [<-r.length],?_⟩);have g:H1 a.heap.objs.size=none:=c.hok.fresh (Ag _);refine⟨.ref a.heap.objs.size,aK H1 a.heap.objs.size (.lst xs),c.laid (t':=a.toks) (λb u e=>Ac _ e) (Ag _) ?_,Y,q _ g⟩;exact⟨z,f,0,r,Ap _ rfl⟩
end
abbrev Sp:=List V->Hp->VK->XK->Prop
abbrev fT:=List Env->Hp->GF->XK->O->GF->Prop
structure dE(P:GJ)(w:GQ)(K:G5)(mg:Str->Option O)(base:Heap)(A:GS)(outer:List Env)(s:GF)(H:Hp):Prop where
 frames:A.frames=some outer
 mod:Mod K mg base
 bs:∀b o,base.get? b=some o->s.heap.get? b=some o/\H b=none
 bsz:base.objs.size<=s.heap.objs.size
 funs:s.heap.FunFrames base outer
 frf:∀b∈cG outer,H b=none
 hok:bU P w H s.heap
 bare:AllBare s.gens
def CE(outer:List Env)(P:GJ)(w:GQ)(H:Hp)(s:GF)(Q:VK)(u:O)(s':GF):Prop:=∃v H',s'.os=s.os/\AllBare s'.gens/\Un (cG outer) [] H H' s.heap s'.heap/\bU P w H' s'.heap/\RelV v u/\Q v H'
def CR(CX:fT)(outer:List Env)(P:GJ)(w:GQ)(H:Hp)(s:GF)(Q:VK)(E:XK)(r:Result)(s':GF):Prop:=
 match r with
 |.ok (.ret u)=>CE outer P w H s Q u s'
 |.ok _=>False
 |.error e=>CX outer H s E e s'
structure aN(P:GJ)(w:GQ)(K:G5)(mg:Str->Option O)(base:Heap)(CX:fT)(k:Nat)(f:Z)(fd:GP)(ps:List Str)(sp:Sp):Prop where
 len:∀vs H Q E,sp vs H Q E->vs.length=ps.length
 run:∀(A:GS) (outer:List Env) (s:GF) (H:Hp) (args:Args) (us:List O) (vs:List V) (Q:VK) (E:XK),aY k A->dE P w K mg base A outer s H->BindsTo s fd args (ps.zip us)->aJ vs us->sp vs H Q E->
  codeAny (model P w) A (.call (.ref f) args) (CR CX outer P w H s Q E) s
theorem aN.imp{P:GJ}{w:GQ}{K:G5}{mg:Str->Option O}{base:Heap}{CX:fT}{k:Nat}{f:Z}{fd:GP}{ps:List Str}{sp a:Sp}(F:aN P w K mg base CX k f fd ps sp)
  (h:∀vs H Q E,a vs H Q E->sp vs H Q E):aN P w K mg base CX k f fd ps a:=
 ⟨λvs H Q E q=>F.len vs H Q E (h _ _ _ _ q),λA outer s H b g vs Q E i e c d hs=>F.run A outer s H b g vs Q E i e c d (h _ _ _ _ hs)⟩
theorem dE.make{P:GJ}{w:GQ}{K:G5}{mg:Str->Option O}{base:Heap}{A:GS}{outer:List Env}{s:GF}{H:Hp}(e:dE P w K mg base A outer s H)(C:Z)(us:List O)(a:List (Str×O)):
  dE P w K mg base (A.under (.builtin "type.__call__" ⟨.ref C::us,a⟩)) outer s H:=⟨by first | exact e.frames | (simpa [GS.under,Code.envs,Code.isFrame,pushEnvs] using e.frames),e.mod,e.bs,e.bsz,e.funs,e.frf,e.hok,e.bare⟩
theorem dE.in1{P:GJ}{w:GQ}{K:G5}{mg:Str->Option O}{base:Heap}{A:GS}{outer:List Env}{s:GF}{H:Hp}(e:dE P w K mg base A outer s H):
  dE P w K mg base A.in1 outer s H:=⟨e.frames,e.mod,e.bs,e.bsz,e.funs,e.frf,e.hok,e.bare⟩
section
variable{X:Cx}{aA:List (Z×Obj)}{σ:St}{H:Hp}{s s':GF}
theorem Inv.env0(I:Inv X aA σ H s):dE X.prog X.w X.K X.mg X.base X.A X.stack s H:=⟨I.ok.frames,I.ok.mod,I.bs,AE I.ok.bsz I.sz,I.stack,I.stkFree,I.hok,I.bare⟩
theorem Inv.after(I:Inv X aA σ H s)(h:CE X.stack X.prog X.w H s Q u s'):EP X aA σ Q u s':=by obtain⟨v,H',os,a,un,e,r,q⟩:=h;obtain⟨f,g,d,t,c⟩:=s';obtain rfl:c=s.os:=os;exact⟨v,H',I.call (h':=f) (g':=g) (d':=d) (t':=t) (ch:=[]) un e a (λb z=>absurd z (by simp)),r,q⟩
end
def MS(sp:Sp)(dvs:List V)(E:XK)(t:TA):TE:=λσ H Q=>t σ H λvs H1=>sp (vs++dvs) H1 Q E
def Ol(C:Z)(m:Str)(sp:Sp)(dvs:List V)(E:XK)(ta:TE)(t:TA):TE:=λσ H Q=>ta σ H λx H1=>∃a dx fs,x=.ref a/\H1 a=some (.ins C dx fs)/\fs.lookup m=none ∧
 t σ H1 λvs H2=>sp (x::(vs++dvs)) H2 Q E
def Wx(C:Z)(sp:Sp)(dvs:List V)(E:XK)(t:TA):TE:=λσ H Q=>t σ H λvs H1=>∀x dx,H1 x=none->H1 dx=none->dx≠x->
 sp (.ref x::(vs++dvs)) (aK (aK H1 dx (.own x)) x (.ins C dx [])) (λv H2=>v=.non/\Q (.ref x) H2) E
def Binds(K:G5)(fd:GP)(ps:List Str)(ds:List O):Prop:=∀(s:GF) (a:List O),K.In s.heap->(a++ds).length=ps.length->BindsTo s fd ⟨a,[]⟩ (ps.zip (a++ds))
theorem Binds.all{K:G5}{fd:GP}{ps:List Str}(h:∀us:List O,us.length=ps.length->bindArgs fd ⟨us,[]⟩=pure (ps.zip us)):Binds K fd ps []:=λs us _ a=>by rw[AR] at a ⊢;exact .of_eq (h us a)
def Jf(CX:fT)(X:Cx)(E:XK):Prop:=∀(aA:List (Z×Obj)) (σ:St) (H:Hp) (s:GF) (e:O) (s':GF),Inv X aA σ H s->CX X.stack H s E e s'->X.xe e s'
section
variable{X:Cx}{CX:fT}{k:Nat}{f C:Z}{fd:GP}{ps:List Str}{sp:Sp}{dvs:List V}{ds:List O}{E:XK}{x m:Str}{p pos apos:Pos}{e o:GR}{es:List GR}{ta:TE}{t:TA}
theorem RL(F:aN X.prog X.w X.K X.mg X.base CX k f fd ps sp)(j:aY k X.A)(c:Binds X.K fd ps ds)(hd:aJ dvs ds)(i:Jf CX X E)
  (I:Inv X aA σ H s) (r:aJ vs us) (h:sp (vs++dvs) H Q E):GL (model X.prog X.w) X.A (call (.ref f) us) (EP X aA σ Q) X.xe s:=by
 have b:aJ (vs++dvs) (us++ds):=r.append hd;have g:(us++ds).length=ps.length:=by rw[<-b.length];exact F.len _ _ _ _ h
 refine wpAny_call (codeAny_mono (F.run X.A X.stack s H ⟨us,[]⟩ (us++ds) (vs++dvs) Q E j I.env0 (c s us I.kIn g) b h) λr s' a=>?_);cases r with
 |error e=>exact i aA σ H s e s' I a
 |ok d=>
  cases d with
  |ret u=>exact I.after a
  |next=>exact False.elim a
  |brk=>exact False.elim a
  |cont=>exact False.elim a
theorem Ng(F:aN X.prog X.w X.K X.mg X.base CX k f fd ps sp)(j:aY k X.A)(b:Gl X x)(d:X.mg x=some (.ref f))(g:AI X.K (.ref f)=true)(c:Binds X.K fd ps ds)(hd:aJ dvs ds)(i:Jf CX X E)
  (ha:PA X (e::es) t) (hdb:(x==("__debug__":Str))=false:=by decide) (he:GO (e::es) X.env=(false,eval e X.env)::GO es X.env:=by rfl) (hpl:(backTo pos (GO es X.env)).any (·.1)=false:=by rfl):
  PE X (.Call (.Name x p) (e::es) [] pos) (MS sp dvs E t):=by
 intro aA s σ H Q I h;refine G0 (Kr I b d ?_ hdb);refine CO (h₀:=X.base) I.ok.mod.kin g (aW (ha pos aA s σ H _ I h) λm l ⟨vs,H1,a,r,q⟩=>⟨a.kIn,?_⟩) he hpl;exact RL F j c hd i a r q
theorem W3(v:PE X o ta)(c:eP X.K C)(d:iA X.K C m f)(F:aN X.prog X.w X.K X.mg X.base CX k f fd ps sp)(A:aY k X.A)(n:Binds X.K fd ps ds)(hd:aJ dvs ds)(z:Jf CX X E)(j:PA X (e::es) t)
  (hst:GO (e::es) X.env=(false,eval e X.env)::GO es X.env:=by rfl) (hpl:(backTo pos (GO es X.env)).any (·.1)=false:=by rfl)
  (ht:eval (.Call (.Attribute o m apos) (e::es) [] pos) X.env=(do
   let b ← eval o X.env
   standAt apos.atName
   let (f,first) ← holding [b] (getMethod b m pl)
   callWith pos f first (backTo pos (GO (e::es) X.env)) (backToKw pos (keywordEach [] X.env))):=by rfl):
  PE X (.Call (.Attribute o m apos) (e::es) [] pos) (Ol C m sp dvs E ta t):=by
 intro aA s σ H Q I h;refine Fd (pl:=pl) (aW (v aA s σ H _ I h) λu w qQ=>?_) ht;obtain⟨x,H1,i,p,a,dx,fs,ex,ea,l,q⟩:=qQ;subst ex;obtain rfl:u=O.ref a:=p;refine N6 i ea c d l ?_;refine CO (first:=[.ref a]) (h₀:=X.base) I.ok.mod.kin d.kp (aW (j pos aA w σ H1 _ i q) λB D ⟨vs,H2,g,r,y⟩=>⟨g.kIn,?_⟩) hst hpl
 exact RL (us:=.ref a::B) (vs:=.ref a::vs) F A n hd z g (.cons rfl r) y
theorem WL(j:PE X o ta)(c:eP X.K C)(e:iA X.K C m f)(F:aN X.prog X.w X.K X.mg X.base CX k f fd ps sp)(p:aY k X.A)(g:Binds X.K fd ps ds)(hd:aJ dvs ds)(n:Jf CX X E)
  (ht:eval (.Call (.Attribute o m apos) [] [] pos) X.env=(do
   let d ← eval o X.env
   standAt apos.atName
   let (f,first) ← holding [d] (getMethod d m pl)
   callWith pos f first (backTo pos (GO [] X.env)) (backToKw pos (keywordEach [] X.env))):=by rfl):
  PE X (.Call (.Attribute o m apos) [] [] pos) (Ol C m sp dvs E ta JL):=by
 intro aA s σ H Q I h;refine Fd (pl:=pl) (aW (j aA s σ H _ I h) λu r qQ=>?_) ht;obtain⟨x,H1,b,i,a,dx,fs,ex,ea,l,q⟩:=qQ;subst ex;obtain rfl:u=O.ref a:=i;refine N6 b ea c e l ?_;exact Fp (first:=[.ref a]) b.kIn e.kp (RL (us:=[.ref a]) (vs:=[.ref a]) F p g hd n b (.cons rfl .nil) q)
structure Mk(K:G5)(C f:Z):Prop where
 makes:Cg K C=true
 init:AF K (.ref C) "__init__"=some (some (.ref f))
 fn:Cc K (.ref f)=true
 kp:AI K (.ref C)=true
theorem Rj(M:Mk X.K C f)(F:aN X.prog X.w X.K X.mg X.base CX k f fd ps sp)(p:aY (k+1) X.A)(i:Binds X.K fd ps ds)(hd:aJ dvs ds)
  (hx:Jf CX X E) (I:Inv X aA σ H s) (r:aJ vs us)
  (h:∀x dx,H x=none->H dx=none->dx≠x->sp (.ref x::(vs++dvs)) (aK (aK H dx (.own x)) x (.ins C dx [])) (λv H2=>v=.non/\Q (.ref x) H2) E):
  GL (model X.prog X.w) X.A (call (.ref C) us) (EP X aA σ Q) X.xe s:=by
 have c:=h (s.heap.objs.size+1) s.heap.objs.size (I.hok.fresh (EU _)) (I.hok.fresh (Ag _)) (AL (Ec _));have b:=Inv.made (C:=C) I;have d:aJ (V.ref (s.heap.objs.size+1)::(vs++dvs)) (O.ref (s.heap.objs.size+1)::(us++ds)):=.cons rfl (r.append hd);have o:(O.ref (s.heap.objs.size+1)::us++ds).length=ps.length:=by have e:=d.length;rw[F.len _ _ _ _ c] at e;exact e.symm
 refine wpAny_call (WQ (f:=f) I.kIn M.makes M.init (beq_iff_eq.mp M.fn) (codeAny_mono (F.run _ X.stack _ _ ⟨O.ref (s.heap.objs.size+1)::us,[]⟩ (O.ref (s.heap.objs.size+1)::(us++ds)) _ _ E (p.make C us [])
  (b.env0.make C us []) (i _ (O.ref (s.heap.objs.size+1)::us) b.kIn o) d c) λr s' a=>?_))
 cases r with
 |error e=>exact hx aA σ _ _ e s' b a
 |ok j=>
  cases j with
  |ret u=>obtain⟨v,H',m,g,n,l⟩:=b.after a;subst n;exact⟨g,⟨V.ref (s.heap.objs.size+1),H',m,Y,l⟩⟩
  |next=>exact False.elim a
  |brk=>exact False.elim a
  |cont=>exact False.elim a
theorem Xb(M:Mk X.K C f)(F:aN X.prog X.w X.K X.mg X.base CX k f fd ps sp)(i:aY (k+1) X.A)(b:Gl X x)(d:X.mg x=some (.ref C))(c:Binds X.K fd ps ds)(hd:aJ dvs ds)(g:Jf CX X E)
  (ha:PA X (e::es) t) (hdb:(x==("__debug__":Str))=false:=by decide) (he:GO (e::es) X.env=(false,eval e X.env)::GO es X.env:=by rfl) (hpl:(backTo pos (GO es X.env)).any (·.1)=false:=by rfl):
  PE X (.Call (.Name x p) (e::es) [] pos) (Wx C sp dvs E t):=by
 intro aA s σ H Q I h;refine G0 (Kr I b d ?_ hdb);refine CO (h₀:=X.base) I.ok.mod.kin M.kp (aW (ha pos aA s σ H _ I h) λl j ⟨vs,H1,a,r,q⟩=>⟨a.kIn,?_⟩) he hpl;exact Rj M F i c hd g a r q
theorem VI(M:Mk X.K C f)(F:aN X.prog X.w X.K X.mg X.base CX k f fd ps sp)(e:aY (k+1) X.A)(a:Gl X x)(c:X.mg x=some (.ref C))(b:Binds X.K fd ps ds)(hd:aJ dvs ds)(d:Jf CX X E)
  (hdb:(x==("__debug__":Str))=false:=by decide):PE X (.Call (.Name x p) [] [] pos) (Wx C sp dvs E JL):=by
 intro aA s σ H Q I h;refine G0 (Kr I a c ?_ hdb);exact Fp I.kIn M.kp (Rj (us:=[]) M F e b hd d I .nil h)
end
section
variable{X:Cx}{CX:fT}{k:Nat}{f C:Z}{fd:GP}{ps ks:List Str}{sp:Sp}{E:XK}{x m:Str}{p pos apos kpos:Pos}{e o:GR}{es:List GR}{kws:List Keyword}{te ta:TE}{t tk:TA}{nm:Option Str}
structure kG(K:G5)(fd:GP)(ps ks:List Str)(g:List O->List O->List O)(gV:List V->List V->List V):Prop where
 to:∀(s:GF) (us ws:List O),K.In s.heap->(g us ws).length=ps.length->BindsTo s fd ⟨us,ks.zip ws⟩ (ps.zip (g us ws))
 rel:∀{vs:List V} {us:List O} {zs:List V} {ws:List O},aJ vs us->aJ zs ws->aJ (gV vs zs) (g us ws)
variable{g:List O->List O->List O}{gV:List V->List V->List V}
end
structure aH(N P:List Str)(sc:Scope):Prop where
 kind:sc.kind=.function
 co:sc.isCoroutine=false
 gen:sc.isGenerator=false
 nd:N.Nodup
 pre:N.take P.length=P
 par:∀x∈P,sc.names.lookup x=some .local\/sc.names.lookup x=some .cell
 nofree:∀y∈sc.names,y.2≠.free
theorem HZ{N P:List Str}{h:Scope}(a:h.kind=.function:=by rfl)(b:h.isCoroutine=false:=by rfl)(c:h.isGenerator=false:=by rfl)(d:N.Nodup:=by decide)(e:N.take P.length=P:=by rfl)(f:∀x∈P,h.names.lookup x=some .local\/h.names.lookup x=some .cell:=by decide)(g:∀y∈h.names,y.2≠.free:=by decide):aH N P h:=⟨a,b,c,d,e,f,g⟩
theorem O3{kindOf:Str->Option GV}{x:Str}:∀{binds:List (Str×O)} {m:Str->Option O},(∀v,(x,v)∉binds)->bindL kindOf binds m x=m x
 |[],_,_=>rfl
 |(n,v)::r,m,h=>by
  unfold bindL;rw[O3 λw a=>h w (Aw _ a)];split
  ·have:x≠n:=by rintro rfl;exact h v AH
   simp[this]
  ·rfl
theorem Oz{kindOf:Str->Option GV}{x:Str}:∀{binds:List (Str×O)} {m:Str->Option O},(∀v,(x,v)∉binds)->bindC kindOf binds m x=m x
 |[],_,_=>rfl
 |(n,v)::r,m,h=>by
  unfold bindC;rw[Oz λw a=>h w (Aw _ a)];split
  ·rfl
  ·have:x≠n:=by rintro rfl;exact h v AH
   simp[this]
theorem OI{kindOf:Str->Option GV}{x:Str}{v:O}:∀{P:List Str} {vs:List O} {i:Nat} {m:Str->Option O},P.Nodup->P[i]?=some x->vs[i]?=some v->kindOf x=some .local->
  bindL kindOf (P.zip vs) m x=some v
 |[],_,_,_,_,h,_,_=>by simp at h
 |_::_,[],_,_,_,_,h,_=>by simp at h
 |p::P,w::vs,0,m,nd,h1,h2,hk=>by simp at h1 h2;subst h1;subst h2;show bindL kindOf ((p,w)::P.zip vs) m p=_;unfold bindL;rw[O3 λv a=>(Cm.mp nd).1 (CQ a).1,G7 hk];simp
 |p::P,w::vs,i+1,m,nd,h1,h2,hk=>by show bindL kindOf ((p,w)::P.zip vs) m x=_;unfold bindL;exact OI (i:=i) (Cm.mp nd).2 (by simpa using h1) (by simpa using h2) hk
theorem OO{kindOf:Str->Option GV}{x:Str}{v:O}:∀{P:List Str} {vs:List O} {i:Nat} {m:Str->Option O},P.Nodup->P[i]?=some x->vs[i]?=some v->kindOf x≠some .local->
  bindC kindOf (P.zip vs) m x=some v
 |[],_,_,_,_,h,_,_=>by simp at h
 |_::_,[],_,_,_,_,h,_=>by simp at h
 |p::P,w::vs,0,m,nd,h1,h2,hk=>by simp at h1 h2;subst h1;subst h2;show bindC kindOf ((p,w)::P.zip vs) m p=_;unfold bindC;rw[Oz λv a=>(Cm.mp nd).1 (CQ a).1,G6 hk];simp
 |p::P,w::vs,i+1,m,nd,h1,h2,hk=>by show bindC kindOf ((p,w)::P.zip vs) m x=_;unfold bindC;exact OO (i:=i) (Cm.mp nd).2 (by simpa using h1) (by simpa using h2) hk
def start(N:List Str)(vs:List V):St:=vs.map some++Ar (N.length-vs.length) none
def HS(CX:fT)(P:GJ)(w:GQ)(K:G5)(mg:Str->Option O)(base:Heap)(N:List Str)(qual:Str)(scope:Scope)(f:Z)(cd:O)(A:GS)(outer:List Env)(s:GF)(H:Hp)(E:XK):Cx where
 prog:=P
 w:=w
 K:=K
 mg:=mg
 base:=base
 A:=A.deeper (envOfC qual scope s.heap.objs.size f cd)
 N:=N
 s_0:=s
 H_0:=H
 env:=envOfC qual scope s.heap.objs.size f cd
 outer:=outer
 stack:=envOfC qual scope s.heap.objs.size f cd::outer
 ex:=[]
 calm:=true
 fn:=λ_=>true
 pn:=[]
 xe:=λe s'=>GL (model P w) (A.deeper (envOfC qual scope s.heap.objs.size f cd)) (leaving (envOfC qual scope s.heap.objs.size f cd) e) (λ_ s''=>CX outer H s E e s'') (λe' s''=>CX outer H s E e' s'') s'
theorem L0{a:Scope}{n:Nat}{x:Str}(h:a.names.lookup x=some .cell):∃c,(GY n a.names []).lookup x=some c:=by have q:=D5 a.names n [] (.inl h);exact Dt.mp q
theorem OM{CX:fT}{P:GJ}{w:GQ}{K:G5}{mg:Str->Option O}{base:Heap}{N ps:List Str}{qual:Str}{scope:Scope}{f:Z}{cd:O}{A:GS}{outer:List Env}{s s1:GF}{H:Hp}{E:XK}{us:List O}{vs:List V}
  (S:aH N ps scope) (hd:A.handled=none) (e0:dE P w K mg base A outer s H) (hl:vs.length=ps.length) (r:aJ vs us)
  (x:InCallC s s.heap.objs.size (bindL (envOfC qual scope s.heap.objs.size f cd).kindOf (ps.zip us) λ_=>none) (GY (s.heap.objs.size+1) scope.names []) (bindC (envOfC qual scope s.heap.objs.size f cd).kindOf (ps.zip us) λ_=>none) s1):
  Inv (HS CX P w K mg base N qual scope f cd A outer s H E) [] (start N vs) H s1:=by
 have C:ps.length<=N.length:=by have:=congrArg DK S.pre;rw[AJ] at this;lia
 obtain⟨h1,tk,rfl,m⟩:=x.done;have j:∀b:Z,b∉(HS CX P w K mg base N qual scope f cd A outer s H E).ex:=λb z=>absurd (show b∈([]:List Z) from z) (by simp);refine⟨⟨e0.mod,S.kind,Y,Y,Ag _,λy z c h1 h2=>?_,λy d=>?_,λy c _ h=>?_,λ_=>hd,GS.frames_deeper e0.frames,.inr ⟨Y,Y⟩,λb z=>absurd z (j b),e0.bs,e0.bsz,λb _ _=>j b,λb z=>absurd z (j b),e0.funs,e0.frf⟩,rfl,e0.bare,Un.kept m,zA x.toInCall.ns (λi y v h1 h2 D=>?_),λy c h=>⟨_,x.cell y c h⟩,e0.hok.fresh (Ag _),λy c h=>?_,λp g=>absurd (show p∈([]:List (Z×Obj)) from g) (by simp),e0.hok.kept m,?_⟩
 ·exact name_of_addr x.apart (PySem.mem_of_lookup h1) (PySem.mem_of_lookup h2)
 ·have d:scope.names.lookup y=some .cell\/scope.names.lookup y=some .free:=d;rcases d with d | d
  ·exact L0 d
  ·exact absurd rfl (S.nofree _ (PySem.mem_of_lookup d))
 ·exact Cj (x.above y c (PySem.mem_of_lookup h))
 ·have hi:i<vs.length:=by
   unfold start at h2;by_cases hi:i<vs.length
   ·exact hi
   ·rw[Ax (by simpa using hi)] at h2;rw[Ea] at h2;split at h2 <;> cases h2
  have t:vs[i]?=some v:=by
   unfold start at h2;rw[AC (by simpa using hi),Ah] at h2;cases e:vs[i]? with
   |none=>rw[e] at h2;cases h2
   |some a=>rw[e] at h2;cases h2;rfl
  obtain⟨u,o,B⟩:=r.get t;have g:ps[i]?=some y:=by rwa [<-S.pre,Ff (by lia)]
  have l:ps.Nodup:=by rw[<-S.pre];exact S.nd.sublist (Gd _ _)
  refine⟨u,B,?_⟩;rcases S.par y (AX g) with k | k
  ·exact .inl ⟨k,OI l g o k⟩
  ·obtain⟨c,e⟩:=L0 (n:=s.heap.objs.size+1) k;refine .inr ⟨.inl k,c,e,?_⟩;have q:=x.cell y c e
   rwa [OO l g o (by show scope.names.lookup y≠_;rw[k];decide)] at q
 ·exact e0.hok.fresh (Cj (x.above y c (PySem.mem_of_lookup h)))
 ·unfold start;show _=N.length;rw[Ad,Ab,AS]
  lia
theorem U3{CX:fT}{P:GJ}{w:GQ}{K:G5}{mg:Str->Option O}{base:Heap}{k:Nat}{f:Z}{name qual:Str}{C:Arguments}{body:List GU}{scope:Scope}{i kV D p a l M:O}{j od:Option Z}
  {osl:Array (Option O)} {N ps:List Str} {sp:Sp} (lk:K.lookup f=some ⟨M,od,.func (A7 name qual C body scope i kV D p j a l),osl⟩) (hcd:Br K a qual=true) (S:aH N ps scope)
  (len:∀vs H Q E,sp vs H Q E->vs.length=ps.length)
  (hbody:∀(A:GS) (outer:List Env) (s:GF) (H:Hp) (vs:List V) (Q:VK) (E:XK),aY k (A.deeper (envOfC qual scope s.heap.objs.size f a))->sp vs H Q E->
   ∃t,eQ (HS CX P w K mg base N qual scope f a A outer s H E) body t/\t { nx:=λ_ H'=>Q .non H',rt:=Q } (start N vs) H):
  aN P w K mg base CX (k+1) f (A7 name qual C body scope i kV D p j a l) ps sp:=by
 refine⟨len,λA outer s H aa d6 vs Q E h c G r m=>?_⟩;have X:=len _ _ _ _ m;have B:K.In s.heap:=c.mod.kin.keeps λb o e=>(c.bs b o e).1;have d8:s.heap.NoLimit:=c.mod.nolimit.keeps λb o e=>(c.bs b o e).1;have d7:∀y∈ps.zip d6,scope.names.lookup y.1=some .local\/(scope.names.lookup y.1=some .cell/\((GY (s.heap.objs.size+1) scope.names []).lookup y.1).isSome=true):=λ⟨n,v⟩ W=>by
  rcases S.par n (CQ W).1 with q | q
  ·exact .inl q
  ·exact .inr ⟨q,D5 _ _ _ (.inl q)⟩
 refine codeAny_call_function h.depth (B _ _ lk) rfl S.co S.gen rfl (Fx B hcd) (G _ _ _ _ ?_);refine wpAny_newFunctionEnv_cells S.kind d7 λenv T z x=>?_;subst T;refine⟨d8.keeps x.toInCall.keep,codeAny_func ?_⟩;obtain⟨t,R,U⟩:=hbody A outer s H vs Q E (h.deeper _) m;have I:Inv (HS CX P w K mg base N qual scope f a A outer s H E) [] (start N vs) H z:=OM S h.hd c X r x;refine GX (R [] z (start N vs) H _ I U) (λL s' hs=>?_) λe s' hs=>hs;have F:∀{d:St} {H':Hp} {v:V} {u:O},Inv (HS CX P w K mg base N qual scope f a A outer s H E) [] d H' s'->RelV v u->Q v H'->CE outer P w H s Q u s':=λ{d H' v u} d9 g q=>⟨v,H',d9.os,d9.bare,d9.base,d9.hok,g,q⟩
 cases L with
 |ret u=>obtain⟨v,d,H',d9,g,q⟩:=hs;exact F d9 g q
 |next=>obtain⟨d,H',d9,q⟩:=hs;exact F (v:=V.non) (u:=O.none) d9 rfl q
 |brk=>obtain⟨_,_,_,q⟩:=hs;exact False.elim q
 |cont=>obtain⟨_,_,_,q⟩:=hs;exact False.elim q
variable{X:Cx}{x:Str}{p pos:Pos}{e:GR}{es:List GR}{t:TA}{id T:String}{r:List V->Hp->VK->Prop}
def lZ(r:List V->Hp->VK->Prop)(t:TA):TE:=λσ H Q=>t σ H λvs H1=>r vs H1 Q
theorem HE(m:JD X (.builtin id) r)(b:Gl X x)(d:X.mg x=none)(c:G3 x=some (.builtin id))(a:PA X (e::es) t)(hn:x≠"__name__":=by decide)(j:(x==("__debug__":Str))=false:=by decide)
  (he:GO (e::es) X.env=(false,eval e X.env)::GO es X.env:=by rfl) (hpl:(backTo pos (GO es X.env)).any (·.1)=false:=by rfl):PE X (.Call (.Name x p) (e::es) [] pos) (lZ r t):=by
 intro aA s σ H Q I h;refine G0 (KW I b d c ?_ hn j);exact PyProof.Rows.callWith_builtin1 (aW (a pos aA s σ H _ I h) λi g qQ=>by obtain⟨vs,H1,k,l,f⟩:=qQ;exact m aA g σ H1 vs i Q k l f) he hpl
theorem Ll(m:JD X (.type T) r)(b:Gl X x)(d:X.mg x=none)(c:G3 x=some (.type T))(a:PA X (e::es) t)(hn:x≠"__name__":=by decide)(j:(x==("__debug__":Str))=false:=by decide)
  (he:GO (e::es) X.env=(false,eval e X.env)::GO es X.env:=by rfl) (hpl:(backTo pos (GO es X.env)).any (·.1)=false:=by rfl):PE X (.Call (.Name x p) (e::es) [] pos) (lZ r t):=by
 intro aA s σ H Q I h;refine G0 (KW I b d c ?_ hn j);exact Bw (aW (a pos aA s σ H _ I h) λi g qQ=>by obtain⟨vs,H1,k,l,f⟩:=qQ;exact m aA g σ H1 vs i Q k l f) he hpl
end L2
local macro_rules|`(command|def $n:declId $s:optDeclSig $v:declVal)=>`(command|noncomputable def $n:declId $s:optDeclSig $v:declVal)
local macro_rules|`(command|abbrev $n:declId $s:optDeclSig $v:declVal)=>`(command|noncomputable abbrev $n:declId $s:optDeclSig $v:declVal)
namespace HT
def KC:List Int->List Int->Bool
 |[],[]=>false
 |[],_::_=>true
 |_::_,[]=>false
 |x::xs,y::ys=>if x=y then KC xs ys else decide (x<y)
theorem Sj(x y:Int)(xs ys:List Int):KC (x::xs) (y::ys)=if x=y then KC xs ys else decide (x<y):=rfl
theorem Ow:KC [] []=false:=rfl
theorem NV(y:Int)(ys:List Int):KC [] (y::ys)=true:=rfl
theorem NE(x:Int)(xs:List Int):KC (x::xs) []=false:=rfl
theorem Vs(A:GS)(s:GF)(a:Int)(t:Tok)(c:Int)(u:Tok):∃e,SeqAt.EqAt A s (.int a t) (.int c u) e/\(e=true↔a=c):=⟨(a==c),SeqAt.EqAt.int_int a t c u,by simp⟩
theorem WI(A:GS)(s:GF)(a:Int)(t:Tok)(c:Int)(u:Tok)(prog:GJ)(w:GQ)(E:O->GF->Prop)(Q:O->GF->Prop)(h:Q (.bool (decide (a<c))) s):
  GL (model prog w) A (richCompare .Lt (.int a t) (.int c u)) Q E s:=
 (PyProof.Rows.lt_int h:GL (model prog w) A (compareOp .Lt (.int a t) (.int c u)) Q E s)
section
open PySem.SeqAt
open PySem.AutoSeq1 (wpAny_loadPart')
open PySem.MeetsSeq PySem.MeetsSeq2 PySem.MeetsSeq3
theorem Os(l b:Z)(items k:Array O)(n n2:Nat)(dd P:Option Z)(sl d8:Array (Option O))(ns v:List Int)(hi:IntsAre items.toList ns)(D:IntsAre k.toList v):
  Meets (Builtin.«tuple.__lt__» ⟨[.ref l,.ref b],[]⟩)
   (λ_ R s=>s.heap.get? l=some { cls:=.type "tuple",dict:=dd,data:=.seq items n,slots:=sl }/\s.heap.get? b=some { cls:=.type "tuple",dict:=P,data:=.seq k n2,slots:=d8 } ∧
    R (.ok (.ret (.bool (KC ns v)))) s):=
 .of_wp λprog w A R s h=>by
  obtain⟨p,g,d,tk,os⟩:=s;obtain⟨S,G,h⟩:=h;have d6:=AutoSeq1.sub_tuple_tuple;have U:items.size=ns.length:=by rw[<-hi.length];simp
  have V:k.size=v.length:=by rw[<-D.length];simp
  wp_walk using wpAny_loadPart' S,wpAny_loadPart' G,wpAny_forIn_list _ (λrest b s'=>b.1=none/\s'=⟨p,g,d,tk,os⟩/\∃(vs z:List O) (m j:List Int),rest=vs.zip z ∧
   IntsAre vs m/\IntsAre z j/\m.length+k.size=j.length+items.size/\R (.ok (.ret (.bool (KC m j)))) ⟨p,g,d,tk,os⟩) _
  case turn=>
   rintro⟨y,x⟩ rest b s' ⟨B,rfl,vs,z,m,j,f,C,r,o,i⟩;cases C with
   |nil=>rw[List.zip_nil_left] at f;cases f
   |cons a t d9=>
    cases r with
    |nil=>rw[List.zip_nil_right] at f;cases f
    |cons c u M=>
     rw[Do] at f;injection f with H N;injection H with Q T;subst Q T;rw[Sj] at i;simp only[Af] at o;obtain⟨e,K,E⟩:=Vs A.in1 ⟨p,g,d,tk,os⟩ a t c u;refine GE (K prog w _ _ ?_);cases e with
     |true=>
      rw[G7 (E.mp rfl)] at i
      wp_walk
      exact⟨Y,Y,zH N d9 M (by lia) i⟩
     |false=>
      rw[G6 (λq=>absurd (E.mpr q) Ak)] at i;have I:=WI A.in1 ⟨p,g,d,tk,os⟩ a t c u prog w
      wp_walk using I
      exact⟨_,Y,by simpa using i⟩
  case fin=>
   rintro⟨W,X⟩ s' ⟨B,rfl,vs,z,m,j,f,C,r,o,i⟩;simp only at B;subst B;have F:KC m j=decide (items.size<k.size):=by
    cases C with
    |nil=>
     cases r with
     |nil=>simp only[Cn] at o;rw[Ow];exact(decide_eq_false (by lia)).symm
     |cons c u L=>simp only[Cn,Af] at o;rw[NV];exact(decide_eq_true (by lia)).symm
    |cons a t F=>
     cases r with
     |nil=>simp only[Cn,Af] at o;rw[NE];exact(decide_eq_false (by lia)).symm
     |cons c u L=>rw[Do] at f;cases f
   rw[F] at i
   wp_walk
   exact⟨_,Y,by simpa [Builtin.Tuple.tupleCompareSizes] using i⟩
  case h=>exact⟨Y,Y,zH Y hi D (by lia) h⟩
end
variable{prog:GJ}{w:GQ}{A:GS}{E:O->GF->Prop}{s:GF}
theorem fP{Q:O->GF->Prop}(j:IsTup s.heap l items)(g:IsTup s.heap b items2)(hi:IntsAre items.toList ns)(i:IntsAre items2.toList ms)
  (hu:A.units<cLine) (h:Q (.bool (KC ns ms)) s):GL (model prog w) A (compareOp .Lt (.ref l) (.ref b)) Q E s:=by
 obtain⟨⟨cls,dd,o,sl⟩,d,f,n,hd⟩:=id j;obtain⟨⟨p,m,data2,k⟩,c,a,n2,e⟩:=id g;simp only at f hd a e;subst f hd a e;exact richCompare_meets_room (op:=.Lt) ⟨_,d,Y⟩ ⟨_,c,Y⟩ PySem.F.slot_tuple_lt PySem.F.entry_tuple_lt (PySem.F.args_tuple_lt_2 _ _) (Os l b items items2 n n2 dd m sl k ns ms hi i)
  ⟨d,c,show O.bool (KC ns ms)≠O.notImplemented/\Q (.bool (KC ns ms)) s from ⟨(λx=>nomatch x),h⟩⟩ hu
theorem hW{Q:O->GF->Prop}(m:IsTup s.heap t vs.toArray)(l:IsTup s.heap b ws.toArray)(g:vs≠[])
  (h1:ws=[]->Q (.ref t) s) (h2:ws≠[]->Q (.ref s.heap.objs.size) { s with heap:=s.heap.push { cls:=.type "tuple",data:=.seq (vs++ws).toArray } })
  (hsz:vs.length+ws.length<=GI):GL (model prog w) A (binaryOp .Add (.ref t) (.ref b)) Q E s:=by
 obtain⟨⟨cls,dd,o,sl⟩,c,k,n,hd⟩:=id m;obtain⟨⟨p,j,data2,i⟩,a,f,n2,h⟩:=id l;simp only at k hd f h;subst k hd f h;have e:vs.toArray++ws.toArray=(vs++ws).toArray:=by simp
 by_cases d:ws=[]
 ·exact concat_meets ⟨_,c,Y⟩ ⟨_,a,Y⟩ noFill_tuple_add seq_tuple_add D6 Dz (Ds _ _)
   (tuple_addW1 t b vs.toArray ws.toArray n n2 dd j sl i (by simpa using g) (by simp[d])) ⟨c,a,h1 d⟩
 ·refine concat_meets ⟨_,c,Y⟩ ⟨_,a,Y⟩ noFill_tuple_add seq_tuple_add D6 Dz (Ds _ _)
   (tuple_addW2 t b vs.toArray ws.toArray n n2 dd j sl i (by simpa using g) (by simpa using d) (by rwa [Am,Am])) ⟨c,a,?_⟩
  rw[e];exact h2 d
def bN(n d:Nat):Option Int->Nat
 |none=>d
 |some v=>if v<0 then (v+(n:Int)).toNat else min v.toNat n
theorem fC(n d:Nat):bN n d none=d:=rfl
theorem fX(n d k:Nat):bN n d (some (k:Int))=min k n:=by show(if (k:Int)<0 then ((k:Int)+(n:Int)).toNat else min (k:Int).toNat n)=min k n;rw[G6 (by lia),C8]
theorem Z2(n d:Nat)(hd:d<=n)(o:Option Int):bN n d o<=n:=by
 cases o with
 |none=>exact hd
 |some v=>
  show(if v<0 then (v+(n:Int)).toNat else min v.toNat n)<=n;by_cases a:v<0
  ·rw[G7 a];lia
  ·rw[G6 a];exact Dc _ _
theorem Su(v:Int)(n d:Nat):(if v<0 then max (v+(n:Int)) 0 else min v (n:Int))=((bN n d (some v):Nat):Int):=by
 show(if v<0 then max (v+(n:Int)) 0 else min v (n:Int))=(((if v<0 then (v+(n:Int)).toNat else min v.toNat n):Nat):Int);by_cases a:v<0
 ·simp only[G7 a];lia
 ·simp only[G6 a];lia
theorem R0(lo hi:Option Int)(n:Nat):Builtin.Slice.sliceAdjust lo hi 1 (n:Int)=(((bN n 0 lo:Nat):Int),((bN n n hi:Nat):Int)):=by
 have h1:¬((1:Int)<0):=by lia
 unfold Builtin.Slice.sliceAdjust;simp only[h1,if_false];refine Prod.ext ?_ ?_
 ·cases lo with
  |none=>rfl
  |some v=>exact Su v n 0
 ·cases hi with
  |none=>rfl
  |some v=>exact Su v n n
theorem Sb(i j:Nat):Builtin.Slice.slicePlaces (i:Int) (j:Int) 1=j-i:=by
 unfold Builtin.Slice.slicePlaces;have h1:(1:Int) > 0:=by lia
 simp only[h1,if_true,Int.ediv_one];split <;> lia
theorem Nz{Q:Option Int->GF->Prop}(p:IsPart v o)(h:Q o s):GL (model prog w) A (Builtin.Slice.slicePartIndex v) Q E s:=by
 cases p with
 |none=>exact slicePart_none h
 |int i t=>exact slicePart_int h
theorem ME{sl:Z}{b a:O}{lo hi:Option Int}{n:Nat}{Q:Int×Int×Nat->GF->Prop}(hs:s.heap.IsSliceOf sl b a .none)(pl:IsPart b lo)(e:IsPart a hi)
  (h:Q (((bN n 0 lo:Nat):Int),1,bN n n hi-bN n 0 lo) s):GL (model prog w) A (Builtin.Slice.sliceApplied (.ref sl) (pure (n:Int))) Q E s:=by
 obtain⟨os,d,f,c⟩:=id hs;unfold Builtin.Slice.sliceApplied Builtin.Slice.sliceFields;refine GE (GE (GT d c (x:=b) rfl (GE (GT d c (x:=a) rfl (GE (GT d c (x:=.none) rfl (GK ?_)))))));refine GE (slicePart_none ?_);show GL _ _ (if ((1:Int)==0)=true then _ else _) _ _ s;rw[G6 (by decide)];refine GE (Nz pl (GE (Nz e (GE (GK ?_)))));show GL _ _ (match Builtin.Slice.sliceAdjust lo hi 1 (n:Int) with | (lo,hi)=>pure (lo,(1:Int),Builtin.Slice.slicePlaces lo hi 1)) _ _ s;rw[R0 lo hi n];show GL _ _ (pure (((bN n 0 lo:Nat):Int),(1:Int),Builtin.Slice.slicePlaces ((bN n 0 lo:Nat):Int) ((bN n n hi:Nat):Int) 1)) _ _ s;rw[Sb];exact GK h
theorem VL(xs:Array O)(i k:Nat):((Ay k).filterMap λ(m:Nat)=>xs[((i:Int)+(m:Int)*1).toNat]?).toArray=((xs.toList.drop i).take k).toArray:=by
 have e:(λ(m:Nat)=>xs[((i:Int)+(m:Int)*1).toNat]?)=λm=>xs[i+m]?:=by
  funext m;have:((i:Int)+(m:Int)*1).toNat=i+m:=by lia
  rw[this]
 rw[e];have:=pick_run xs i k;rw[List.filterMap_map] at this;have a:((λx=>xs[x]?) ∘ λx=>i+x)=λm=>xs[i+m]?:=rfl;rw[a] at this;rw[this]
theorem dA{t sl:Z}{items:Array O}{d c:O}{lo hi:Option Int}{Q:O->GF->Prop}(a:IsTup s.heap t items)(hs:s.heap.IsSliceOf sl d c .none)(pl:IsPart d lo)(e:IsPart c hi)
  (hw:¬(bN items.size 0 lo=0/\bN items.size items.size hi=items.size))
  (h:Q (.ref s.heap.objs.size) { s with heap:=s.heap.push { cls:=.type "tuple",data:=.seq ((items.toList.drop (bN items.size 0 lo)).take (bN items.size items.size hi-bN items.size 0 lo)).toArray } })
  (hsz:items.size<=GI):GL (model prog w) A (getItem (.ref t) (.ref sl)) Q E s:=by
 have b:sizeOk (.seq ((items.toList.drop (bN items.size 0 lo)).take (bN items.size items.size hi-bN items.size 0 lo)).toArray):=by
  show((items.toList.drop (bN items.size 0 lo)).take (bN items.size items.size hi-bN items.size 0 lo)).toArray.size<=GI;rw[Am,AJ,AK,Be]
  lia
 have k:bN items.size items.size hi<=items.size:=Z2 _ _ (Ag _) hi;obtain⟨os,f,g,o⟩:=id hs;have j:s.TypeIs (.ref sl) "slice":=⟨os,f,g⟩;unfold getItem
 try with_reducible refine wpAny_holding ?_
 first | refine GE (GK ?_) | skip
 refine GE (wpAny_sequenceKey a.typeIs (by decide) ?_);refine GE (wpAny_callSpecial?_slot (name:=Str.ofString "__getitem__") a.typeIs CP
  (wpAny_call_entry CP a.typeIs entry_tuple_getitem ?_ (args_tuple_getitem _ _)))
 show GL _ _ (Builtin.Tuple.tupleItemsOf (.ref t) >>= _) _ _ s;refine GE (tupleItemsOf_ a ?_);refine GE (wpAny_typeOf j ?_);rw[G7 (by decide)];refine GE (ME hs pl e ?_);have i:¬((((bN items.size 0 lo:Nat):Int)==0&&(1:Int)==1&&(bN items.size items.size hi-bN items.size 0 lo)==items.size)=true):=by intro q;rw[AB,AB] at q;have n:((bN items.size 0 lo:Nat):Int)=0:=eq_of_beq q.1.1;have l:bN items.size items.size hi-bN items.size 0 lo=items.size:=eq_of_beq q.2;exact hw ⟨by lia,by lia⟩
 show GL _ _ (if (((bN items.size 0 lo:Nat):Int)==0&&(1:Int)==1&&(bN items.size items.size hi-bN items.size 0 lo)==items.size)=true then _ else _) _ _ s;rw[G6 i,VL]
 first
  |exact GE (m:=Builtin.Tuple.tupleExact _) (G2 (GK (zA rfl (GK h))) b)
  |exact GE (m:=Builtin.Tuple.tupleExact _) (G2 (GE (GK (GK ⟨_,rfl,GK h⟩))) b)
  |exact GE (GE (m:=Builtin.Tuple.tupleExact _) (G2 (GK (GK ⟨_,rfl,GK h⟩)) b))
  |exact GE (GE (m:=Builtin.Tuple.tupleExact _) (G2 (GK ⟨_,rfl,GK h⟩) b))
end HT
namespace L2
abbrev TO:=St->Hp->(Option Int->Hp->Prop)->Prop
def PO(X:Cx)(e:Option GR)(t:TO):Prop:=
 ∀(aA:List (Z×Obj)) (s:GF) (σ:St) (H:Hp) (Q:Option Int->Hp->Prop),Inv X aA σ H s->t σ H Q->
  GL (model X.prog X.w) X.A (evalPart e X.env) (λu s'=>∃o H',Inv X aA σ H' s'/\IsPart u o/\Q o H') X.xe s
def XH:TO:=λ_ H Q=>Q none H
def qY(t:TE):TO:=λσ H Q=>t σ H λx H1=>∃i,x=.int i/\Q (some i) H1
theorem Nv:∀{us:List O},aJ (ns.map V.int) us->IntsAre us ns:=by
 induction ns with
 |nil=>intro us r;rw[Dj] at r;cases r;exact .nil
 |cons n ns b=>
  intro us r;rw[An] at r;cases r with
  |cons a c=>obtain⟨t,e⟩:=a;subst e;exact .cons n t (b c)
section
variable{X:Cx}{e:GR}{te:TE}{lo hi:Option GR}{tl th:TO}{pos p2:Pos}
theorem Nk:PO X none XH:=by intro aA s σ H Q I h;rw[evalPart_none];exact GK ⟨none,H,I,.none,h⟩
theorem No(h:PE X e te):PO X (some e) (qY te):=by intro aA s σ H Q I a;rw[evalPart_some];refine aW (h aA s σ H _ I a) λu f qQ=>?_;obtain⟨x,H1,c,d,b⟩:=qQ;obtain⟨i,rfl,q⟩:=b;obtain⟨t,rfl⟩:=d;exact⟨some i,H1,c,.int i t,q⟩
def iH(X:Cx)(r:V->Option Int->Option Int->Hp->VK->Prop):Prop:=
 ∀(aA:List (Z×Obj)) (s:GF) (σ:St) (H:Hp) (x:V) (v b a:O) (lo hi:Option Int) (sl:Z) (Q:VK),Inv X aA σ H s->RelV x v->s.heap.IsSliceOf sl b a .none->IsPart b lo->IsPart a hi->r x lo hi H Q->
  ∃T id,typeLookup (.type T) "__getitem__"=pure (some (.builtin id))/\s.TypeIs v T/\GL (model X.prog X.w) X.A (getItem v (.ref sl)) (EP X aA σ Q) X.xe s
theorem iH.or{r e:V->Option Int->Option Int->Hp->VK->Prop}(h:iH X r)(h':iH X e):iH X (λx lo hi H Q=>r x lo hi H Q\/e x lo hi H Q):=by
 intro aA s σ H x v c a lo hi sl Q I b hs pl d q;rcases q with q | q
 ·exact h aA s σ H x v c a lo hi sl Q I b hs pl d q
 ·exact h' aA s σ H x v c a lo hi sl Q I b hs pl d q
def pK(r:V->Option Int->Option Int->Hp->VK->Prop)(te:TE)(tl th:TO):TE:=λσ H Q=>te σ H λx H1=>tl σ H1 λl H2=>th σ H2 λu a=>r x l u a Q
theorem L3{r:V->Option Int->Option Int->Hp->VK->Prop}(F:iH X r)(m:PE X e te)(w:PO X lo tl)(D:PO X hi th):PE X (.Subscript e (.Slice lo hi none p2) pos) (pK r te tl th):=by intro aA s σ H Q I h;refine Subscript_ (aW (m aA s σ H _ I h) λv o qQ=>?_);obtain⟨x,H1,y,E,n⟩:=qQ;refine wpAny_Slice (aW (w aA o σ H1 _ y n) λc i ⟨l,H2,B,pl,p⟩=>aW (D aA i σ H2 _ B p) λd a qQ=>?_);obtain⟨u,f,A,C,j⟩:=qQ;rw[evalPart_none];refine GK ?_;have t:Inv X aA σ f { a with heap:=a.heap.push { cls:=.type "slice",data:=.fields #[c,d,.none] } }:=A.kept (t':=a.toks) λb G q=>Ac _ q;obtain⟨T,id,z,k,g⟩:=F aA { a with heap:=a.heap.push { cls:=.type "slice",data:=.fields #[c,d,.none] } } σ f x v c d l u a.heap.objs.size Q t E (Heap.IsSliceOf.new ..) pl C j;show GL (model X.prog X.w) X.A (subscriptTail e (.Slice lo hi none p2) v (.ref a.heap.objs.size)) (EP X aA σ Q) X.xe { a with heap:=a.heap.push { cls:=.type "slice",data:=.fields #[c,d,.none] } };exact tail_any (ops:=[.ref a.heap.objs.size,v]) k z g (by with_unfolding_all rfl)
def Q1(xs:List V)(lo hi:Option Int):List V:=(xs.drop (HT.bN xs.length 0 lo)).take (HT.bN xs.length xs.length hi-HT.bN xs.length 0 lo)
theorem MP(xs:List V)(lo hi:Option Int):(Q1 xs lo hi).length<=xs.length:=by
 unfold Q1;rw[AJ,AK]
 lia
def kR(K:G5):V->Option Int->Option Int->Hp->VK->Prop:=λx lo hi H Q=>∃a xs,x=.ref a/\aQ K H a xs ∧
 ¬(HT.bN xs.length 0 lo=0/\HT.bN xs.length xs.length hi=xs.length)/\∀p,H p=none->Q (.ref p) (aK H p (.tup (Q1 xs lo hi)))
theorem Qi:iH X (kR X.K):=by
 intro aA s σ H x v k j lo hi sl Q I e hs pl g h;obtain⟨a,xs,rfl,i,m,q⟩:=h;cases e;obtain⟨aD,r,d,f⟩:=I.tuple i;have c:aD.toArray.size=xs.length:=by rw[Am];exact r.length.symm
 refine⟨"tuple",_,CP.lookup,d.typeIs,?_⟩;refine HT.dA d hs pl g (by rwa [c]) ?_ (by rwa [c]);rw[c];refine zR (.ref s.heap.objs.size) _ (I.laid (t':=s.toks) (o:=.tup (Q1 xs lo hi)) (λb l q=>Ac _ q) (Ag _) ?_) Y (q _ (I.hok.fresh (Ag _)));exact⟨⟨AE (MP xs lo hi) f,Jx rfl⟩,_,(r.drop (HT.bN xs.length 0 lo)).take (HT.bN xs.length xs.length hi-HT.bN xs.length 0 lo),IsTup.new _ _⟩
def rF(K:G5):R2:=λx y H Q=>∃a b xs ys,x=.ref a/\y=.ref b/\aQ K H a xs/\aQ K H b ys/\xs≠[]/\xs.length+ys.length<=GI ∧
 (ys=[]->Q (.ref a) H)/\(ys≠[]->∀p,H p=none->Q (.ref p) (aK H p (.tup (xs++ys))))
theorem aJ.nil_iff(r:aJ xs us):us=[]↔xs=[]:=by
 cases r with
 |nil=>simp
 |cons _ _=>simp
theorem PJ:dC X (binaryOp .Add) (rF X.K):=by intro aA s σ H x y v u Q I i j h;obtain⟨a,b,xs,ys,rfl,rfl,e,f,m,p,k,l⟩:=h;cases i;cases j;obtain⟨aD,d,g,_⟩:=I.tuple e;obtain⟨n,c,p2,_⟩:=I.tuple f;refine HT.hW g p2 (λz=>m (d.nil_iff.mp z)) (λz=>⟨.ref a,H,I,Y,k (c.nil_iff.mp z)⟩) (λz=>?_) (by rwa [<-d.length,<-c.length]);refine⟨.ref s.heap.objs.size,_,I.laid (t':=s.toks) (o:=.tup (xs++ys)) (λb r q=>Ac _ q) (Ag _) ?_,Y,l (λw=>z (c.nil_iff.mpr w)) _ (I.hok.fresh (Ag _))⟩;exact⟨⟨by rwa [Ad],Jx rfl⟩,_,d.append c,IsTup.new _ _⟩
end
def gF(n:Nat)(i:Int):Option Nat:=if 0<=i then (if i<n then some i.toNat else none) else if -(n:Int)<=i then some (i+n).toNat else none
def gE{a:Type}(xs:List a)(i:Int):Option a:=(gF xs.length i).bind λj=>xs[j]?
theorem S0(h:gF n i=some j):seqIndex? i n=some j/\j<n/\-(n:Int)<=i/\i<n:=by
 unfold gF at h;by_cases a:0<=i
 ·rw[G7 a] at h;by_cases h1:i<n
  ·rw[G7 h1] at h;have e:i.toNat=j:=Option.some.inj h;exact⟨by rw[seqIndex_of a h1,e],by lia,by lia,h1⟩
  ·rw[G6 h1] at h;cases h
 ·rw[G6 a] at h;by_cases h1:-(n:Int)<=i
  ·rw[G7 h1] at h;have e:(i+n).toNat=j:=Option.some.inj h;exact⟨by rw[seqIndex_neg (by lia) h1,e],by lia,h1,by lia⟩
  ·rw[G6 h1] at h;cases h
theorem P4{a:Type}{xs:List a}{v:a}(h:gE xs i=some v):∃j,seqIndex? i xs.length=some j/\xs[j]?=some v/\j<xs.length/\-(xs.length:Int)<=i/\i<xs.length:=by
 unfold gE at h;cases e:gF xs.length i with
 |none=>rw[e] at h;cases h
 |some j=>rw[e] at h;obtain⟨h1,h2,c,b⟩:=S0 e;exact⟨j,h1,h,h2,c,b⟩
theorem Mm{a:Type}{xs:List a}{j:Nat}{v:a}(h:xs[j]?=some v):gE xs (j:Int)=some v:=by
 have b:j<xs.length:=(Al.mp h).1;have e:gF xs.length (j:Int)=some j:=by unfold gF;rw[G7 (by lia),G7 (by lia)];simp
 unfold gE;rwa [e]
theorem Ww{a:Type}(xs:List a)(v:a):gE (xs++[v]) (-1)=some v:=by
 have b:(xs++[v]).length=xs.length+1:=by simp
 have e:gF (xs++[v]).length (-1)=some xs.length:=by
  unfold gF;rw[b,G6 (by decide),G7 (by lia)];congr 1
  lia
 unfold gE;rw[e];show(xs++[v])[xs.length]?=some v;simp
def Yt(b:GR):Prop:=∀o i,subscripted b false o i=operate [o,i] (getItem o i)
def gW(X:Cx)(r:R2):Prop:=
 ∀(value a:GR) (aA:List (Z×Obj)) (s:GF) (σ:St) (H:Hp) (x y:V) (v u:O) (Q:VK),Inv X aA σ H s->RelV x v->RelV y u->r x y H Q->
  subscripted a false v u=operate [v,u] (getItem v u)->GL (model X.prog X.w) X.A (subscriptTail value a v u) (EP X aA σ Q) X.xe s
def lN(X:Cx)(id:String)(r:V->List V->Hp->VK->Prop):Prop:=
 ∀(aA:List (Z×Obj)) (s:GF) (σ:St) (H:Hp) (x:V) (xs:List V) (v:O) (a:List O) (Q:VK),Inv X aA σ H s->RelV x v->aJ xs a->r x xs H Q->
  GL (model X.prog X.w) X.A (call (.builtin id) (v::a)) (EP X aA σ Q) X.xe s
section
variable{X:Cx}{a b:GR}{ta tb:TE}{pos:Pos}
theorem gW.or(h:gW X r)(h':gW X r'):gW X (λx y H Q=>r x y H Q\/r' x y H Q):=by
 intro value c aA s σ H x y v u Q I b a q hs;rcases q with q | q
 ·exact h value c aA s σ H x y v u Q I b a q hs
 ·exact h' value c aA s σ H x y v u Q I b a q hs
theorem IL(j:gW X r)(c:PE X a ta)(d:PE X b tb)(hs:Yt b):PE X (.Subscript a b pos) (dQ r ta tb):=by intro aA s σ H Q I h;exact Subscript_ (jZ c d I h λv u e x y H2 g f i q=>j a b aA e σ H2 x y v u Q g f i q (hs _ _))
def kW(K:G5):R2:=λx y H Q=>∃p xs i v,x=.ref p/\y=.int i/\aP K H p xs/\gE xs i=some v/\Q v H
def WU(K:G5):R2:=λx y H Q=>∃p xs i v,x=.ref p/\y=.int i/\aQ K H p xs/\gE xs i=some v/\Q v H
def lW:R2:=λx y H Q=>∃z i c,x=.str z/\y=.int i/\z.length<=GI/\gE z.cps.toList i=some c/\Q (.str ⟨#[c]⟩) H
theorem IR:gW X (kW X.K):=by
 intro value C aA s σ H x y v u Q I f k h hs;obtain⟨p,xs,i,z,rfl,rfl,e,g,q⟩:=h;cases f;obtain⟨t,rfl⟩:=k;obtain⟨aD,r,pl,A⟩:=I.list e;obtain⟨j,h1,h2,B,l,o⟩:=P4 g;obtain⟨w,c,n⟩:=r.get h2;have m:=r.length;have hn:=MA;have d:EP X aA σ Q w s:=⟨z,H,I,n,q⟩;by_cases b:0<=i
 ·have a:i.toNat=j:=by rw[seqIndex_of b o] at h1;exact Option.some.inj h1
  exact item_listR pl.isList b (by lia) (by rw[a];simpa using c) d hs
 ·have a:(i+(aD.toArray.size:Int)).toNat=j:=by rw[seqIndex_neg (by lia) l] at h1;rw[Am,<-m];exact Option.some.inj h1
  exact subscriptTail_builtinR (x:=w) pl.isList.typeIs slot_list_getitem.lookup
   (wpAny_getItem_list_neg (Q:=λr s'=>r=w/\EP X aA σ Q r s') pl.isList (by lia) (by rw[Am] <;> lia) (by lia) (by rw[a];simpa using c) ⟨Y,d⟩) hs
theorem JB:gW X (WU X.K):=by
 intro value o aA s σ H x y v u Q I c e h hs;obtain⟨p,xs,i,z,rfl,rfl,a,d,q⟩:=h;cases c;obtain⟨t,rfl⟩:=e;obtain⟨aD,r,pl,l⟩:=I.tuple a;obtain⟨j,h1,h2,n,m,A⟩:=P4 d;obtain⟨w,b,k⟩:=r.get h2;have g:=r.length;have hn:=MA;have f:EP X aA σ Q w s:=⟨z,H,I,k,q⟩;exact subscriptTail_builtinR (x:=w) pl.typeIs slot_tuple_getitem.lookup
  (getItem_tuple (j:=j) (Q:=λr s'=>r=w/\EP X aA σ Q r s') pl (by lia) (by lia) (by rwa [Am,<-g]) (by simpa using b) ⟨Y,f⟩) hs
theorem Zm:gW X lW:=by
 intro value o aA s σ H x y v u Q I a d h hs;obtain⟨z,i,c,rfl,rfl,m,b,q⟩:=h;obtain⟨t,rfl⟩:=a;obtain⟨l,rfl⟩:=d;obtain⟨j,h1,h2,n,e,k⟩:=P4 b;have f:z.cps.toList.length=z.length:=by simp[Str.length]
 rw[f] at h1 e k;have hn:=MA;exact tail_any (typeIs_str s z t) slot_str_getitem.lookup (getItem_str (c:=c) (by have e1:decide (i < -(2 ^ 63:Int))=false:=decide_eq_false (by lia);have g:decide (i ≥ 2 ^ 63)=false:=decide_eq_false (by lia);rw[e1,g,Fi]) (by rw[h1];simpa using h2) ⟨.str ⟨#[c]⟩,H,I.tok _,⟨_,Y⟩,q⟩) hs
def jX(K:G5):R2:=λx y H Q=>kW K x y H Q\/WU K x y H Q\/lW x y H Q
theorem Wh:gW X (jX X.K):=IR.or (JB.or Zm)
theorem RY(aD:List O)(n j:Nat)(u:O):Obj.mapSeq (·.setIfInBounds j u) { cls:=.type "list",data:=.seq aD.toArray n }={ cls:=.type "list",data:=.seq (aD.set j u).toArray n }:=by simp[Obj.mapSeq]
theorem Inv.lst(I:Inv X aA σ H s)(h:H p=some (.lst xs)):
  ∃(aD:List O) (n:Nat),aJ xs aD/\s.heap.get? p=some { cls:=.type "list",data:=.seq aD.toArray n }/\xs.length<=GI:=by
 obtain⟨z,aD,n,r,e⟩:=I.hok p _ h;exact⟨aD,n,r,e,z⟩
theorem Inv.lstUpd{aA:List (Z×Obj)}{σ:St}{H:Hp}{s:GF}{p:Z}{xs ys:List V}{aD its':List O}{n a:Nat}{f:Obj->Obj}(I:Inv X aA σ H s)(h:H p=some (.lst xs))
  (ho:s.heap.get? p=some { cls:=.type "list",data:=.seq aD.toArray n }) (hf:f { cls:=.type "list",data:=.seq aD.toArray n }={ cls:=.type "list",data:=.seq its'.toArray a }) (r:aJ ys its') (hz:ys.length<=GI) (t:Nat):
  Inv X aA σ (aK H p (.lst ys)) { s with heap:=s.heap.update p f,toks:=t }:=by
 have e:(s.heap.update p f).get? p=some { cls:=.type "list",data:=.seq its'.toArray a }:=by rw[BZ f ho (by rw[hf] <;> rfl),hf]
 refine I.write (x:=p) (e:=p) (by rw[h];trivial) (.inl rfl) (λb u c q=>(BE _ _ (Ne.symm c)).trans q) ⟨_,e⟩ ?_;exact⟨hz,its',a,r,e⟩
def rM:V->V->V->Hp->(Hp->Prop)->Prop:=λo i v H Q=>∃p xs k j,o=.ref p/\i=.int k/\H p=some (.lst xs)/\gF xs.length k=some j/\Q (aK H p (.lst (xs.set j v)))
theorem QT:lL X rM:=by
 intro aA s σ H o i v A z u Q I l w g h;obtain⟨p,xs,k,j,rfl,rfl,f,m,q⟩:=h;cases l;obtain⟨t,rfl⟩:=w;obtain⟨aD,n,r,c,B⟩:=I.lst f;obtain⟨h1,h2,y,x⟩:=S0 m;have b:=r.length;have hn:=MA;have e:Inv X aA σ (aK H p (.lst (xs.set j v))) { s with heap:=s.heap.update p (Obj.mapSeq (·.setIfInBounds j u)) }:=I.lstUpd f c (RY aD n j u) (r.set g j) (by rwa [Eh]) s.toks
 by_cases d:0<=k
 ·have a:k.toNat=j:=by rw[seqIndex_of d x] at h1;exact Option.some.inj h1
  exact PySem.W.ki_setAt c d (by lia) (by rwa [Am,<-b]) (by rw[a];exact⟨_,e,q⟩)
 ·have a:(k+(aD.toArray.size:Int)).toNat=j:=by rw[seqIndex_neg (by lia) y] at h1;rw[Am,<-b];exact Option.some.inj h1
  exact PySem.W.ki_setBack c (by lia) (by rwa [Am,<-b]) (by lia) (by rw[a];exact⟨_,e,q⟩)
theorem P8(lo hi:Option Int)(n:Nat):(sliceBounds lo hi none n).1=((HT.bN n 0 lo:Nat):Int)/\(sliceBounds lo hi none n).2.1=((HT.bN n n hi:Nat):Int)/\(sliceBounds lo hi none n).2.2=1:=by
 refine⟨?_,?_,Y⟩
 ·cases lo with
  |none=>simp[sliceBounds,HT.bN]
  |some i=>
   simp only[sliceBounds,HT.bN,FZ,show(1:Int) > 0 by decide,if_true];by_cases h:i<0
   ·simp only[h,if_true] <;> lia
   ·simp only[h,if_false] <;> lia
 ·cases hi with
  |none=>simp[sliceBounds,HT.bN]
  |some i=>
   simp only[sliceBounds,HT.bN,FZ,show(1:Int) > 0 by decide,if_true];by_cases h:i<0
   ·simp only[h,if_true] <;> lia
   ·simp only[h,if_false] <;> lia
theorem Ot(aD:List O)(lo hi:Option Int):slicePick aD.toArray lo hi none=((aD.drop (HT.bN aD.length 0 lo)).take (HT.bN aD.length aD.length hi-HT.bN aD.length 0 lo)).toArray:=by obtain⟨h1,h2,a⟩:=P8 lo hi aD.toArray.size;unfold slicePick;rw[h1,h2,a];simp only[sliceRange_one,pick_run,Am] <;> rfl
def lM(K:G5):V->Option Int->Option Int->Hp->VK->Prop:=λx lo hi H Q=>∃a xs,x=.ref a/\aP K H a xs/\∀p,H p=none->Q (.ref p) (aK H p (.lst (Q1 xs lo hi)))
theorem YD:iH X (lM X.K):=by
 intro aA s σ H x v k j lo hi sl Q I d hs pl f h;obtain⟨a,xs,rfl,i,q⟩:=h;cases d;obtain⟨aD,r,c,e⟩:=I.list i;have g:=r.length;refine⟨"list",_,slot_list_getitem.lookup,c.isList.typeIs,?_⟩;refine wpAny_getItem_list_slice c.isList hs pl f .none (by simp) ?_ (by rw[Am] <;> lia)
 rw[Ot,<-g];refine⟨.ref s.heap.objs.size,_,I.laid (t':=s.toks) (o:=.lst (Q1 xs lo hi)) (λb l q=>Ac _ q) (Ag _) ?_,Y,q _ (I.hok.fresh (Ag _))⟩;exact⟨AE (MP xs lo hi) e,_,0,(r.drop (HT.bN xs.length 0 lo)).take (HT.bN xs.length xs.length hi-HT.bN xs.length 0 lo),Ap _ rfl⟩
def Mi:V->Bool
 |.non=>true
 |.bl _=>true
 |.int _=>true
 |.str _=>true
 |_=>false
def gU:V->V->Bool
 |.non,.non=>true
 |.bl a,.bl b=>a==b
 |.bl a,.int b=>(if a then 1 else 0)==b
 |.int a,.bl b=>a==(if b then 1 else 0)
 |.int a,.int b=>a==b
 |.str a,.str b=>a==b
 |_,_=>false
theorem ZS(f:RelV y u)(c:RelV x v)(g:Mi y=true)(e:Mi x=true):SeqAt.EqAt A s u v (gU y x):=by
 cases y with
 |non=>
  cases f;cases x with
  |non=>cases c;exact SeqAt.EqAt.same _
  |bl b=>cases c;exact SeqAt.EqAt.none_bool b
  |int b=>obtain⟨t,rfl⟩:=c;exact SeqAt.EqAt.none_int b t
  |str b=>obtain⟨t,rfl⟩:=c;exact SeqAt.EqAt.none_str b t
  |_=>exact absurd (show false=true from e) Ak
 |bl a=>
  cases f;cases x with
  |non=>cases c;exact SeqAt.EqAt.bool_none a
  |bl b=>cases c;exact SeqAt.EqAt.bool_bool a b
  |int b=>obtain⟨t,rfl⟩:=c;exact SeqAt.EqAt.bool_int a b t
  |str b=>obtain⟨t,rfl⟩:=c;exact SeqAt.EqAt.bool_str a b t
  |_=>exact absurd (show false=true from e) Ak
 |int a=>
  obtain⟨d,rfl⟩:=f;cases x with
  |non=>cases c;exact SeqAt.EqAt.int_none a d
  |bl b=>cases c;exact SeqAt.EqAt.int_bool a d b
  |int b=>obtain⟨t,rfl⟩:=c;exact SeqAt.EqAt.int_int a d b t
  |str b=>obtain⟨t,rfl⟩:=c;exact SeqAt.EqAt.int_str a d b t
  |_=>exact absurd (show false=true from e) Ak
 |str a=>
  obtain⟨d,rfl⟩:=f;cases x with
  |non=>cases c;exact SeqAt.EqAt.str_none a d
  |bl b=>cases c;exact SeqAt.EqAt.str_bool a d b
  |int b=>obtain⟨t,rfl⟩:=c;exact SeqAt.EqAt.str_int a d b t
  |str b=>obtain⟨t,rfl⟩:=c;exact SeqAt.EqAt.str_str a d b t
  |_=>exact absurd (show false=true from e) Ak
 |_=>exact absurd (show false=true from g) Ak
def gK(x:V)(u:O):Bool:=match u with
 |.none=>gU .non x
 |.bool b=>gU (.bl b) x
 |.int i _=>gU (.int i) x
 |.str z _=>gU (.str z) x
 |_=>false
theorem Ru(r:RelV y u)(f:Mi y=true):gK x u=gU y x:=by
 cases y with
 |non=>cases r;rfl
 |bl b=>cases r;rfl
 |int i=>obtain⟨t,rfl⟩:=r;rfl
 |str z=>obtain⟨t,rfl⟩:=r;rfl
 |_=>exact absurd (show false=true from f) Ak
theorem Pa:∀{xs:List V} {us:List O},aJ xs us->xs.all Mi=true->us.any (gK x)=xs.any λy=>gU y x
 |_,_,.nil,_=>rfl
 |y::xs,u::us,.cons r t,f=>by rw[Fh,AB] at f;rw[BD,BD,Ru r f.1,Pa t f.2]
theorem LS(c:RelV x v)(b:Mi x=true):∀{xs:List V} {us:List O},aJ xs us->xs.all Mi=true->∀u∈us,SeqAt.EqAt A s u v (gK x u)
 |_,_,.nil,_=>λu a=>by cases a
 |y::xs,u::us,.cons r t,f=>λd a=>by
  rw[Fh,AB] at f;rcases Aq.mp a with rfl | a
  ·rw[Ru r f.1];exact ZS r c f.1 b
  ·exact LS c b t f.2 d a
def iD(x:V)(xs:List V):Bool:=xs.any λy=>gU y x
def rC(K:G5)(neg:Bool):R2:=λx y H Q=>∃p xs,y=.ref p/\(aP K H p xs\/aQ K H p xs)/\Mi x=true/\xs.all Mi=true/\Q (.bl (if neg then !iD x xs else iD x xs)) H
theorem Mb:dC X (compareOp .NotIn) (rC X.K true):=by
 intro aA s σ H x y v u Q I d f h;obtain⟨p,xs,rfl,a,c,fs,q⟩:=h;cases f;rcases a with a | a
 ·obtain⟨aD,r,pl,e⟩:=I.list a;refine SeqAt.notIn_listAt (gK x) pl.isList (λw b=>LS d c r fs w (by simpa using b)) ⟨.bl _,H,I,Y,?_⟩
  rwa [show aD.toArray.any (gK x)=aD.any (gK x) by simp,Pa r fs]
 ·obtain⟨aD,r,pl,e⟩:=I.tuple a;refine SeqAt.notIn_tupleAt (gK x) pl (λw b=>LS d c r fs w (by simpa using b)) ⟨.bl _,H,I,Y,?_⟩
  rwa [show aD.toArray.any (gK x)=aD.any (gK x) by simp,Pa r fs]
theorem HF:JD X (.builtin "len") (λxs H Q=>∃p ys,xs=[.ref p]/\(aP X.K H p ys\/aQ X.K H p ys)/\Q (.int ys.length) H):=by
 intro aA s σ H xs f Q I r h;obtain⟨p,ys,rfl,a,q⟩:=h;obtain⟨u,rfl,d⟩:=OT r;cases d;have hn:=MA;rcases a with a | a
 ·obtain⟨aD,b,pl,e⟩:=I.list a;have c:=b.length;exact Calls.call_len_list pl.isList (by simp only[Am] <;> lia) ⟨.int ys.length,H,I.tok _,⟨s.toks+1,by rw[Am,c]⟩,q⟩
 ·obtain⟨aD,b,pl,e⟩:=I.tuple a;have c:=b.length;exact len_tuple pl (by simp only[Am] <;> lia) ⟨.int ys.length,H,I.tok _,⟨s.toks+1,by rw[Am,c]⟩,q⟩
theorem Pd:JD X (.type "list") (λxs H Q=>∃p ys,xs=[.ref p]/\(aP X.K H p ys\/aQ X.K H p ys)/\∀l,H l=none->Q (.ref l) (aK H l (.lst ys))):=by
 intro aA s σ H xs v Q I r h;obtain⟨p,ys,rfl,d,q⟩:=h;obtain⟨u,rfl,m⟩:=OT r;cases m;have k:∀(aD:List O),aJ ys aD->ys.length<=GI->∀(h':Heap) (c:Nat),(∀b o',s.heap.get? b=some o'->h'.get? b=some o')->
   h'.get? s.heap.objs.size=some { cls:=.type "list",dict:=none,data:=.seq aD.toArray c,slots:=#[] }->EP X aA σ Q (.ref s.heap.objs.size) { s with heap:=h' }:=λaD a f h' c g e=>
  ⟨.ref s.heap.objs.size,_,I.laid (t':=s.toks) g (Ag _) (show aT X.prog X.w _ h' _ (.lst ys) from ⟨f,aD,c,a,e⟩),Y,q _ (I.hok.fresh (Ag _))⟩
 rcases d with d | d
 ·obtain⟨aD,a,pl,f⟩:=I.list d;have t:=a.length;obtain⟨o,i,j,n,hd⟩:=pl.isList;exact call_list_seq p (.inl rfl) i j hd (λh' c g e=>k aD a f h' c g e) (by simp only[Am] <;> lia)
 ·obtain⟨aD,a,pl,f⟩:=I.tuple d;have t:=a.length;obtain⟨o,i,j,n,hd⟩:=pl;exact call_list_seq p (.inr rfl) i j hd (λh' c g e=>k aD a f h' c g e) (by simp only[Am] <;> lia)
theorem JT:JD X (.type "tuple") (λxs H Q=>∃p ys,xs=[.ref p]/\((aP X.K H p ys/\∀l,H l=none->Q (.ref l) (aK H l (.tup ys)))\/(aQ X.K H p ys/\Q (.ref p) H))):=by
 intro aA s σ H xs m Q I r h;obtain⟨p,ys,rfl,h⟩:=h;obtain⟨u,rfl,g⟩:=OT r;cases g;rcases h with ⟨a,q⟩ | ⟨a,q⟩
 ·obtain⟨aD,c,pl,d⟩:=I.list a;have k:=c.length;refine call_tuple_list pl.isList (λh' j=>?_) (by simp only[Am] <;> lia)
  have f:Inv X aA σ H { s with heap:=h' }:=I.kept (t':=s.toks) j;have i:Inv X aA σ (aK H h'.objs.size (.tup ys)) { s with heap:=h'.push { cls:=.type "tuple",data:=.seq aD.toArray } }:=f.laid (t':=s.toks) (λb o e=>Ac _ e) (Ag _) (show aT X.prog X.w _ _ _ (.tup ys) from ⟨⟨d,Jx rfl⟩,aD,c,IsTup.new _ _⟩)
  exact⟨.ref h'.objs.size,_,i,Y,q _ (f.hok.fresh (Ag _))⟩
 ·obtain⟨aD,c,pl,d⟩:=I.tuple a;exact call_tuple_same pl ⟨.ref p,H,I,Y,q⟩
def mH(K:G5)(T:String)(x:V)(H:Hp):Prop:=match x with
 |.str _=>T="str"
 |.int _=>T="int"
 |.ref p=>(T="list"/\∃xs,aP K H p xs)\/(T="tuple"/\((∃o,K.lookup p=some o/\o.cls=.type "tuple"/\o.dict=none)\/∃xs,H p=some (.tup xs))) ∨
   (T="dict"/\((∃aB,H p=some (.dK aB))\/∃aB,H p=some (.dT aB)))\/(T="set"/\∃S n,H p=some (.set S n))
 |_=>False
theorem ZT(I:Inv X aA σ H s)(r:RelV x v)(ty:mH X.K T x H):
  s.TypeIs v T/\∀a,v=.ref a->∃g,s.heap.get? a=some g/\g.dict=none:=by
 cases x with
 |str z=>obtain⟨t,rfl⟩:=r;cases(show T="str" from ty);exact⟨typeIs_str s z t,λ_ e=>nomatch e⟩
 |int i=>obtain⟨t,rfl⟩:=r;cases(show T="int" from ty);exact⟨typeIs_int s i t,λ_ e=>nomatch e⟩
 |ref p=>
  cases r;rcases ty with ⟨rfl,xs,h⟩ | ⟨rfl,⟨o,b,f,hd⟩ | ⟨xs,b⟩⟩ | ⟨rfl,b⟩ | ⟨rfl,S,n,b⟩
  ·obtain⟨aD,_,pl,_⟩:=I.list h;refine⟨pl.isList.typeIs,λa e=>?_⟩;cases e;obtain⟨o,n,e,c,hd,_⟩:=pl;exact⟨o,e,hd⟩
  ·refine⟨⟨o,I.kIn p o b,f⟩,λa e=>?_⟩;cases e;exact⟨o,I.kIn _ o b,hd⟩
  ·obtain⟨⟨_,j⟩,aD,_,o,e,f,_⟩:=I.hok p _ b;exact⟨⟨o,e,f⟩,λa d=>by cases d;exact⟨o,e,j _ e⟩⟩
  ·have z:∃o,s.heap.get? p=some o/\o.ExactDict:=by
    rcases b with ⟨aB,b⟩ | ⟨aB,b⟩
    ·obtain⟨_,_,_,_,o,_,_,e,ex,_⟩:=I.hok p _ b;exact⟨o,e,ex⟩
    ·obtain⟨_,_,_,_,o,_,_,e,ex,_⟩:=I.hok p _ b;exact⟨o,e,ex⟩
   obtain⟨o,e,ex⟩:=z;refine⟨⟨o,e,ex.1⟩,λa d=>?_⟩;cases d;exact⟨o,e,ex.2.1⟩
  ·obtain⟨o,_,_,_,e,ex,_⟩:=I.hok p _ b;refine⟨⟨o,e,ex.1⟩,λa d=>?_⟩;cases d;exact⟨o,e,ex.2.1⟩
 |_=>exact False.elim ty
def nI(K:G5)(T:String)(r:V->List V->Hp->VK->Prop)(to:TE)(t:TA):TE:=λσ H Q=>to σ H λx H1=>mH K T x H1/\t σ H1 λxs H2=>r x xs H2 Q
variable{o e:GR}{es:List GR}{to:TE}{t:TA}{name:Str}{apos cpos:Pos}{T id:String}{r:V->List V->Hp->VK->Prop}
theorem JS(u:PlainAttrs T)(q:Slot T name id)(i:typeOf (.builtin id)=pure (.type "method_descriptor"))(j:lN X id r)(p:PE X o to)(d:PA X (e::es) t)
  (hbase:attributeBase o name X.env (eval o X.env)=eval o X.env:=by rfl)
  (hfew:((backTo cpos (GO (e::es) X.env)).all (λx=>!x.1)&&(backToKw cpos (keywordEach [] X.env)).all (λx=>x.1.isSome)
  &&decide ((e::es).length+([]:List Keyword).length+(if ([]:List Keyword).isEmpty then 0 else 1)<30))=true:=by rfl)
  (hline:(apos.endLine==cpos.line)=true:=by rfl) (hs:GO (e::es) X.env=(false,eval e X.env)::GO es X.env:=by rfl) (hplain:(backTo cpos (GO es X.env)).any (·.1)=false:=by rfl):
  PE X (.Call (.Attribute o name apos) (e::es) [] cpos) (nI X.K T r to t):=by
 intro aA s σ H Q I h;refine wpAny_Call_method_late hbase hfew hline rfl (aW (p aA s σ H _ I h) λv m qQ=>?_);obtain⟨x,H1,c,b,ty,l⟩:=qQ;obtain⟨h1,h2⟩:=ZT c b ty;refine⟨T,id,u,q,i,h1,h2,?_⟩;have a:=d cpos aA m σ H1 _ c l;rw[hs] at a ⊢;refine Calls.callWith_builtin (by show(false || (backTo cpos (GO es X.env)).any (·.1))=false;rw[hplain] <;> rfl) (FB ?_)
 exact aW a λw g ⟨vs,H2,k,f,n⟩=>j aA g σ H2 x vs v w Q k b f n
end
def kN(X:Cx)(id:String)(r:V->List V->Hp->VK->Prop):Prop:=
 ∀(aA:List (Z×Obj)) (s:GF) (σ:St) (H:Hp) (x:V) (xs:List V) (v:O) (a:List O) (Q:VK),Inv X aA σ H s->RelV x v->aJ xs a->r x xs H Q->
  GL (model X.prog X.w) X.A (call (.builtin id) (v::a)) (EP X aA σ Q) X.xe s
theorem aJ.one:∀{x:V} {us:List O},aJ [x] us->∃u,us=[u]/\RelV x u
 |_,_,.cons r .nil=>⟨_,Y,r⟩
theorem aJ.zero:∀{us:List O},aJ [] us->us=[]
 |_,.nil=>rfl
theorem aJ.eraseIdx:∀{xs:List V} {us:List O} (i:Nat),aJ xs us->aJ (xs.eraseIdx i) (us.eraseIdx i)
 |_,_,_,.nil=>.nil
 |_,_,0,.cons _ t=>t
 |_,_,i+1,.cons r t=>.cons r (aJ.eraseIdx i t)
theorem aJ.rep(h:aJ xs us):∀k:Nat,aJ (Ar k xs).flatten (Ar k us).flatten
 |0=>.nil
 |k+1=>by rw[Bf,Bf,C4,C4];exact aJ.append h (aJ.rep h k)
theorem O8{a:Type}:∀(l:List a) (i:Nat),(l.eraseIdx i).length<=l.length
 |[],_=>Ag _
 |_::_,0=>EU _
 |_::r,i+1=>Db (O8 r i)
theorem OK(aD:List O):∀(k:Nat) (aE:List O),
  EC (λx1 x2=>x1++x2) aE.toArray (Ar k aD.toArray)=(aE++(Ar k aD).flatten).toArray
 |0,aE=>by simp
 |k+1,aE=>by
  have e:aE.toArray++aD.toArray=(aE++aD).toArray:=by simp
  have a:(aE++aD)++(Ar k aD).flatten=aE++(Ar (k+1) aD).flatten:=by rw[Bf,C4,Bq]
  rw[<-a,<-OK aD k (aE++aD),<-e,Bf,Dg]
section
variable{X:Cx}{aA:List (Z×Obj)}{σ:St}{H:Hp}{s:GF}{l b:Z}{xs ys zs:List V}
theorem Inv.lset{aD its':List O}{n:Nat}{f:Array O->Array O}{t':Nat}(I:Inv X aA σ H s)(a:H l=some (.lst xs))
  (e:s.heap.get? l=some { cls:=.type "list",data:=.seq aD.toArray n }) (hf:f aD.toArray=its'.toArray) (hv:aJ ys its') (hz:ys.length<=GI):
  Inv X aA σ (aK H l (.lst ys)) { s with heap:=s.heap.update l (Obj.mapSeq f),toks:=t' }:=by
 have q:=PySem.IsL.update e f;rw[hf] at q;refine I.write (x:=l) (e:=l) (by rw[a];exact trivial) (.inl rfl) (λd u b c=>(BE s.heap (Obj.mapSeq f) (Ne.symm b)).trans c) ⟨_,q⟩ ?_;exact⟨hz,its',_,hv,q⟩
theorem Inv.lnew(I:Inv X aA σ H s)(a:aJ ys aD)(hz:ys.length<=GI):
  Inv X aA σ (aK H s.heap.objs.size (.lst ys)) { s with heap:=s.heap.push { cls:=.type "list",data:=.seq aD.toArray },toks:=t' }:=
 I.laid (λ_ _ q=>Ac _ q) (Ag _) ⟨hz,aD,0,a,Ap _ rfl⟩
theorem Inv.fresh(I:Inv X aA σ H s):H s.heap.objs.size=none:=I.hok.fresh (Ag _)
theorem Inv.lstM(I:Inv X aA σ H s)(a:H l=some (.lst xs)):xs.length<=GI/\∃(aD:List O) (n:Nat),aJ xs aD/\xs.length=aD.length/\s.heap.get? l=some { cls:=.type "list",data:=.seq aD.toArray n }:=by obtain⟨z,aD,n,r,e⟩:=I.hok l _ a;exact⟨z,aD,n,r,r.length,e⟩
theorem Rf(h:n<=GI):Builtin.List.listTooLong n=false:=by unfold Builtin.List.listTooLong;exact decide_eq_false (by lia)
end
section
variable{X:Cx}
def Xs:V->List V->Hp->VK->Prop:=λx vs H Q=>∃l xs y,x=.ref l/\vs=[y]/\H l=some (.lst xs)/\xs.length<GI/\Q .non (aK H l (.lst (xs++[y])))
theorem Iu:kN X "list.append" Xs:=by
 intro aA s σ H x vs v i Q I d b h;obtain⟨l,xs,y,rfl,rfl,a,f,q⟩:=h;cases d;obtain⟨u,rfl,c⟩:=b.one;obtain⟨z,aD,n,r,g,e⟩:=I.lstM a;refine call_meets F.slot_list_append ⟨_,e,Y⟩ F.entry_list_append (F.args_list_append_2 _ _) (PySem.list_append l aD.toArray n u (by rw[Am];lia)) ⟨e,?_⟩;refine⟨.non,_,I.lset (its':=aD++[u]) a e (by simp) (r.append (.cons c .nil)) ?_,Y,q⟩;rw[Ad,BJ]
 lia
def W4:V->List V->Hp->VK->Prop:=λx vs H Q=>∃l b xs zs,x=.ref l/\vs=[.ref b]/\H l=some (.lst xs)/\H b=some (.lst zs)/\xs.length+zs.length<=GI/\Q .non (aK H l (.lst (xs++zs)))
theorem TN:kN X "list.extend" W4:=by
 intro aA s σ H x vs v y Q I i d h;obtain⟨l,b,xs,zs,rfl,rfl,c,k,t,q⟩:=h;cases i;obtain⟨u,rfl,g⟩:=d.one;cases g;obtain⟨z,aD,n,r,w,e⟩:=I.lstM c;obtain⟨A,a,n2,f,p,m⟩:=I.lstM k;have o:aD.toArray.size+a.toArray.size<=GI:=by rw[Am,Am];lia
 have j:¬(!aD.toArray.isEmpty&&Builtin.List.listTooLong (aD.toArray.size+a.toArray.size))=true:=by rw[Rf o,Bool.and_false];exact Ak
 refine call_meets F.slot_list_extend ⟨_,e,Y⟩ F.entry_list_extend (F.args_list_extend_2 _ _)
  (AutoSeq1.list_extend_list_list_0 l aD.toArray n b a.toArray n2 j (by rw[Am];lia) (by lia)) ⟨e,m,?_⟩
 refine⟨.non,_,I.lset (its':=aD++a) c e (by simp) (r.append f) ?_,Y,q⟩;rw[Ad]
 lia
def sF:R2:=λx y H Q=>∃l k xs,x=.ref l/\y=.int k/\H l=some (.lst xs)/\-(2 ^ 63)<=k/\k<2 ^ 63/\xs.length*k.toNat<=GI ∧
 ∀p,H p=none->Q (.ref p) (aK H p (.lst (Ar k.toNat xs).flatten))
theorem XO{b:Type}(xs:List b)(k:Nat):(Ar k xs).flatten.length=k*xs.length:=by
 induction k with
 |zero=>simp
 |succ k a=>rw[Bf,C4,Ad,a,Nat.succ_mul,EM]
theorem ZD:dC X (binaryOp .Mult) sF:=by
 intro aA s σ H x y v u Q I j o h;obtain⟨l,k,xs,rfl,rfl,d,h1,h2,D,q⟩:=h;cases j;obtain⟨t,rfl⟩:=o;obtain⟨z,aD,n,r,A,e⟩:=I.lstM d;have w:aD.toArray.size*k.toNat<=GI:=by rwa [Am,<-A]
 have i:¬aD.toArray.size*k.toNat > (2 ^ 63-1) / 8:=by
  have:(GI:Nat)<=(2 ^ 63-1) / 8:=by decide
  lia
 have f:¬(!Builtin.List.listFitsIndex k)=true:=by rw[fitsIndex_both h1 h2];exact Ak
 have p:¬Builtin.List.listTooLong (aD.toArray.size*k.toNat)=true:=by rw[Rf w];exact Ak
 have B:EC (λc b=>c++b) #[] (Ar (if aD.toArray.isEmpty=true then 0 else k.toNat) aD.toArray)=(Ar k.toNat aD).flatten.toArray:=by
  have g:∀m:Nat,EC (λc b=>c++b) #[] (Ar m aD.toArray)=(Ar m aD).flatten.toArray:=λm=>by
   have:=OK aD m []
   rwa [EX] at this
  rw[g];cases aD with
  |nil=>simp
  |cons a C=>rw[G6 (by simp)]
 refine wpAny_binaryOp_repeat_ref (T:="list") (U:="int") (by decide) ⟨_,e,Y⟩ (λs'=>typeIs_int s' k t) noFill_list_mul F.fills_int_mul F.slot_int_rmul repeat_list F.slot_int_index.lookup
  (call_meets F.slot_int_rmul (typeIs_int s k t) F.entry_int_rmul (F.args_int_rmul_2 _ _) (int___rmul___int_list k t l aD.toArray n)
   ⟨e,Y,⟨_,e,Y⟩,call_meets F.slot_list_mul ⟨_,e,Y⟩ F.entry_list_mul (F.args_list_mul_2 _ _) (AutoListH.list___mul___list_int_3 l aD.toArray n k t f i p) ⟨e,?_⟩⟩)
 rw[B];exact⟨.ref _,_,I.lnew (t':=s.toks) (r.rep k.toNat) (by rwa [XO,Ci]),Y,q _ I.fresh⟩
end
section
variable{prog:GJ}{w:GQ}{A:GS}{E:O->GF->Prop}{s:GF}
end
section
variable{X:Cx}
end
theorem aJ.ints:∀{ns:List Int} {us:List O},aJ (ns.map V.int) us->IntsAre us ns
 |[],us,h=>by rw[Dj] at h;cases h;exact IntsAre.nil
 |n::ns,us,h=>by
  rw[An] at h;cases h with
  |cons r t=>obtain⟨k,rfl⟩:=r;exact IntsAre.cons n k (aJ.ints t)
theorem aJ.ref1(r:aJ [V.ref a] us):us=[O.ref a]:=by
 cases r with
 |cons r t=>cases t;cases r;rfl
section
variable{prog:GJ}{w:GQ}{A:GS}{E:O->GF->Prop}{s:GF}{l:Z}{aD:List O}{ns:List Int}{Q:O->GF->Prop}
theorem Yo(d:A.handled=none)(a:s.heap.IsList l aD.toArray)(hi:IntsAre aD ns)
  (h:∀h' tk t',(∀b o,s.heap.get? b=some o->h'.get? b=some o)->Q (.int ns.sum t') { s with heap:=h',toks:=tk }):GL (model prog w) A (call (.builtin "sum") [.ref l]) Q E s:=by
 obtain⟨xs,e⟩:=hi.allInts.items;have hn:numsOf (intItems xs).toList=ns:=by rw[<-e];exact hi.numsOf
 rw[nums_intItems] at hn;rw[e] at a;refine PySem.sum_intListG d a λh' tk t' c=>?_;have:=h h' tk t' c
 rwa [preSum_eq,Ft (by simp),hn]
theorem Xq(m:A.handled=none)(c:s.heap.IsList l aD.toArray)(hi:IntsAre aD ns)(k:0<ns.length)
  (h:∀h' tk M t',(∀b o,s.heap.get? b=some o->h'.get? b=some o)->M∈ns->(∀a,a∈ns->a<=M)->Q (.int M t') { s with heap:=h',toks:=tk }):GL (model prog w) A (call (.builtin "max") [.ref l]) Q E s:=by
 obtain⟨xs,e⟩:=hi.allInts.items;have hn:numsOf (intItems xs).toList=ns:=by rw[<-e];exact hi.numsOf
 rw[nums_intItems] at hn;subst hn;rw[e] at c;have n:0<xs.size:=by simpa using k
 refine PySem.max_intList m c n λv h' tk f i=>?_;obtain⟨t,rfl⟩:=intItems_at f;obtain⟨h1,h2⟩:=argBest_gt (numAt xs) (xs.size-1);refine h h' tk _ t i ?_ λa d=>?_
 ·rw[numAt_eq];exact PySem.getD_mem (by rw[Ab,Be];lia)
 ·obtain⟨j,g,rfl⟩:=mem_getD d;rw[Ab,Be] at g;rw[<-numAt_eq];exact h2 j (by lia)
theorem Yx(m:A.handled=none)(c:s.heap.IsList l aD.toArray)(hi:IntsAre aD ns)(k:0<ns.length)
  (h:∀h' tk M t',(∀b o,s.heap.get? b=some o->h'.get? b=some o)->M∈ns->(∀a,a∈ns->M<=a)->Q (.int M t') { s with heap:=h',toks:=tk }):GL (model prog w) A (call (.builtin "min") [.ref l]) Q E s:=by
 obtain⟨xs,e⟩:=hi.allInts.items;have hn:numsOf (intItems xs).toList=ns:=by rw[<-e];exact hi.numsOf
 rw[nums_intItems] at hn;subst hn;rw[e] at c;have n:0<xs.size:=by simpa using k
 refine PySem.min_intList m c n λv h' tk f i=>?_;obtain⟨t,rfl⟩:=intItems_at f;obtain⟨h1,h2⟩:=argBest_lt (numAt xs) (xs.size-1);refine h h' tk _ t i ?_ λa d=>?_
 ·rw[numAt_eq];exact PySem.getD_mem (by rw[Ab,Be];lia)
 ·obtain⟨j,g,rfl⟩:=mem_getD d;rw[Ab,Be] at g;rw[<-numAt_eq];exact h2 j (by lia)
end
section
variable{X:Cx}
def rD(K:G5):List V->Hp->VK->Prop:=λvs H Q=>∃(a:Z) (ns:List Int),vs=[V.ref a]/\aP K H a (ns.map V.int)/\Q (.int ns.sum) H
def qS(K:G5):List V->Hp->VK->Prop:=λvs H Q=>∃(a:Z) (ns:List Int),vs=[V.ref a]/\aP K H a (ns.map V.int)/\0<ns.length/\∀m,m∈ns->(∀y,y∈ns->y<=m)->Q (.int m) H
def oF(K:G5):List V->Hp->VK->Prop:=λvs H Q=>∃(a:Z) (ns:List Int),vs=[V.ref a]/\aP K H a (ns.map V.int)/\0<ns.length/\∀m,m∈ns->(∀y,y∈ns->m<=y)->Q (.int m) H
theorem V1(c:X.calm=true):JD X (.builtin "sum") (rD X.K):=by intro aA s σ H vs g Q I r h;obtain⟨a,ns,rfl,hs,q⟩:=h;obtain⟨aD,b,e,_⟩:=I.list hs;rw[aJ.ref1 r];exact Yo (I.ok.hd c) e.isList b.ints λh' tk f d=>⟨.int _,H,I.kept d,⟨_,Y⟩,q⟩
theorem ZU(c:X.calm=true):JD X (.builtin "max") (qS X.K):=by intro aA s σ H vs i Q I r h;obtain⟨a,ns,rfl,hs,e,q⟩:=h;obtain⟨aD,b,f,_⟩:=I.list hs;rw[aJ.ref1 r];exact Xq (I.ok.hd c) f.isList b.ints e λh' tk m g d h1 h2=>⟨.int _,H,I.kept d,⟨_,Y⟩,q m h1 h2⟩
theorem ZA(c:X.calm=true):JD X (.builtin "min") (oF X.K):=by intro aA s σ H vs i Q I r h;obtain⟨a,ns,rfl,hs,e,q⟩:=h;obtain⟨aD,b,f,_⟩:=I.list hs;rw[aJ.ref1 r];exact Yx (I.ok.hd c) f.isList b.ints e λh' tk m g d h1 h2=>⟨.int _,H,I.kept d,⟨_,Y⟩,q m h1 h2⟩
end
mutual
inductive Dp(K:G5)(H:Hp):V->PyData->Prop
 |non:Dp K H .non .none
 |bl (b:Bool):Dp K H (.bl b) (.bool b)
 |int (i:Int):Dp K H (.int i) (.int i)
 |str (x:Str):Dp K H (.str x) (.str x)
 |lst {a:Z} {xs:List V} {ds:List PyData}:aP K H a xs->fB K H xs ds->Dp K H (.ref a) (.list ds)
 |tup {a:Z} {xs:List V} {ds:List PyData}:aQ K H a xs->fB K H xs ds->Dp K H (.ref a) (.tuple ds)
inductive fB(K:G5)(H:Hp):List V->List PyData->Prop
 |nil:fB K H [] []
 |cons {v:V} {vs:List V} {d:PyData} {ds:List PyData}:Dp K H v d->fB K H vs ds->fB K H (v::vs) (d::ds)
end
section
variable{X:Cx}{aA:List (Z×Obj)}{σ:St}{H:Hp}{s:GF}
end
variable{X:Cx}
end L2
namespace L2
abbrev Vr(h:Heap)(c:Z)(v:Option O):Prop:=h.IsCell c v
def rV(scope a:Scope):Scope:={ scope with names:=scope.names.map λ(n,k)=>if (k==.free&&a.kind==.function&&a.names.lookup n==some .cell) then (n,.cell) else (n,k) }
def HI(cells:List (Str×Z)):List (Str×GV)->List (Str×Z)->List (Str×Z)
 |[],aE=>aE
 |(n,k)::r,aE=>if k==.free then HI cells r ((n,(cells.lookup n).getD 0)::aE) else HI cells r aE
theorem Mn(env:Env)(f:Str×GV->List (Str×Z)->Sem (ForInStep (List (Str×Z))))
  (hf:∀n k c,f (n,k) c=if k==.free then (do let a ← cellOf env n;pure (.yield ((n,a)::c))) else pure (.yield c)):
  ∀(names:List (Str×GV)) (aE:List (Str×Z)),(∀y∈names,y.2=.free->∃c,env.cells.lookup y.1=some c)->forIn names aE f=pure (HI env.cells names aE)
 |[],aE,_=>by rw[Ep];rfl
 |(n,k)::r,aE,h=>by
  rw[E3,hf];have d:=λaE=>Mn env f hf r aE λy i=>h y (Aw _ i);unfold HI;by_cases b:(k==GV.free)=true
  ·rw[G7 b,G7 b];obtain⟨c,g⟩:=h (n,k) AH (by simpa using b);have e:cellOf env n=pure c:=by unfold cellOf;rw[g]
   rw[e];have j:(env.cells.lookup n).getD 0=c:=by rw[g];rfl
   rw[j];exact d _
  ·rw[G6 b,G6 b];exact d _
theorem Ly(h:∀y∈scope.names,y.2=.free->∃c,env.cells.lookup y.1=some c):closureFor scope env=pure (HI env.cells scope.names []):=by simp only[closureFor];rw[Mn env _ (λn k c=>rfl) scope.names [] h];rfl
theorem Kw{a:Type}:∀{l:List (Str×a)} {n:Str} {c:a},(n,c)∈l->∃b,l.lookup n=some b
 |(k,v)::r,n,c,h=>by
  rw[Bp];cases hb:n==k with
  |true=>exact⟨_,Y⟩
  |false=>
   rcases Aq.mp h with e | h
   ·cases e;simp at hb
   ·exact Kw h
theorem Jm:∀{names:List (Str×GV)} {aE:List (Str×Z)} {n:Str} {c:Z},(n,c)∈HI cells names aE->(n,c)∈aE\/((n,.free)∈names/\c=(cells.lookup n).getD 0)
 |[],_,_,_,h=>.inl h
 |(m,k)::r,aE,n,c,h=>by
  unfold HI at h;split at h
  ·rename_i a;have a:k=.free:=by simpa using a
   rcases Jm h with h | ⟨h1,h2⟩
   ·rcases Aq.mp h with e | h
    ·cases e;exact .inr ⟨a ▸ AH,Y⟩
    ·exact .inl h
   ·exact .inr ⟨Aw _ h1,h2⟩
  ·rcases Jm h with h | ⟨h1,h2⟩
   ·exact .inl h
   ·exact .inr ⟨Aw _ h1,h2⟩
theorem KU:∀{names:List (Str×GV)} {aE:List (Str×Z)} {p:Str×Z},p∈aE->p∈HI cells names aE
 |[],_,_,h=>h
 |(m,k)::r,aE,p,h=>by
  unfold HI;split
  ·exact KU (Aw _ h)
  ·exact KU h
theorem JN:∀{names:List (Str×GV)} {aE:List (Str×Z)} {n:Str},(n,.free)∈names->(n,(cells.lookup n).getD 0)∈HI cells names aE
 |(m,k)::r,aE,n,h=>by
  unfold HI;rcases Aq.mp h with e | h
  ·cases e;exact KU AH
  ·split
   ·exact JN h
   ·exact JN h
theorem Kc:∀{names:List (Str×GV)} {h:Heap} {aE:List (Str×Z)} {x:Str} {c:Z},(x,c)∈GY h.objs.size names aE->
  (x,c)∈aE\/((x,.cell)∈names/\h.objs.size<=c/\Vr (pushCells h names) c none)
 |[],_,_,_,_,h=>.inl h
 |(n,k)::r,h,aE,x,c,a=>by
  unfold GY at a;unfold pushCells;split at a
  ·rename_i b;rw[G7 b];have b:k=.cell:=by simpa using b
   rw[<-AY h { cls:=.type "cell",data:=.cell none }] at a;rcases Kc a with a | ⟨h1,h2,d⟩
   ·rcases Aq.mp a with e | a
    ·cases e;exact .inr ⟨b ▸ AH,Ag _,_,pushCells_keeps r _ _ _ (Ap _ rfl),Y⟩
    ·exact .inl a
   ·rw[AY] at h2;exact .inr ⟨Aw _ h1,DT h2,d⟩
  ·rename_i b;rw[G6 b];rcases Kc a with a | ⟨h1,h2,d⟩
   ·exact .inl a
   ·exact .inr ⟨Aw _ h1,h2,d⟩
theorem Li:∀{names:List (Str×GV)} {n:Nat} {aE:List (Str×Z)} {p:Str×Z},p∈aE->p∈GY n names aE
 |[],_,_,_,h=>h
 |(m,k)::r,n,aE,p,h=>by
  unfold GY;split
  ·exact Li (Aw _ h)
  ·exact Li h
theorem Mv:∀{names:List (Str×GV)} {n:Nat} {aE:List (Str×Z)} {x:Str},(x,.cell)∈names->∃c,(x,c)∈GY n names aE
 |(m,k)::r,n,aE,x,h=>by
  unfold GY;rcases Aq.mp h with e | h
  ·cases e;exact⟨n,Li AH⟩
  ·split
   ·exact Mv h
   ·exact Mv h
theorem MJ:∀{names:List (Str×GV)} {h:Heap} {aE:List (Str×Z)} {x y:Str} {c:Z},(∀p∈aE,p.2<h.objs.size)->(∀x y c,(x,c)∈aE->(y,c)∈aE->x=y)->
  (x,c)∈GY h.objs.size names aE->(y,c)∈GY h.objs.size names aE->x=y
 |[],_,_,_,_,_,_,hi,h1,h2=>hi _ _ _ h1 h2
 |(n,k)::r,h,aE,x,y,c,hl,hi,h1,h2=>by
  unfold GY at h1 h2;split at h1
  ·rename_i d;rw[G7 d] at h2;rw[<-AY h { cls:=.type "cell",data:=.cell none }] at h1 h2;refine MJ (h:=h.push _) (λp f=>?_) (λx y c a b=>?_) h1 h2
   ·rw[AY];rcases Aq.mp f with rfl | f
    ·exact Ec _
    ·exact DQ (hl p f)
   ·rcases Aq.mp a with e | a <;> rcases Aq.mp b with g | b
    ·cases e;cases g;rfl
    ·cases e;exact absurd (hl _ b) (Bc _)
    ·cases g;exact absurd (hl _ a) (Bc _)
    ·exact hi _ _ _ a b
  ·rename_i d;rw[G6 d] at h2;exact MJ hl hi h1 h2
theorem Q5{M:Model}{A:GS}{E:O->GF->Prop}{s:GF}{scope:Scope}{globals:Z}{a:List (Str×Z)}{qual:Str}{d:Option Z}{code:O}{b:Env}{e:Z}{Q:Env->GF->Prop}
  (h:Q (newEnv scope s.heap.objs.size globals (GY (s.heap.objs.size+1) scope.names a) qual d code (some b) e)
   { s with heap:=pushCells (s.heap.push { cls:=.type "dict",data:=.dict #[] }) scope.names }):
  GL M A (newFunctionEnv scope globals a [] qual d code (some b) e) Q E s:=by
 simp only[newFunctionEnv,FE,if_true];refine GE (wpAny_alloc ?_);refine GE (wpAny_layCells _ (λn k c=>rfl) scope.names a _ _ ?_);rw[show({ s with heap:=s.heap.push { cls:=.type "dict",data:=.dict #[] } }:GF).heap.objs.size=s.heap.objs.size+1 from AY ..];rw[Ep];exact GE (GK (GK h))
theorem K7{a:Scope}:∀{names:List (Str×GV)} {x:Str} {k:GV},
  (names.map λ(n,k)=>if (k==GV.free&&a.kind==.function&&a.names.lookup n==some .cell) then (n,GV.cell) else (n,k)).lookup x=some k->
  ∃c,names.lookup x=some c/\(k=c\/(c=.free/\k=.cell))
 |[],_,_,h=>by simp at h
 |(n,k₀)::r,x,k,h=>by
  have d:=@K7 a r x k;have h':A0 x ((if (k₀==GV.free&&a.kind==.function&&a.names.lookup n==some .cell)=true then (n,GV.cell) else (n,k₀))::(r.map _))=some k:=h;cases hx:x==n with
  |true=>
   simp only[Bp,hx];by_cases b:(k₀==GV.free&&a.kind==.function&&a.names.lookup n==some .cell)=true
   ·rw[G7 b] at h';simp only[Bp,hx] at h';cases h';simp only[AB,beq_iff_eq] at b;exact⟨k₀,Y,.inr ⟨b.1.1,Y⟩⟩
   ·rw[G6 b] at h';simp only[Bp,hx] at h';cases h';exact⟨_,Y,.inl rfl⟩
  |false=>
   simp only[Bp,hx];by_cases b:(k₀==GV.free&&a.kind==.function&&a.names.lookup n==some .cell)=true
   ·rw[G7 b] at h';simp only[Bp,hx] at h';exact d h'
   ·rw[G6 b] at h';simp only[Bp,hx] at h';exact d h'
structure bS(N:List Str)(sc scope:Scope)(own:List (Str×Nat)):Prop where
 kind:scope.kind=.function
 uniq:∀y∈scope.names,scope.names.lookup y.1=some y.2
 ix:∀p∈own,N[p.2]?=some p.1
 free:∀y∈scope.names,y.2=.free->sc.names.lookup y.1=some .cell\/sc.names.lookup y.1=some .free
 own:∀y∈scope.names,y.2=.local\/y.2=.cell->y.1∈own.map (·.1)\/y.1∉N
theorem PF{N:List Str}{f scope:Scope}{own:List (Str×Nat)}(a:scope.kind=.function:=by rfl)(b:∀y∈scope.names,scope.names.lookup y.1=some y.2:=by decide)(c:∀p∈own,N[p.2]?=some p.1:=by decide)(d:∀y∈scope.names,y.2=.free -> f.names.lookup y.1=some .cell\/f.names.lookup y.1=some .free:=by decide)(e:∀y∈scope.names,y.2=.local\/y.2=.cell -> y.1∈own.map (·.1)\/y.1∉N:=by decide):bS N f scope own:=⟨a,b,c,d,e⟩
def Ia(σ:St):List Nat->St
 |[]=>σ
 |v::vs=>(Ia σ vs).set v none
theorem K4(σ:St):∀vs:List Nat,(Ia σ vs).length=σ.length
 |[]=>rfl
 |v::vs=>by unfold Ia;rw[Eh,K4 σ vs]
theorem Mr:∀{vs:List Nat},(Ia σ vs)[i]?=some (some x)->σ[i]?=some (some x)/\i∉vs
 |[],h=>⟨h,by simp⟩
 |v::vs,h=>by
  unfold Ia at h;by_cases hi:v=i
  ·subst hi;by_cases a:v<(Ia σ vs).length
   ·rw[C0 a] at h;cases h
   ·rw[AT (by simpa using a)] at h;cases h
  ·rw[De hi] at h;obtain⟨h1,h2⟩:=Mr h;exact⟨h1,by simp only[Aq,not_or];exact⟨λe=>hi e.symm,h2⟩⟩
abbrev Cx.blk(X:Cx)(s:GF)(H:Hp)(scope:Scope)(b:Env)(a:List Z):Cx:={ X with s_0:=s,H_0:=H,env:=b,outer:=X.stack,ex:=a,fn:=λx=>scope.names.lookup x==some .cell,pn:=[],xe:=λ_ _=>False }
section
variable{X:Cx}{aA:List (Z×Obj)}{σ:St}{H:Hp}{s:GF}
theorem QU(I:Inv X aA σ H s)(ok:bS X.N X.env.scope scope own)(S:X.N.Nodup)(C:∀b∈P,M6 X aA H b/\b<s.heap.objs.size):
  Inv (X.blk s H scope (compEnvC scope (GY (s.heap.objs.size+1) scope.names (HI X.env.cells scope.names [])) s.heap.objs.size X.env) P) [] (Ia σ (own.map (·.2))) H { s with heap:=pushCells (s.heap.push { cls:=.type "dict",data:=.dict #[] }) scope.names }:=by
 have V:∀y∈scope.names,y.2=.free->∃c,X.env.cells.lookup y.1=some c:=λy j e=>by
  rcases ok.free y j e with k | k
  ·exact I.ok.has _ (.inl k)
  ·exact I.ok.has _ (.inr k)
 generalize D:compEnvC scope (GY (s.heap.objs.size+1) scope.names (HI X.env.cells scope.names [])) s.heap.objs.size X.env=d;have F:∀b o,s.heap.get? b=some o->(pushCells (s.heap.push { cls:=.type "dict",data:=.dict #[] }) scope.names).get? b=some o:=λb o e=>pushCells_keeps _ _ _ _ (Ac _ e);have K:d.locals=s.heap.objs.size:=by rw[<-D];rfl
 have x:d.cells=GY (s.heap.objs.size+1) scope.names (HI X.env.cells scope.names []):=by rw[<-D];rfl
 have M:d.scope=rV scope X.env.scope:=by rw[<-D];rfl
 rw[<-AY s.heap { cls:=.type "dict",data:=.dict #[] }] at x;have E:∀{y c},(y,c)∈HI X.env.cells scope.names []->X.env.cells.lookup y=some c/\c<s.heap.objs.size:=λ{y c} f=>by
  rcases Jm f with f | ⟨h1,rfl⟩
  ·cases f
  ·obtain⟨c,Q⟩:=V _ h1 rfl;rw[Q];obtain⟨w,z⟩:=I.cell _ _ Q;exact⟨Y,z.lt⟩
 have mem:∀{y c},d.cells.lookup y=some c->(X.env.cells.lookup y=some c/\c<s.heap.objs.size)\/(s.heap.objs.size+1<=c/\Vr (pushCells (s.heap.push { cls:=.type "dict",data:=.dict #[] }) scope.names) c none):=λ{y c} e=>by
  rw[x] at e;rcases Kc (PySem.mem_of_lookup e) with f | ⟨_,h2,T⟩
  ·exact .inl (E f)
  ·rw[AY] at h2;exact .inr ⟨h2,T⟩
 have look:∀{y},scope.names.lookup y=some .free->∃c,d.cells.lookup y=some c/\X.env.cells.lookup y=some c:=λ{y} d9=>by
  have j:(y,GV.free)∈scope.names:=PySem.mem_of_lookup d9;obtain⟨L,g⟩:=Kw (Li (names:=scope.names) (n:=(s.heap.push { cls:=.type "dict",data:=.dict #[] }).objs.size) (JN (cells:=X.env.cells) (aE:=[]) j));rw[<-x] at g;refine⟨L,g,?_⟩;rw[x] at g;rcases Kc (PySem.mem_of_lookup g) with f | ⟨h1,_,_⟩
  ·exact(E f).1
  ·have:=ok.uniq _ h1;rw[d9] at this;cases this
 have gL:(X.blk s H scope d P).Ok:=by
  refine⟨I.ok.mod,by show d.scope.kind=_;rw[M];exact ok.kind,by show d.globals=_;rw[<-D];exact I.ok.glob,by show d.builtins=_;rw[<-D];exact I.ok.blt,by show s.heap.objs.size<=d.locals;rw[K];exact Ag _,λy z c e1 u=>?_,λy j=>?_,λy c z e=>?_,I.ok.hd,I.ok.frames,.inl rfl,λb l=>⟨?_,λy c e z=>?_⟩,I.bs,AE I.ok.bsz I.sz,λb o e l=>?_,λb l z=>?_,I.stack,I.stkFree⟩
  ·have e1:d.cells.lookup y=some c:=e1;have u:d.cells.lookup z=some c:=u;rw[x] at e1 u;refine MJ (λp A=>?_) (λy z c a b=>I.ok.inj y z c (E a).1 (E b).1) (PySem.mem_of_lookup e1) (PySem.mem_of_lookup u);rw[AY];exact DQ (E (y:=p.1) (c:=p.2) A).2
  ·show ∃c,d.cells.lookup y=some c;have B:∀k,d.kindOf y=some k->(k=.cell\/k=.free)->∃c,d.cells.lookup y=some c:=λk v N=>by
    unfold Env.kindOf at v;rw[M] at v;obtain⟨t,e,r⟩:=K7 v;have:t=.cell\/t=.free:=by
     rcases r with rfl | ⟨rfl,_⟩
     ·exact N
     ·exact .inr rfl
    rcases this with rfl | rfl
    ·obtain⟨c,f⟩:=Mv (n:=(s.heap.push { cls:=.type "dict",data:=.dict #[] }).objs.size) (aE:=HI X.env.cells scope.names []) (PySem.mem_of_lookup e);obtain⟨L,g⟩:=Kw f;exact⟨L,by rwa [x]⟩
    ·obtain⟨c,h1,_⟩:=look e;exact⟨c,h1⟩
   rcases j with j | j
   ·exact B _ j (.inl rfl)
   ·exact B _ j (.inr rfl)
  ·have z:(scope.names.lookup y==some GV.cell)=true:=z;have z:scope.names.lookup y=some .cell:=by simpa using z
   have e:d.cells.lookup y=some c:=e;rw[x] at e;rcases Kc (PySem.mem_of_lookup e) with f | ⟨_,h2,_⟩
   ·rcases Jm f with f | ⟨h1,_⟩
    ·cases f
    ·have q:=ok.uniq _ h1;rw[z] at q;cases q
   ·rw[AY] at h2;exact DT h2
  ·show b≠d.locals;rw[K];exact AL (C b l).2
  ·have e:d.cells.lookup y=some c:=e;rcases mem e with ⟨h1,_⟩ | ⟨h1,_⟩
   ·exact(C b l).1.2.2.2.2.1 y c h1 z
   ·have h2:s.heap.objs.size+1<=b:=by rwa [<-z]
    exact absurd (As (C b l).2 (DT h2)) (Bc _)
  ·rcases(C b l).1.2.2.2.1 with z | z
   ·exact I.ok.noex b o e z
   ·exact absurd (As (Ao e) (AE I.ok.bsz z)) (Bc _)
  ·rcases Aq.mp (I.stkSub b z) with z | z
   ·exact(C b l).1.2.1 z
   ·exact(C b l).1.2.2.1 z
 refine⟨gL,Y,I.bare,Un.kept F,⟨λ_=>none,?_,λi y d7 e1 u h=>?_⟩,λy c e=>?_,?_,λy c e=>?_,λp A=>?_,I.hok.kept F,by rw[K4];exact I.len⟩
 ·show Heap.Ns _ d.locals _;rw[K];exact Heap.Ns.keeps (Heap.Ns.new ..) λb o e=>pushCells_keeps _ _ _ _ e
 ·obtain⟨u,d6⟩:=Mr u;have G:scope.names.lookup y=some .free/\(d.kindOf y=some .cell\/d.kindOf y=some .free):=by
   have B:∀k,d.scope.names.lookup y=some k->k=.local\/k=.cell\/k=.free->scope.names.lookup y=some .free/\(d.kindOf y=some .cell\/d.kindOf y=some .free):=λk v N=>by
    have d8:=v;rw[M] at v;obtain⟨t,e,r⟩:=K7 v;have no:¬(t=.local\/t=.cell):=λW=>by
     rcases ok.own _ (PySem.mem_of_lookup e) W with g | g
     ·obtain⟨p,A,R⟩:=Av.mp g;have h:=ok.ix p A;have:p.1=y:=R;rw[this] at h;exact d6 (Av.mpr ⟨p,A,Oi S h e1⟩)
     ·exact g (AX e1)
    rcases r with rfl | ⟨rfl,rfl⟩
    ·rcases N with rfl | rfl | rfl
     ·exact absurd (.inl rfl) no
     ·exact absurd (.inr rfl) no
     ·exact⟨e,.inr d8⟩
    ·exact⟨e,.inl d8⟩
   have h:iO d.scope y:=h;rcases h with h | h | h
   ·exact B _ h (.inl rfl)
   ·exact B _ h (.inr (.inl rfl))
   ·exact B _ h (.inr (.inr rfl))
  obtain⟨m,hn,d9⟩:=I.loc;have U:iO X.env.scope y:=(ok.free _ (PySem.mem_of_lookup G.1) rfl).elim (λk=>.inr (.inl k)) (λk=>.inr (.inr k));obtain⟨w,r,q⟩:=d9 i y d7 e1 u U;refine⟨w,r,.inr ⟨G.2,?_⟩⟩;obtain⟨c,h1,h2⟩:=look G.1;rcases q with ⟨k,_⟩ | ⟨_,L,g,z⟩
  ·have k:X.env.scope.names.lookup y=some .local:=k;rcases ok.free _ (PySem.mem_of_lookup G.1) rfl with t | t <;> rw[show X.env.scope.names.lookup y=_ from t] at k <;> cases k
  ·rw[h2] at g;cases g;exact⟨c,h1,z.keeps F⟩
 ·have e:d.cells.lookup y=some c:=e;rcases mem e with ⟨h1,_⟩ | ⟨_,z⟩
  ·obtain⟨w,z⟩:=I.cell y c h1;exact⟨w,z.keeps F⟩
  ·exact⟨_,z⟩
 ·show H d.locals=none;rw[K];exact I.hok.fresh (Ag _)
 ·have e:d.cells.lookup y=some c:=e;rcases mem e with ⟨h1,_⟩ | ⟨h1,_⟩
  ·exact I.freeC y c h1
  ·exact I.hok.fresh (DT h1)
 ·exact absurd (show p∈([]:List (Z×Obj))++[] from A) (by simp)
theorem Zs{E:O->GF->Prop}{Q:O->GF->Prop}(I:Inv X aA σ H s)(d:H D=some (.lst xs))(hz:xs.length<GI)(r:RelV y v)
  (h:∀s',Inv X aA σ (aK H D (.lst (xs++[y]))) s'->Q .none s'):GL (model X.prog X.w) X.A (call (.builtin "list.append") [.ref D,v]) Q E s:=by
 obtain⟨i,aD,n,c,e⟩:=I.hok D _ d;have j:=c.length;refine append_at (hsz:=by rw[Am];lia) e λh' f a=>?_;refine h { s with heap:=h' } (I.write (t':=s.toks) (by rw[d];trivial) (.inl rfl) (λb u g q=>(f.2 b g).trans q) ⟨_,a⟩ ⟨by rwa [Ad],aD++[v],n+1,c.append (.cons r .nil),?_⟩);rw[a];simp
def jD(X:Cx)(a:List GR)(t:TT):Prop:=
 ∀(aA:List (Z×Obj)) (s:GF) (σ:St) (H:Hp) (Q:Bool->Hp->Prop),Inv X aA σ H s->t σ H Q->
  GL (model X.prog X.w) X.A (forIn a true λc r=>if r=true then do let ok ← isTrue c X.env (eval c X.env);pure (ForInStep.yield ok) else pure (ForInStep.yield r)) (TP X aA σ Q) X.xe s
def R7:TT:=λ_ H Q=>Q true H
theorem Jr:jD X [] R7:=λ_ _ _ H _ I h=>wpAny_tests_nil ⟨H,I,h⟩
theorem So(h:PT X c t):jD X [c] t:=λaA s σ H Q I a=>wpAny_tests_one (h aA s σ H Q I a)
end
theorem T1{c:Type}{t:Sem c}{Q b:c->GF->Prop}{E:O->GF->Prop}(h:GL M A t Q (λ_ _=>False) s)(d:∀a s,Q a s->b a s):GL M A t b E s:=GX h d λ_ _ z=>False.elim z
theorem Pz{R:Result->GF->Prop}(I:Nat->GF->Prop)
  (turn:∀n s,I n s->GL (model prog w) A (pyNext it) (λr a=>match r with
   |none=>R (.ok .next) a
   |some v=>GL (model prog w) A (letOwnedTupleGo target it v) (λ_ j=>GL (model prog w) A (assign target env v) (λ_ f=>
     GL (model prog w) A (forIn ifs true λc r=>if r=true then do let ok ← isTrue c env (eval c env);pure (ForInStep.yield ok) else pure (ForInStep.yield r)) (λok b=>
      if ok=true then GL (model prog w) A (eval elt env) (λx d=>GL (model prog w) A (call (.builtin "list.append") [aE,x]) (λ_ g=>∃m,m<n/\I m g) (notedBy (model prog w) A env λe s'=>R (.error e) s') d) (notedBy (model prog w) A env λe s'=>R (.error e) s') b
      else ∃m,m<n/\I m b) (notedBy (model prog w) A env λe s'=>R (.error e) s') f) (notedBy (model prog w) A env λe s'=>R (.error e) s') j) (notedBy (model prog w) A env λe s'=>R (.error e) s') a) (notedBy (model prog w) A env λe s'=>R (.error e) s') s)
  (n:Nat) (h:I n s):
  codeAny (model prog w) A (.compLoop (.ListComp elt [⟨target,iter,ifs,0⟩] scope pos) 0 it aE env) R s:=by
 refine codeAny_loop rfl I (λn s t=>?_) n h;show GL _ A ((compTurn (.ListComp elt [⟨target,iter,ifs,0⟩] scope pos) 0 it aE env).onRaise (λx=>do noteFrame x env;theTreesLotGoes x)) _ _ s;refine wpAny_noted ?_;rw[compTurn_list];refine GE (wpAny_standAt (GE (GX (turn n s t) (λr a i=>?_) λ_ _ h'=>h')));cases r with
 |none=>exact GK i
 |some v=>
  refine GE (GX i (λ_ j l=>?_) λ_ _ h'=>h');refine GE (GX l (λ_ f o=>GE (GX o (λok b k=>?_) λ_ _ h'=>h')) λ_ _ h'=>h');cases ok with
  |false=>exact GK ⟨Y,k⟩
  |true=>exact GE (GE (GX k (λx d q=>GE (GX q (λ_ g p=>GK (GK ⟨Y,p⟩)) λ_ _ h'=>h')) λ_ _ h'=>h'))
section
variable{X:Cx}
def jO(h:TI)(g:TG)(tt:TT)(te:TE)(vs:List Nat):TE:=λσ H Q=>h σ H λd9 H1=>∀D,H1 D=none->∃W:Nat->Nat->Hp->Prop,(∃m,W 0 m (aK H1 D (.lst [])))/\∀i m H,W i m H->
 (d9.stop i H/\Q (.ref D) H)\/(d9.go i H/\∃a:Hp->Prop,(∀H',a H'->∃e,e<m/\W (i+1) e H')/\∀x H',d9.yld i H x H'->g x (Ia σ vs) H' λc H2=>Ia c vs=Ia σ vs/\tt c H2 λb d=>if b=true then te c d λy f=>∃aE,f D=some (.lst aE)/\aE.length<GI/\a (aK f D (.lst (aE++[y]))) else a d)
theorem SV{aA:List (Z×Obj)}{s:GF}{σ:St}{H:Hp}{Q:VK}{elt tg iter:GR}{d8:List GR}{scope:Scope}{own:List (Str×Nat)}{pos pos':Pos}{wi:TI}{g:TG}{tt:TT}{te:TE}{use:Option (O->Sem Unit)}{Qf:O->GF->Prop}
  (hc:X.calm=true) (hN:X.N.Nodup) (I:Inv X aA σ H s) (hi:PI X tg iter wi) (ok:bS X.N X.env.scope scope own)
  (hg:∀(s:GF) (H:Hp) (C:Z) (cl:List (Str×Z)) (d:List Z),PG (X.blk s H scope (compEnvC scope cl C X.env) d) tg g) (ht:∀(s:GF) (H:Hp) (C:Z) (cl:List (Str×Z)) (d:List Z),jD (X.blk s H scope (compEnvC scope cl C X.env) d) d8 tt)
  (he:∀(s:GF) (H:Hp) (C:Z) (cl:List (Str×Z)) (d:List Z),PE (X.blk s H scope (compEnvC scope cl C X.env) d) elt te) (hs:∀x,foldedSetIterable iter X.env x=pure x)
  (h:jO wi g tt te (own.map (·.2)) σ H Q)
  (hRR:∀D C s' m H',Inv X aA σ H' s'->Q (.ref D) H'->s'.heap.Ns C m->M6 X aA H' C->compPost (model X.prog X.w) X.A X.xe use Qf (.ref D) C (.ok .next) s'):
  GL (model X.prog X.w) X.A (comprehension (.ListComp elt [⟨tg,iter,d8,0⟩] scope pos) scope X.env pos' (newList []) false (eval iter X.env) use) Qf X.xe s:=by
 have an:∀y∈scope.names,y.2=.free->∃c,X.env.cells.lookup y.1=some c:=λy hy e=>by
  rcases ok.free y hy e with k | k
  ·exact I.ok.has _ (.inl k)
  ·exact I.ok.has _ (.inr k)
 refine wpAny_comprehension_free (use:=use) rfl hs (Ly an) ok.kind (λy hy e=>by rw[ok.uniq y hy,e])
  (aW (hi aA s σ H _ I h) λxv s1 hx=>aW hx λa1 B h2=>?_)
 obtain⟨it,d,M,d9,H2,e,I2,T,aj,f2,q⟩:=h2;subst e;refine G2 (Q5 ?_) (by show 0<=GI;decide);generalize G:B.heap.objs.size=D;have ar:H2 D=none:=I2.hok.fresh (Dn G);obtain⟨W,⟨m0,w0⟩,ax⟩:=q D ar;generalize ab:({ B with heap:=B.heap.push { cls:=.type "list",data:=.seq ([]:List O).toArray } }:GF)=a;have S:Inv X aA σ (aK H2 D (.lst [])) a:=by rw[<-ab];refine I2.laid (t':=B.toks) (λb o e=>Ac _ e) (Dn G) ⟨Az _,[],0,.nil,?_⟩;rw[<-G];exact Ap _ rfl
 have h3:a.heap=B.heap.push { cls:=.type "list",data:=.seq ([]:List O).toArray }:=by rw[<-ab]
 have sz:∀b∈d,b<B.heap.objs.size:=λb f=>by obtain⟨o,e,_⟩:=T.obj _ _ aj b f;exact Ao e
 have A:∀b∈d,M6 X aA (aK H2 D (.lst [])) b/\b<a.heap.objs.size:=λb f=>by have ak:=sz b f;refine⟨⟨?_,(f2 b f).2⟩,by rw[h3,AY];exact DQ ak⟩;rw[Hf (by rw[<-G];exact AL ak)];exact(f2 b f).1
 have am:M 0 a.heap:=T.keep _ _ _ aj λb _ o e=>by rw[h3];exact Ac _ e
 have K:=QU S ok hN A;have pg:=hg a (aK H2 D (.lst [])) a.heap.objs.size (GY (a.heap.objs.size+1) scope.names (HI X.env.cells scope.names [])) d;have pt:=ht a (aK H2 D (.lst [])) a.heap.objs.size (GY (a.heap.objs.size+1) scope.names (HI X.env.cells scope.names [])) d;have pe:=he a (aK H2 D (.lst [])) a.heap.objs.size (GY (a.heap.objs.size+1) scope.names (HI X.env.cells scope.names [])) d;show codeAny _ _ (.compStart (.ListComp elt [⟨tg,iter,d8,0⟩] scope pos) 0 (.ref it) (.ref D) (compEnvC scope (GY (a.heap.objs.size+1) scope.names (HI X.env.cells scope.names [])) a.heap.objs.size X.env)) (compPost (model X.prog X.w) X.A X.xe use Qf (.ref D) a.heap.objs.size) { a with heap:=pushCells (a.heap.push { cls:=.type "dict",data:=.dict #[] }) scope.names };have ae:∀b∈d,(aK H2 D (.lst [])) b=none:=λb f=>(A b f).1.1;generalize aw:compEnvC scope (GY (a.heap.objs.size+1) scope.names (HI X.env.cells scope.names [])) a.heap.objs.size X.env=l at K pg pt pe ⊢;have cL:l.locals=a.heap.objs.size:=by subst aw;rfl
 generalize a5:aK H2 D (.lst [])=t at S K pg pt pe w0 ae A;generalize as:({ a with heap:=pushCells (a.heap.push { cls:=.type "dict",data:=.dict #[] }) scope.names }:GF)=s4 at K ⊢;have al:M 0 s4.heap:=T.keep _ _ _ am λb _ o e=>by rw[<-as];exact pushCells_keeps _ _ _ _ (Ac _ e)
 have d7:∀{af:St} {H':Hp} {s':GF},Inv (X.blk a t scope l d) [] af H' s'->(∀b∈d,H' b=none)->∀b∈d,M6 (X.blk a t scope l d) [] H' b:=λ{af H' s'} E hn b f=>⟨hn b f,(E.ok.exf b f).1,E.ok.exfs b f,.inl f,λx c e=>(E.ok.exf b f).2 x c e,λp hp=>absurd (show p∈([]:List (Z×Obj))++[] from hp) (by simp)⟩
 have ad:codeAny (model X.prog X.w) X.A (.compLoop (.ListComp elt [⟨tg,iter,d8,0⟩] scope pos) 0 (.ref it) (.ref D) l) (compPost (model X.prog X.w) X.A X.xe use Qf (.ref D) a.heap.objs.size) s4:=by
  refine Pz (λn s'=>∃i H',Inv (X.blk a t scope l d) [] (Ia σ (own.map (·.2))) H' s'/\M i s'.heap/\(∀b∈d,H' b=none)/\W i n H') ?_ m0 ⟨0,t,K,al,ae,w0⟩;rintro n s5 ⟨i,w,U,ac,n5,w5⟩;rcases ax i n w w5 with ⟨ao,qq⟩ | ⟨go,Nx,ap,step⟩
  ·have td:=T.done (X.blk a t scope l d) rfl rfl rfl hc i [] s5 _ w (λ_ _=>False) U (d7 U n5) ac ao;refine T1 td λr L ⟨V,F⟩=>?_;subst V;have R:Inv X aA σ w L:=S.call' (ch:=d) F.os F.base F.hok F.bare λb f=>⟨(A b f).1.2.2.2.1,(A b f).1.2.1,(A b f).1.2.2.2.2.1,(A b f).1.2.2.2.2.2⟩;have nC:w a.heap.objs.size=none:=by
    have z:w l.locals=none:=F.free
    rwa [cL] at z
   obtain⟨m,hn,_⟩:=F.loc;have hn:L.heap.Ns l.locals m:=hn;rw[cL] at hn;exact hRR D a.heap.objs.size L m w R qq hn (S.fpOk (Ag _) nC)
  ·have ti:=T.item (X.blk a t scope l d) rfl rfl rfl hc i [] s5 _ w (λ_ _=>False) U (d7 U n5) ac go;refine T1 ti λr L qQ=>?_;obtain⟨u,V,h6⟩:=qQ;subst V;refine T1 h6 λ_ s7 qQ=>?_;obtain⟨x,H7,R,r7,y7,aa,n7⟩:=qQ;have av:=R.pinned (d7 R n7) (T.obj _ _ aa);refine T1 (pg _ s7 _ H7 x u _ av r7 (step x H7 y7)) λ_ s8 qQ=>?_;obtain⟨N,H8,I8,ah,q8⟩:=qQ;refine T1 (pt _ s8 N H8 _ I8 q8) λb s9 qQ=>?_;obtain⟨H9,I9,P⟩:=qQ;have ag:∀{s':GF} {H':Hp},Inv (X.blk a t scope l d) ([]++Nu d s7.heap) N H' s'->Nx H'->∃m,m<n/\∃i H',Inv (X.blk a t scope l d) [] (Ia σ (own.map (·.2))) H' s'/\M i s'.heap/\(∀b∈d,H' b=none)/\W i m H':=λ{s' H'} E d6=>by
    obtain⟨m',hm,w'⟩:=ap H' d6;have ai:∀b∈d,∀o,s7.heap.get? b=some o->s'.heap.get? b=some o/\H' b=none:=λb f o e=>
     let z:=E.pin (b,o) (AQ _ (AQ _ (LF f e)))
     ⟨z.1,z.2.1⟩
    have hl:(Ia σ (own.map (·.2))).length=N.length:=by rw[<-ah,K4]
    refine⟨m',hm,i+1,H',(E.unpinned (aA:=[])).weak hl (λj v e=>?_),T.keep _ _ _ aa λb f o e=>(ai b f o e).1,λb f=>?_,w'⟩
    ·rw[<-ah] at e;exact(Mr e).1
    ·obtain⟨o,e,_⟩:=T.obj _ _ aa b f;exact(ai b f o e).2
   cases b with
   |false=>simp only[Bz,if_false] at P ⊢;exact ag I9 P
   |true=>simp only[if_true] at P ⊢;refine T1 (pe _ s9 N H9 _ I9 P) λz a2 qQ=>?_;obtain⟨yv,a3,au,a0,aE,aq,ay,d6⟩:=qQ;exact Zs (X:=X.blk a t scope l d) au aq ay a0 λa4 az=>ag az d6
 exact codeAny_compStart_list ad (T.self X.A 0 _ _ _ al ad)
theorem MV(t:X.calm=true)(p:X.N.Nodup)(hi:PI X tg iter wi)(ok:bS X.N X.env.scope scope own)
  (hg:∀(s:GF) (H:Hp) (C:Z) (cl:List (Str×Z)) (a:List Z),PG (X.blk s H scope (compEnvC scope cl C X.env) a) tg g) (ht:∀(s:GF) (H:Hp) (C:Z) (cl:List (Str×Z)) (a:List Z),jD (X.blk s H scope (compEnvC scope cl C X.env) a) ifs tt)
  (he:∀(s:GF) (H:Hp) (C:Z) (cl:List (Str×Z)) (a:List Z),PE (X.blk s H scope (compEnvC scope cl C X.env) a) elt te) (hs:∀x,foldedSetIterable iter X.env x=pure x:=by intro _;rfl):
  PE X (.ListComp elt [⟨tg,iter,ifs,0⟩] scope pos) (jO wi g tt te (own.map (·.2))):=by
 intro aA s σ H Q I h;rw[eval_ListComp];refine SV t p I hi ok hg ht he hs h λD C s' m H' r q hn f=>⟨m,hn,λv c=>?_⟩;obtain⟨j,k,u,l,n,d⟩:=f;exact⟨.ref D,H',r.turned (t':=s'.toks) (λb o i e=>(c.2 b i).trans e) j k l n d,Y,q⟩
theorem NL(M:X.calm=true)(d:X.N.Nodup)(B:X.N[i]?=some y)(j:X.env.scope.names.lookup y=some .local)
  (hsw:swapsWith (.ListComp elt [⟨tg,iter,ifs,0⟩] scope pos) (some (.Name y py)) spos.line X.env=pure true) (hi:PI X tg iter wi) (ok:bS X.N X.env.scope scope own)
  (hg:∀(s:GF) (H:Hp) (C:Z) (cl:List (Str×Z)) (c:List Z),PG (X.blk s H scope (compEnvC scope cl C X.env) c) tg g) (ht:∀(s:GF) (H:Hp) (C:Z) (cl:List (Str×Z)) (c:List Z),jD (X.blk s H scope (compEnvC scope cl C X.env) c) ifs tt)
  (he:∀(s:GF) (H:Hp) (C:Z) (cl:List (Str×Z)) (c:List Z),PE (X.blk s H scope (compEnvC scope cl C X.env) c) elt te) (hs:∀x,foldedSetIterable iter X.env x=pure x:=by intro _;rfl):
  PS X (.Assign [.Name y py] (.ListComp elt [⟨tg,iter,ifs,0⟩] scope pos) spos) (Uv (jO wi g tt te (own.map (·.2))) (IF i)):=by
 intro aA s σ H D I h;rw[exec_Assign_Name_used _ _ _ _ hsw];refine GE (wpAny_standAt (GE ?_));show GL _ X.A (do let _ ← comprehension (.ListComp elt [⟨tg,iter,ifs,0⟩] scope pos) scope X.env (firstIterPos [⟨tg,iter,ifs,0⟩] pos) (newList []) false (eval iter X.env) (some (assign (.Name y py) X.env))) _ _ s;have h:jO wi g tt te (own.map (·.2)) σ H (λx H1=>IF i x σ H1 D.nx):=h;refine GE (aW (SV (Qf:=λ_ s'=>SP X aA D .next s') M d I hi ok hg ht he hs h λL C s' m H' E q hn f=>?_) λ_ s' w=>GK (GK w));show GL _ _ (assign (.Name y py) X.env (.ref L)) _ _ _;refine wpAny_assign_Name (OG (v:=V.ref L) E d B (.inl j) rfl (λt d9 qQ=>?_) (.inr j));obtain⟨a,F,r⟩:=qQ;obtain⟨u,n,d8,G,k,A⟩:=f;have p:C≠a:=by
  rcases r with z | z
  ·rwa [z]
  ·exact λe=>k y a z e.symm
 refine⟨m,hn.sameBut F p,λN K=>?_⟩;exact⟨_,H',d9.turned (t':=t.toks) (λb o l e=>(K.2 b l).trans e) u n G k A,q⟩
end
theorem Va{lo:Int}{n:Nat}{g:TG}{tt:TT}{te:TE}{vs:List Nat}{σ:St}{H1:Hp}{D:Z}{l:Hp->Prop}(a:Nat->Hp->Prop)(o:a 0 (aK H1 D (.lst [])))
  (hs:∀i H,i<n->a i H->g (.int (lo+i)) (Ia σ vs) H λc H2=>Ia c vs=Ia σ vs/\tt c H2 λb d=>if b=true then te c d λy f=>∃aE,f D=some (.lst aE)/\aE.length<GI/\a (i+1) (aK f D (.lst (aE++[y]))) else a (i+1) d) (hd:∀H,a n H->l H):
  ∃W:Nat->Nat->Hp->Prop,(∃m,W 0 m (aK H1 D (.lst [])))/\∀i m H,W i m H->
   ((gS lo n).stop i H/\l H)\/((gS lo n).go i H/\∃h:Hp->Prop,(∀H',h H'->∃k,k<m/\W (i+1) k H')/\∀x H',(gS lo n).yld i H x H'->g x (Ia σ vs) H' λc H2=>Ia c vs=Ia σ vs/\tt c H2 λb d=>
    if b=true then te c d λy f=>∃aE,f D=some (.lst aE)/\aE.length<GI/\h (aK f D (.lst (aE++[y]))) else h d):=by
 refine zI (λi m H=>m=n-i/\i<=n/\a i H) ⟨n,by simp,Az _,o⟩ ?_;rintro i m H ⟨rfl,hi,p⟩;by_cases j:i<n
 ·refine .inr ⟨j,a (i+1),λH' q=>⟨n-(i+1),by lia,Y,j,q⟩,λx H' y=>?_⟩;obtain⟨e,y⟩:=y;subst e y;exact hs i _ j p
 ·have e:i=n:=by lia
  subst e;exact .inl ⟨Ag _,hd H p⟩
theorem LJ{K:G5}{a:Z}{xs:List V}{g:TG}{tt:TT}{te:TE}{vs:List Nat}{σ:St}{H1:Hp}{D:Z}{n:Hp->Prop}(c:Nat->Hp->Prop)(o:c 0 (aK H1 D (.lst [])))(s:∀i H,i<=xs.length->c i H->aP K H a xs)
  (hs:∀i x H,xs[i]?=some x->c i H->g x (Ia σ vs) H λd H2=>Ia d vs=Ia σ vs/\tt d H2 λb f=>if b=true then te d f λy h=>∃aE,h D=some (.lst aE)/\aE.length<GI/\c (i+1) (aK h D (.lst (aE++[y]))) else c (i+1) f) (hd:∀H,c xs.length H->n H):
  ∃W:Nat->Nat->Hp->Prop,(∃m,W 0 m (aK H1 D (.lst [])))/\∀i m H,W i m H->
   ((gN K a).stop i H/\n H)\/((gN K a).go i H/\∃j:Hp->Prop,(∀H',j H'->∃k,k<m/\W (i+1) k H')/\∀x H',(gN K a).yld i H x H'->g x (Ia σ vs) H' λd H2=>Ia d vs=Ia σ vs/\tt d H2 λb f=>
    if b=true then te d f λy h=>∃aE,h D=some (.lst aE)/\aE.length<GI/\j (aK h D (.lst (aE++[y]))) else j f):=by
 refine zI (λi m H=>m=xs.length-i/\i<=xs.length/\c i H) ⟨xs.length,by simp,Az _,o⟩ ?_;rintro i m H ⟨rfl,hi,p⟩;have q:=s i H hi p;by_cases l:i<xs.length
 ·refine .inr ⟨⟨xs,xs[i],q,by simp[l]⟩,c (i+1),λH' r=>⟨xs.length-(i+1),by lia,Y,l,r⟩,λx H' y=>?_⟩;obtain⟨e,y⟩:=y;subst e;exact hs i x _ (y xs q) p
 ·have e:i=xs.length:=by lia
  subst e;exact .inl ⟨⟨xs,q,Ag _⟩,hd H p⟩
section
variable{prog:GJ}{w:GQ}{A:GS}{R:Result->GF->Prop}{s:GF}{elt t0 i0 t1 i1:GR}{ifs0 ifs1:List GR}{scope:Scope}{pos:Pos}{it aE:O}{env:Env}
end
section
variable{X:Cx}
end
section
variable{κ:Type}[DecidableEq κ]
def Ij(aB:List (κ×V))(k:κ):Option V:=(aB.find? λa=>decide (a.1=k)).map (·.2)
def IM(aB:List (κ×V))(k:κ)(v:V):List (κ×V):=if (aB.any λa=>decide (a.1=k))=true then aB.map (λa=>if a.1=k then (a.1,v) else a) else aB++[(k,v)]
theorem Io{p:κ×V}{r:List (κ×V)}{k:κ}(e:p.1=k):Ij (p::r) k=some p.2:=by simp[Ij,BR,e]
theorem Iq{p:κ×V}{r:List (κ×V)}{k:κ}(e:¬p.1=k):Ij (p::r) k=Ij r k:=by simp[Ij,BR,e]
theorem KY(k:κ):∀aB:List (κ×V),(aB.any λa=>decide (a.1=k))=(Ij aB k).isSome
 |[]=>rfl
 |p::r=>by
  rw[BD];by_cases e:p.1=k
  ·simp only[Io e,decide_eq_true e,Bool.true_or,FE]
  ·rw[Iq e,decide_eq_false e,Gz];exact KY k r
theorem Q7(k j:κ)(y:V):∀aB:List (κ×V),Ij (aB.map λa=>if a.1=k then (a.1,y) else a) j=(Ij aB j).map λx=>if j=k then y else x
 |[]=>rfl
 |p::r=>by
  have b:=Q7 k j y r;rw[An];by_cases h:p.1=k
  ·rw[G7 h];by_cases e:p.1=j
   ·rw[Io (p:=(p.1,y)) e,Io e,Eb,G7 (e.symm.trans h)]
   ·rw[Iq (p:=(p.1,y)) e,Iq e,b]
  ·rw[G6 h];by_cases e:p.1=j
   ·rw[Io (p:=p) e,Io e,Eb,G6 (λz=>h (e.trans z))]
   ·rw[Iq (p:=p) e,Iq e,b]
theorem OQ(k j:κ)(y:V):∀aB:List (κ×V),Ij aB k=none->Ij (aB++[(k,y)]) j=if j=k then some y else Ij aB j
 |[],_=>by
  by_cases e:k=j
  ·rw[G7 e.symm];exact Io (p:=(k,y)) e
  ·rw[G6 (λz=>e z.symm)];exact Iq (p:=(k,y)) e
 |p::r,hn=>by
  rw[List.cons_append];have a:¬p.1=k:=λz=>by rw[Io z] at hn;cases hn
  rw[Iq a] at hn;have b:=OQ k j y r hn;by_cases e:p.1=j
  ·rw[Io e,Io e,G6 (λz=>a (e.trans z))]
  ·rw[Iq e,Iq e,b]
theorem Rp(aB:List (κ×V))(k j:κ)(y:V):Ij (IM aB k y) j=if j=k then some y else Ij aB j:=by
 unfold IM;by_cases a:(aB.any λc=>decide (c.1=k))=true
 ·rw[G7 a,Q7];rw[KY] at a;by_cases e:j=k
  ·obtain⟨x,b⟩:=Dt.mp a;rw[G7 e,e,b,Eb,G7 rfl]
  ·rw[G6 e];cases Ij aB j with
   |none=>rfl
   |some x=>rw[Eb,G6 e]
 ·rw[G6 a];refine OQ k j y aB ?_;rw[KY] at a;cases q:Ij aB k with
  |none=>rfl
  |some x=>rw[q] at a;exact(a rfl).elim
theorem JQ(aB:List (κ×V))(k:κ)(v:V):(IM aB k v).length<=aB.length+1:=by
 unfold IM;split
 ·rw[Ab];lia
 ·rw[Ad,Af,Cn];lia
theorem cE.isSome_eq(r:cE o u):o.isSome=u.isSome:=by
 cases o with
 |none=>cases u with
  |none=>rfl
  |some _=>exact(show False from r).elim
 |some _=>cases u with
  |none=>exact(show False from r).elim
  |some _=>rfl
theorem KV.val{aB:List (κ×V)}{vs:List (κ×O)}(r:KV aB vs)(k:κ):cE (Ij aB k) (valueAt vs k):=by
 unfold KV at r
 induction r with
 |nil=>exact True.intro
 |@cons p q ps a h t d=>
  obtain⟨h1,h2⟩:=h;by_cases e:p.1=k
  ·have c:q.1=k:=h1.symm.trans e;have b:valueAt (q::a) k=some q.2:=by simp[valueAt,BR,c]
   rwa [Io e,b]
  ·have c:¬q.1=k:=λz=>e (h1.trans z);have b:valueAt (q::a) k=valueAt a k:=by simp[valueAt,BR,c]
   rwa [Iq e,b]
theorem KV.any(r:KV aB vs)(k:κ):(aB.any λa=>decide (a.1=k))=vs.any λa=>decide (a.1=k):=by
 unfold KV at r
 induction r with
 |nil=>rfl
 |cons h t b=>rw[BD,BD,b,h.1]
theorem KV.repl(r:KV aB vs)(k:κ)(b:RelV y u):
  KV (aB.map λa=>if a.1=k then (a.1,y) else a) (vs.map λa=>if a.1=k then (a.1,u) else a):=by
 unfold KV at r ⊢
 induction r with
 |nil=>exact .nil
 |@cons p q ps d h t c=>
  rw[An,An];refine .cons ?_ c;obtain⟨h1,h2⟩:=h;by_cases e:p.1=k
  ·rw[G7 e,G7 (h1.symm.trans e)];exact⟨h1,b⟩
  ·rw[G6 e,G6 (λz=>e (h1.trans z))];exact⟨h1,h2⟩
theorem KV.put{aB:List (κ×V)}{vs:List (κ×O)}(r:KV aB vs)(k:κ){y:V}{u:O}(a:RelV y u):KV (IM aB k y) (stored vs k u):=by
 unfold IM stored;rw[r.any k];by_cases e:(vs.any λb=>decide (b.1=k))=true
 ·rw[G7 e,G7 e];exact r.repl k a
 ·rw[G6 e,G6 e];exact Paired.snoc r ⟨Y,a⟩
theorem KV.length(r:KV aB vs):aB.length=vs.length:=Paired.length r
end
theorem NT(r:RelV (kV k) u):(HJ P w).is k u=true:=by
 cases k with
 |inl i=>obtain⟨t,e⟩:=(show ∃t,u=O.int i t from r);subst e;exact KG P w i t
 |inr x=>obtain⟨t,e⟩:=(show ∃t,u=O.str x t from r);subst e;exact Ro P w x t
theorem Z9(e:kV a=kV b):a=b:=by
 cases a with
 |inl i=>cases b with
  |inl j=>have c:V.int i=V.int j:=e;injection c with c;rw[c]
  |inr y=>exact nomatch (show V.int i=V.str y from e)
 |inr x=>cases b with
  |inl j=>exact nomatch (show V.str x=V.int j from e)
  |inr y=>have c:V.str x=V.str y:=e;injection c with c;rw[c]
theorem Th:∀{a b:List bF},a.map kV=b.map kV->a=b
 |[],[],_=>rfl
 |[],_::_,e=>by simp at e
 |_::_,[],e=>by simp at e
 |x::xs,y::ys,e=>by rw[An,An] at e;injection e with e1 c;rw[Z9 e1,Th c]
theorem Jw:∀{ks:List bF} {us:List O},aJ (ks.map kV) us->ItemsAre (HJ P w) ks us
 |[],_,r=>by rw[Dj] at r;cases r;exact .nil
 |k::ks,_,r=>by
  rw[An] at r;cases r with
  |cons h t=>exact .cons (NT h) (Jw t)
abbrev KT(H:Hp):List (List bF×V)->List (List bF×Z×O)->Prop:=Paired λp q=>p.1=q.1/\H q.2.1=some (.tup (p.1.map kV))/\RelV p.2 q.2.2
theorem KT.val{H:Hp}{aB:List (List bF×V)}{xs:List (List bF×Z×O)}(r:KT H aB xs)(k:List bF):cE (Ij aB k) ((atKey xs k).map (·.2)):=by
 induction r with
 |nil=>exact True.intro
 |@cons p q ps a h t d=>
  obtain⟨h1,_,h2⟩:=h;by_cases e:p.1=k
  ·have c:q.1=k:=h1.symm.trans e;have b:atKey (q::a) k=some q.2:=by simp[atKey,BR,c]
   rwa [Io e,b]
  ·have c:¬q.1=k:=λz=>e (h1.trans z);have b:atKey (q::a) k=atKey a k:=by simp[atKey,BR,c]
   rwa [Iq e,b]
theorem KT.repl(r:KT H aB xs)(k:List bF)(b:RelV y u):
  KT H (aB.map λa=>if a.1=k then (a.1,y) else a) (xs.map (putAt k u)):=by
 induction r with
 |nil=>exact .nil
 |@cons p q ps f h t c=>
  rw[An,An];refine .cons ?_ c;obtain⟨h1,h2,d⟩:=h;unfold putAt;by_cases e:p.1=k
  ·rw[G7 e,G7 (h1.symm.trans e)];exact⟨h1,h2,b⟩
  ·rw[G6 e,G6 (λz=>e (h1.trans z))];exact⟨h1,h2,d⟩
theorem KT.put{H:Hp}{aB:List (List bF×V)}{xs:List (List bF×Z×O)}(r:KT H aB xs)(k:List bF){b:Z}{y:V}{u:O}(c:H b=some (.tup (k.map kV)))(a:RelV y u):
  KT H (IM aB k y) (storedH xs k b u):=by
 have e:(aB.any λd=>decide (d.1=k))=(atKey xs k).isSome:=by rw[KY,(r.val k).isSome_eq,Co]
 unfold IM storedH;rw[e];by_cases q:(atKey xs k).isSome=true
 ·rw[G7 q,G7 q];exact r.repl k a
 ·rw[G6 q,G6 q];exact Paired.snoc r ⟨Y,c,a⟩
theorem KT.keeps(r:KT H aB xs)(a:∀b ys,H b=some (.tup ys)->H' b=some (.tup ys)):KT H' aB xs:=Paired.mapP r λ_ _ z=>⟨z.1,a _ _ z.2.1,z.2.2⟩
section
variable{P:GJ}{w:GQ}{H:Hp}{h:Heap}{a:Z}
theorem YE(ok:bU P w H h)(e:Rd H a u):aT P w H h a u:=e.ok ok
theorem QL(ok:bU P w H h)(e:Rd H a (.dK aB)):aB.length<=GI/\(a==G1)=false/\∃vs,KV aB vs/\h.DictOf (HJ P w) a vs:=show aT P w H h a (.dK aB) from YE ok e
theorem oV(ok:bU P w H h)(e:H a=some (.dK aB)):aB.length<=GI/\(a==G1)=false/\∃vs,KV aB vs/\h.DictOf (HJ P w) a vs:=QL ok (.inl e)
theorem Mq(ok:bU P w H h)(e:H a=some (.tup (ks.map kV))):(tupleKind (HJ P w)).is h ks a:=by obtain⟨_,aD,r,o,h1,h2,n,b⟩:=(show aT P w H h a (.tup (ks.map kV)) from ok a _ e);exact zJ o aD.toArray n h1 h2 b (by simpa using Jw r)
theorem QN(ok:bU P w H h)(e:Rd H a (.dT aB)):aB.length<=GI/\(a==G1)=false ∧
  ∃xs,KT H aB xs/\h.DictOfH (tupleKind (HJ P w)) a xs:=by
 obtain⟨z,y,xs,r,o,es,ep,h1,h2,g,d,i⟩:=(show aT P w H h a (.dT aB) from YE ok e);refine⟨z,y,xs,r,zC h1 h2 g ⟨d,λx b=>?_,i⟩⟩;have all:∀{l:List (List bF×V)} {m:List (List bF×Z×O)},KT H l m->∀x∈m,(tupleKind (HJ P w)).is h x.1 x.2.1:=by
  intro l m q
  induction q with
  |nil=>intro x b;exact nomatch b
  |@cons p q ps j c t f=>
   intro x b;rcases Aq.mp b with e | b
   ·subst e;exact Mq ok (by rw[<-c.1];exact c.2.1)
   ·exact f x b
 exact all r x b
theorem YI(ok:bU P w H h)(e:H a=some (.dT aB)):aB.length<=GI/\(a==G1)=false ∧
  ∃xs,KT H aB xs/\h.DictOfH (tupleKind (HJ P w)) a xs:=QN ok (.inl e)
end
def cI(H:Hp)(a:Z)(y:V)(r:Option V):Prop:=(∃aB k,Rd H a (.dK aB)/\y=kV k/\r=Ij aB k)\/∃aB k b,Rd H a (.dT aB)/\y=.ref b/\H b=some (.tup (k.map kV))/\r=Ij aB k
def fN(H:Hp)(a:Z)(y v:V)(H':Hp):Prop:=
 (∃aB k,H a=some (.dK aB)/\y=kV k/\aB.length<GI/\H'=aK H a (.dK (IM aB k v))) ∨
 ∃aB k b,H a=some (.dT aB)/\y=.ref b/\H b=some (.tup (k.map kV))/\aB.length<GI/\H'=aK H a (.dT (IM aB k v))
theorem cI.t(e:H a=some (.dT aB))(c:H b=some (.tup (k.map kV))):cI H a (.ref b) (Ij aB k):=.inr ⟨aB,k,b,.inl e,Y,c,Y⟩
theorem fN.t(e:H a=some (.dT aB))(c:H b=some (.tup (k.map kV)))(d:aB.length<GI):
  fN H a (.ref b) v (aK H a (.dT (IM aB k v))):=.inr (zN e Y c d Y)
section
variable{X:Cx}{aA:List (Z×Obj)}{σ:St}{H:Hp}{s:GF}{a:Z}{y v:V}{u r:O}{o:Option V}{A:GS}{E:O->GF->Prop}
theorem Inv.big(I:Inv X aA σ H s):G1<s.heap.objs.size:=by have h:GM<s.heap.objs.size:=(I.mod.glob.keeps I.bk).lt;exact Nat.lt_trans (by decide) h
theorem UF{Q:O->GF->Prop}(r:A.units+1<cLine)(I:Inv X aA σ H s)(g:cI H a y (some v))(m:RelV y u)(h:∀c s',Inv X aA σ H s'->RelV v c->Q c s'):
  GL (model X.prog X.w) A (getItem (.ref a) u) Q E s:=by
 rcases g with ⟨aB,k,e,f,l⟩ | ⟨aB,k,b,e,f,t,l⟩
 ·subst f;obtain⟨z,hd,vs,j,dd⟩:=QL I.hok e;obtain⟨c,d,i⟩:=cE.some_of (v:=v) (o:=valueAt vs k) (by rw[l];exact j.val k);exact wpAny_getItem_of (NT m) dd.mapOf d (h c _ (I.tok _) i)
 ·subst f;cases(show u=O.ref b from m);obtain⟨z,hd,xs,j,dd⟩:=QN I.hok e;obtain⟨c,d,i⟩:=cE.some_of (v:=v) (o:=(atKey xs k).map (·.2)) (by rw[l];exact j.val k);obtain⟨p,q,n⟩:=Ba.mp d;refine wpAny_getItem_heap (tupleKind_room_in1 r) (Mq I.hok t) dd q ?_;rw[n];exact h c _ (I.tok _) i
theorem rT{Q:O->GF->Prop}(i:A.units+1<cLine)(I:Inv X aA σ H s)(g:cI H a y o)(f:RelV y u)(h:∀s',Inv X aA σ H s'->Q (.bool o.isSome) s'):
  GL (model X.prog X.w) A (compareOp .In u (.ref a)) Q E s:=by
 rcases g with ⟨aB,k,e,c,l⟩ | ⟨aB,k,b,e,c,j,l⟩
 ·subst c;obtain⟨z,hd,vs,d,dd⟩:=QL I.hok e;refine wpAny_in_of (NT f) hd dd.mapOf ?_;rw[<-(d.val k).isSome_eq,<-l];exact h _ (I.tok _)
 ·subst c;cases(show u=O.ref b from f);obtain⟨z,hd,xs,d,dd⟩:=QN I.hok e;refine wpAny_in_heap (tupleKind_room_in1 i) (Mq I.hok j) hd dd ?_;have q:=(d.val k).isSome_eq;rw[Co] at q;rw[<-q,<-l];exact h _ (I.tok _)
theorem Yr{Q:O->GF->Prop}(i:A.units+1<cLine)(I:Inv X aA σ H s)(g:cI H a y o)(f:RelV y u)(h:∀s',Inv X aA σ H s'->Q (.bool (!o.isSome)) s'):
  GL (model X.prog X.w) A (compareOp .NotIn u (.ref a)) Q E s:=by
 rcases g with ⟨aB,k,e,c,l⟩ | ⟨aB,k,b,e,c,j,l⟩
 ·subst c;obtain⟨z,hd,vs,d,dd⟩:=QL I.hok e;refine wpAny_notIn_of (NT f) hd dd.mapOf ?_;rw[<-(d.val k).isSome_eq,<-l];exact h _ (I.tok _)
 ·subst c;cases(show u=O.ref b from f);obtain⟨z,hd,xs,d,dd⟩:=QN I.hok e;refine wpAny_notIn_heap (tupleKind_room_in1 i) (Mq I.hok j) hd dd ?_;have q:=(d.val k).isSome_eq;rw[Co] at q;rw[<-q,<-l];exact h _ (I.tok _)
theorem Pi(I:Inv X aA σ H s)(c:iM (H a))(hs:Heap.SameBut a s.heap h')(d:∃q,h'.get? a=some q)(g:aT X.prog X.w (aK H a ob) h' a ob):
  Inv X aA σ (aK H a ob) { s with heap:=h',toks:=t' }:=
 I.write (x:=a) (e:=a) c (.inl rfl) (λb q f z=>(hs.2 b f).trans z) d g
theorem Zx(z:aB.length<=GI)(hd:(a==G1)=false)(b:KV aB vs)(dd:h'.DictOf (HJ P w) a vs):
  aT P w H' h' a (.dK aB):=⟨z,hd,vs,b,dd⟩
theorem Ug{Q:Unit->GF->Prop}(D:A.units+1<cLine)(I:Inv X aA σ H s)(g:fN H a y v H')(t:RelV y u)(p:RelV v r)(h:∀s',Inv X aA σ H' s'->Q () s'):
  GL (model X.prog X.w) A (setItem (.ref a) u r) Q E s:=by
 rcases g with ⟨aB,k,e,o,l,j⟩ | ⟨aB,k,b,e,o,w,l,j⟩
 ·subst o j;obtain⟨z,hd,vs,d,dd⟩:=oV I.hok e;have m:vs.length<=GI:=by rwa [<-d.length]
  have n:(IM aB k v).length<=GI:=by have:=JQ aB k v;lia
  refine wpAny_setItem_pairs (hsz:=m) (NT t) dd λh' i hs=>h _ ?_;have x:∃q,h'.get? a=some q:=let ⟨q,_,_,f,_⟩:=i;⟨q,f⟩;exact Pi I (by rw[e];exact True.intro) hs x (Zx n hd (d.put k p) i)
 ·subst o j;cases(show u=O.ref b from t);obtain⟨z,hd,xs,d,dd⟩:=YI I.hok e;have m:xs.length<=GI:=by rwa [<-Paired.length d]
  have n:(IM aB k v).length<=GI:=by have:=JQ aB k v;lia
  refine wpAny_setItem_heap (hsz:=m) (tupleKind_room_in1 D) (Mq I.hok w) dd λh' i hs=>h _ ?_;obtain⟨q,es,ep,f,h2,C,B,_,G⟩:=i;refine Pi I (by rw[e];exact True.intro) hs ⟨q,f⟩ ⟨n,hd,_,(d.put k w p).keeps λc ys F=>?_,zN f h2 C B G⟩
  rwa [Hf (Hq F e (λz=>nomatch z))]
end
section
variable{X:Cx}{aA:List (Z×Obj)}{σ:St}{H:Hp}{s:GF}{a:Z}{aB:List (bF×V)}{k:bF}{u:O}{A:GS}{E:O->GF->Prop}
end
def Yp(i:GR):Prop:=∀a b,subscripted i false a b=operate [a,b] (getItem a b)
theorem PM{prog:GJ}{w:GQ}{A:GS}{E:O->GF->Prop}{s:GF}{env:Env}{value b:GR}{pos:Pos}{T id:String}{Q:O->GF->Prop}
  (hl:typeLookup (.type T) "__getitem__"=pure (some (.builtin id))) (hs:Yp b)
  (h:GL (model prog w) A (eval value env) (λo e=>GL (model prog w) A (eval b env) (λi a=>a.TypeIs o T/\GL (model prog w) A (getItem o i) Q E a) E e) E s):
  GL (model prog w) A (eval (.Subscript value b pos) env) Q E s:=by
 refine Subscript_ (GX h (λo e j=>GX j (λi a c=>?_) λ_ _ x=>x) λ_ _ x=>x);obtain⟨g,c⟩:=c;unfold subscriptTail;refine GE ?_;rw[getitemInPython_of_ne g.not_modules];refine GE (wpAny_specialOf g hl ?_);have d:GL (model prog w) A (subscripted b false o i) (λr f=>GL (model prog w) A (letTemporaryGo value o r >>= λ_=>pure r) Q E f) E a:=by rw[hs o i];exact wpAny_operating (GX c (λr f k=>GE (wpAny_letTemporaryGo (GK k))) λ_ _ x=>x)
 first
  |exact GK (GE d)
  |exact GE (GK (GE d))
  |exact GE d
theorem QQ(I:Inv X aA σ H s)(g:cI H a y o):s.TypeIs (.ref a) "dict":=by
 rcases g with ⟨aB,k,e,_,_⟩ | ⟨aB,k,b,e,_,_,_⟩
 ·obtain⟨_,_,vs,_,dd⟩:=QL I.hok e;exact dd.typeIs
 ·obtain⟨_,_,xs,_,dd⟩:=QN I.hok e;exact dd.typeIs
def OZ(td ty:TE):TE:=λσ H Q=>td σ H λx H1=>ty σ H1 λy H2=>∃a v,x=.ref a/\cI H2 a y (some v)/\Q v H2
def mJ(ty td:TE):TE:=λσ H Q=>ty σ H λy H1=>td σ H1 λx H2=>∃a o,x=.ref a/\cI H2 a y o/\Q (.bl o.isSome) H2
def XG(ty td:TE):TE:=λσ H Q=>ty σ H λy H1=>td σ H1 λx H2=>∃a o,x=.ref a/\cI H2 a y o/\Q (.bl (!o.isSome)) H2
def rR(td ty tv:TE):TS:=λD σ H=>tv σ H λv H1=>td σ H1 λx H2=>ty σ H2 λy c=>∃a b,x=.ref a/\fN c a y v b/\D.nx σ b
section
variable{X:Cx}{o i e value:GR}{pos pos' tpos:Pos}{td ty tv:TE}
theorem Mf(j:X.A.units+1<cLine)(m:PE X o td)(hi:PE X i ty)(hs:Yp i):PE X (.Subscript o i pos) (OZ td ty):=by intro aA s σ H Q I h;refine PM Dk.lookup hs (aW (m aA s σ H _ I h) λu k ⟨x,H1,n,d,f⟩=>aW (hi aA k σ H1 _ n f) λq r qQ=>?_);obtain⟨y,H2,b,e,a,v,ex,g,l⟩:=qQ;subst ex;obtain rfl:u=O.ref a:=d;exact⟨QQ b g,UF j b g e λt w c p=>⟨v,H2,c,p,l⟩⟩
theorem Zk(k:X.A.units+1<cLine)(hi:PE X i ty)(n:PE X o td):PC X .In i o (mJ ty td):=by intro aA s σ H Q I h;refine aW (hi aA s σ H _ I h) λq l ⟨y,H1,p,f,j⟩=>aW (n aA l σ H1 _ p j) λu r qQ=>?_;obtain⟨x,H2,e,d,a,c,ex,g,m⟩:=qQ;subst ex;obtain rfl:u=O.ref a:=d;exact rT k e g f λt b=>⟨.bl c.isSome,H2,b,Y,m⟩
theorem Mt(k:X.A.units+1<cLine)(hi:PE X i ty)(n:PE X o td):PC X .NotIn i o (XG ty td):=by intro aA s σ H Q I h;refine aW (hi aA s σ H _ I h) λq l ⟨y,H1,p,f,j⟩=>aW (n aA l σ H1 _ p j) λu r qQ=>?_;obtain⟨x,H2,e,d,a,c,ex,g,m⟩:=qQ;subst ex;obtain rfl:u=O.ref a:=d;exact Yr k e g f λt b=>⟨.bl (!c.isSome),H2,b,Y,m⟩
theorem Pn(w:X.A.units+1<cLine)(A:PE X o td)(hi:PE X i ty)(p:PE X value tv)(hs:swapsWith value (some (.Subscript o i pos')) pos.line X.env=pure false):
  PS X (.Assign [.Subscript o i pos'] value pos) (rR td ty tv):=by
 intro aA s σ H D I h;refine wpAny_Assign_Subscript (aW (p aA s σ H _ I h) λr e ⟨v,H1,m,n,d⟩=>aW (A aA e σ H1 _ m d) λu b ⟨x,H2,t,j,f⟩=>aW (hi aA b σ H2 _ t f) λB F qQ=>?_) hs;obtain⟨y,E,q,k,a,z,ex,g,c⟩:=qQ;subst ex;obtain rfl:u=O.ref a:=j;exact Ug w q g k n λC l=>⟨σ,z,l,c⟩
end
theorem Vd(h:Heap)(a:G1<h.objs.size):aT P w H (h.push { cls:=.type "dict",data:=.dict #[] }) h.objs.size (.dT []):=⟨Az _,beq_eq_false_iff_ne.mpr (Ne.symm (AL a)),[],.nil,zN (Ap _ rfl) ⟨Y,Y,Y⟩ Y Y Dq⟩
def Zp:TE:=λ_ H Q=>∀p,H p=none->Q (.ref p) (aK H p (.dT []))
section
variable{X:Cx}{pos:Pos}
theorem Oh:PE X (.Dict [] [] pos) Zp:=λaA s σ H Q I h=>wpAny_Dict_empty ⟨.ref s.heap.objs.size,_,I.laid (a:=s.heap.objs.size) (o:=.dT []) (t':=s.toks) (λ_ _ q=>Ac _ q) (Ag _) (Vd s.heap I.big),Y,h _ (I.hok.fresh (Ag _))⟩
end
structure M1(X:Cx)(o:GR)(m:Str)(apos:Pos)(e:GR)(cpos:Pos):Prop where
 base:attributeBase o m X.env (eval o X.env)=eval o X.env
 few:((backTo cpos (GO [e] X.env)).all (λx=>!x.1)&&(backToKw cpos (keywordEach [] X.env)).all (λx=>x.1.isSome)
 &&decide (([e]:List GR).length+([]:List Keyword).length+(if ([]:List Keyword).isEmpty then 0 else 1)<30))=true
 line:(apos.endLine==cpos.line)=true
 trees:backTo cpos (GO [e] X.env)=[(false,eval e X.env)]
structure M2(X:Cx)(o:GR)(m:Str)(apos:Pos)(e f:GR)(cpos:Pos):Prop where
 base:attributeBase o m X.env (eval o X.env)=eval o X.env
 few:((backTo cpos (GO [e,f] X.env)).all (λx=>!x.1)&&(backToKw cpos (keywordEach [] X.env)).all (λx=>x.1.isSome)
 &&decide (([e,f]:List GR).length+([]:List Keyword).length+(if ([]:List Keyword).isEmpty then 0 else 1)<30))=true
 line:(apos.endLine==cpos.line)=true
 trees:backTo cpos (GO [e,f] X.env)=[(false,eval e X.env),(false,eval f X.env)]
section
variable{X:Cx}{aA:List (Z×Obj)}{σ:St}{H:Hp}{s:GF}{a:Z}{y d:V}{u r:O}{o:Option V}{A:GS}{E:O->GF->Prop}
end
section
variable{X:Cx}{o e f:GR}{apos cpos:Pos}{td ty tx:TE}
end
section
variable{X:Cx}{aA:List (Z×Obj)}{σ:St}{H:Hp}{s:GF}{a:Z}{aB:List (bF×V)}{A:GS}{E:O->GF->Prop}
end
section
variable{X:Cx}{aA:List (Z×Obj)}{σ:St}{H:Hp}{s:GF}{a:Z}{y:V}{u:O}{A:GS}{E:O->GF->Prop}
end
section
variable{prog:GJ}{w:GQ}{A:GS}{E:O->GF->Prop}
end
section
variable{X:Cx}
end
section
variable{X:Cx}{aA:List (Z×Obj)}{σ:St}{H:Hp}{s:GF}{h':Heap}
theorem Inv.turnedL{t':Nat}{ch:List Z}(I:Inv X aA σ H s)(k:∀b o,b∉ch->s.heap.get? b=some o->h'.get? b=some o)(d:∀b∈ch,M6 X aA H b):Inv X aA σ H { s with heap:=h',toks:=t' }:=by
 have g:∀b u,H b=some u->b∉ch:=λb u e z=>by have q:=(d b z).1;rw[q] at e;cases e
 refine I.step (g':=s.gens) (d':=s.drawn) (ch:=ch) (λb f=>⟨(d b f).2.2.2.1,(d b f).2.1,(d b f).2.2.2.2.1,(d b f).2.2.2.2.2⟩) (λb o _ _ a e _=>k b o a e) (λb o _ _ a e _=>⟨o.slots,k b o a e⟩)
  (λ_ _ _ _ n=>n) (λb o a e=>⟨o,k b o a e⟩) (λ_ _ e=>e) (λ_ _ _ e=>e) (λb ps e=>⟨#[],by rw[e];simp⟩) (λm h=>?_) (λb u e=>?_) I.bare
 ·obtain⟨o,es,ep,i,r⟩:=h;exact⟨o,es,ep,k _ o (λz=>(d _ z).2.1 rfl) i,r⟩
 ·refine(I.hok b u e).stay (λc v a q=>k c v ?_ q) (λ_ q=>q) λ_ _ q=>q;rcases a with z | z
  ·rw[z];exact g b u e
  ·exact g c _ z
theorem Inv.turnedNew{t':Nat}{ch:List Z}{T:Z}{g:HO}(I:Inv X aA σ H s)(k:∀b o,b∉ch->s.heap.get? b=some o->h'.get? b=some o)(f:∀b∈ch,M6 X aA H b)(h:s.heap.objs.size<=T)
  (new:aT X.prog X.w (aK H T g) h' T g):Inv X aA σ (aK H T g) { s with heap:=h',toks:=t' }:=by
 have hn:H T=none:=I.hok.fresh h;have i:∀b u,H b=some u->b∉ch:=λb u e z=>by have q:=(f b z).1;rw[q] at e;cases e
 refine I.step (g':=s.gens) (d':=s.drawn) (ch:=ch) (λb a=>⟨(f b a).2.2.2.1,(f b a).2.1,(f b a).2.2.2.2.1,(f b a).2.2.2.2.2⟩) (λb o _ _ d e _=>k b o d e) (λb o _ _ d e _=>⟨o.slots,k b o d e⟩)
  (λb o _ e n=>?_) (λb o d e=>⟨o,k b o d e⟩) (λb xs e=>?_) (λb o u e=>?_) (λb ps e=>⟨#[],?_⟩) (λm j=>?_) (λb u e=>?_) I.bare
 ·rwa [Hf (AL (As (Ao e) h))]
 ·rwa [Hf (Hk e hn)]
 ·rwa [Hf (Hk e hn)]
 ·rw[Hf (Hk e hn),e];simp
 ·obtain⟨o,es,ep,l,r⟩:=j;exact⟨o,es,ep,k _ o (λz=>(f _ z).2.1 rfl) l,r⟩
 ·by_cases a:b=T
  ·subst a;rw[G9] at e;cases e;exact new
  ·rw[Hf a] at e;refine(I.hok b u e).stay (λc v d q=>k c v ?_ q) (λc q=>by rwa [Hf (Hk q hn)]) λc xs q=>by rwa [Hf (Hk q hn)]
   rcases d with z | z
   ·rw[z];exact i b u e
   ·exact i c _ z
theorem Inv.lock(I:Inv X aA σ H s)(h:H d=some u)(a:iM (some u)):∃od,Inv X aA σ (aK H d (.frz od u)) s:=by
 have x:=I.hok d u h;have ex:∃od,s.heap.get? d=some od:=by
  cases u with
  |lst xs=>obtain⟨_,_,_,_,e⟩:=x;exact⟨_,e⟩
  |dK aB=>obtain⟨_,_,_,_,o,_,_,e,_⟩:=x;exact⟨o,e⟩
  |dT aB=>obtain⟨_,_,_,_,o,_,_,e,_⟩:=x;exact⟨o,e⟩
  |set S n=>obtain⟨o,_,_,_,e,_⟩:=x;exact⟨o,e⟩
  |ins C dx fs=>obtain⟨_,_,_,e,_⟩:=x;exact⟨_,e⟩
  |ext φ=>obtain⟨_,⟨_,e⟩,_⟩:=x;exact⟨_,e⟩
  |_=>exact False.elim a
 obtain⟨od,e⟩:=ex;have c:aT X.prog X.w (aK H d (.frz od u)) s.heap d (.frz od u):=by
  refine⟨e,x.stay (λb v _ q=>q) (λb q=>?_) λb xs q=>?_⟩
  ·rwa [Hf (λz=>by rw[z,h] at q;cases q;exact a)]
  ·rwa [Hf (λz=>by rw[z,h] at q;cases q;exact a)]
 exact⟨od,I.write (x:=d) (e:=d) (t':=s.toks) (h':=s.heap) (by rwa [h]) (.inl rfl) (λb v _ q=>q) ⟨od,e⟩ c⟩
theorem Inv.nofrz(I:Inv X aA σ H s)(h:H d=some u)(b:iM (some u)):∀o' a,X.H_0 d≠some (.frz o' a):=λo' a e=>by have q:=I.base.frzs d o' a e;rw[h] at q;cases q;exact b
theorem Inv.unlock(I:Inv X aA σ H s)(h:H d=some (.frz od u))(hn:∀o' g,X.H_0 d≠some (.frz o' g)):Inv X aA σ (aK H d u) s:=by
 have a:∀b o,H b=some o->(∀o' g,o≠.frz o' g)->b≠d:=λb o e k z=>by rw[z,h] at e;cases e;exact k _ _ rfl
 have neN:∀b,H b=none->b≠d:=λb e z=>by rw[z,h] at e;cases e
 refine⟨I.ok,I.os,I.bare,⟨I.base.keep,I.base.slot,λb o e n i=>?_,I.base.there,λb xs e=>?_,λb o x e=>?_,λb ps e=>?_⟩,I.loc,I.cell,?_,λx c e=>?_,λp j=>?_,λb o e=>?_,I.len⟩
 ·rw[Hf (neN b (I.base.free b o e n i))];exact I.base.free b o e n i
 ·have q:=I.base.tups b xs e
  rwa [Hf (a b _ q (λ_ _ z=>nomatch z))]
 ·have q:=I.base.frzs b o x e
  rwa [Hf (λz=>by rw[z] at e;exact hn _ _ e)]
 ·obtain⟨m,q⟩:=I.base.tbls b ps e;exact⟨m,by rwa [Hf (a b _ q (λ_ _ z=>nomatch z))]⟩
 ·rw[Hf (neN _ I.free)];exact I.free
 ·rw[Hf (neN c (I.freeC x c e))];exact I.freeC x c e
 ·obtain⟨e,n,r⟩:=I.pin p j;exact⟨e,by rwa [Hf (neN _ n)],r⟩
 ·by_cases f:b=d
  ·rw[f,G9] at e;cases e;rw[f];obtain⟨_,x⟩:=I.hok d _ h;exact x.stay (λc v _ q=>q) (λc q=>by rwa [Hf (a c _ q (λ_ _ z=>nomatch z))]) λc xs q=>by rwa [Hf (a c _ q (λ_ _ z=>nomatch z))]
  ·rw[Hf f] at e;exact(I.hok b o e).stay (λc v _ q=>q) (λc q=>by rwa [Hf (a c _ q (λ_ _ z=>nomatch z))]) λc xs q=>by rwa [Hf (a c _ q (λ_ _ z=>nomatch z))]
end
section
variable{X:Cx}
theorem VZ{R:It->Hp->Prop}{a:Nat->Heap->Prop}(I:Inv X aA σ H s)(o:Obj)
  (T:eV X.prog X.w X.K tg d9 [s.heap.objs.size] s.heap.objs.size a) (st:a 0 (s.heap.push o)) (q:R d9 H):kC X aA σ tg R (.ref s.heap.objs.size) { s with heap:=s.heap.push o,toks:=tk }:=by
 refine zD Y (I.kept λb d e=>Ac _ e) T st (λb c=>?_) q;have e:b=s.heap.objs.size:=by simpa using c
 subst e;exact I.fpOk (Ag _) (I.hok.fresh (Ag _))
end
section
variable{X:Cx}{tg:GR}
end
def iZ(x:Str):It:=⟨λi _=>i<x.cps.size,λi H v H'=>H'=H/\∃c,x.cps[i]?=some c/\v=.str ⟨#[c]⟩,λi _=>x.cps.size<=i⟩
theorem Qo{P:GJ}{w:GQ}{K:G5}{tg:GR}(it:Z)(x:Str)(t:Tok)(ty:String)(hty:ty="str_ascii_iterator"\/ty="str_iterator"):
  eV P w K tg (iZ x) [it] it (λi h=>h.IsStrIter it ty x t i) where
 mem:=by simp
 obj:=λi h st b hb=>by
  have e:b=it:=by simpa using hb
  subst e;obtain⟨o,e,c,d⟩:=st;exact⟨o,e,λv z=>by rw[d] at z;cases z⟩
 keep:=λi h h' st k=>let ⟨o,ho,r⟩:=st;⟨o,k it (by simp) o ho,r⟩
 item:=by
  intro X hP hw hK hc i aA s σ H E I hf st hg;subst hP hw hK;obtain⟨f0,f1,f2,f3,f4,f5⟩:=hf it (by simp);have W:Walks X.prog X.w X.A it [it] [it] x.cps.size (SignAt x) (λi h=>h.IsStrIter it ty x t i):=by
   rcases hty with e | e
   ·rw[e];exact Walks.strAscii (I.ok.hd hc) it x t
   ·rw[e];exact Walks.strWide (I.ok.hd hc) it x t
  have hno:["enumerate","zip","dict_itemiterator","dict_reverseitemiterator","odict_iterator","itertools.zip_longest","itertools.pairwise"].contains ty=false:=by
   rcases hty with e | e
   ·rw[e];decide
   ·rw[e];decide
  refine W.item i s _ _ hg st λv h' tk hv st' kk=>?_;obtain⟨c,u,hcx,rfl⟩:=hv;have I1:Inv X aA σ H { s with heap:=h',toks:=tk }:=I.turned (λb o hb e=>kk b o (by simpa using hb) e) f0 f1 f3 f4 f5;obtain⟨oi,e,cc,dd⟩:=id st';exact zA Y (SM (s:={ s with heap:=h',toks:=tk }) e cc dd hno ⟨.str ⟨#[c]⟩,H,I1,⟨u,Y⟩,⟨Y,c,hcx,Y⟩,st',λb hb=>(hf b hb).1⟩)
 done:=by
  intro X hP hw hK hc i aA s σ H E I hf st hg;subst hP hw hK;obtain⟨f0,f1,f2,f3,f4,f5⟩:=hf it (by simp);have hx:x.cps[i]?=none:=Fn hg;rcases hty with e | e
  ·rw[e] at st;exact wpAny_pyNext_ascii_end (I.ok.hd hc) st hx λh' eb=>⟨Y,I.turned (t':=s.toks) (λb o hb e=>eb b o hb e) f0 f1 f3 f4 f5⟩
  ·rw[e] at st;exact wpAny_pyNext_wide_end (I.ok.hd hc) st hx λh' eb=>⟨Y,I.turned (t':=s.toks) (λb o hb e=>eb b o hb e) f0 f1 f3 f4 f5⟩
 self:=λA i s Q E st h=>by
  rcases hty with e | e
  ·rw[e] at st;exact wpAny_pyIter_striter_ascii st h
  ·rw[e] at st;exact wpAny_pyIter_striter_wide st h
def nA(te:TE):TI:=λσ H R=>te σ H λv H1=>∃x,v=.str x/\R (iZ x) H1
theorem Z6{X:Cx}{tg e:GR}{te:TE}(c:PE X e te):PI X tg e (nA te):=by
 intro aA s σ H R I h;refine aW (c aA s σ H _ I h) λv b qQ=>?_;obtain⟨y,H1,a,d,x,ex,q⟩:=qQ;subst ex;obtain⟨t,rfl⟩:=d;cases ha:x.cps.all (·<128)
 ·exact wpAny_pyIter_wide ha (VZ (tk:=b.toks) a _ (Qo _ x t "str_iterator" (.inr rfl)) ⟨_,Ap _ rfl,Y,Y⟩ q)
 ·exact wpAny_pyIter_ascii ha (VZ (tk:=b.toks) a _ (Qo _ x t "str_ascii_iterator" (.inl rfl)) ⟨_,Ap _ rfl,Y,Y⟩ q)
section
variable{prog:GJ}{w:GQ}{A:GS}{E:O->GF->Prop}{s:GF}
end
section
variable{X:Cx}{aA:List (Z×Obj)}{σ:St}{H:Hp}{s:GF}{d:Z}{o:Obj}
end
section
variable{P:GJ}{w:GQ}{K:G5}{tg:GR}{d:Z}{o:Obj}{es:Array GZ}{ep:Nat}
end
section
variable{X:Cx}{tg e:GR}{td:TE}{apos cpos:Pos}
end
def iW(K:G5)(a:Z):It:=⟨λi H=>∃(xs:List V) (x:V),aP K H a xs/\xs[i]?=some x,λi H v H'=>∃T x,v=.ref T/\H T=none/\H'=aK H T (.tup [.int (i:Nat),x])/\∀xs,aP K H a xs->xs[i]?=some x,λi H=>∃xs:List V,aP K H a xs/\xs.length<=i⟩
theorem Ub{P:GJ}{w:GQ}{K:G5}{elts:List GR}{kk:Nat}{tpos:Pos}(a e it:Z):
  eV P w K (.Tuple elts kk tpos) (iW K a) [e,it] e (λi h=>(∃old,IsEnum h e it ((i:Nat):Int) old)/\h.IsListIter it a i/\e≠it) where
 mem:=by simp
 obj:=λi h st b hb=>by
  obtain⟨⟨old,he⟩,⟨o,ho,hc,hd⟩,_⟩:=st;have e':b=e\/b=it:=by simpa using hb
  rcases e' with z | z
  ·rw[z];exact⟨_,he,λv q=>nomatch q⟩
  ·rw[z];exact⟨o,ho,λv q=>by rw[hd] at q;cases q⟩
 keep:=λi h h' st k=>let ⟨⟨old,he⟩,hi,hne⟩:=st;⟨⟨old,k e (by simp) _ he⟩,hi.at λo q=>k it (by simp) o q,hne⟩
 item:=by
  intro X hP hw hK hc i aA s σ H E I hf st hg;subst hP hw hK;obtain⟨⟨old,he⟩,hit,hne⟩:=st;obtain⟨xs,x,hq,hx⟩:=hg;obtain⟨aD,rv,p,hz⟩:=I.list hq;obtain⟨u,hu,ru⟩:=rv.get hx;have hel:e<s.heap.objs.size:=Ao he;have hil:it<s.heap.objs.size:=by obtain⟨_,q,_⟩:=hit;exact Ao q
  refine wpAny_pyNext_enum_item he hit p.isList (x:=u) (by simpa using hu) hne λh' ho hit' hT hsz hk=>?_;refine zA Y (wpAny_letOwnedTupleGo_enum (s:={ s with heap:=h',toks:=s.toks+1 }) ho λh'' he' sb=>?_);have hT2:h''.get? s.heap.objs.size=some { cls:=.type "tuple",data:=.seq #[.int i s.toks,u] }:=(sb.2 _ (Dm hel)).trans hT;have new:aT X.prog X.w (aK H s.heap.objs.size (.tup [.int (i:Nat),x])) h'' s.heap.objs.size (.tup [.int (i:Nat),x]):=⟨⟨by show 2<=GI;decide,Nq hT2 rfl⟩,[.int i s.toks,u],.cons ⟨_,Y⟩ (.cons ru .nil),⟨_,hT2,Y,_,Y⟩⟩
  have I1:Inv X aA σ (aK H s.heap.objs.size (.tup [.int (i:Nat),x])) { s with heap:=h'',toks:=s.toks+1 }:=I.turnedNew (ch:=[e,it]) (λb ob hb q=>(sb.2 b (λz=>hb (by simp[z]))).trans (hk b ob (λz=>hb (by simp[z])) (λz=>hb (by simp[z])) q)) hf (Ag _) new
  refine⟨.ref s.heap.objs.size,_,I1,Y,⟨_,x,Y,I.hok.fresh (Ag _),Y,λys hy=>by rwa [I.list_inj hy hq]⟩,⟨⟨u,?_⟩,hit'.at λo q=>(sb.2 it (Ne.symm hne)).trans q,hne⟩,λb hb=>?_⟩
  ·have e1:((i+1:Nat):Int)=(i:Int)+1:=by lia
   rwa [e1]
  ·have hb':b<s.heap.objs.size:=by
    have e':b=e\/b=it:=by simpa using hb
    rcases e' with z | z
    ·rwa [z]
    ·rwa [z]
   rw[Hf (AL hb')];exact(hf b hb).1
 done:=by intro X hP hw hK hc i aA s σ H E I hf st hg;subst hP hw hK;obtain⟨⟨old,he⟩,hit,hne⟩:=st;obtain⟨xs,hq,hx⟩:=hg;obtain⟨aD,rv,p,hz⟩:=I.list hq;obtain⟨f0,f1,f2,f3,f4,f5⟩:=hf it (by simp);have hl:=rv.length;exact wpAny_pyNext_enum_end (I.ok.hd hc) he hit p.isList (by simp;lia) λh' eb=>⟨Y,I.turned (t':=s.toks) (λb o hb q=>eb b o hb q) f0 f1 f3 f4 f5⟩
 self:=λA i s Q E st h=>let ⟨⟨_,he⟩,_⟩:=st;wpAny_pyIter_enum he h
def rP(K:G5)(ta:TA):TI:=λσ H R=>ta σ H λvs H1=>∃a xs,vs=[.ref a]/\aP K H1 a xs/\R (iW K a) H1
theorem XZ{X:Cx}{e:GR}{ta:TA}{p pos tpos:Pos}{k:List GR}{v:Nat}(l:Gl X "enumerate")(x:X.mg "enumerate"=none)(m:PA X [e] ta)(hs:GO [e] X.env=[(false,eval e X.env)]:=by rfl):
  PI X (.Tuple k v tpos) (.Call (.Name "enumerate" p) [e] [] pos) (rP X.K ta):=by
 intro aA s σ H R I h;refine Call_ (KW I l x boot_enumerate (Bw (aW (m pos aA s σ H _ I h) λE c qQ=>?_) hs rfl));obtain⟨vs,H1,d,B,n⟩:=qQ;obtain⟨a,xs,ex,u,q⟩:=n;subst ex;cases B with
 |cons r o=>
  cases o;cases r;obtain⟨aD,F,t,D⟩:=d.list u;refine call_enumerate_list t.isList λh' f w C j=>wpAny_pyIter_enum f ?_;have A:Inv X aA σ H1 { c with heap:=h' }:=d.kept (t':=c.toks) j;refine zD Y A (Ub a (c.heap.objs.size+1) c.heap.objs.size) ⟨⟨.none,f⟩,w,Nat.succ_ne_self _⟩ (λb i=>?_) q;have y:b=c.heap.objs.size+1\/b=c.heap.objs.size:=by simpa using i
  have g:c.heap.objs.size<=b:=by
   rcases y with z | z
   ·rw[z];exact Cd _ _
   ·rw[z];exact Ag _
  exact d.fpOk g (d.hok.fresh g)
theorem Uw:G3 "zip"=some (.type "zip"):=by decide
end L2
section
namespace Bits
end Bits
end
section
namespace TL
open PySem.Builtin PySem.Builtin.Str PySem.StrLaws
end TL
end
namespace L2
section
variable{X:Cx}{aA:List (Z×Obj)}{σ:St}{H:Hp}{s:GF}{Q:VK}
end
section
variable{X:Cx}
end
section
variable{X:Cx}{o e:GR}{to te:TE}
end
variable{X:Cx}
end L2
namespace Att
open PySem.W PySem.Calls
variable{prog:GJ}{w:GQ}{A:GS}{E:O->GF->Prop}{s:GF}{K:Frag}
end Att
namespace L2
def IS(s:GU)(j:Nat):GU:=match s with
 |.ClassDef _ _ _ body _ _ _ _ _ _ _=>body.getD j (.Pass ⟨0,0,0,0⟩)
 |_=>.Pass ⟨0,0,0,0⟩
def Ic(s:GU):Arguments:=match s with
 |.FunctionDef _ a _ _ _ _ _ _ _ _=>a
 |_=>{ posonlyargs:=[],args:=[],vararg:=none,kwonlyargs:=[],kw_defaults:=[],kwarg:=none,defaults:=[] }
def HM(s:GU):List GU:=match s with
 |.FunctionDef _ _ b _ _ _ _ _ _ _=>b
 |_=>[]
def Hj(s:GU):Scope:=match s with
 |.FunctionDef _ _ _ _ _ _ sc _ _ _=>sc
 |_=>{ kind:=.function,names:=[],isGenerator:=false,isCoroutine:=false }
abbrev fY:fT:=λ_ _ _ _ _ _=>False
abbrev E0:XK:=λ_ _ _=>False
theorem pS:Jf fY X E0:=λ_ _ _ _ _ _ _ h=>h.elim
structure bI(K:G5)(x qual:Str)(st:GU)(f:Z)(fd:GP):Prop where
 ex:∃(oc:O) (od:Option Z) (kV doc pm:O) (an:Option Z) (aC ct:O) (osl:Array (Option O)),
  fd=A7 x qual (Ic st) (HM st) (Hj st) .none kV doc pm an aC ct/\K.lookup f=some ⟨oc,od,.func fd,osl⟩/\Br K aC qual=true
 kp:AI K (.ref f)=true
section
variable{P:GJ}{w:GQ}{K:G5}{mg:Str->Option O}{base:Heap}
theorem bI.ok{x qual:Str}{st:GU}{f:Z}{fd:GP}{N ps:List Str}{k:Nat}{sp:Sp}(F:bI K x qual st f fd)(S:aH N ps (Hj st))(len:∀vs H Q E,sp vs H Q E->vs.length=ps.length)
  (hbody:∀(a:O) (A:GS) (outer:List Env) (s:GF) (H:Hp) (vs:List V) (Q:VK) (E:XK),aY k (A.deeper (envOfC qual (Hj st) s.heap.objs.size f a))->sp vs H Q E->
   ∃t,eQ (HS fY P w K mg base N qual (Hj st) f a A outer s H E).nox (HM st) t/\t { nx:=λ_ H'=>Q .non H',rt:=Q } (start N vs) H):aN P w K mg base fY (k+1) f fd ps sp:=by
 obtain⟨j,od,kV,i,l,m,a,g,n,rfl,c,b⟩:=F.ex;refine U3 c b S len λA outer s H vs Q E e d=>?_;obtain⟨t,h,q⟩:=hbody a A outer s H vs Q E e d;exact⟨t,h.nox,q⟩
theorem bI.binds{x qual:Str}{st:GU}{f:Z}{fd:GP}{ps:List Str}(F:bI K x qual st f fd)
  (h:∀(kV b c:O) (d:Option Z) (e a:O) (us:List O),us.length=ps.length->bindArgs (A7 x qual (Ic st) (HM st) (Hj st) .none kV b c d e a) ⟨us,[]⟩=pure (ps.zip us)):Binds K fd ps []:=by
 obtain⟨j,od,kV,b,c,d,e,a,k,rfl,i,g⟩:=F.ex;exact .all (h kV b c d e a)
theorem ML{x qual:Str}{st:GU}{f:Z}{h:O}{od g:Option Z}{i:Array (Option O)}{kV d e a b:O}(l:K.lookup f=some ⟨h,od,.func (A7 x qual (Ic st) (HM st) (Hj st) .none kV d e g a b),i⟩)
  (c:Br K a qual=true) (k:AI K (.ref f)=true):bI K x qual st f (A7 x qual (Ic st) (HM st) (Hj st) .none kV d e g a b):=⟨⟨h,od,kV,d,zG Y l c⟩,k⟩
end
theorem JI(a:aY k A):A.units+1<cLine:=AD (F4 (by decide:1<=64) _) a.units
theorem Kh(h:n<=1000):n<GI:=AD h (by decide)
section
variable{X:Cx}
theorem J(i:Nat)(a:X.N[i]?=some x:=by rfl)(b:iO X.env.scope x:=by first | exact Or.inl rfl | exact Or.inr (Or.inl rfl) | exact Or.inr (Or.inr rfl))(hd:(x==("__debug__":Str))=false:=by decide)
  (hcd:(x==("__classdict__":Str))=false:=by decide):PE X (.Name x pos) (HW i):=Wo a b hd hcd
end
theorem L6{A B:Prop}(h:B):if false=true then A else B:=by rwa [G6 Ak]
theorem Mo{A B:Prop}(h:A):if true=true then A else B:=by rwa [G7 rfl]
theorem HN{c A B:Prop}[Decidable c](h1:c->A)(h2:¬c->B):if c then A else B:=by
 by_cases h:c
 ·rw[G7 h];exact h1 h
 ·rw[G6 h];exact h2 h
def aG(H H':Hp):Prop:=∀b o,H b=some o->H' b=some o
theorem aG.refl(H:Hp):aG H H:=λ_ _ h=>h
theorem aG.trans(a:aG H H1)(b:aG H1 H2):aG H H2:=λc o h=>b c o (a c o h)
theorem aG.free(e:aG H H')(h:H' l=Option.none):H l=Option.none:=by
 cases q:H l with
 |none=>rfl
 |some o=>rw[e l o q] at h;cases h
theorem aG.seq{K:G5}{H H':Hp}{a:Z}{xs:List V}(e:aG H H')(h:aP K H a xs):aP K H' a xs:=by
 rcases h with (h | ⟨o,h⟩) | h
 ·exact .inl (.inl (e _ _ h))
 ·exact .inl (.inr ⟨o,e _ _ h⟩)
 ·exact .inr h
section
variable{κ:Type}[DecidableEq κ]
end
theorem Jo{xs:List V}{z:Int}{j:Nat}{v:V}(e:z=(j:Int))(h:xs[j]?=some v):gE xs z=some v:=by rw[e];exact Mm h
theorem aG.made(a:H x=Option.none)(nd:H dx=Option.none)(k:∀b o,(aK (aK H dx (.own x)) x (.ins C dx [])) b=some o->b≠x->H1 b=some o):aG H H1:=λb o e=>k b o (by rwa [Hf (Hk e a),Hf (Hk e nd)]) (Hk e a)
end L2
namespace LX
def Kept(fs xs:List Z)(h h':Heap):Prop:=∀b o,h.get? b=some o->b∉xs->(b∉fs->h'.get? b=some o)/\∃sl,h'.get? b=some { o with slots:=sl }
structure gG(h:Heap)(e:Z)(cls:O)(d T:Z)(fl:O):Prop where
 ne:T≠e
 rec_:∃sl vs,h.get? e=some ⟨cls,some d,.fields vs,sl⟩/\vs[1]?=some (.ref T)
 tb:∃oT ts,h.get? T=some oT/\oT.data=.fields ts/\ts[3]?=some fl
section
variable{M:Model}{A:GS}{E:O->GF->Prop}{s:GF}{base:Heap}{env:Env}{outer:List Env}{L e d:Z}{cls:O}{sl:Array (Option O)}{vs:Array O}{Q:Unit->GF->Prop}
abbrev gH(l:List Env):List Z:=l.filterMap (·.frame)
theorem eC{l:List Env}{e:Z}{oe:Obj}{vs:Array O}{h base:Heap}(c:h.FunFrames base l)(b:h.get? e=some oe)(hd:oe.data=.fields vs):e∉gH l:=by intro m;obtain⟨_,o,a,hn⟩:=c.mem m;rw[b] at a;cases a;exact hn vs hd
theorem N0{head:O}{x:Bool}(p:A.frames=some (env::outer))(j:s.heap.FunFrames base (env::outer))(q:env.frame=some L)
  (he:s.heap.get? e=some ⟨cls,some d,.fields vs,sl⟩) (h1:1<vs.size)
  (k:∀h' T,Kept (gH (env::outer)) [e] s.heap h'->s.heap.get? T=none->gG h' e cls d T (rawInt L)->Q () { s with heap:=h' }):
  GL M A (do
   let fr ← frameOf env
   let pl ← entryPlaceOf L x
   let b ← EntryCells.newEntry head fr .none (rawInt L) .none pl
   setField (.ref e) 1 b) Q E s:=by
 have v:e∉gH (env::outer):=eC j he rfl;refine GE (wpAny_frameOf_fun p j q λg1 hs=>?_);refine GE (wpAny_entryPlaceOf λpl C=>?_);have e1:g1.get? e=some ⟨cls,some d,.fields vs,sl⟩:=(hs.2.1 e v).trans he;unfold EntryCells.newEntry newFields;generalize f:([head,.ref L,.none,rawInt L,.none]++(if pl.isEmpty then Ar 6 O.none else pl):List O)=a;have y:a[3]?=some (rawInt L):=by rw[<-f];rfl
 refine GE (G2 ?_ (by rw[<-f];exact C.sizeOk5 _ _ _ _ _));generalize l:({ cls:=.type "traceback",dict:=none,data:=.fields a.toArray }:Obj)=nt;have h:(g1.push nt).get? e=some ⟨cls,some d,.fields vs,sl⟩:=Ac _ e1;have i:g1.objs.size≠e:=Dm (Ao e1);have n:(g1.push nt).get? g1.objs.size=some nt:=Ap _ (by rw[<-l];rfl);refine wpAny_setField h rfl h1 (k _ g1.objs.size (λb o c B=>?_) ?_ ⟨i,⟨sl,vs.setIfInBounds 1 (.ref g1.objs.size),?_,?_⟩,zR nt a.toArray ?_ (by rw[<-l]) (by simpa using y)⟩)
 ·have w:b≠e:=λz=>B (by rw[z];exact Ai.mpr rfl);have g:∀o',g1.get? b=some o'->((g1.push nt).update e (Obj.mapFields (·.setIfInBounds 1 (.ref g1.objs.size)))).get? b=some o':=λo' u=>(BE _ _ (Ne.symm w)).trans (Ac _ u)
  obtain⟨r,t⟩:=hs.2.2 b o c;exact⟨λm=>g o ((hs.2.1 b m).trans c),r,g _ t⟩
 ·exact Eu (by rw[hs.1];exact Ag _)
 ·exact BZ _ h rfl
 ·simp[h1]
 ·exact(BE _ _ (Ne.symm i)).trans n
theorem RJ(b:A.frames=some (env::outer))(c:s.heap.FunFrames base (env::outer))(a:env.frame=some L)
  (he:s.heap.get? e=some ⟨cls,some d,.fields vs,sl⟩) (h1:vs[1]?=some .none)
  (k:∀h' T,Kept (gH (env::outer)) [e] s.heap h'->s.heap.get? T=none->gG h' e cls d T (rawInt L)->Q () { s with heap:=h' }):
  GL M A (noteFrame (.ref e) env) Q E s:=by
 have z:1<vs.size:=(Cs.mp h1).1;unfold noteFrame;simp only[a];refine GE (GT he rfl h1 ?_);rw[G6 (by decide)];exact N0 b c a he z k
theorem T4(u:A.frames=some (env::outer))(x:s.heap.FunFrames base (env::outer))(p:env.frame=some L)(F:gG s.heap e cls d T .none)
  (k:∀h' c,Kept (gH (env::outer)) [e,T] s.heap h'->s.heap.get? c=none->gG h' e cls d c (rawInt L)->Q () { s with heap:=h' }):
  GL M A (noteFrame (.ref e) env) Q E s:=by
 obtain⟨w,⟨sl,vs,n,h1⟩,C,j,g,f,l⟩:=F;have z:1<vs.size:=(Cs.mp h1).1;have y:3<j.size:=(Cs.mp l).1;unfold noteFrame;simp only[p];refine GE (GT n rfl h1 ?_);rw[G7 (show(O.ref T != O.none)=true from by simp)];refine GE (GT g f l ?_);rw[G6 (show ¬((O.none==rawInt L)=true) from by simp[rawInt])];refine GE (wpAny_setField g f y ?_);have h:∀b,b≠T->(s.heap.update T (Obj.mapFields (·.setIfInBounds 3 O.none))).get? b=s.heap.get? b:=λb a=>BE _ _ (Ne.symm a);have t:∀b o,s.heap.get? b=some o->(∀vs,o.data≠.fields vs)->b≠T:=λb o a hn q=>by rw[q,g] at a;cases a;exact hn j f
 refine N0 (s:={ s with heap:=s.heap.update T (Obj.mapFields (·.setIfInBounds 3 O.none)) }) u (x.of_keeps λb o a hn=>⟨o,(h b (t b o a hn)).trans a,Y⟩) p ((h e (Ne.symm w)).trans n) z λh' c K i B=>k h' c (λb o a r=>?_) ?_ B
 ·have v:b≠T:=λq=>r (by rw[q];simp);exact K b o ((h b v).trans a) λm=>r (by rw[Ai.mp m];simp)
 ·by_cases q:c=T
  ·subst q;have:=BZ (Obj.mapFields (·.setIfInBounds 3 O.none)) g (Obj.isFreed_of_fields (Obj.data_mapFields f _));rw[this] at i;cases i
  ·exact(h c q).symm.trans i
theorem land(F:gG s.heap e cls d T fl)(k:∀h',(∀b o,b≠T->s.heap.get? b=some o->h'.get? b=some o)->gG h' e cls d T .none->Q () { s with heap:=h' }):
  GL M A (setFlight (.ref e) none) Q E s:=by
 obtain⟨h,⟨sl,vs,f,h1⟩,m,j,c,a,l⟩:=F;have g:3<j.size:=(Cs.mp l).1;refine wpAny_setFlight_none f rfl h1 c a g (k _ (λb o i e=>(BE _ _ (Ne.symm i)).trans e) ⟨h,⟨sl,vs,(BE _ _ h).trans f,h1⟩,_,_,BZ _ c (Obj.isFreed_of_fields (Obj.data_mapFields a _)),Obj.data_mapFields a _,?_⟩);simp[g]
inductive iG(h:Heap)(e:Z)(cls:O)(d:Z):List Z->Prop
 |first {sl:Array (Option O)} {vs:Array O}:h.get? e=some ⟨cls,some d,.fields vs,sl⟩->vs[1]?=some .none->iG h e cls d [e]
 |next {T:Z}:gG h e cls d T .none->iG h e cls d [e,T]
theorem Vu(b:A.frames=some (env::outer))(c:s.heap.FunFrames base (env::outer))(f:env.frame=some L)(d8:iG s.heap e cls d xs)
  (k:∀h' a,Kept (gH (env::outer)) xs s.heap h'->s.heap.get? a=none->gG h' e cls d a (rawInt L)->Q () { s with heap:=h' }):
  GL M A (noteFrame (.ref e) env) Q E s:=by
 cases d8 with
 |first g h1=>exact RJ b c f g h1 k
 |next F=>exact T4 b c f F k
theorem landed{n:O->GF->Prop}(j:A.frames=some (env::outer))(p:s.heap.FunFrames base (env::outer))(t:env.frame=some L)(d8:iG s.heap e cls d xs)
  (k:∀h' g,Kept (gH (env::outer)) xs s.heap h'->s.heap.get? g=none->gG h' e cls d g .none->Q () { s with heap:=h' }):
  GL M A (noteFrame (.ref e) env) (λ_ s1=>GL M A (setFlight (.ref e) none) Q n s1) E s:=by
 refine Vu j p t d8 λh1 T K h F=>land F λh2 f u=>k h2 T (λb o a r=>?_) h u;have c:b≠T:=λq=>by rw[q,h] at a;cases a
 obtain⟨l,sl,i⟩:=K b o a r;exact⟨λm=>f b o c (l m),sl,f b _ c i⟩
theorem gI(b:A.frames=some (env::outer))(f:s.heap.FunFrames base (env::outer))(c:env.frame=some L)(d8:iG s.heap e cls d xs)
  (k:∀h' a,Kept (gH (env::outer)) xs s.heap h'->s.heap.get? a=none->gG h' e cls d a .none->Q () { s with heap:=h' }):
  GL M A (leaving env (.ref e)) Q E s:=by
 unfold leaving;exact GE (landed b f c d8 k)
end
abbrev iK(C t d:Z):Obj:=⟨.ref C,some d,.fields #[.ref t,.none,.none,.none,.bool false,.none],#[]⟩
abbrev fZ:List O:=[.type "Exception",.type "BaseException",.type "object"]
section
variable{M:Model}{A:GS}{E:O->GF->Prop}{env:Env}
variable{nm q:Str}{C N:Z}{bs:List O}{hdct:Bool}{sn:List Str}{sub:List O}{ab:Bool}{col:Option Bool}{dd:Option Z}{k0 k1 k2 k3 k5:Option O}{newId:String}
theorem fL{Q:Flow->GF->Prop}(j:A.handled=none)
  (h:GL M A x (λv s1=>∃e t d,v=.ref e/\s1.heap.get? C=some (excClassObj nm q C N bs fZ hdct sn sub ab col dd k0 k1 k2 k3 k5 newId) ∧
   s1.heap.get? e=some (iK C t d)/\E (.ref e) s1) E s):GL M A (raiseStmt env (some x) none) Q E s:=by
 have i:(O.ref C::fZ).contains (.type "BaseException")=true:=by rw[List.contains_cons,show fZ.contains (.type "BaseException")=true by decide,Bool.or_true]
 unfold raiseStmt;refine GE (GX h (λv s1 c=>?_) λ_ _ z=>z);obtain⟨e,t,d,rfl,a,f,b⟩:=c;obtain⟨k,g,dr,tk,os⟩:=s1
 repeat (first | with_reducible refine wpAny_loadPart_at f ?_ | with_reducible refine wpAny_loadPart_at a ?_ | (with_reducible refine wpAny_isSubtype_exc a ?_;rw[i]) | wp_step)
 exact wpAny_raiseNew_none j b
end
section
variable{prog:GJ}{w:GQ}{A:GS}{E:O->GF->Prop}{h:Heap}{g:Array GenState}{dr:Drawn}{tk:Nat}{os:OsState}
variable{nm q:Str}{C N:Z}{bs:List O}{sn:List Str}{sub:List O}{ab:Bool}{col:Option Bool}{dd:Option Z}{k0 k1 k2 k3 k5:Option O}{newId:String}{mN:Str->Option O}
theorem Wu{Q:Fin->GF->Prop}
  (hC:h.get? C=some (excClassObj nm q C N bs fZ true sn sub ab col dd k0 k1 k2 k3 k5 newId)) (hn:h.Ns N mN) (hna:mN name=none)
  (hB:typeLookup (.type "Exception") name=pure none) (ho:h.get? e=some o) (hoc:o.cls=.ref C) (hod:o.dict=none) (hnc:∀c,o.data≠.cls c)
  (k:∀h' D d,h'.get? e=some { o with dict:=some d }->d≠e->h.get? d=none->h'.Ns1 d (λy=>if y=name then some v else none)->(∀b u,b≠e->h.get? b=some u->h'.get? b=some u)->Q (.done (.ret .none)) ⟨h',g,dr,D,os⟩):
  GL (model prog w) A (Builtin.«object.__setattr__» ⟨[.ref e,.str name tn,v],[]⟩) Q E ⟨h,g,dr,tk,os⟩:=by
 have j:=F.store_Exception;have s:=j.passes (.ref e);unfold Builtin.«object.__setattr__»
 repeat (first | rw[refuse_eq] | (rw[refuseLoop_ref,s]) | (with_reducible refine wpAny_loadPart_at ho ?_;rw[hoc]) | with_reducible refine wpAny_mroOf_exc hC ?_ | (with_reducible refine wpAny_typeLookup_exc hC hn j.mro hB ?_;rw[hna]) | wp_step)
 rw[hod,G6 (by simp[typeHasDict])];split
 ·rename_i z;cases z
 split
 ·rename_i c z;exact absurd z (hnc c)
 ·generalize i:({ cls:=.type "dict",data:=.dict #[] }:Obj)=a;have m:a.isFreed=false:=by rw[<-i];rfl
  have e1:(h.push a).get? e=some o:=Ac _ ho;have ne:e≠h.objs.size:=AL (Ao ho);refine GE (wpAny_alloc' (GE (wpAny_update' e1 (GK ?_))));generalize f:((h.push a).update e λo=>{ cls:=o.cls,dict:=some h.objs.size,data:=o.data,slots:=o.slots })=h1;have n:h1.get? h.objs.size=some a:=by rw[<-f];exact(FV _ _ _ _ ne.symm).trans (Heap.get?_push_at rfl m)
  have G:h1.Ns h.objs.size (λ_=>none):=⟨a,#[],0,n,by rw[<-i],λx d9=>absurd d9 (by simp),λ_=>rfl⟩;show GL _ _ (Builtin.ObjectAttr.storeInDict h.objs.size (.str name tn) name v) _ _ _;unfold Builtin.ObjectAttr.storeInDict Builtin.ObjectAttr.newKeyGuard;refine GE (GK (GE (wpAny_nsSet1 (Heap.Ns1.of_empty G) λh2 n2 hs=>?_)));obtain⟨d8,P,K,I,r,H⟩:=n2.count (Within.cons name v Within.nil);refine GE (wpAny_lookBehind I (by rw[r];exact pastItsLine_dict (AE H (by rw[Af,Cn,sizeLine_eq];lia))) ?_)
  wp_walk
  refine k h2 _ h.objs.size ?_ ne.symm (Eu (Ag _)) n2 (λb u p l=>?_)
  ·refine(hs.2 e ne).trans ?_;rw[<-f];refine BZ _ e1 ?_;have t:=(Heap.get?_some_iff.mp ho).2;obtain⟨L,od,B,M⟩:=o;cases B <;> first | rfl | exact t
  ·refine(hs.2 b (AL (Ao l))).trans ?_;rw[<-f];exact(FV _ _ _ _ p).trans (Ac _ l)
theorem QR{R:Result->GF->Prop}(a:StoreFacts "Exception" fZ sa owner)
  (hC:h.get? C=some (excClassObj nm q C N bs fZ true sn sub ab col dd k0 k1 k2 k3 k5 newId)) (hn:h.Ns N mN) (hna:mN name=none)
  (hB:typeLookup (.type "Exception") name=pure none) (ho:h.get? e=some o) (hoc:o.cls=.ref C) (hod:o.dict=none) (hnc:∀c,o.data≠.cls c)
  (k:∀h' f d,h'.get? e=some { o with dict:=some d }->d≠e->h.get? d=none->h'.Ns1 d (λy=>if y=name then some v else none)->(∀b u,b≠e->h.get? b=some u->h'.get? b=some u)->R (.ok (.ret .none)) ⟨h',g,dr,f,os⟩):
  codeAny (model prog w) A (.call (.builtin sa) ⟨[.ref e,.str name tn,v],[]⟩) R ⟨h,g,dr,tk,os⟩:=by
 exact codeAny_call_builtin a.slot.plain a.entry (wpAny_check_sa a hC ho hoc (Wu hC hn hna hB ho hoc hod hnc k))
theorem fO{Q:Unit->GF->Prop}(a:StoreFacts "Exception" fZ sa owner)
  (hC:h.get? C=some (excClassObj nm q C N bs fZ true sn sub ab col dd k0 k1 k2 k3 k5 newId)) (hn:h.Ns N mN) (hns:mN "__setattr__"=none) (hna:mN name=none)
  (hB:typeLookup (.type "Exception") name=pure none) (ho:h.get? e=some o) (hoc:o.cls=.ref C) (hod:o.dict=none) (hnc:∀c,o.data≠.cls c)
  (k:∀h' f d,h'.get? e=some { o with dict:=some d }->d≠e->h.get? d=none->h'.Ns1 d (λy=>if y=name then some v else none)->(∀b u,b≠e->h.get? b=some u->h'.get? b=some u)->Q () ⟨h',g,dr,f,os⟩):
  GL (model prog w) A (setAttr (.ref e) name v) Q E ⟨h,g,dr,tk,os⟩:=by
 have p:=a.slot.bind (.ref e);unfold setAttr callSpecial? specialOf
 repeat (any_goals (first | assumption | (with_reducible refine wpAny_loadPart_at ho ?_;rw[hoc]) | (with_reducible refine wpAny_typeLookup_exc hC hn a.mro a.slot.lookup ?_;rw[hns]) | wp_step))
 refine QR a hC hn hna hB ho hoc hod hnc λh' f d n j l i m=>?_
 repeat (any_goals (first | assumption | wp_step))
 exact k h' f d n j l i m
end
variable{prog:GJ}{w:GQ}{A:GS}{E:O->GF->Prop}{h:Heap}{g:Array GenState}{dr:Drawn}{tk:Nat}{os:OsState}
variable{nm q:Str}{C N:Z}{bs:List O}{sn:List Str}{sub:List O}{ab:Bool}{col:Option Bool}{dd:Option Z}{k0 k1 k2 k3 k5:Option O}{newId:String}{mN mA:Str->Option O}
end LX
namespace L2
theorem aT.get(x:aT P w H h a o):∃b,h.get? a=some b:=by
 cases o with
 |lst xs=>obtain⟨_,_,_,_,e⟩:=x;exact⟨_,e⟩
 |tup xs=>obtain⟨_,_,_,o,e,_⟩:=x;exact⟨_,e⟩
 |dK aB=>obtain⟨_,_,_,_,o,_,_,e,_⟩:=x;exact⟨_,e⟩
 |dT aB=>obtain⟨_,_,_,_,o,_,_,e,_⟩:=x;exact⟨_,e⟩
 |set S n=>obtain⟨o,_,_,_,e,_⟩:=x;exact⟨_,e⟩
 |ins C dx fs=>obtain⟨_,_,_,e,_⟩:=x;exact⟨_,e⟩
 |own y=>obtain⟨_,e⟩:=x;exact⟨_,e⟩
 |xd fs=>obtain⟨_,⟨_,_,_,e,_⟩,_⟩:=x;exact⟨_,e⟩
 |rng lo hi=>obtain⟨_,_,_,e⟩:=x;exact⟨_,e⟩
 |frz b u=>obtain⟨e,_⟩:=x;exact⟨_,e⟩
 |tbl ps=>exact⟨_,(show h.get? a=some _ from x)⟩
 |met f y=>exact⟨_,(show h.get? a=some _ from x)⟩
 |ext φ=>obtain⟨_,⟨_,e⟩,_⟩:=x;exact⟨_,e⟩
theorem bU.none_of(x:bU P w H h)(e:h.get? a=none):H a=none:=by
 cases q:H a with
 |none=>rfl
 |some u=>obtain⟨o,h1⟩:=(x a u q).get;rw[e] at h1;cases h1
def KE(K:G5)(N:Z):Bool:=match K.lookup N with
 |some ⟨_,_,.dict es _,_⟩=>es.toList.all λe=>match e.key with
  |.str _ _=>true
  |_=>false
 |_=>false
theorem YJ{K:G5}{h:Heap}{N:Z}(X:K.In h)(b:KE K N=true):∃mN,h.Ns N mN/\∀name r,Au K N name=some r->mN name=r:=by
 unfold KE at b;split at b
 ·rename_i c d es ep sl g;refine⟨λx=>nsFind es x,⟨_,es,ep,X _ _ g,Y,λe f=>?_,λ_=>rfl⟩,λname r a=>?_⟩
  ·have q:=Bb.mp b e (by simpa using f);split at q
   ·rename_i n t i;exact⟨n,t,i⟩
   ·cases q
  ·unfold Au at a;rw[g] at a;dsimp only at a;show nsFind es name=r;unfold nsFind findBy;rw[<-FW];split at a
   ·rename_i e f;rw[f];cases a;rfl
   ·rename_i f;rw[f];split at a
    ·cases a
    ·cases a;rfl
 ·cases b
structure jC(K:G5)(C N fI:Z):Prop where
 obj:∃(nm q:Str) (bs:List O) (sn:List Str) (sub:List O) (ab:Bool) (col:Option Bool) (dd:Option Z) (k0 k1 k2 k3 k5:Option O),K.lookup C=some (excClassObj nm q C N bs LX.fZ true sn sub ab col dd k0 k1 k2 k3 k5 "Exception.__new__")
 sk:KE K N=true
 ini:Au K N "__init__"=some (some (.ref fI))
 np:Au K N "place"=some none
 nsa:Au K N "__setattr__"=some none
 nga:Au K N "__getattribute__"=some none
 ngh:Au K N "__getattr__"=some none
 kp:AI K (.ref C)=true
 fn:Cc K (.ref fI)=true
abbrev gR(i:Int):List (Str×V):=[("place",.int i)]
def aS(P:GJ)(w:GQ)(C:Z):fT:=λouter H s E e s'=>∃(ea d T:Z) (H':Hp) (i:Int),e=.ref ea/\LX.gG s'.heap ea (.ref C) d T .none/\s.heap.get? ea=none/\s.heap.get? T=none/\H' ea=none/\H' T=none ∧
 s'.os=s.os/\AllBare s'.gens/\Un (cG outer) [] H H' s.heap s'.heap/\bU P w H' s'.heap/\H' d=some (.xd (gR i))/\E (.ref C) (some d) H'
section
variable{P:GJ}{w:GQ}{K:G5}{mg:Str->Option O}{base:Heap}{N:List Str}{qual:Str}{scope:Scope}{f C ea d:Z}{cd:O}{A:GS}{outer:List Env}{s s':GF}{H H':Hp}{E:XK}{aA:List (Z×Obj)}{σ:St}{i:Int}{xs:List Z}
theorem U6(I:Inv (HS (aS P w C) P w K mg base N qual scope f cd A outer s H E) aA σ H' s')(d8:LX.iG s'.heap ea (.ref C) d xs)(h:∀b∈xs,s.heap.get? b=none/\H' b=none)
  (hd:H' d=some (.xd (gR i))) (hE:E (.ref C) (some d) H'):(HS (aS P w C) P w K mg base N qual scope f cd A outer s H E).xe (.ref ea) s':=by
 have r:ea∈xs:=by cases d8 <;> simp
 refine LX.gI (env:=envOfC qual scope s.heap.objs.size f cd) (outer:=outer) (base:=base) I.ok.frames I.stack rfl d8 λh' k j t F=>?_;have L:s.heap.objs.size<=s.heap.objs.size:=Ag _;have G:∀b o,s.heap.get? b=some o->b∉cG outer->b∉LX.gH (envOfC qual scope s.heap.objs.size f cd::outer):=λb o e g m=>by
  have D:b∈s.heap.objs.size::cG outer:=m;rcases Aq.mp D with z | z
  ·exact absurd (Ao e) (by rw[z];exact Bc _)
  ·exact g z
 have l:∀b o,s.heap.get? b=some o->b∉xs:=λb o e m=>by rw[(h b m).1] at e;cases e
 have B:Un (cG outer) [] H H' s.heap s'.heap:=I.base;have gB:∀b o u,H' b=some u->s'.heap.get? b=some o->h'.get? b=some o:=λb o u e y=>by
  refine(j b o y λm=>?_).1 λm=>?_
  ·rw[(h b m).2] at e;cases e
  ·have z:H' b=none:=I.stkFree b m;rw[z] at e;cases e
 refine zG Y F ⟨(h ea r).1,?_,(h ea r).2,I.hok.none_of t,I.os,I.bare,⟨λb o e n g a=>?_,λb o e n g a=>?_,λb o e n a=>B.free b o e n a,λb o e a=>?_,B.tups,B.frzs,B.tbls⟩,λb o e=>?_,hd,hE⟩
 ·cases q:s.heap.get? k with
  |none=>rfl
  |some o=>obtain⟨o',x⟩:=B.there k o q (by simp);rw[t] at x;cases x
 ·exact(j b o (B.keep b o e n g a) (l b o e)).1 (G b o e g)
 ·obtain⟨sl,e1⟩:=B.slot b o e n g a;obtain⟨v,p⟩:=(j b _ e1 (l b o e)).2;exact⟨v,p⟩
 ·obtain⟨o',e1⟩:=B.there b o e a;obtain⟨v,p⟩:=(j b _ e1 (l b o e)).2;exact⟨_,p⟩
 ·refine(I.hok b o e).stay (λc u d9 q=>?_) (λ_ q=>q) λ_ _ q=>q;rcases d9 with z | z
  ·rw[z] at q ⊢;exact gB b u o e q
  ·exact gB c u _ z q
theorem OE:Jf (aS P w C) (HS (aS P w C) P w K mg base N qual scope f cd A outer s H E) E:=by
 intro aA σ u j e s' I h;obtain⟨ea,d,T,H',i,rfl,F,e1,p,r,n2,n,l,un,m,hd,k⟩:=h;have t:Inv (HS (aS P w C) P w K mg base N qual scope f cd A outer s H E) aA σ H' s':=I.call' (ch:=[]) n un m l (λb z=>absurd z (by simp));have B:Un (cG outer) [] H u s.heap j.heap:=I.base;have g:∀b,j.heap.get? b=none->s.heap.get? b=none:=λb z=>by
  cases q:s.heap.get? b with
  |none=>rfl
  |some o=>obtain⟨o',c⟩:=B.there b o q (by simp);rw[z] at c;cases c
 refine U6 t (.next F) (λb a=>?_) hd k;rcases Aq.mp a with rfl | a
 ·exact⟨g _ e1,r⟩
 ·rw[Ai.mp a];exact⟨g _ p,n2⟩
theorem Jn:PassesOwn (model P w) (HS (aS P w C) P w K mg base N qual scope f cd A outer s H E).A (HS (aS P w C) P w K mg base N qual scope f cd A outer s H E).env (HS (aS P w C) P w K mg base N qual scope f cd A outer s H E).xe:=PassesOwn.leaving
end
theorem VW{K:G5}{a:Z}{o:Obj}(h:Cc K (.ref a)=true)(l:K.lookup a=some o):o.cls=.type "function":=by have e:(K.lookup a).map (·.cls)=some (.type "function"):=beq_iff_eq.mp h;rw[l] at e;exact Option.some.inj e
theorem Inv.laid0(I:Inv X aA σ H s)(k:∀b u,s.heap.get? b=some u->h'.get? b=some u)(d:s.heap.get? a=none)
  (new:aT X.prog X.w (aK H a o) h' a o):Inv X aA σ (aK H a o) { s with heap:=h',toks:=t' }:=by
 have hn:=I.hok.none_of d;have ne:∀b u,s.heap.get? b=some u->b≠a:=λb u e z=>by rw[z,d] at e;cases e
 refine I.un ⟨λb u q _ _ _=>k b u q,λb u q _ _ _=>⟨u.slots,k b u q⟩,λb u q n _=>by rwa [Hf (ne b u q)],λb u q _=>⟨u,k b u q⟩,λb xs q=>by rwa [Hf (Hk q hn)],λb u xs q=>by rwa [Hf (Hk q hn)],λb ps q=>⟨#[],by rw[Hf (Hk q hn),q];simp⟩⟩ λb u e=>?_
 by_cases f:b=a
 ·subst f;rw[G9] at e;cases e;exact new
 ·rw[Hf f] at e;exact(I.hok b u e).stay (λc v _ q=>k c v q) (λc q=>by rwa [Hf (Hk q hn)]) λc xs q=>by rwa [Hf (Hk q hn)]
section
variable{P:GJ}{w:GQ}{K:G5}{mg:Str->Option O}{base:Heap}
theorem UR{Q:GF->Prop}(f:jC K C N fI)(F:bI K "__init__" q sI fI fd)(S:aH ["self","place"] ["self","place"] (Hj sI))
  (hbd:HM sI=[.Assign [.Attribute (.Name "self" p1) "place" p2] (.Name "place" p3) p4]) (hl:(Hj sI).names.lookup ("self":Str)=some .local/\(Hj sI).names.lookup ("place":Str)=some .local) (bd:Binds K fd ["self","place"] []) (hr:aY 1 A) (e0:dE P w K mg base A outer s H)
  (ho:s.heap.get? e=some o) (hoc:o.cls=.ref C) (hod:o.dict=none) (hnc:∀c,o.data≠.cls c) (hu:RelV (.int i) u)
  (k:∀s' d,(∀b v,b≠e->s.heap.get? b=some v->s'.heap.get? b=some v)->s'.os=s.os->AllBare s'.gens->s'.heap.get? e=some { o with dict:=some d }->d≠e->s.heap.get? d=none->(∃E,RelV (.int i) E/\s'.heap.Ns1 d (λy=>if y="place" then some E else none))->Q s'):
  codeAny (model P w) A (.call (.ref fI) ⟨[.ref e,u],[]⟩) (λr s'=>r=.ok (.ret .none)/\Q s') s:=by
 obtain⟨oc,od,kV,ao,pm,an,aC,ct,ag,rfl,R,X⟩:=F.ex;have j:K.In s.heap:=e0.mod.kin.keeps λb o e=>(e0.bs b o e).1;have d6:s.heap.NoLimit:=e0.mod.nolimit.keeps λb o e=>(e0.bs b o e).1;have g:=bd s [.ref e,u] j rfl;have af:∀y∈(["self","place"]:List Str).zip [O.ref e,u],(Hj sI).names.lookup y.1=some .local\/((Hj sI).names.lookup y.1=some .cell/\((GY (s.heap.objs.size+1) (Hj sI).names []).lookup y.1).isSome=true):=λ⟨n,v⟩ hy=>by
  rcases S.par n (CQ hy).1 with q | q
  ·exact .inl q
  ·exact .inr ⟨q,D5 _ _ _ (.inl q)⟩
 refine codeAny_call_function hr.depth (j _ _ R) rfl S.co S.gen rfl (Fx j X) (g _ _ _ _ ?_);refine wpAny_newFunctionEnv_cells S.kind af λenv he a x=>?_;subst he;refine⟨d6.keeps x.toInCall.keep,codeAny_func ?_⟩;have I:Inv (HS fY P w K mg base ["self","place"] q (Hj sI) fI aC A outer s H E0) [] (start ["self","place"] [.ref e,.int i]) H a:=OM (us:=[.ref e,u]) S hr.hd e0 rfl (.cons rfl (.cons hu .nil)) x;have ae:a.heap.get? e=some o:=x.toInCall.keep _ _ ho;have l:∀b v,s.heap.get? b=some v->a.heap.get? b=some v:=x.toInCall.keep;have ad:a.os=s.os:=I.os;have ac:AllBare a.gens:=I.bare;obtain⟨m,hn,p⟩:=I.loc;have v1:=p 1 "place" (.int i) rfl rfl (.inl hl.2);have v0:=p 0 "self" (.ref e) rfl rfl (.inl hl.1);rw[hbd];obtain⟨W,r1,l1⟩:=v1;obtain⟨T,r0,M⟩:=v0;have B:∀{x:Str},(Hj sI).names.lookup x=some .local->¬((Hj sI).names.lookup x=some .cell\/(Hj sI).names.lookup x=some .free):=λ{x} h z=>by rcases z with z | z <;> (rw[h] at z;cases z)
 obtain⟨k1,m1⟩:=l1.resolve_right λz=>B hl.2 z.1;obtain⟨k0,U⟩:=M.resolve_right λz=>B hl.1 z.1;obtain rfl:T=.ref e:=r0;have D:K.In a.heap:=I.kIn;obtain⟨mN,aa,t⟩:=YJ D f.sk;obtain⟨nm,qq,bs,sn,sub,ab,col,dd,ak,ai,ah,am,aj,d7⟩:=f.obj;have d8:=D _ _ d7;refine wpAny_execs_cons (plainObj_wpAny_Assign_Attribute (wpAny_Name (wpAny_loadName_local I.ok.kind k1 hn m1 (wpAny_Name (wpAny_loadName_local I.ok.kind k0 hn U ?_) (by decide))) (by decide)));obtain⟨h1,g1,L,t1,V⟩:=a;refine LX.fO PySem.F.store_Exception d8 aa (t _ _ f.nsa) (t _ _ f.np) ?_ ae hoc hod hnc λh' al d a1 d9 a3 G a5=>wpAny_execs_nil ?_
 ·rw[typeLookup_type,builtinLookup_eq_fast];kernel_rfl
 ·refine⟨Y,k _ d (λb v g hv=>a5 b v g (l b v hv)) ad ac a1 d9 ?_ ⟨W,r1,G⟩⟩;cases q:s.heap.get? d with
  |none=>rfl
  |some v=>have:=l d v q;rw[show(GF.mk h1 g1 L t1 V).heap.get? d=h1.get? d from rfl,a3] at this;cases this
structure gY(K:G5)(C:Z)(sI:GU):Prop where
 ex:∃(N fI:Z) (fd:GP) (q:Str) (p1 p2 p3 p4:Pos),jC K C N fI/\bI K "__init__" q sI fI fd/\aH ["self","place"] ["self","place"] (Hj sI)/\HM sI=[.Assign [.Attribute (.Name "self" p1) "place" p2] (.Name "place" p3) p4] ∧
  ((Hj sI).names.lookup ("self":Str)=some .local/\(Hj sI).names.lookup ("place":Str)=some .local)/\Binds K fd ["self","place"] []
def N3(C:Z)(E:XK)(te:TE):TS:=λ_ σ H=>te σ H λx H1=>∃i,x=.int i/\∀d,H1 d=none->E (.ref C) (some d) (aK H1 d (.xd (gR i)))
variable{N:List Str}{qual:Str}{scope:Scope}{f C:Z}{cd:O}{A:GS}{outer:List Env}{s₀:GF}{H₀:Hp}{E:XK}{sI:GU}
theorem HK{x:Str}{p cpos pos:Pos}{e:GR}{te:TE}(XT:gY K C sI)
  (hr:aY 2 (HS (aS P w C) P w K mg base N qual scope f cd A outer s₀ H₀ E).A) (hg:Gl (HS (aS P w C) P w K mg base N qual scope f cd A outer s₀ H₀ E) x) (hm:mg x=some (.ref C))
  (he:PE (HS (aS P w C) P w K mg base N qual scope f cd A outer s₀ H₀ E) e te) (hdb:(x==("__debug__":Str))=false:=by decide)
  (hst:GO [e] (HS (aS P w C) P w K mg base N qual scope f cd A outer s₀ H₀ E).env=[(false,eval e (HS (aS P w C) P w K mg base N qual scope f cd A outer s₀ H₀ E).env)]:=by rfl):
  PS (HS (aS P w C) P w K mg base N qual scope f cd A outer s₀ H₀ E) (.Raise (some (.Call (.Name x p) [e] [] cpos)) none pos) (N3 C E te):=by
 generalize l:HS (aS P w C) P w K mg base N qual scope f cd A outer s₀ H₀ E=X at *;have G:X.K=K:=by rw[<-l];rfl
 have hP:X.prog=P:=by rw[<-l];rfl
 have hw:X.w=w:=by rw[<-l];rfl
 have ac:X.mg=mg:=by rw[<-l];rfl
 have au:X.calm=true:=by rw[<-l];rfl
 have av:X.s_0=s₀:=by rw[<-l];rfl
 have hex:X.ex=[]:=by rw[<-l];rfl
 obtain⟨NN,fI,fd,q,p1,p2,p3,p4,n,F,S,az,hl,bd⟩:=XT.ex;intro aA s σ H D I h;have hh:X.A.handled=none:=I.ok.hd au;have KX:K.In s.heap:=by rw[<-G];exact I.kIn
 obtain⟨nm,qq,bs,sn,sub,ab,col,dd,U,d8,d7,d6,R,hC⟩:=n.obj;have ai:GL (model X.prog X.w) X.A (eval (.Call (.Name x p) [e] [] cpos) X.env) (λv j=>∃ea t d,v=.ref ea/\j.heap.get? C=some (excClassObj nm qq C NN bs LX.fZ true sn sub ab col dd U d8 d7 d6 R "Exception.__new__")/\j.heap.get? ea=some (LX.iK C t d)/\X.xe (.ref ea) j) X.xe s:=by
  refine G0 (Kr I hg (by rwa [ac]) ?_ hdb);refine CO (K:=K) (h₀:=X.base) (by rw[<-G];exact I.ok.mod.kin) n.kp (aW (G8 (t:=JL) he Hg hst cpos aA s σ H (λvs H1=>match vs with
   |[x]=>∃i,x=.int i/\∀d,H1 d=none->E (.ref C) (some d) (aK H1 d (.xd (gR i)))
   |_=>False) I h) λus j ⟨vs,H1,m,r,B⟩=>⟨by rw[<-G];exact m.kIn,?_⟩) hst rfl
  cases r with
  |nil=>exact B.elim
  |@cons v u a5 ba rv rr=>
   cases rr with
   |cons=>exact B.elim
   |nil=>
    obtain⟨i,rfl,B⟩:∃i,v=.int i/\∀d,H1 d=none->E (.ref C) (some d) (aK H1 d (.xd (gR i))):=B;have M:K.In j.heap:=by rw[<-G];exact m.kIn
    obtain⟨mN,ap,aj⟩:=YJ M n.sk;have L:=M _ _ hC;obtain⟨oc,od,kV,a8,pm,an,aC,ct,ag,bb,lk,a6⟩:=F.ex;have ar:=M _ _ lk;have e1:j=⟨j.heap,j.gens,j.drawn,j.toks,j.os⟩:=rfl;rw[e1];show GL (model X.prog X.w) X.A (call (.ref C) [u]) _ _ _;refine wpAny_call_exc_init (oI:=⟨oc,od,.func fd,ag⟩) PySem.F.excBase_Exception L ap (aj _ _ n.ini) ar ?_ (λh' ea k=>?_) (by show 1<=GI;decide)
    ·exact VW n.fn lk
    ·obtain⟨t,ht,a7,a9⟩:=k.there;have I2:Inv X aA σ H1 { j with heap:=h' }:=m.kept (t':=j.toks) λb o e=>k.keeps b o e;have E2:=I2.env0.make C [u] [];rw[hP,hw,G,ac] at E2;rw[hP,hw];refine wpAny_call (codeAny_mono (UR (Q:=λs'=>∃W t d,O.ref ea=.ref W/\s'.heap.get? C=some (excClassObj nm qq C NN bs LX.fZ true sn sub ab col dd U d8 d7 d6 R "Exception.__new__")/\s'.heap.get? W=some (LX.iK C t d)/\X.xe (.ref W) s') n F S az hl bd (hr.make C [u] []) E2 ht rfl rfl (λc z=>nomatch z) rv λs' d kp ah ay a1 a2 a3 a4=>?_) λr s' aa=>?_)
     ·have ae:C≠ea:=λz=>by rw[z,k.new] at L;cases L
      have as:h'.get? C=_:=k.keeps _ _ L;obtain⟨u',am,aq⟩:=a4;have al:∀b v,j.heap.get? b=some v->s'.heap.get? b=some v:=λb v y=>kp b v (λz=>by rw[z,k.new] at y;cases y) (k.keeps b v y);have dn:j.heap.get? d=none:=by
       cases q:j.heap.get? d with
       |none=>rfl
       |some v=>have:=k.keeps _ _ q;rw[show({ j with heap:=h' }:GF).heap.get? d=h'.get? d from rfl,this] at a3;cases a3
      have I3:Inv X aA σ (aK H1 d (.xd (gR i))) s':=by
       have d9:=m.laid0 (h':=s'.heap) (a:=d) (o:=.xd (gR i)) (t':=s'.toks) al dn ?_
       ·obtain⟨ok,os,a0,base,ak,af,free,ax,ad,aw,len⟩:=d9;exact⟨ok,by rw[show s'.os=j.os from ah];exact m.os,ay,base,ak,af,free,ax,ad,aw,len⟩
       ·refine⟨_,aq,λg=>?_⟩;show cE (A0 g [(("place":Str),V.int i)]) (if g="place" then some u' else none);by_cases T:g="place"
        ·subst T;rw[G7 rfl];show cE (A0 ("place":Str) [(("place":Str),V.int i)]) _;simp only[A0,beq_self_eq_true];exact am
        ·rw[G6 T];have:(g==("place":Str))=false:=beq_eq_false_iff_ne.mpr T;simp only[A0,this]
         trivial
      refine zC Y (kp _ _ ae as) a1 ?_;have hE:=B d (m.hok.none_of dn);have ao:s₀.heap.get? ea=none:=by
       cases q:s₀.heap.get? ea with
       |none=>rfl
       |some v=>
        have q':X.s_0.heap.get? ea=some v:=by rwa [av]
        obtain⟨o',e'⟩:=m.base.there ea v q' (by rw[hex];simp);rw[k.new] at e';cases e'
      subst l;refine U6 (i:=i) I3 (.first a1 rfl) (λb hb=>?_) G9 hE
      rw[Ai.mp hb];exact⟨ao,by rw[Hf (Ne.symm a2)];exact m.hok.none_of k.new⟩
     ·obtain⟨rfl,aa⟩:=aa;exact⟨Y,aa⟩
 rw[arm_exec_Raise];refine GE (wpAny_standAt (LX.fL (C:=C) (nm:=nm) (q:=qq) (N:=NN) (bs:=bs) (hdct:=true) (sn:=sn) (sub:=sub) (ab:=ab) (col:=col) (dd:=dd) (k0:=U) (k1:=d8) (k2:=d7) (k3:=d6) (k5:=R) (newId:="Exception.__new__") hh (GE (aW ai λv j y=>GE (wpAny_standAt (GK y))))))
end
section
variable{X:Cx}
abbrev Cx.body(X:Cx)(pn:List (Z×Obj))(E1:O->GF->Prop):Cx:={ X with pn:=X.pn++pn,xe:=E1 }
theorem Cx.Ok.body(ok:X.Ok)(pn:List (Z×Obj))(E1:O->GF->Prop):(X.body pn E1).Ok:=⟨ok.mod,ok.kind,ok.glob,ok.blt,ok.above,ok.inj,ok.has,ok.cab,ok.hd,ok.frames,ok.stk,ok.exf,ok.bs,ok.bsz,ok.noex,ok.exfs,ok.funs,ok.frf⟩
theorem Cx.Ok.unbody{pn:List (Z×Obj)}{E1:O->GF->Prop}(ok:(X.body pn E1).Ok):X.Ok:=⟨ok.mod,ok.kind,ok.glob,ok.blt,ok.above,ok.inj,ok.has,ok.cab,ok.hd,ok.frames,ok.stk,ok.exf,ok.bs,ok.bsz,ok.noex,ok.exfs,ok.funs,ok.frf⟩
variable{pn aA:List (Z×Obj)}{σ:St}{H:Hp}{s:GF}{E1:O->GF->Prop}
theorem Inv.body(I:Inv X pn σ H s)(E1:O->GF->Prop):Inv (X.body pn E1) [] σ H s:=⟨I.ok.body pn E1,I.os,I.bare,I.base,I.loc,I.cell,I.free,I.freeC,λp a=>I.pin p (by rwa [AR] at a),I.hok,I.len⟩
theorem Inv.unbody(I:Inv (X.body pn E1) aA σ H s):Inv X pn σ H s:=⟨I.ok.unbody,I.os,I.bare,I.base,I.loc,I.cell,I.free,I.freeC,λp a=>I.pin p (A6 _ a),I.hok,I.len⟩
theorem SP.unbody(h:SP (X.body pn E1) aA D f s):SP X pn D f s:=by
 cases f with
 |next=>obtain⟨a,H',I,q⟩:=h;exact⟨a,H',I.unbody,q⟩
 |brk=>obtain⟨a,H',I,q⟩:=h;exact⟨a,H',I.unbody,q⟩
 |cont=>obtain⟨a,H',I,q⟩:=h;exact⟨a,H',I.unbody,q⟩
 |ret u=>obtain⟨v,a,H',I,r,q⟩:=h;exact⟨v,a,H',I.unbody,r,q⟩
def WB(X:Cx)(C:Z)(pn:List (Z×Obj))(E:XK):O->GF->Prop:=λe s'=>∃(ea d T:Z) (σ:St) (H':Hp) (i:Int),e=.ref ea/\Inv X pn σ H' s'/\LX.gG s'.heap ea (.ref C) d T .none ∧
 (∀b∈[ea,T],X.s_0.heap.get? b=none/\H' b=none/\∀p∈X.pn++pn,p.1≠b)/\H' d=some (.xd (gR i))/\E (.ref C) (some d) H'
theorem To(j:X.prog=P)(n:X.w=w)(hex:X.ex=[]):Jf (aS P w C) (X.body pn (WB X C pn E)) E:=by
 subst j n;intro aA σ y x e s' I h;obtain⟨ea,d,T,H',i,rfl,F,e1,g,u,n2,t,l,un,m,hd,k⟩:=h;have v:Inv (X.body pn (WB X C pn E)) aA σ H' s':=I.call' (ch:=[]) t un m l (λb z=>absurd z (by simp));have B:=I.unbody.base;have a:∀b,x.heap.get? b=none->X.s_0.heap.get? b=none/\∀p∈X.pn++pn,p.1≠b:=λb z=>by
  refine⟨?_,λp s q=>?_⟩
  ·cases q:X.s_0.heap.get? b with
   |none=>rfl
   |some o=>obtain⟨o',f⟩:=B.there b o q (by rw[hex];simp);rw[z] at f;cases f
  ·have r:=(I.pin p (A6 _ s)).1;rw[q,z] at r;cases r
 refine zP Y v.unbody F ⟨λb c=>?_,hd,k⟩;rcases Aq.mp c with rfl | c
 ·exact⟨(a _ e1).1,u,(a _ e1).2⟩
 ·rw[Ai.mp c];exact⟨(a _ g).1,n2,(a _ g).2⟩
theorem Inv.landed(I:Inv X pn σ H s)(hex:X.ex=[])(y:∀b∈fs,b∈cG X.stack)(F:∀b∈xs,∃o vs,s.heap.get? b=some o/\o.data=.fields vs)
  (hx:∀b∈xs,X.s_0.heap.get? b=none/\H b=none/\∀p∈X.pn++pn,p.1≠b) (kp:LX.Kept fs xs s.heap h'):Inv X pn σ H { s with heap:=h' }:=by
 have B:Un X.fs X.ex X.H_0 H X.s_0.heap s.heap:=I.base;have h:∀b o,X.s_0.heap.get? b=some o->b∉xs:=λb o e m=>by rw[(hx b m).1] at e;cases e
 have A:∀b,b≠X.env.locals->b∉X.fs->b∉fs:=λb h1 h2 m=>by
  rcases Aq.mp (I.stkSub b (y b m)) with z | z
  ·exact h1 z
  ·exact h2 z
 have G:∀b o,X.s_0.heap.get? b=some o->b≠X.env.locals:=λb o e=>AL (As (Ao e) I.ok.above);have E:∀b o,s.heap.get? b=some o->(∀vs,o.data≠.fields vs)->b∉xs:=λb o e hn m=>by obtain⟨o',vs,D,hd⟩:=F b m;rw[e] at D;cases D;exact hn vs hd
 have gB:∀b o u,H b=some u->s.heap.get? b=some o->h'.get? b=some o:=λb o u e d=>by
  refine(kp b o d λm=>?_).1 λm=>?_
  ·rw[(hx b m).2.1] at e;cases e
  ·have z:H b=none:=I.stkFree b (y b m);rw[z] at e;cases e
 have j:∀c v,s.heap.IsCell c v->h'.IsCell c v:=λc v ⟨o,d,hd⟩=>by obtain⟨sl,e⟩:=(kp c o d (E c o d λvs z=>by rw[hd] at z;cases z)).2;exact⟨_,e,hd⟩
 refine⟨I.ok,I.os,I.bare,⟨λb o e n g a=>?_,λb o e n g a=>?_,λb o e n a=>B.free b o e n a,λb o e a=>?_,B.tups,B.frzs,B.tbls⟩,?_,λx c e=>?_,I.free,I.freeC,λp t=>?_,λb o e=>?_,I.len⟩
 ·exact(kp b o (B.keep b o e n g a) (h b o e)).1 (A b (G b o e) g)
 ·obtain⟨sl,e1⟩:=B.slot b o e n g a;obtain⟨C,f⟩:=(kp b _ e1 (h b o e)).2;exact⟨C,f⟩
 ·obtain⟨o',e1⟩:=B.there b o e a;obtain⟨C,f⟩:=(kp b _ e1 (h b o e)).2;exact⟨_,f⟩
 ·obtain⟨m,⟨o,es,ep,d,hd,r⟩,K⟩:=I.loc;obtain⟨sl,e⟩:=(kp _ o d (E _ o d λvs z=>by rw[hd] at z;cases z)).2;refine⟨m,⟨_,es,ep,e,hd,r⟩,λi x v e1 f L=>?_⟩;obtain⟨u,d9,l⟩:=K i x v e1 f L;refine⟨u,d9,?_⟩;rcases l with l | ⟨k,c,e,z⟩
  ·exact .inl l
  ·exact .inr ⟨k,c,e,j c _ z⟩
 ·obtain⟨v,z⟩:=I.cell x c e;exact⟨v,j c v z⟩
 ·obtain⟨e,n,ne,w,dd⟩:=I.pin p t;exact⟨(kp p.1 p.2 e λm=>(hx p.1 m).2.2 p t rfl).1 (A p.1 ne w),n,ne,w,dd⟩
 ·refine(I.hok b o e).stay (λc u M q=>?_) (λ_ q=>q) λ_ _ q=>q;rcases M with z | z
  ·rw[z] at q ⊢;exact gB b u o e q
  ·exact gB c u _ z q
end
abbrev Cx.hand(X:Cx)(pn:List (Z×Obj))(ea:Z)(oe:Obj):Cx:={ X with A:=X.A.mark (some (.ref ea)),calm:=false,pn:=X.pn++(pn++[(ea,oe)]),xe:=λ_ _=>False }
section
variable{X:Cx}{pn aA:List (Z×Obj)}{σ:St}{H:Hp}{s:GF}{ea:Z}{oe:Obj}
theorem Cx.Ok.hand(ok:X.Ok)(pn:List (Z×Obj))(ea:Z)(oe:Obj):(X.hand pn ea oe).Ok:=⟨ok.mod,ok.kind,ok.glob,ok.blt,ok.above,ok.inj,ok.has,ok.cab,(λz=>nomatch z),ok.frames,ok.stk,ok.exf,ok.bs,ok.bsz,ok.noex,ok.exfs,ok.funs,ok.frf⟩
theorem Inv.hand(I:Inv X pn σ H s)(b:s.heap.get? ea=some oe/\H ea=none/\ea≠X.env.locals/\ea∉X.fs/\∀v,oe.data≠.cell v):Inv (X.hand pn ea oe) [] σ H s:=
 ⟨I.ok.hand pn ea oe,I.os,I.bare,I.base,I.loc,I.cell,I.free,I.freeC,λp a=>by
  rw[AR] at a;rcases AA.mp a with z | z
  ·exact I.pin p (A6 _ z)
  ·rcases AA.mp z with z | z
   ·exact I.pin p (AQ _ z)
   ·rwa [Ai.mp z],I.hok,I.len⟩
theorem Inv.unhand(ok:X.Ok)(I:Inv (X.hand pn ea oe) aA σ H s):Inv X pn σ H s:=
 ⟨ok,I.os,I.bare,I.base,I.loc,I.cell,I.free,I.freeC,λp a=>I.pin p (A6 _ (by
  rcases AA.mp a with z | z
  ·exact A6 _ z
  ·exact AQ _ (A6 _ z))),I.hok,I.len⟩
def QH(n:Nat):St:=Ar n none
theorem V9{n i:Nat}{v:V}(h:(QH n)[i]?=some (some v)):False:=by unfold QH at h;rw[Ea] at h;split at h <;> cases h
end
def oY(C:Z)(E:XK)(n:Nat)(t:TS)(th:TS):TS:=λD σ H=>t D σ H/\∀d H' i,H' d=some (.xd (gR i))->E (.ref C) (some d) H'->th D (QH n) H'
theorem XS{X:Cx}{C:Z}{sI:GU}{x:Str}{body:List GU}{b0:GU}{aa:List GU}{t:TS}{th:TS}{E:XK}{tp ag pos:Pos}
  (XT:gY X.K C sI) (hex:X.ex=[]) (hstk:X.stack=X.env::X.outer) (hfr:X.env.frame=some X.env.locals) (hg:Gl X x) (hm:X.mg x=some (.ref C))
  (a:∀pn,eQ (X.body pn (WB X C pn E)) body t) (hh:∀pn ea d vs sl,eQ (X.hand pn ea ⟨.ref C,some d,.fields vs,sl⟩) (b0::aa) th) (hdb:(x==("__debug__":Str))=false:=by decide):
  PS X (.Try body [.ExceptHandler (some (.Name x tp)) none (b0::aa) ag] [] [] pos) (oY C E X.N.length t th):=by
 intro aA s σ H D I h;obtain⟨h1,h2⟩:=h;refine wpAny_Try_except (GX (a aA [] s σ H D (I.body _) h1) (λf c q=>?_) λe c q=>?_)
 ·have G:=SP.unbody q;cases f with
  |next=>exact wpAny_execs_nil G
  |brk=>exact G
  |cont=>exact G
  |ret u=>exact G
 ·obtain⟨ea,d,T,V,H1,i,rfl,j,F,M,hd,hE⟩:=q;obtain⟨NN,fI,fd,qn,p1,p2,p3,p4,XC,_⟩:=XT.ex;obtain⟨nm,qq,bs,sn,sub,ab,col,dd,ap,an,am,aq,ao,hC⟩:=XC.obj;have ah:c.heap.FunFrames X.base (X.env::X.outer):=by rw[<-hstk];exact j.stack
  refine LX.landed (outer:=X.outer) (base:=X.base) (by rw[<-hstk];exact j.ok.frames) ah hfr (.next F) λL n kp S B=>?_;have ae:∀b∈[ea,T],∃o vs,c.heap.get? b=some o/\o.data=.fields vs:=λb a=>by
   rcases Aq.mp a with rfl | a
   ·obtain⟨sl,vs,e,_⟩:=F.rec_;exact⟨_,vs,e,Y⟩
   ·rw[Ai.mp a];obtain⟨U,d8,e,P,_⟩:=F.tb;exact⟨U,d8,e,P⟩
  have d9:Inv X aA V H1 { c with heap:=L }:=j.landed hex (λb a=>by rwa [hstk]) ae M kp;obtain⟨sl,vs,y,_⟩:=B.rec_;have ac:({ c with heap:=L }:GF).heap.FunFrames X.base X.stack:=d9.stack;have A:ea∉LX.gH X.stack:=LX.eC ac y rfl;have d7:ea≠X.env.locals/\ea∉X.fs:=by
   rw[hstk] at A;have e:LX.gH (X.env::X.outer)=X.env.locals::cG X.outer:=by show(X.env::X.outer).filterMap (·.frame)=_;rw[Di,hfr];rfl
   rw[e] at A;exact⟨λz=>A (by rw[z];exact AH),λz=>A (Aw _ z)⟩
  have ak:=M ea AH;have d6:∀{w:Heap},w.get? ea=some ⟨.ref C,some d,.fields vs,sl⟩->w.get? ea=some ⟨.ref C,some d,.fields vs,sl⟩/\H1 ea=none/\ea≠X.env.locals/\ea∉X.fs/\∀v,(⟨.ref C,some d,.fields vs,sl⟩:Obj).data≠.cell v:=λe=>⟨e,ak.2.1,d7.1,d7.2,λv z=>nomatch z⟩
  have ai:=d9.hand (d6 y);have af:X.K.In L:=d9.kIn;have ad:=af _ _ hC;refine wpAny_handleBy_cons (codeAny_handlers_test (Kr (X:=X.hand aA ea _) ai hg hm ?_ hdb)) (by intro q;cases q);refine wpAny_excMatches_sub_self (g:=c.gens) (d:=c.drawn) (t:=c.toks) (os:=c.os) ad y rfl (by decide) ?_;show codeAny _ _ _ _ _;refine codeAny_handlers_suite (LX.land B λN R F2=>?_);have J2:Inv X aA V H1 { c with heap:=N }:=by
   refine Inv.landed (s:={ c with heap:=L }) (h':=N) (xs:=[n]) (fs:=[]) d9 hex (λb a=>nomatch a) (λb a=>?_) (λb a=>?_) (λb o a M=>?_)
   ·rw[Ai.mp a];obtain⟨U,d8,e,P,_⟩:=B.tb;exact⟨U,d8,e,P⟩
   ·rw[Ai.mp a];refine⟨?_,j.hok.none_of S,λp w z=>?_⟩
    ·cases q:X.s_0.heap.get? n with
     |none=>rfl
     |some o=>obtain⟨o',K⟩:=j.base.there n o q (by rw[hex];simp);rw[S] at K;cases K
    ·have r:=(j.pin p w).1;rw[z,S] at r;cases r
   ·have W:b≠n:=λz=>M (by rw[z];exact Ai.mpr rfl);exact⟨λ_=>R b o W a,o.slots,R b o W a⟩
  have aj:N.get? ea=some ⟨.ref C,some d,.fields vs,sl⟩:=R _ _ (Ne.symm B.ne) y;have al:=J2.hand (d6 aj);have J3:=al.weak (σ':=QH X.N.length) (by unfold QH;rw[AS];exact j.len.symm) (λi' v' K=>(V9 K).elim);refine GX (hh aA ea d vs sl [] _ _ H1 D J3 (h2 d H1 i hd hE)) (λf s4 q=>?_) (λ_ _ z=>z.elim);cases f with
  |next=>obtain⟨Q,m,l,k⟩:=q;exact⟨_,m,l.unhand j.ok,k⟩
  |brk=>obtain⟨Q,m,l,k⟩:=q;exact⟨_,m,l.unhand j.ok,k⟩
  |cont=>obtain⟨Q,m,l,k⟩:=q;exact⟨_,m,l.unhand j.ok,k⟩
  |ret u=>obtain⟨v,Q,m,l,rv,k⟩:=q;exact⟨v,_,m,l.unhand j.ok,rv,k⟩
section
variable{P:GJ}{w:GQ}{K:G5}{mg:Str->Option O}{base:Heap}{C:Z}
theorem bI.okX{x qual:Str}{st:GU}{f:Z}{fd:GP}{N ps:List Str}{k:Nat}{sp:Sp}(F:bI K x qual st f fd)(S:aH N ps (Hj st))(len:∀vs H Q E,sp vs H Q E->vs.length=ps.length)
  (hbody:∀(a:O) (A:GS) (outer:List Env) (s:GF) (H:Hp) (vs:List V) (Q:VK) (E:XK),aY k (A.deeper (envOfC qual (Hj st) s.heap.objs.size f a))->sp vs H Q E->
   ∃t,eQ (HS (aS P w C) P w K mg base N qual (Hj st) f a A outer s H E) (HM st) t/\t { nx:=λ_ H'=>Q .non H',rt:=Q } (start N vs) H):aN P w K mg base (aS P w C) (k+1) f fd ps sp:=by
 obtain⟨j,od,kV,i,l,m,a,g,n,rfl,c,b⟩:=F.ex;refine U3 c b S len λA outer s H vs Q E e d=>?_;obtain⟨t,h,q⟩:=hbody a A outer s H vs Q E e d;exact⟨t,h,q⟩
def bQ(P:GJ)(w:GQ)(K:G5)(mg:Str->Option O)(base:Heap)(C:Z)(k:Nat)(x:Str)(ps:List Str)(sp:Sp):Prop:=∃f fd,aN P w K mg base (aS P w C) k f fd ps sp/\mg x=some (.ref f)/\AI K (.ref f)=true/\Binds K fd ps []
def cW(P:GJ)(w:GQ)(K:G5)(mg:Str->Option O)(base:Heap)(C B:Z)(k:Nat)(m:Str)(ps:List Str)(sp:Sp):Prop:=∃f fd,aN P w K mg base (aS P w C) k f fd ps sp/\eP K B/\iA K B m f/\Binds K fd ps []
def gD(P:GJ)(w:GQ)(K:G5)(mg:Str->Option O)(base:Heap)(C B:Z)(k:Nat)(x:Str)(ps:List Str)(sp:Sp):Prop:=∃f fd,aN P w K mg base (aS P w C) k f fd ps sp/\Mk K B f/\mg x=some (.ref B)/\Binds K fd ps []
variable{N:List Str}{qual:Str}{scope:Scope}{f:Z}{cd:O}{A:GS}{outer:List Env}{s₀:GF}{H₀:Hp}{E:XK}
theorem HL(D:bQ P w K mg base C k x ps sp)(c:aY k (HS (aS P w C) P w K mg base N qual scope f cd A outer s₀ H₀ E).A)
  (hg:Gl (HS (aS P w C) P w K mg base N qual scope f cd A outer s₀ H₀ E) x) (ha:PA (HS (aS P w C) P w K mg base N qual scope f cd A outer s₀ H₀ E) (e::es) t) (hdb:(x==("__debug__":Str))=false:=by decide)
  (he:GO (e::es) (HS (aS P w C) P w K mg base N qual scope f cd A outer s₀ H₀ E).env=(false,eval e (HS (aS P w C) P w K mg base N qual scope f cd A outer s₀ H₀ E).env)::GO es (HS (aS P w C) P w K mg base N qual scope f cd A outer s₀ H₀ E).env:=by rfl)
  (hpl:(backTo pos (GO es (HS (aS P w C) P w K mg base N qual scope f cd A outer s₀ H₀ E).env)).any (·.1)=false:=by rfl):
  PE (HS (aS P w C) P w K mg base N qual scope f cd A outer s₀ H₀ E) (.Call (.Name x p) (e::es) [] pos) (MS sp [] E t):=by
 obtain⟨g,fd,G,d,a,b⟩:=D;exact Ng G c hg d a b .nil OE ha hdb he hpl
theorem Ra(D:gD P w K mg base C B k x ps sp)(b:aY (k+1) (HS (aS P w C) P w K mg base N qual scope f cd A outer s₀ H₀ E).A)
  (hg:Gl (HS (aS P w C) P w K mg base N qual scope f cd A outer s₀ H₀ E) x) (ha:PA (HS (aS P w C) P w K mg base N qual scope f cd A outer s₀ H₀ E) (e::es) t) (hdb:(x==("__debug__":Str))=false:=by decide)
  (he:GO (e::es) (HS (aS P w C) P w K mg base N qual scope f cd A outer s₀ H₀ E).env=(false,eval e (HS (aS P w C) P w K mg base N qual scope f cd A outer s₀ H₀ E).env)::GO es (HS (aS P w C) P w K mg base N qual scope f cd A outer s₀ H₀ E).env:=by rfl)
  (hpl:(backTo pos (GO es (HS (aS P w C) P w K mg base N qual scope f cd A outer s₀ H₀ E).env)).any (·.1)=false:=by rfl):
  PE (HS (aS P w C) P w K mg base N qual scope f cd A outer s₀ H₀ E) (.Call (.Name x p) (e::es) [] pos) (Wx B sp [] E t):=by
 obtain⟨g,fd,G,M,c,a⟩:=D;exact Xb M G b hg c a .nil OE ha hdb he hpl
theorem IN(D:cW P w K mg base C B k m ps sp)(d:aY k (HS (aS P w C) P w K mg base N qual scope f cd A outer s₀ H₀ E).A)
  (ho:PE (HS (aS P w C) P w K mg base N qual scope f cd A outer s₀ H₀ E) o ta) (ha:PA (HS (aS P w C) P w K mg base N qual scope f cd A outer s₀ H₀ E) (e::es) t)
  (hst:GO (e::es) (HS (aS P w C) P w K mg base N qual scope f cd A outer s₀ H₀ E).env=(false,eval e (HS (aS P w C) P w K mg base N qual scope f cd A outer s₀ H₀ E).env)::GO es (HS (aS P w C) P w K mg base N qual scope f cd A outer s₀ H₀ E).env:=by rfl)
  (hpl:(backTo pos (GO es (HS (aS P w C) P w K mg base N qual scope f cd A outer s₀ H₀ E).env)).any (·.1)=false:=by rfl)
  (ht:eval (.Call (.Attribute o m apos) (e::es) [] pos) (HS (aS P w C) P w K mg base N qual scope f cd A outer s₀ H₀ E).env=(do
   let a ← eval o (HS (aS P w C) P w K mg base N qual scope f cd A outer s₀ H₀ E).env
   standAt apos.atName
   let (g,first) ← holding [a] (getMethod a m pl)
   callWith pos g first (backTo pos (GO (e::es) (HS (aS P w C) P w K mg base N qual scope f cd A outer s₀ H₀ E).env)) (backToKw pos (keywordEach [] (HS (aS P w C) P w K mg base N qual scope f cd A outer s₀ H₀ E).env))):=by rfl):
  PE (HS (aS P w C) P w K mg base N qual scope f cd A outer s₀ H₀ E) (.Call (.Attribute o m apos) (e::es) [] pos) (Ol B m sp [] E ta t):=by
 obtain⟨g,fd,G,c,h,b⟩:=D;exact W3 ho c h G d b .nil OE ha hst hpl ht
theorem HB(D:cW P w K mg base C B k m ps sp)(d:aY k (HS (aS P w C) P w K mg base N qual scope f cd A outer s₀ H₀ E).A)
  (ho:PE (HS (aS P w C) P w K mg base N qual scope f cd A outer s₀ H₀ E) o ta)
  (ht:eval (.Call (.Attribute o m apos) [] [] pos) (HS (aS P w C) P w K mg base N qual scope f cd A outer s₀ H₀ E).env=(do
   let a ← eval o (HS (aS P w C) P w K mg base N qual scope f cd A outer s₀ H₀ E).env
   standAt apos.atName
   let (g,first) ← holding [a] (getMethod a m pl)
   callWith pos g first (backTo pos (GO [] (HS (aS P w C) P w K mg base N qual scope f cd A outer s₀ H₀ E).env)) (backToKw pos (keywordEach [] (HS (aS P w C) P w K mg base N qual scope f cd A outer s₀ H₀ E).env))):=by rfl):
  PE (HS (aS P w C) P w K mg base N qual scope f cd A outer s₀ H₀ E) (.Call (.Attribute o m apos) [] [] pos) (Ol B m sp [] E ta JL):=by
 obtain⟨g,fd,G,c,e,b⟩:=D;exact WL ho c e G d b .nil OE ht
def bY(mg:Str->Option O)(x:Str)(v:V):Prop:=∃u,mg x=some u/\RelV v u
theorem Hr(h:bY X.mg x v)(a:Gl X x:=by rfl)(hd:(x==("__debug__":Str))=false:=by decide):PE X (.Name x pos) (tC v):=by obtain⟨u,b,r⟩:=h;exact Sn a b r hd
end
inductive cD:List GZ->List (Int×Int)->Prop
 |nil:cD [] []
 |cons {k v:Int} {t u:Tok} {es:List GZ} {aB:List (Int×Int)}:cD es aB->cD (⟨hashInt k,.int k t,.int v u⟩::es) ((k,v)::aB)
structure dW(K:G5)(a:Z)(aB:List (Int×Int)):Prop where
 obj:∃(es:Array GZ) (n:Nat),K.lookup a=some ⟨.type "dict",none,.dict es n,#[]⟩/\cD es.toList aB
 nd:(aB.map (·.1)).Nodup
 ns:(a==G1)=false
abbrev jQ(aB:List (Int×Int)):List (bF×V):=aB.map λp=>(Sum.inl p.1,V.int p.2)
theorem Te(aB:List (Int×Int))(k:Int):Ij (jQ aB) (Sum.inl k)=(aB.lookup k).map V.int:=by
 induction aB with
 |nil=>rfl
 |cons p r c=>
  obtain⟨a,b⟩:=p;unfold Ij at c ⊢;simp only[jQ,An,BR,A0];by_cases e:a=k
  ·subst e;simp
  ·have e1:¬(Sum.inl a:bF)=Sum.inl k:=λz=>e (Sum.inl.inj z);have d:(k==a)=false:=beq_eq_false_iff_ne.mpr (Ne.symm e);simp only[e1,decide_false,d];exact c
theorem dW.at_{K:G5}{a:Z}{aB:List (Int×Int)}{P:GJ}{w:GQ}{h:Heap}(D:dW K a aB)(X:K.In h):∃vs,KV (jQ aB) vs/\h.DictOf (HJ P w) a vs:=by
 obtain⟨⟨es,n,i,ps⟩,nd,_⟩:=D;have j:=X _ _ i;have g:∀{l:List GZ} {m:List (Int×Int)},cD l m->∃vs:List (bF×O),KV (jQ m) vs/\(∀e∈l,∃k,(HJ P w).is k e.key=true/\e.hash=(HJ P w).hash k)/\Pairs (HJ P w) l vs/\vs.map (·.1)=m.map λp=>Sum.inl p.1:=by
  intro l m q
  induction q with
  |nil=>exact⟨[],.nil,(λe c=>by cases c),.nil,rfl⟩
  |@cons k v t u es aB q o=>
   obtain⟨vs,h1,h2,f,d⟩:=o;refine⟨(Sum.inl k,.int v u)::vs,.cons ⟨Y,u,Y⟩ h1,λe c=>?_,.cons (KG P w k t) rfl f,by simp[d]⟩;rcases Aq.mp c with rfl | c
   ·exact⟨Sum.inl k,KG P w k t,Y⟩
   ·exact h2 e c
 obtain⟨vs,h1,h2,f,d⟩:=g ps;refine⟨vs,h1,zC j ⟨Y,Y,Y⟩ Y ⟨λe c=>h2 e (by simpa using c),f,?_⟩⟩;rw[d];have e:(aB.map λp=>(Sum.inl p.1:bF))=(aB.map (·.1)).map Sum.inl:=by rw[A8];rfl
 rw[e];exact List.Pairwise.map _ (λa b h z=>h (Sum.inl.inj z)) nd
section
variable{X:Cx}{a:Z}{aB:List (Int×Int)}{i o:GR}{pos:Pos}{ty td:TE}
def Xl(a:Z)(aB:List (Int×Int))(ty td:TE):TE:=λσ H Q=>ty σ H λy H1=>td σ H1 λx H2=>∃k,y=.int k/\x=.ref a/\Q (.bl (!(aB.lookup k).isSome)) H2
def qI(a:Z)(aB:List (Int×Int))(td ty:TE):TE:=λσ H Q=>td σ H λx H1=>ty σ H1 λy H2=>∃k v,x=.ref a/\y=.int k/\aB.lookup k=some v/\Q (.int v) H2
theorem N2(D:dW X.K a aB)(hi:PE X i ty)(c:PE X o td):PC X .NotIn i o (Xl a aB ty td):=by intro aA s σ H Q I h;refine aW (hi aA s σ H _ I h) λp g ⟨y,H1,m,e,f⟩=>aW (c aA g σ H1 _ m f) λu q qQ=>?_;obtain⟨x,H2,b,d,k,l,ex,j⟩:=qQ;subst ex l;obtain rfl:u=O.ref a:=d;obtain⟨vs,n,dd⟩:=D.at_ (P:=X.prog) (w:=X.w) b.kIn;refine wpAny_notIn_of (NT (k:=Sum.inl k) e) D.ns dd.mapOf ?_;rw[<-(n.val (Sum.inl k)).isSome_eq,Te,Co];exact⟨.bl (!(A0 k aB).isSome),H2,b.tok _,Y,j⟩
theorem QB(D:dW X.K a aB)(c:PE X o td)(hi:PE X i ty)(hs:Yp i):PE X (.Subscript o i pos) (qI a aB td ty):=by
 intro aA s σ H Q I h;refine PM Dk.lookup hs (aW (c aA s σ H _ I h) λu m ⟨x,H1,q,d,g⟩=>aW (hi aA m σ H1 _ q g) λt A qQ=>?_);obtain⟨y,H2,b,j,k,v,ex,p,l,n⟩:=qQ;subst ex p;obtain rfl:u=O.ref a:=d;obtain⟨vs,e,dd⟩:=D.at_ (P:=X.prog) (w:=X.w) b.kIn;obtain⟨B,f,r⟩:=cE.some_of (v:=V.int v) (o:=valueAt vs (Sum.inl k)) (by have z:=e.val (Sum.inl k);rw[Te,l] at z;exact z)
 exact⟨dd.typeIs,wpAny_getItem_of (NT (k:=Sum.inl k) j) dd.mapOf f ⟨.int v,H2,b.tok _,r,n⟩⟩
end
theorem Xk{b1 b2:Bool}{tb:TE}{σ:St}{H:Hp}{Q:VK}(h2:∀a:VK,a (.bl b2) H->tb σ H a)(h:Q (.bl (b1&&b2)) H):if b1=true then tb σ H Q else Q (.bl false) H:=by
 cases b1 with
 |true=>exact h2 _ h
 |false=>exact h
theorem LK{b1 b2:Bool}{u:TT}{σ:St}{H:Hp}{Q:Bool->Hp->Prop}(h2:∀a:Bool->Hp->Prop,a b2 H->u σ H a)(h:Q (b1 || b2) H):if b1=true then Q true H else u σ H Q:=by
 cases b1 with
 |true=>exact h
 |false=>exact h2 _ h
theorem VD{b1 b2:Bool}{u:TT}{σ:St}{H:Hp}{Q:Bool->Hp->Prop}(h2:∀a:Bool->Hp->Prop,a b2 H->u σ H a)(h:Q (b1&&b2) H):if b1=true then u σ H Q else Q false H:=by
 cases b1 with
 |true=>exact h2 _ h
 |false=>exact h
theorem ID:decide (V.int i=V.int j)=decide (i=j):=by
 by_cases h:i=j
 ·subst h;simp
 ·rw[decide_eq_false h,decide_eq_false λz=>h (by injection z)]
theorem Jj(h:∀v p,e≠.Starred v p):GO (e::es) env=(false,eval e env)::GO es env:=by rw[GO];intro v p q;exact h v p q
theorem X4:swapsWith (.List es p) tg l env=pure false:=rfl
theorem Xh(d:∀v p,e0≠.Starred v p)(b:∀v p,e1≠.Starred v p)(n2:∀v p,e2≠.Starred v p)(n3:∀v p,e3≠.Starred v p)(a:PE X e0 t0)(h1:PE X e1 t1)(h2:PE X e2 t2)(c:PE X e3 t3):
  PE X (.List [e0,e1,e2,e3] pos) (Z4 (Ii t0 (Ii t1 (Ii t2 (Ii t3 JL))))):=
 Iw (G8 a (G8 h1 (G8 h2 (G8 c Hg (Jj n3)) (Jj n2)) (Jj b)) (Jj d))
theorem Ss(c:∀v p,e0≠.Starred v p)(b:∀v p,e1≠.Starred v p)(a:PE X e0 t0)(h1:PE X e1 t1):PE X (.Tuple [e0,e1] k pos) (Qk (Ii t0 (Ii t1 JL))):=Ik (G8 a (G8 h1 Hg (Jj b)) (Jj c))
structure dM(X:Cx)(e:GR)(t:TE):Prop where
 h:PE X e t
structure jE(X:Cx)(st:GU)(t:TS):Prop where
 h:PS X st t
structure dL(X:Cx)(l:List GU)(t:TS):Prop where
 h:eQ X l t
theorem dL.cons{X:Cx}{st:GU}{rest:List GU}{t u:TS}(h1:jE X st t)(h2:dL X rest u):dL X (st::rest) (Q4 t u):=⟨He h1.h h2.h⟩
theorem dL.one{X:Cx}{st:GU}{t:TS}(h1:jE X st t):dL X [st] t:=⟨Hh h1.h⟩
theorem dM.int:dM X (.Constant (.int i) j pos) (tC (.int i)):=⟨Hm⟩
theorem dM.tup2(c:∀v p,e0≠.Starred v p)(b:∀v p,e1≠.Starred v p)(a:dM X e0 t0)(h1:dM X e1 t1):dM X (.Tuple [e0,e1] k pos) (Qk (Ii t0 (Ii t1 JL))):=⟨Ss c b a.h h1.h⟩
theorem dM.lst4(d:∀v p,e0≠.Starred v p)(b:∀v p,e1≠.Starred v p)(n2:∀v p,e2≠.Starred v p)(n3:∀v p,e3≠.Starred v p)(a:dM X e0 t0)(h1:dM X e1 t1)(h2:dM X e2 t2)(c:dM X e3 t3):
  dM X (.List [e0,e1,e2,e3] pos) (Z4 (Ii t0 (Ii t1 (Ii t2 (Ii t3 JL))))):=⟨Xh d b n2 n3 a.h h1.h h2.h c.h⟩
theorem jE.set(c:X.N.Nodup)(hi:X.N[i]?=some x)(a:Loc X.env.scope x)(b:dM X e te)(hs:swapsWith e (some (.Name x pos')) pos.line X.env=pure false)
  (hf:X.fn x=true\/X.env.scope.names.lookup x=some .local):jE X (.Assign [.Name x pos'] e pos) (Uv te (IF i)):=⟨Ms c hi a b.h hs hf⟩
def eE(H H':Hp):Prop:=∀b o u,H b=some (.frz o u)->H' b=some (.frz o u)
theorem eE.refl(H:Hp):eE H H:=λ_ _ _ h=>h
theorem eE.trans(a:eE H H1)(b:eE H1 H2):eE H H2:=λx o u h=>b x o u (a x o u h)
theorem eE.of(s:aG H H'):eE H H':=λb _ _ h=>s b _ h
structure eT(P:GJ)(w:GQ)(K:G5)(mg:Str->Option O)(base:Heap)(C:Z)(k:Nat)(H:Hp)(g:Z)(n:Nat)(sp:Sp):Prop where
 len:∀vs H Q E,sp vs H Q E->vs.length=n
 kp:∀(H':Hp) (h:Heap),eE H H'->bU P w H' h->K.In h->∃kk,(kk=Keeper.frame\/kk=Keeper.machine\/kk=Keeper.boundFrame)/\PySem.W.Looks (model P w) h (keeperOf (.ref g)) kk
 run:∀(A:GS) (outer:List Env) (s:GF) (H':Hp) (us:List O) (vs:List V) (Q:VK) (E:XK),eE H H'->aY k A->dE P w K mg base A outer s H'->aJ vs us->sp vs H' Q E->
  codeAny (model P w) A (.call (.ref g) ⟨us,[]⟩) (CR (aS P w C) outer P w H' s Q E) s
section
variable{P:GJ}{w:GQ}{K:G5}{mg:Str->Option O}{base:Heap}{C:Z}
theorem eT.mono(c:eT P w K mg base C j H g n sp)(h:j<=k):eT P w K mg base C k H g n sp:=⟨c.len,c.kp,λA outer s H' d vs Q E a b=>c.run A outer s H' d vs Q E a (b.mono h)⟩
theorem eT.on(c:eT P w K mg base C k H g n sp)(h:eE H H1):eT P w K mg base C k H1 g n sp:=⟨c.len,λH' d a=>c.kp H' d (h.trans a),λA outer s H' b vs Q E a=>c.run A outer s H' b vs Q E (h.trans a)⟩
theorem bQ.clb(D:bQ P w K mg base C k x ps sp):∃g,mg x=some (.ref g)/\∀H,eT P w K mg base C k H g ps.length sp:=by
 obtain⟨g,fd,G,j,l,i⟩:=D;refine⟨g,j,λH=>⟨G.len,λH' h _ _ X=>PySem.W.keeps_K l h X,λA outer s H' a vs Q E _ m c r d=>?_⟩⟩;have n:a.length=ps.length:=by rw[<-r.length];exact G.len _ _ _ _ d
 have f:K.In s.heap:=c.mod.kin.keeps λb o e=>(c.bs b o e).1;have b:=i s a f (by rwa [AR]);rw[AR] at b;exact G.run A outer s H' ⟨a,[]⟩ a vs Q E m c b r d
theorem aN.anyX(G:aN P w K mg base fY k f fd ps sp):aN P w K mg base (aS P w C) k f fd ps sp:=
 ⟨G.len,λA outer s H a h vs Q E i g b c hs=>codeAny_mono (G.run A outer s H a h vs Q E i g b c hs) λr s' q=>by
  cases r with
  |error e=>exact False.elim q
  |ok d=>cases d <;> exact q⟩
end
def pX(P:GJ)(w:GQ)(K:G5)(mg:Str->Option O)(base:Heap)(C:Z)(k i:Nat)(E:XK)(t:TA):TE:=λσ H Q=>∃g,σ[i]?=some (some (.ref g))/\t σ H λvs H1=>∃n sp,eT P w K mg base C k H1 g n sp/\sp vs H1 Q E
section
variable{X:Cx}{C:Z}{k i:Nat}{E:XK}{x:Str}{p pos:Pos}{e:GR}{es:List GR}{t:TA}
theorem Sf{P:GJ}{w:GQ}{K:G5}{mg:Str->Option O}{base:Heap}(o:X.N[i]?=some x)(d8:iO X.env.scope x)(U:aY k X.A)(T:Jf (aS P w C) X E)(y:PA X (e::es) t)(M:X.prog=P:=by rfl)(B:X.w=w:=by rfl)(G:X.K=K:=by rfl)(S:X.mg=mg:=by rfl)(l:X.base=base:=by rfl)
  (hd:(x==("__debug__":Str))=false:=by decide) (hcd:(x==("__classdict__":Str))=false:=by decide)
  (he:GO (e::es) X.env=(false,eval e X.env)::GO es X.env:=by rfl) (hpl:(backTo pos (GO es X.env)).any (·.1)=false:=by rfl):
  PE X (.Call (.Name x p) (e::es) [] pos) (pX P w K mg base C k i E t):=by
 subst M B G S l;intro aA s σ H Q I h;obtain⟨g,A,h⟩:=h;refine G0 (aW (Wo o d8 hd hcd aA s σ H (λv H'=>v=.ref g/\H'=H) I ⟨_,A,Y,Y⟩) λu D qQ=>?_);obtain⟨v,H1,L,N,F,R⟩:=qQ;subst F R;obtain rfl:u=O.ref g:=N;show GL _ _ (callWith pos (.ref g) [] (backTo pos (GO (e::es) X.env)) []) _ _ _;have j:=y pos aA D σ H1 _ L h;rw[he] at j ⊢;refine PySem.W.callWith_of (P:=λh=>∃d,(d=Keeper.frame\/d=Keeper.machine\/d=Keeper.boundFrame)/\PySem.W.Looks (model X.prog X.w) h (keeperOf (.ref g)) d) (by show((false || (backTo pos (GO es X.env)).any (·.1)) || false)=false;rw[hpl];rfl) (λ_ z=>z) (FB (aW j λd9 f ⟨vs,H2,b,r,n,sp,c,q⟩=>⟨c.kp H2 _ (eE.refl _) b.hok b.kIn,?_⟩));refine wpAny_call (codeAny_mono (c.run X.A X.stack f H2 d9 vs Q E (eE.refl _) U b.env0 r q) λr s' a=>?_);cases r with
 |error e=>exact T aA σ H2 f e s' b a
 |ok m=>
  cases m with
  |ret u=>exact b.after a
  |next=>exact False.elim a
  |brk=>exact False.elim a
  |cont=>exact False.elim a
theorem V8:Jf (aS P w C) X E0:=by intro aA σ c b e s' I h;obtain⟨ea,d,T,H',i,_,_,_,_,_,_,_,_,_,_,_,a⟩:=h;exact a.elim
end
theorem RO(b:X.mg x=some (.ref g))(a:Gl X x:=by rfl)(hd:(x==("__debug__":Str))=false:=by decide):PE X (.Name x pos) (tC (.ref g)):=Sn a b rfl hd
abbrev uT:HO:=.ext λ_=>True
abbrev fz(o:Obj):HO:=.frz o uT
theorem Q0(e:h.get? a=some o):aT P w H h a (fz o):=⟨e,trivial,⟨o,e⟩,λ_ _ _ _=>trivial⟩
def dF(H:Hp)(cs:List (Z×Obj)):Hp:=λb=>match cs.lookup b with
 |some o=>some (fz o)
 |none=>H b
def dO(H:Hp)(cs:List (Z×Obj)):Hp:=λb=>match cs.lookup b with
 |some _=>none
 |none=>H b
section
variable{H H':Hp}{cs:List (Z×Obj)}{b:Z}{o:Obj}
theorem K9(h:cs.lookup b=some o):dF H cs b=some (fz o):=by unfold dF;rw[h]
theorem HX(h:cs.lookup b=none):dF H cs b=H b:=by unfold dF;rw[h]
theorem Ls(h:cs.lookup b=some o):dO H cs b=none:=by unfold dO;rw[h]
theorem HY(h:cs.lookup b=none):dO H cs b=H b:=by unfold dO;rw[h]
theorem Ix(a:∀c o,cs.lookup c=some o->H c=some (fz o))(h:H b=some u)(hn:∀o,u≠fz o):dO H cs b=some u:=by
 cases q:cs.lookup b with
 |none=>rwa [HY q]
 |some o=>rw[a b o q] at h;cases h;exact absurd rfl (hn o)
theorem Ie(a:∀c o,cs.lookup c=some o->H c=none)(h:H b=some u):dF H cs b=some u:=by
 cases q:cs.lookup b with
 |none=>rwa [HX q]
 |some o=>rw[a b o q] at h;cases h
end
section
variable{P:GJ}{w:GQ}{fs:List Z}{H H':Hp}{h h':Heap}{cs:List (Z×Obj)}
theorem RN(f:∀c o,cs.lookup c=some o->h.get? c=some o/\H c=none/\c∉fs)(u:Un fs [] (dF H cs) H' h h')(j:bU P w H' h'):
  (∀c o,cs.lookup c=some o->H' c=some (fz o))/\Un fs [] H (dO H' cs) h h'/\bU P w (dO H' cs) h':=by
 have i:∀c o,cs.lookup c=some o->H' c=some (fz o):=λc o e=>u.frzs c o _ (K9 e);have k:∀c o,cs.lookup c=some o->h'.get? c=some o:=λc o e=>(j c _ (i c o e)).1;refine⟨i,⟨λb o e n g _=>?_,λb o e n g _=>?_,λb o e n _=>?_,λb o e _=>u.there b o e (by simp),λb xs e=>?_,λb o x e=>?_,λb ps e=>?_⟩,λb o e=>?_⟩
 ·cases q:cs.lookup b with
  |some a=>rw[(f b a q).1] at e;cases e;exact k b _ q
  |none=>exact u.keep b o e (by rwa [HX q]) g (by simp)
 ·cases q:cs.lookup b with
  |some a=>exact absurd g (f b a q).2.2
  |none=>exact u.slot b o e (by rwa [HX q]) g (by simp)
 ·cases q:cs.lookup b with
  |some a=>exact Ls q
  |none=>rw[HY q];exact u.free b o e (by rwa [HX q]) (by simp)
 ·cases q:cs.lookup b with
  |some a=>rw[(f b a q).2.1] at e;cases e
  |none=>rw[HY q];exact u.tups b xs (by rwa [HX q])
 ·cases q:cs.lookup b with
  |some a=>rw[(f b a q).2.1] at e;cases e
  |none=>rw[HY q];exact u.frzs b o x (by rwa [HX q])
 ·cases q:cs.lookup b with
  |some a=>rw[(f b a q).2.1] at e;cases e
  |none=>rw[HY q];exact u.tbls b ps (by rwa [HX q])
 ·cases q:cs.lookup b with
  |some a=>rw[Ls q] at e;cases e
  |none=>
   rw[HY q] at e;refine(j b o e).stay (λ_ _ _ z=>z) (λd hd=>?_) λd xs hd=>?_
   ·cases q2:cs.lookup d with
    |some a=>rw[i d a q2] at hd;cases hd
    |none=>rwa [HY q2]
   ·cases q2:cs.lookup d with
    |some a=>rw[i d a q2] at hd;cases hd
    |none=>rwa [HY q2]
theorem VB(f:∀c o,cs.lookup c=some o->H c=some (fz o)/\h.get? c=some o/\c∉fs)(u:Un fs [] (dO H cs) H' h h')(j:bU P w H' h'):
  (∀c o,cs.lookup c=some o->H' c=none)/\Un fs [] H (dF H' cs) h h'/\bU P w (dF H' cs) h':=by
 have g:∀c o,cs.lookup c=some o->H' c=none:=λc o e=>u.free c o (f c o e).2.1 (Ls e) (by simp);have k:∀c o,cs.lookup c=some o->h'.get? c=some o:=λc o e=>u.keep c o (f c o e).2.1 (Ls e) (f c o e).2.2 (by simp);refine⟨g,⟨λb o e n i _=>?_,λb o e n i _=>?_,λb o e n _=>?_,λb o e _=>u.there b o e (by simp),λb xs e=>?_,λb o x e=>?_,λb ps e=>?_⟩,λb o e=>?_⟩
 ·cases q:cs.lookup b with
  |some a=>rw[(f b a q).1] at n;cases n
  |none=>exact u.keep b o e (by rwa [HY q]) i (by simp)
 ·cases q:cs.lookup b with
  |some a=>rw[(f b a q).1] at n;cases n
  |none=>exact u.slot b o e (by rwa [HY q]) i (by simp)
 ·cases q:cs.lookup b with
  |some a=>rw[(f b a q).1] at n;cases n
  |none=>rw[HX q];exact u.free b o e (by rwa [HY q]) (by simp)
 ·cases q:cs.lookup b with
  |some a=>rw[(f b a q).1] at e;cases e
  |none=>rw[HX q];exact u.tups b xs (by rwa [HY q])
 ·cases q:cs.lookup b with
  |some a=>rw[(f b a q).1] at e;cases e;exact K9 q
  |none=>rw[HX q];exact u.frzs b o x (by rwa [HY q])
 ·cases q:cs.lookup b with
  |some a=>rw[(f b a q).1] at e;cases e
  |none=>rw[HX q];exact u.tbls b ps (by rwa [HY q])
 ·cases q:cs.lookup b with
  |some a=>rw[K9 q] at e;cases e;exact Q0 (k b a q)
  |none=>rw[HX q] at e;exact(j b o e).stay (λ_ _ _ z=>z) (λd hd=>Ie g hd) λd xs hd=>Ie g hd
theorem XX(a:∀c o,cs.lookup c=some o->H c=some (fz o))(f:bU P w H h):bU P w (dO H cs) h:=λb o e=>by
 cases q:cs.lookup b with
 |some g=>rw[Ls q] at e;cases e
 |none=>rw[HY q] at e;exact(f b o e).stay (λ_ _ _ z=>z) (λd hd=>Ix a hd (λ_ z=>by cases z)) λd xs hd=>Ix a hd (λ_ z=>by cases z)
theorem Sy(a:∀c o,cs.lookup c=some o->H c=none/\h.get? c=some o)(g:bU P w H h):bU P w (dF H cs) h:=λb o e=>by
 cases q:cs.lookup b with
 |some f=>rw[K9 q] at e;cases e;exact Q0 (a b f q).2
 |none=>rw[HX q] at e;exact(g b o e).stay (λ_ _ _ z=>z) (λd hd=>Ie (λc o z=>(a c o z).1) hd) λd xs hd=>Ie (λc o z=>(a c o z).1) hd
end
abbrev Ps(qual:Str)(scope:Scope)(L f:Z)(cd:O)(cl:List (Str×Z)):Env:=newEnv scope L GM cl (qual++".<locals>.") (some f) cd none builtinsNs
def On(P:GJ)(w:GQ)(K:G5)(mg:Str->Option O)(base:Heap)(C:Z)(N:List Str)(qual:Str)(scope:Scope)(f:Z)(cd:O)(cl:List (Str×Z))(A:GS)(outer:List Env)(s:GF)(H:Hp)(E:XK):Cx where
 prog:=P
 w:=w
 K:=K
 mg:=mg
 base:=base
 A:=A.deeper (Ps qual scope s.heap.objs.size f cd cl)
 N:=N
 s_0:=s
 H_0:=H
 env:=Ps qual scope s.heap.objs.size f cd cl
 outer:=outer
 stack:=Ps qual scope s.heap.objs.size f cd cl::outer
 ex:=[]
 calm:=true
 fn:=λ_=>false
 pn:=[]
 xe:=λe s'=>GL (model P w) (A.deeper (Ps qual scope s.heap.objs.size f cd cl)) (leaving (Ps qual scope s.heap.objs.size f cd cl) e) (λ_ s''=>aS P w C outer H s E e s'') (λe' s''=>aS P w C outer H s E e' s'') s'
section
variable{P:GJ}{w:GQ}{K:G5}{mg:Str->Option O}{base:Heap}{N:List Str}{qual:Str}{scope:Scope}{f C ea d:Z}{cd:O}{cl:List (Str×Z)}{A:GS}{outer:List Env}{s s':GF}{H H':Hp}{E:XK}{aA:List (Z×Obj)}{σ:St}{i:Int}{xs:List Z}
theorem ZX(I:Inv (On P w K mg base C N qual scope f cd cl A outer s H E) aA σ H' s')(d8:LX.iG s'.heap ea (.ref C) d xs)(h:∀b∈xs,s.heap.get? b=none/\H' b=none)
  (hd:H' d=some (.xd (gR i))) (hE:E (.ref C) (some d) H'):(On P w K mg base C N qual scope f cd cl A outer s H E).xe (.ref ea) s':=by
 have r:ea∈xs:=by cases d8 <;> simp
 refine LX.gI (env:=Ps qual scope s.heap.objs.size f cd cl) (outer:=outer) (base:=base) I.ok.frames I.stack rfl d8 λh' k j t F=>?_;have G:∀b o,s.heap.get? b=some o->b∉cG outer->b∉LX.gH (Ps qual scope s.heap.objs.size f cd cl::outer):=λb o e g m=>by
  have D:b∈s.heap.objs.size::cG outer:=m;rcases Aq.mp D with z | z
  ·exact absurd (Ao e) (by rw[z];exact Bc _)
  ·exact g z
 have l:∀b o,s.heap.get? b=some o->b∉xs:=λb o e m=>by rw[(h b m).1] at e;cases e
 have B:Un (cG outer) [] H H' s.heap s'.heap:=I.base;have gB:∀b o u,H' b=some u->s'.heap.get? b=some o->h'.get? b=some o:=λb o u e y=>by
  refine(j b o y λm=>?_).1 λm=>?_
  ·rw[(h b m).2] at e;cases e
  ·have z:H' b=none:=I.stkFree b m;rw[z] at e;cases e
 refine zG Y F ⟨(h ea r).1,?_,(h ea r).2,I.hok.none_of t,I.os,I.bare,⟨λb o e n g a=>?_,λb o e n g a=>?_,λb o e n a=>B.free b o e n a,λb o e a=>?_,B.tups,B.frzs,B.tbls⟩,λb o e=>?_,hd,hE⟩
 ·cases q:s.heap.get? k with
  |none=>rfl
  |some o=>obtain⟨o',x⟩:=B.there k o q (by simp);rw[t] at x;cases x
 ·exact(j b o (B.keep b o e n g a) (l b o e)).1 (G b o e g)
 ·obtain⟨sl,e1⟩:=B.slot b o e n g a;obtain⟨v,p⟩:=(j b _ e1 (l b o e)).2;exact⟨v,p⟩
 ·obtain⟨o',e1⟩:=B.there b o e a;obtain⟨v,p⟩:=(j b _ e1 (l b o e)).2;exact⟨_,p⟩
 ·refine(I.hok b o e).stay (λc u d9 q=>?_) (λ_ q=>q) λ_ _ q=>q;rcases d9 with z | z
  ·rw[z] at q ⊢;exact gB b u o e q
  ·exact gB c u _ z q
theorem oP:Jf (aS P w C) (On P w K mg base C N qual scope f cd cl A outer s H E) E:=by
 intro aA σ u j e s' I h;obtain⟨ea,d,T,H',i,rfl,F,e1,p,r,n2,n,l,un,m,hd,k⟩:=h;have t:Inv (On P w K mg base C N qual scope f cd cl A outer s H E) aA σ H' s':=I.call' (ch:=[]) n un m l (λb z=>absurd z (by simp));have B:Un (cG outer) [] H u s.heap j.heap:=I.base;have g:∀b,j.heap.get? b=none->s.heap.get? b=none:=λb z=>by
  cases q:s.heap.get? b with
  |none=>rfl
  |some o=>obtain⟨o',c⟩:=B.there b o q (by simp);rw[z] at c;cases c
 refine ZX t (.next F) (λb a=>?_) hd k;rcases Aq.mp a with rfl | a
 ·exact⟨g _ e1,r⟩
 ·rw[Ai.mp a];exact⟨g _ p,n2⟩
end
structure dB(N ps:List Str)(sc:Scope):Prop where
 kind:sc.kind=.function
 co:sc.isCoroutine=false
 gen:sc.isGenerator=false
 nd:N.Nodup
 pre:N.take ps.length=ps
 par:∀x∈ps,sc.names.lookup x=some .local
 nocell:∀x∈sc.names,x.2≠.cell
 free:∀x∈N.drop ps.length,sc.names.lookup x=some .free
theorem XB{ps:List Str}{us:List O}(nd:ps.Nodup)(g:us.length=ps.length){i:Nat}{x:Str}{u:O}(h1:ps[i]?=some x)(h2:us[i]?=some u):(ps.zip us).reverse.lookup x=some u:=by
 have f:(x,u)∈(ps.zip us).reverse:=by rw[List.mem_reverse];refine AX (i:=i) ?_;rw[CA];exact⟨h1,h2⟩
 have c:∀l:List (Str×O),(l.map (·.1)).Nodup->(x,u)∈l->l.lookup x=some u:=by
  intro l
  induction l with
  |nil=>intro _ z;cases z
  |cons p r d=>
   obtain⟨a,b⟩:=p;intro n z;rw[An,Cm] at n;rw[Bp];rcases Aq.mp z with e | z
   ·cases e;simp
   ·have ne:x≠a:=λq=>n.1 (by rw[<-q];exact Av.mpr ⟨(x,u),z,Y⟩);rw[beq_eq_false_iff_ne.mpr ne];exact d n.2 z
 refine c _ ?_ f;rw[List.map_reverse];have e:(ps.zip us).map (·.1)=ps:=by
  rw[List.map_fst_zip]
  lia
 rw[e];exact List.pairwise_reverse.mpr (List.Pairwise.imp (λh=>Ne.symm h) nd)
section
variable{P:GJ}{w:GQ}{K:G5}{mg:Str->Option O}{base:Heap}{C:Z}
theorem Xa{k:Nat}{H:Hp}{f l:Z}{nm qual:Str}{ai:Arguments}{body:GR}{scope:Scope}{cl:List (Str×Z)}{pm ab:O}{X:Obj}{N ps:List Str}{fr:List V}{sp:Sp}
  (hf:H f=some (fz (EI nm qual ai body scope cl pm l ab))) (hc':H l=some (fz X)) (hoc:∃vs t,X.data=.fields vs/\vs[1]?=some (.str qual t))
  (cs:List (Z×Obj)) (hcs:∀c o,cs.lookup c=some o->H c=some (fz o)/\∃u,o.data=.cell u) (hcl:∀x c,cl.lookup x=some c->∃o,cs.lookup c=some o) (inj:∀x y c,cl.lookup x=some c->cl.lookup y=some c->x=y)
  (S:dB N ps scope) (has:∀x,scope.names.lookup x=some .free->∃c,cl.lookup x=some c) (hlen:N.length=ps.length+fr.length)
  (hfr:∀(j:Nat) (x:Str) (v:V),fr[j]?=some v->N[ps.length+j]?=some x->∃c o u,cl.lookup x=some c/\cs.lookup c=some o/\o.data=.cell (some u)/\RelV v u)
  (W:∀us:List O,us.length=ps.length->bindArgs (ES nm qual ai body scope cl pm (.ref l) ab) ⟨us,[]⟩=pure (ps.zip us))
  (len:∀vs H Q E,sp vs H Q E->vs.length=ps.length)
  (hbody:∀(A:GS) (outer:List Env) (s:GF) (H':Hp) (vs:List V) (Q:VK) (E:XK),eE H H'->aY k (A.deeper (Ps qual scope s.heap.objs.size f (.ref l) cl))->sp vs H' Q E->
   ∃t,PE (On P w K mg base C N qual scope f (.ref l) cl A outer s (dO H' cs) (λa d H2=>(∀c o,cs.lookup c=some o->H2 c=none)->E a d (dF H2 cs))) body t/\t ((vs++fr).map some) (dO H' cs) λv H2=>(∀c o,cs.lookup c=some o->H2 c=none)->Q v (dF H2 cs)):
  eT P w K mg base C (k+1) H f ps.length sp:=by
 refine⟨len,λH' h B aa _=>?_,λA outer s H' us vs Q E B hr g r ac=>?_⟩
 ·exact PySem.W.keeps_F h ⟨_,_,_,_,(aa f _ (B f _ _ hf)).1⟩
 ·have hl:=len _ _ _ _ ac;have ah:us.length=ps.length:=by rwa [<-r.length]
  have ak:s.heap.NoLimit:=g.mod.nolimit.keeps λb o e=>(g.bs b o e).1;have gf:=(g.hok f _ (B f _ _ hf)).1;have gc:=(g.hok l _ (B l _ _ hc')).1;obtain⟨al,t0,ao,an⟩:=hoc;have G:∀c o,cs.lookup c=some o->H' c=some (fz o):=λc o e=>B c _ _ (hcs c o e).1;have D:∀c o,cs.lookup c=some o->s.heap.get? c=some o:=λc o e=>(g.hok c _ (G c o e)).1;have ad:∀c o,cs.lookup c=some o->c∉cG outer:=λc o e z=>by have:=g.frf c z;rw[G c o e] at this;cases this
  refine PySem.W.kla_callFunE hr.depth gf rfl S.co S.gen rfl (zV Y gc ao an) ?_;rw[W us ah];refine GK (wpAny_newFunctionEnv S.nocell (λx hx=>S.par x.1 (CQ (show(x.1,x.2)∈ps.zip us from hx)).1) (λag aj af=>⟨ak.keeps λb o e=>af.extBut b o (AL (Ao e)) (Ac _ e),?_⟩) S.kind);obtain⟨t,ht,hq⟩:=hbody A outer s H' vs Q E B (hr.deeper _) ac;have M:∀b o,s.heap.get? b=some o->ag.get? b=some o:=λb o e=>af.extBut b o (AL (Ao e)) (Ac _ e);have am:=XX G g.hok;have d6:∀b,H' b=none->dO H' cs b=none:=λb e=>by
   cases q:cs.lookup b with
   |none=>rwa [HY q]
   |some o=>exact Ls q
  have I:Inv (On P w K mg base C N qual scope f (.ref l) cl A outer s (dO H' cs) (λa d H2=>(∀c o,cs.lookup c=some o->H2 c=none)->E a d (dF H2 cs))) [] ((vs++fr).map some) (dO H' cs) { s with heap:=ag,toks:=s.toks+(ps.zip us).length }:=by
   have d7:∀b:Z,b∉([]:List Z):=λb z=>by cases z
   refine⟨⟨g.mod,S.kind,Y,Y,Ag _,λy z c h1 h2=>inj y z c h1 h2,λy m=>?_,λy c h _=>?_,λ_=>hr.hd,GS.frames_deeper g.frames,.inr ⟨Y,Y⟩,λb z=>absurd z (d7 b),λb o e=>⟨(g.bs b o e).1,d6 b (g.bs b o e).2⟩,g.bsz,λb _ _=>d7 b,λb z=>absurd z (d7 b),g.funs,λb W=>d6 b (g.frf b W)⟩,rfl,g.bare,Un.kept M,zA aj (λi y v h1 h2 h3=>?_),λy c h=>?_,d6 _ (g.hok.fresh (Ag _)),λy c h=>?_,λp d8=>absurd (show p∈([]:List (Z×Obj)) from d8) (by simp),am.kept M,?_⟩
   ·have m:scope.names.lookup y=some .cell\/scope.names.lookup y=some .free:=m;rcases m with m | m
    ·exact absurd rfl (S.nocell _ (PySem.mem_of_lookup m))
    ·exact has y m
   ·exact absurd (show false=true from h) Ak
   ·have h1:N[i]?=some y:=h1;rw[Ah] at h2;cases e:(vs++fr)[i]? with
    |none=>rw[e] at h2;cases h2
    |some v'=>
     rw[e] at h2;have h2:some v'=some v:=by simpa using h2
     cases h2;by_cases hi:i<vs.length
     ·rw[AC hi] at e;obtain⟨u,hu,rv⟩:=r.get e;have d8:ps[i]?=some y:=by rwa [<-S.pre,Ff (by lia)]
      refine⟨u,rv,.inl ⟨S.par y (AX d8),XB ?_ ah d8 hu⟩⟩;have:=S.nd;rw[<-S.pre];exact this.sublist (Gd _ _)
     ·rw[Ax (by lia)] at e;obtain⟨c,o,u,q1,q2,q3,q4⟩:=hfr (i-vs.length) y v e (by rw[<-hl];rwa [show vs.length+(i-vs.length)=i by lia]);refine⟨u,q4,.inr ⟨.inr (S.free y ?_),c,q1,o,M _ _ (D c o q2),q3⟩⟩;refine AX (i:=i-ps.length) ?_
      rwa [F7,show ps.length+(i-ps.length)=i by lia]
   ·obtain⟨o,n⟩:=hcl y c h;obtain⟨u,hu⟩:=(hcs c o n).2;exact⟨u,o,M _ _ (D c o n),hu⟩
   ·obtain⟨o,n⟩:=hcl y c h;exact Ls n
   ·show((vs++fr).map some).length=N.length;rw[Ab,Ad,hl,hlen]
  refine PySem.W.kla_codeExpr (GX (ht [] _ _ _ _ I hq) (λu s' hs=>?_) λe s' hs=>?_)
  ·obtain⟨v,H2,d9,rv,q⟩:=hs;obtain⟨R,U,a3⟩:=VB (fs:=cG outer) (λc o e=>⟨G c o e,D c o e,ad c o e⟩) d9.base d9.hok;exact⟨v,_,d9.os,d9.bare,U,a3,rv,q R⟩
  ·have ae:∀e L,aS P w C outer (dO H' cs) s (λa d H2=>(∀c o,cs.lookup c=some o->H2 c=none)->E a d (dF H2 cs)) e L->aS P w C outer H' s E e L:=by
    rintro e L ⟨ea,d,T,H2,i,rfl,F,e1,e2,n1,n2,n,hg,un,aa,hd,hE⟩;obtain⟨R,U,a3⟩:=VB (fs:=cG outer) (λc o e=>⟨G c o e,D c o e,ad c o e⟩) un aa;have nn:∀b,s.heap.get? b=none->cs.lookup b=none:=λb z=>by
     cases q:cs.lookup b with
     |none=>rfl
     |some o=>rw[D b o q] at z;cases z
    exact zG Y F ⟨e1,e2,by rwa [HX (nn _ e1)],by rwa [HX (nn _ e2)],n,hg,U,a3,Ie R hd,hE R⟩
   exact GX hs (λ_ L q=>ae _ _ q) λe' L q=>ae _ _ q
end
def PR(base:Heap)(mg:Str->Option O):Prop:=∃b a,mg "__builtins__"=some (.ref b)/\b≠builtinsNs/\base.get? b=some a/\a.cls=.type "module"/\a.dict=some builtinsNs/\a.data=.plain
def aR(P:Z)(H H':Hp):Prop:=∀b o,H b=some o->b≠P->H' b=some o
structure dI(H:Hp)(f:Z)(qual:Str)(params:Arguments)(body:GR)(scope:Scope)(cl:List (Str×Z)):Prop where
 ex:∃(c':Z) (oc:Obj) (pm ctv:O),H f=some (fz (EI "<lambda>" qual params body scope cl pm c' ctv))/\H c'=some (fz oc)/\∃vs t,oc.data=.fields vs/\vs[1]?=some (.str qual t)
theorem dI.on(l:dI H f qual params body scope cl)(h:eE H H'):dI H' f qual params body scope cl:=by obtain⟨e,a,c,b,h1,h2,d⟩:=l.ex;exact⟨e,a,c,b,h _ _ _ h1,h _ _ _ h2,d⟩
def SX(P:Z)(pos:Pos)(qual:Str)(H:Hp):Prop:=∃(b:Z) (a:Obj) (vs:Array O) (t:Tok),H P=some (.tbl #[rawInt pos.line,rawInt pos.col,.ref b])/\H b=some (fz a)/\a.data=.fields vs/\vs[1]?=some (.str qual t)
def rW(P:Z)(pos:Pos)(qual:Str)(a:Arguments)(body:GR)(scope:Scope)(cl:List (Str×Z)):TE:=λ_ H Q=>H P=some (.tbl #[])/\∀(f:Z) (H2:Hp),aR P H H2->SX P pos qual H2->dI H2 f qual a body scope cl->Q (.ref f) H2
theorem V5{X:Cx}{c P:Z}{p:Arguments}{body:GR}{scope:Scope}{pos:Pos}{qual:Str}(ac:X.env.code=.ref c)(hK:B9 X.K c P=true)(U:PR X.base X.mg)(K:X.env.qual++"<lambda>"=qual)
  (hfree:∀y∈scope.names,y.2=.free->∃c,X.env.cells.lookup y.1=some c) (hdef:defaultsOf p X.env=([],[]):=by rfl):
  PE X (.Lambda p body scope pos) (rW P pos qual p body scope (HI X.env.cells scope.names [])):=by
 intro aA s σ H Q I h;obtain⟨f,h⟩:=h;have M:s.heap.get? P=some (Dh #[]):=I.hok P _ f;have af:s.heap.Ns GM X.mg:=I.mod.glob.keeps I.bk;obtain⟨R,W,d7,b2,k,b4,b5,w⟩:=U;have G:∀b o,X.base.get? b=some o->b≠P:=λb o e z=>by have q:=(I.bs b o e).2;rw[z,f] at q;cases q
 have ae:GM≠P:=by obtain⟨o,es,ep,e,hd,_⟩:=I.mod.glob;exact G _ o e
 have aa:R≠GM:=λq=>by obtain⟨o,es,ep,e,hd,_⟩:=I.mod.glob;rw[q,e] at k;cases k;rw[hd] at w;cases w
 refine FM hdef (PySem.W.kla_makeFunction (mg:=X.mg) (Ly hfree) I.ok.glob af ac (Fo I.kIn hK) M trivial rfl ae ⟨R,W,d7,b2,aa,G _ _ k,I.bk _ _ k,b4,b5,w⟩ λa D h' tk hx l N d9 S=>?_);rw[K];rw[K] at d9;obtain⟨c2,i,vs,t,e2,ab,hd,d8⟩:=d9;cases e2;generalize L:EI "<lambda>" qual p body scope (HI X.env.cells scope.names []) ((X.mg "__name__").getD .none) a D=g;have F:P<s.heap.objs.size:=Ao M;have u:s.heap.objs.size<=h'.objs.size:=Cj (AD l N);have nf:H h'.objs.size=none:=I.hok.fresh u;have nc:H a=none:=I.hok.fresh l;have pf:P≠h'.objs.size:=AL (As F u);have d6:P≠a:=AL (As F l);have cf:a≠h'.objs.size:=AL N
 let j:Array O:=#[]++#[rawInt pos.line,rawInt pos.col,.ref a]
 let H2:Hp:=aK (aK (aK H P (.tbl j)) a (fz i)) h'.objs.size (fz g)
 have out:∀b,b≠P->b≠a->b≠h'.objs.size->H2 b=H b:=λb n1 n2 n3=>by show aK (aK (aK H P (.tbl j)) a (fz i)) h'.objs.size (fz g) b=H b;rw[Hf n3,Hf n2,Hf n1]
 have A:H2 P=some (.tbl j):=by show aK (aK (aK H P (.tbl j)) a (fz i)) h'.objs.size (fz g) P=_;rw[Hf pf,Hf d6,G9]
 have r:H2 a=some (fz i):=by show aK (aK (aK H P (.tbl j)) a (fz i)) h'.objs.size (fz g) a=_;rw[Hf cf,G9]
 have ad:H2 h'.objs.size=some (fz g):=G9;have kb:aR P H H2:=λb o e n=>by rwa [out b n (Hk e nc) (Hk e nf)]
 have m:∀b o,b≠P->s.heap.get? b=some o->(h'.push g).get? b=some o:=λb o n e=>Ac _ (hx b o n e);refine⟨.ref h'.objs.size,H2,I.un (t':=tk) (h':=h'.push g) ⟨λb o e n _ _=>?_,λb o e n _ _=>?_,λb o e n _=>?_,λb o e _=>?_,λb xs e=>?_,λb o x e=>?_,λb ps e=>?_⟩ (λb o e=>?_),Y,h _ _ kb ⟨a,i,vs,t,by rw[A];show some (HO.tbl (#[]++_))=_;rw[FX],r,hd,d8⟩ ⟨a,i,_,D,by rwa [L],r,vs,t,hd,d8⟩⟩
 ·exact m b o (λz=>by rw[z,f] at n;cases n) e
 ·exact⟨o.slots,m b o (λz=>by rw[z,f] at n;cases n) e⟩
 ·have C:=Ao e
  rwa [out b (λz=>by rw[z,f] at n;cases n) (AL (As C l)) (AL (As C u))]
 ·by_cases z:b=P
  ·rw[z];exact⟨_,Ac _ S⟩
  ·exact⟨o,m b o z e⟩
 ·exact kb b _ e λz=>by rw[z,f] at e;cases e
 ·exact kb b _ e λz=>by rw[z,f] at e;cases e
 ·by_cases z:b=P
  ·subst z;rw[f] at e;cases e;exact⟨_,A⟩
  ·exact⟨#[],by rw[kb b _ e z,Array.append_empty]⟩
 ·by_cases B:b=h'.objs.size
  ·rw[B] at e ⊢;rw[ad] at e;cases e;exact Q0 (Ap _ (by rw[<-L];rfl))
  ·by_cases E:b=a
   ·rw[E] at e ⊢;rw[r] at e;cases e;exact Q0 (Ac _ ab)
   ·by_cases T:b=P
    ·rw[T] at e ⊢;rw[A] at e;cases e;exact Ac _ S
    ·rw[out b T E B] at e;refine(I.hok b o e).stay (λd v V q=>m d v ?_ q) (λd q=>kb d _ q λz=>by rw[z,f] at q;cases q) λd xs q=>kb d _ q λz=>by rw[z,f] at q;cases q
     rcases V with z | z
     ·rwa [z]
     ·intro y;rw[y,f] at z;cases z
structure dS(env:Env)(σ:St)(L:List (Str×Nat))(H:Hp)(cs:List (Z×Obj)):Prop where
 free:∀c o,cs.lookup c=some o->H c=none/\∃u,o.data=.cell u
 inj:∀x y c,env.cells.lookup x=some c->env.cells.lookup y=some c->x=y
 val:∀x i v,(x,i)∈L->σ[i]?=some (some v)->∃c o u,env.cells.lookup x=some c/\cs.lookup c=some o/\o.data=.cell (some u)/\RelV v u
theorem NY(I:Inv X aA σ H s):∀(L:List (Str×Nat)),(∀x i,(x,i)∈L->X.N[i]?=some x/\X.env.scope.names.lookup x=some .cell/\X.fn x=true/\∃v,σ[i]?=some (some v))->
  ∃cs:List (Z×Obj),(∀c o,cs.lookup c=some o->s.heap.get? c=some o/\(∃u,o.data=.cell u)/\∃x,X.env.cells.lookup x=some c/\X.fn x=true) ∧
   ∀x i v,(x,i)∈L->σ[i]?=some (some v)->∃c o u,X.env.cells.lookup x=some c/\cs.lookup c=some o/\o.data=.cell (some u)/\RelV v u
 |[],_=>⟨[],⟨λc o e=>absurd e (by simp),λx i v e=>absurd e (by simp)⟩⟩
 |(x,i)::L,h=>by
  obtain⟨cs,h1,h2⟩:=NY I L λy j b=>h y j (Aw _ b);obtain⟨F,B,G,v,n⟩:=h x i AH;obtain⟨m,hn,D⟩:=I.loc;obtain⟨u,r,l⟩:=D i x v F n (.inr (.inl B));obtain⟨c,A,o,t,hd⟩:∃c,X.env.cells.lookup x=some c/\s.heap.IsCell c (some u):=by
   rcases l with ⟨z,_⟩ | ⟨_,c,d,k⟩
   ·have w:X.env.scope.names.lookup x=some .local:=z;rw[B] at w;cases w
   ·exact⟨c,d,k⟩
  refine⟨(c,o)::cs,λa o' e=>?_,λy j E b f=>?_⟩
  ·rw[Bp] at e;cases hb:a==c with
   |true=>rw[hb] at e;cases e;rw[beq_iff_eq.mp hb];exact⟨t,⟨_,hd⟩,x,A,G⟩
   |false=>rw[hb] at e;exact h1 a o' e
  ·rcases Aq.mp b with e | b
   ·cases e;rw[n] at f;cases f;exact zJ c o u A (by rw[Bp,beq_self_eq_true]) hd r
   ·obtain⟨a,o',p,d,k,q,C⟩:=h2 y j E b f;cases hb:a==c with
    |true=>have d9:=beq_iff_eq.mp hb;have g:=(h1 a o' k).1;rw[d9,t] at g;cases g;exact zJ a o p d (by rw[Bp,hb]) q C
    |false=>exact zJ a o' p d (by rwa [Bp,hb]) q C
def ZL(env:Env)(L:List (Str×Nat))(sp:Sp)(E:XK)(t:TA):TE:=λσ H Q=>(∀x i,(x,i)∈L->∃v,σ[i]?=some (some v))/\t σ H λvs H1=>∀cs,dS env σ L H1 cs->
 sp vs (dF H1 cs) (λv H'=>(∀c o,cs.lookup c=some o->H' c=some (fz o))->Q v (dO H' cs)) λa d H'=>(∀c o,cs.lookup c=some o->H' c=some (fz o))->E a d (dO H' cs)
section
variable{X:Cx}{C:Z}{k:Nat}{E:XK}{x:Str}{p pos:Pos}{e:GR}{es:List GR}{t:TA}{sp:Sp}{ps:List Str}{g:Z}{fd:GP}{L:List (Str×Nat)}
theorem VJ(F:aN X.prog X.w X.K X.mg X.base (aS X.prog X.w C) k g fd ps sp)(hr:aY k X.A)(d9:Gl X x)(hm:X.mg x=some (.ref g))(d7:AI X.K (.ref g)=true)(W:Binds X.K fd ps [])(hx:Jf (aS X.prog X.w C) X E)
  (hL:∀y i,(y,i)∈L->X.N[i]?=some y/\X.env.scope.names.lookup y=some .cell/\X.fn y=true) (ha:PA X (e::es) t) (hdb:(x==("__debug__":Str))=false:=by decide)
  (he:GO (e::es) X.env=(false,eval e X.env)::GO es X.env:=by rfl) (hpl:(backTo pos (GO es X.env)).any (·.1)=false:=by rfl):
  PE X (.Call (.Name x p) (e::es) [] pos) (ZL X.env L sp E t):=by
 intro aA s σ H Q I h;obtain⟨hs,h⟩:=h;refine G0 (Kr I d9 hm ?_ hdb);refine CO (h₀:=X.base) I.ok.mod.kin d7 (aW (ha pos aA s σ H _ I h) λB m ⟨vs,H1,a,r,q⟩=>⟨a.kIn,?_⟩) he hpl;obtain⟨cs,l,c2⟩:=NY a L λy i f=>⟨(hL y i f).1,(hL y i f).2.1,(hL y i f).2.2,hs y i f⟩;have K:∀c o,cs.lookup c=some o->H1 c=none:=λc o z=>by obtain⟨_,_,y,f,_⟩:=l c o z;exact a.freeC y c f
 have U:∀c o,cs.lookup c=some o->X.s_0.heap.objs.size<=c:=λc o z=>by obtain⟨_,_,y,f,hf⟩:=l c o z;exact a.ok.cab y c hf f
 have d8:∀c o,cs.lookup c=some o->c∉cG X.stack:=λc o z A=>by
  rcases Aq.mp (a.stkSub c A) with w | w
  ·obtain⟨_,_,y,f,_⟩:=l c o z;exact a.cne y c f w
  ·obtain⟨_,o',ab,_⟩:=a.ok.funs.mem w;exact absurd (As (Ao ab) (U c o z)) (Bc _)
 have q:=q cs ⟨λc o z=>⟨K c o z,(l c o z).2.1⟩,a.ok.inj,c2⟩;have V:dE X.prog X.w X.K X.mg X.base X.A X.stack m (dF H1 cs):=by
  have e1:=a.env0;refine⟨e1.frames,e1.mod,λb o z=>⟨(e1.bs b o z).1,?_⟩,e1.bsz,e1.funs,λb A=>?_,Sy (λc o z=>⟨K c o z,(l c o z).1⟩) e1.hok,e1.bare⟩
  ·cases j:cs.lookup b with
   |none=>rw[HX j];exact(e1.bs b o z).2
   |some o'=>exact absurd (As (As (Ao z) a.ok.bsz) (U b o' j)) (Bc _)
  ·cases j:cs.lookup b with
   |none=>rw[HX j];exact e1.frf b A
   |some o'=>exact absurd A (d8 b o' j)
 have hl:B.length=ps.length:=by rw[<-r.length];exact F.len _ _ _ _ q
 have R:=W m B a.kIn (by rwa [AR]);rw[AR] at R;have S:∀c o,cs.lookup c=some o->m.heap.get? c=some o/\H1 c=none/\c∉cG X.stack:=λc o z=>⟨(l c o z).1,K c o z,d8 c o z⟩;refine wpAny_call (codeAny_mono (F.run X.A X.stack m (dF H1 cs) ⟨B,[]⟩ B vs _ _ hr V R r q) λr s' n=>?_);cases r with
 |error e=>
  refine hx aA σ H1 m e s' a ?_;obtain⟨ea,d,T,H',i,rfl,F',e1,P,n1,n2,ho,d9,un,N,hd,hE⟩:=n;obtain⟨D,G,M⟩:=RN S un N;have nn:∀b,m.heap.get? b=none->cs.lookup b=none:=λb z=>by
   cases j:cs.lookup b with
   |none=>rfl
   |some o=>rw[(l b o j).1] at z;cases z
  exact zG Y F' ⟨e1,P,by rwa [HY (nn _ e1)],by rwa [HY (nn _ P)],ho,d9,G,M,Ix D hd (λ_ z=>by cases z),hE D⟩
 |ok d6=>
  cases d6 with
  |ret u=>obtain⟨v,H',os,aa,un,N,rv,j⟩:=n;obtain⟨D,G,M⟩:=RN S un N;exact a.after ⟨v,_,os,aa,G,M,rv,j D⟩
  |next=>exact False.elim n
  |brk=>exact False.elim n
  |cont=>exact False.elim n
end
structure jA(P:GJ)(w:GQ)(K:G5)(mg:Str->Option O)(base:Heap)(C:Z)(H:Hp)(f:Z)(cs:List (Z×Obj))(qual:Str)(body:GR)(scope:Scope)(N ps:List Str)(fr:List V):Prop where
 run:∀(k:Nat) (sp:Sp),(∀vs H Q E,sp vs H Q E->vs.length=ps.length)->
  (∀(cd:O) (cl:List (Str×Z)) (A:GS) (outer:List Env) (s:GF) (H':Hp) (vs:List V) (Q:VK) (E:XK),eE H H'->aY k (A.deeper (Ps qual scope s.heap.objs.size f cd cl))->sp vs H' Q E->
   ∃t,PE (On P w K mg base C N qual scope f cd cl A outer s (dO H' cs) (λa d H2=>(∀c o,cs.lookup c=some o->H2 c=none)->E a d (dF H2 cs))) body t/\t ((vs++fr).map some) (dO H' cs) λv H2=>(∀c o,cs.lookup c=some o->H2 c=none)->Q v (dF H2 cs))->
  eT P w K mg base C (k+1) H f ps.length sp
theorem YR{P:GJ}{w:GQ}{K:G5}{mg:Str->Option O}{base:Heap}{C:Z}{env:Env}{σ:St}{L:List (Str×Nat)}{H:Hp}{f:Z}{cs:List (Z×Obj)}{qual:Str}{D:Arguments}{body:GR}{scope:Scope}{N ps:List Str}{fr:List V}
  (d8:dI H f qual D body scope (HI env.cells scope.names [])) (d7:dS env σ L H cs) (hL:∀x,(x,.free)∈scope.names->∃i v,(x,i)∈L/\σ[i]?=some (some v)) (S:dB N ps scope) (hlen:N.length=ps.length+fr.length)
  (hfr:∀(j:Nat) (x:Str) (v:V),fr[j]?=some v->N[ps.length+j]?=some x->∃i,(x,i)∈L/\σ[i]?=some (some v))
  (hb:∀(cl:List (Str×Z)) (t cd q:O) (us:List O),us.length=ps.length->bindArgs (ES "<lambda>" qual D body scope cl t cd q) ⟨us,[]⟩=pure (ps.zip us)):
  jA P w K mg base C (dF H cs) f cs qual body scope N ps fr:=by
 obtain⟨W,U,t,q,h1,h2,G⟩:=d8.ex;have l:∀x c,(HI env.cells scope.names []).lookup x=some c->(x,.free)∈scope.names/\env.cells.lookup x=some c:=λx c e=>by
  rcases Jm (PySem.mem_of_lookup e) with z | ⟨g,h⟩
  ·cases z
  ·refine⟨g,?_⟩;obtain⟨i,v,d,b⟩:=hL x g;obtain⟨p,o,u,a,_⟩:=d7.val x i v d b;rw[a] at h ⊢;rw[h];rfl
 have B:∀c o,cs.lookup c=some o->H c=none:=λc o e=>(d7.free c o e).1;have has:∀x,scope.names.lookup x=some .free->∃c,(HI env.cells scope.names []).lookup x=some c:=λx e=>Kw (JN (PySem.mem_of_lookup e));refine⟨λk sp len F=>Xa (cl:=HI env.cells scope.names []) (Ie B h1) (Ie B h2) G cs (λc o e=>⟨K9 e,(d7.free c o e).2⟩) (λx c e=>?_) (λx y c e1 n=>d7.inj x y c (l x c e1).2 (l y c n).2) S has hlen (λj x v e1 n=>?_) (λus M=>hb _ _ _ _ us M) len λA outer s H' vs Q E=>F _ _ A outer s H' vs Q E⟩
 ·obtain⟨g,h⟩:=l x c e;obtain⟨i,v,d,b⟩:=hL x g;obtain⟨p,o,u,a,m,_⟩:=d7.val x i v d b;rw[h] at a;cases a;exact⟨o,m⟩
 ·obtain⟨i,d,b⟩:=hfr j x v e1 n;obtain⟨p,o,u,a,m,I,d9⟩:=d7.val x i v d b;have T:scope.names.lookup x=some .free:=S.free x (AX (i:=j) (by rwa [F7]));obtain⟨R,r⟩:=has x T;have:=(l x R r).2;rw[a] at this;cases this;exact zJ p o u r m I d9
structure fA(K:G5)(x qual:Str)(st:GU)(f:Z)(fd:GP)(c P:Z):Prop where
 ex:∃(oc:O) (od:Option Z) (kV doc pm:O) (an:Option Z) (ct:O) (osl:Array (Option O)),
  fd=A7 x qual (Ic st) (HM st) (Hj st) .none kV doc pm an (.ref c) ct/\K.lookup f=some ⟨oc,od,.func fd,osl⟩/\Br K (.ref c) qual=true
 hd:B9 K c P=true
 kp:AI K (.ref f)=true
theorem fA.fn{K:G5}{x qual:Str}{st:GU}{f:Z}{fd:GP}{c P:Z}(F:fA K x qual st f fd c P):bI K x qual st f fd:=by obtain⟨d,od,kV,b,e,g,a,h,h1,h2,i⟩:=F.ex;exact⟨⟨d,od,kV,b,zG h1 h2 i⟩,F.kp⟩
theorem fA.okT{P:GJ}{w:GQ}{K:G5}{mg:Str->Option O}{base:Heap}{CX:fT}{x qual:Str}{st:GU}{f:Z}{fd:GP}{c Pt:Z}{N ps:List Str}{k:Nat}{sp:Sp}(F:fA K x qual st f fd c Pt)(S:aH N ps (Hj st))(len:∀vs H Q E,sp vs H Q E->vs.length=ps.length)
  (hbody:∀(A:GS) (outer:List Env) (s:GF) (H:Hp) (vs:List V) (Q:VK) (E:XK),aY k (A.deeper (envOfC qual (Hj st) s.heap.objs.size f (.ref c)))->sp vs H Q E->
   ∃t,eQ (HS CX P w K mg base N qual (Hj st) f (.ref c) A outer s H E) (HM st) t/\t { nx:=λ_ H'=>Q .non H',rt:=Q } (start N vs) H):aN P w K mg base CX (k+1) f fd ps sp:=by
 obtain⟨g,od,kV,e,h,i,d,j,rfl,b,a⟩:=F.ex;exact U3 b a S len hbody
def aM(P:Z)(pos:Pos)(qual:Str)(H:Hp):Prop:=H P=some (.tbl #[])\/SX P pos qual H
def nN(P:Z)(pos:Pos)(qual:Str)(a:Arguments)(body:GR)(scope:Scope)(cl:List (Str×Z)):TE:=λ_ H Q=>aM P pos qual H/\∀(f:Z) (H2:Hp),aR P H H2->aM P pos qual H2->dI H2 f qual a body scope cl->Q (.ref f) H2
theorem YB{X:Cx}{c P:Z}{j:Arguments}{body:GR}{scope:Scope}{pos:Pos}{qual:Str}(A:X.env.code=.ref c)(x:B9 X.K c P=true)(n:PR X.base X.mg)(v:X.env.qual++"<lambda>"=qual)
  (hfree:∀y∈scope.names,y.2=.free->∃c,X.env.cells.lookup y.1=some c) (hdef:defaultsOf j X.env=([],[]):=by rfl):
  PE X (.Lambda j body scope pos) (nN P pos qual j body scope (HI X.env.cells scope.names [])):=by
 intro aA s σ H Q I h;obtain⟨S,h⟩:=h;rcases S with d | ⟨a,p,vs,t,d,B,hd,C⟩
 ·exact V5 A x n v hfree hdef aA s σ H Q I ⟨d,λf H2 kb m d8=>h f H2 kb (.inr m) d8⟩
 ·have M:s.heap.get? P=some (Dh #[rawInt pos.line,rawInt pos.col,.ref a]):=I.hok P _ d;have U:s.heap.Ns GM X.mg:=I.mod.glob.keeps I.bk;obtain⟨D,E,F,T,g,N,R,l⟩:=n;have K:∀b o,X.base.get? b=some o->b≠P:=λb o e z=>by have q:=(I.bs b o e).2;rw[z,d] at q;cases q
  have G:D≠GM:=λq=>by obtain⟨o,es,ep,e,hd,_⟩:=I.mod.glob;rw[q,e] at g;cases g;rw[hd] at l;cases l
  refine FM hdef (PySem.W.kla_makeFunctionHit (mg:=X.mg) (cv:=.ref a) (Ly hfree) I.ok.glob U A (Fo I.kIn x) M ⟨⟩ ?_ ⟨D,E,F,T,G,K _ _ g,I.bk _ _ g,N,R,l⟩ λr h' tk V u=>?_)
  ·show(if ((pos.line:Int)==(pos.line:Int)&&(pos.col:Int)==(pos.col:Int))=true then _ else _)=_;rw[G7 (by simp)]
  ·rw[v];generalize w:({ cls:=.type "function",data:=.func (ES "<lambda>" qual j body scope (HI X.env.cells scope.names []) ((X.mg "__name__").getD .none) (.ref a) r) }:Obj)=k;have L:H h'.objs.size=none:=I.hok.fresh u;have d9:Inv X aA σ (aK H h'.objs.size (fz k)) { s with heap:=h'.push k,toks:=tk }:=I.laid (t':=tk) (λb o q=>Ac _ (V b o q)) u (Q0 (Ap _ (by rw[<-w];rfl)));have i:∀b o,H b=some o->(aK H h'.objs.size (fz k)) b=some o:=λb o q=>by rwa [Hf (Hk q L)]
   exact⟨.ref _,_,d9,Y,h _ _ (λb o q _=>i b o q) (.inr ⟨a,p,vs,t,i _ _ d,i _ _ B,hd,C⟩) ⟨a,p,_,r,by rw[<-w];exact G9,i _ _ B,vs,t,hd,C⟩⟩
end L2
namespace Lu
open L2 Lute
def bT(i:Nat):GU:=PySem.Challenge.pw_lutesettings_s09_stuck.main.body.getD i (.Pass ⟨0,0,0,0⟩)
abbrev Kp:GU:=IS (bT 5) 0
abbrev J6:GU:=IS (bT 6) 0
abbrev J0:GU:=IS (bT 6) 1
abbrev Jl:GU:=IS (bT 6) 2
abbrev JU:GU:=IS (bT 6) 3
abbrev IW:GU:=IS (bT 6) 4
abbrev K1:GU:=IS (bT 10) 0
abbrev Kn:GU:=IS (bT 10) 1
abbrev Jz:GU:=bT 11
abbrev bH:GU:=bT 12
abbrev Kv:GU:=bT 13
abbrev IB:GU:=IS (bT 17) 0
abbrev IC:GU:=IS (bT 17) 1
abbrev Ko:GU:=bT 18
abbrev Il:GU:=bT 19
abbrev Jb:GU:=IS (bT 21) 0
abbrev Ib:GU:=IS (bT 21) 1
abbrev LB:GU:=bT 22
abbrev J8:GU:=bT 23
abbrev Np:GU:=bT 37
abbrev IZ:GU:=bT 38
abbrev Op:GU:=bT 39
abbrev Iy:GU:=bT 40
abbrev IT:GU:=bT 41
abbrev Jp:GU:=bT 42
abbrev JK:GU:=bT 43
abbrev IA:GU:=bT 44
abbrev Km:GU:=bT 45
abbrev IK:GU:=bT 46
abbrev JV:GU:=bT 47
abbrev Im:GU:=bT 48
abbrev Je:GU:=bT 60
abbrev IH:GU:=bT 61
abbrev KM:GU:=bT 62
abbrev J5:GU:=bT 63
abbrev K6:GU:=bT 64
abbrev Kx:GU:=bT 65
abbrev II:GU:=bT 66
abbrev Kj:GU:=bT 71
abbrev JY:GU:=bT 72
abbrev IV:GU:=bT 73
abbrev KZ:GU:=bT 78
abbrev Ku:GU:=bT 79
abbrev KF:GU:=bT 80
abbrev bL:GU:=bT 87
abbrev HV:GU:=bT 88
abbrev Jk:GU:=bT 89
abbrev Jy:GU:=bT 90
abbrev Ju:GU:=bT 91
abbrev Ir:GU:=bT 92
def tx(t:Bytes):List V:=t.map λc=>V.int (c.toNat:Int)
def st(t:Bytes)(p e:Nat):Bytes:=(t.take e).drop p
def Ht:Bytes->Int
 |[]=>-1
 |c::_=>(c.toNat:Int)
def cf(a:Z)(p e:Nat):List (Str×V):=H0 "end" (.int (e:Int)) (H0 "place" (.int (p:Int)) (H0 "text" (.ref a) []))
theorem Px(a:Z)(p e:Nat):(cf a p e).lookup ("text":Str)=some (.ref a):=by unfold cf;rw[Hl,G6 (by decide),Hl,G6 (by decide),Hl,G7 rfl]
theorem HA(a:Z)(p e:Nat):(cf a p e).lookup ("place":Str)=some (.int (p:Int)):=by unfold cf;rw[Hl,G6 (by decide),Hl,G7 rfl]
theorem Zt(a:Z)(p e:Nat):(cf a p e).lookup ("end":Str)=some (.int (e:Int)):=by unfold cf;rw[Hl,G7 rfl]
theorem ZY(a:Z)(p q e:Nat):H0 "place" (.int (q:Int)) (cf a p e)=cf a q e:=by
 have h1:¬("text":Str)="place":=by decide
 have h2:¬("text":Str)="end":=by decide
 have b:¬("place":Str)="end":=by decide
 simp only[cf,H0,G6 h1,G6 h2,G6 b,if_true]
theorem HC(a:Z)(p e:Nat){m:Str}(h:¬m="text":=by decide)(h2:¬m="place":=by decide)(b:¬m="end":=by decide):(cf a p e).lookup m=none:=by unfold cf;rw[Hl,G6 b,Hl,G6 h2,Hl,G6 h];rfl
structure bE(K:G5)(B:Z)(H:Hp)(c a:Z)(t:Bytes)(p e:Nat):Prop where
 at_:∃dx,H c=some (.ins B dx (cf a p e))
 txt:aP K H a (tx t)
 le:p<=e
 len:e<=t.length
def aL(H H':Hp)(c:Z):Prop:=∀b o,H b=some o->b≠c->H' b=some o
theorem aL.refl(H:Hp)(c:Z):aL H H c:=λ_ _ h _=>h
theorem aL.trans(a:aL H H1 c)(b:aL H1 H2 c):aL H H2 c:=λx o h d=>b x o (a x o h d) d
theorem aL.of(s:aG H H'):aL H H' c:=λb o h _=>s b o h
theorem aP.keep{K:G5}{H H':Hp}{c a:Z}{xs:List V}{B dx:Z}{fs:List (Str×V)}(k:aL H H' c)(b:H c=some (.ins B dx fs))(h:aP K H a xs):aP K H' a xs:=by
 rcases h with (h | ⟨o,h⟩) | h
 ·exact .inl (.inl (k _ _ h (Hq h b aO)))
 ·exact .inl (.inr ⟨o,k _ _ h (Hq h b aO)⟩)
 ·exact .inr h
theorem bE.move{K:G5}{B:Z}{H H':Hp}{c a:Z}{t:Bytes}{p q e:Nat}(u:bE K B H c a t p e)(k:aL H H' c)(h:∃dx,H' c=some (.ins B dx (cf a q e)))(b:q<=e):bE K B H' c a t q e:=
 let ⟨_,hc⟩:=u.at_
 ⟨h,aP.keep k hc u.txt,b,u.len⟩
theorem bE.same{K:G5}{B:Z}{H H':Hp}{c a:Z}{t:Bytes}{p e:Nat}(u:bE K B H c a t p e)(s:aG H H'):bE K B H' c a t p e:=
 let ⟨dx,hc⟩:=u.at_
 u.move (aL.of s) ⟨dx,s _ _ hc⟩ u.le
theorem RW(h:e<=t.length)(a:p<=e):st t p e=[]↔p=e:=by
 unfold st;rw[List.drop_eq_nil_iff,AJ]
 lia
theorem Xx(h:e<=t.length)(b:p<e):∃c,t[p]?=some c/\st t p e=c::st t (p+1) e:=by
 have a:p<(t.take e).length:=by rw[AJ];lia
 refine⟨t[p]'(by lia),by rw[Aa],?_⟩;unfold st;rw[CB a,List.getElem_take]
theorem Ig(t:Bytes)(p e k:Nat):(st t p e).drop k=st t (p+k) e:=by unfold st;rw[Cv]
theorem Ka(h:e<=t.length):(st t p e).length=e-p:=by
 unfold st;rw[AK,AJ]
 lia
theorem pI{t:Bytes}{p:Nat}{c:UInt8}(h:t[p]?=some c):gE (tx t) (p:Int)=some (V.int (c.toNat:Int)):=Mm (by unfold tx;rw[Ah,h];rfl)
def fG(C:Z)(E:XK)(x:Nat):Prop:=∀(H':Hp) (d:Z),H' d=some (.xd (gR (x:Int)))->E (.ref C) (some d) H'
section
variable(K:G5)(B C:Z)
def NJ:Sp:=λvs H Q _=>∃(x dx a:Z) (p e:Nat),vs=[.ref x,.ref a,.int (p:Int),.int (e:Int)]/\H x=some (.ins B dx [])/\∀H':Hp,H' x=some (.ins B dx (cf a p e))->aL H H' x->Q .non H'
def Se:Sp:=λvs H Q _=>∃(c a:Z) (t:Bytes) (p e:Nat),vs=[.ref c]/\bE K B H c a t p e/\Q (.int (Ht (st t p e))) H
def YF:Sp:=λvs H Q _=>∃(c dx a:Z) (p e:Nat),vs=[.ref c]/\H c=some (.ins B dx (cf a p e))/\∀H':Hp,H' c=some (.ins B dx (cf a (p+1) e))->aL H H' c->Q .non H'
def Jh:Sp:=λvs H Q E=>∃(c a:Z) (t:Bytes) (p e:Nat) (z:UInt8),vs=[.ref c,.int (z.toNat:Int)]/\bE K B H c a t p e ∧
 (Ht (st t p e)=(z.toNat:Int)->∀H':Hp,bE K B H' c a t (p+1) e->aL H H' c->Q .non H')/\(¬Ht (st t p e)=(z.toNat:Int)->fG C E p)
def KB{b:Type}(d:b->V->Hp->Prop)(rd:Nat->Bytes->Rd b):Sp:=λvs H Q E=>∃(c a:Z) (t:Bytes) (p e:Nat),vs=[.ref c]/\bE K B H c a t p e ∧
 match rd p (st t p e) with
 |.error x=>fG C E x
 |.ok (v,q,_)=>∀(H':Hp) (y:V),bE K B H' c a t q e->aL H H' c->d v y H'->Q y H'
end
structure cS(K:G5)(mg:Str->Option O)(B C:Z):Prop where
 cl:eP K B
 nT:bC K B "text"
 nP:bC K B "place"
 nE:bC K B "end"
 xt:gY K C Kp
 mC:mg "Fault"=some (.ref C)
 len:mg "len"=none
 abs:mg "abs"=none
 sum:mg "sum"=none
 zip:mg "zip"=none
 ord:mg "ord"=none
 cEND:bY mg "END" (.int (-1))
 cMINUS:bY mg "MINUS" (.int 45)
 cSLASH:bY mg "SLASH" (.int 47)
 cZERO:bY mg "ZERO" (.int 48)
 cONE:bY mg "ONE" (.int 49)
 cNINE:bY mg "NINE" (.int 57)
 cCARET:bY mg "CARET" (.int 94)
 cMD:bY mg "MOST_DIGITS" (.int 4)
 cMP:bY mg "MOST_POWER" (.int 99)
 cMA:bY mg "MOST_PARTS" (.int 24)
 cCP:bY mg "COMMON_PARTS" (.int 5354228880)
 cNL:bY mg "NEW_LINE" (.int 10)
 cCO:bY mg "COMMA" (.int 44)
 cPO:bY mg "POINT" (.int 46)
 cBS:bY mg "BAR_SIGN" (.int 124)
 cBI:bY mg "BLANK" (.int 32)
 cBT:bY mg "BLANK" (.int 32)
 cML:bY mg "MOST_LINES" (.int 512)
 cMN:bY mg "MOST_NOTES" (.int 14)
 fac:∃a,bY mg "FACTORS" (.ref a)/\dW K a [(50,0),(51,1),(53,2),(55,3)]
 lgs:∃a,bY mg "LENGTHS" (.ref a)/\dW K a [(120,1),(116,2),(115,4),(101,8),(113,16),(104,32),(119,64)]
 log:∃a,bY mg "LOGARITHMS" (.ref a)/\∀H,aQ K H a [.int 6931471805599453094172321214581765680755,.int 10986122886681096913952452369225257046474,.int 16094379124341003746007593332261876395256,.int 19459101490553133051053527434431797296370]
 fst:bY mg "FIRST_LINE" (.str "song")
section
variable{P:GJ}{w:GQ}{K:G5}{mg:Str->Option O}{base:Heap}{B C:Z}
theorem oM:aH ["self","text","place","end"] ["self","text","place","end"] (Hj J6):=HZ
theorem UV(F:bI K "__init__" "Cursor.__init__" J6 f fd)(T:cS K mg B C):aN P w K mg base (aS P w C) 1 f fd ["self","text","place","end"] (NJ B):=by
 refine F.okX oM (λvs H Q E h=>?_) (λi A outer s H vs Q E g h=>?_)
 ·obtain⟨x,dx,a,p,e,rfl,_⟩:=h;rfl
 ·obtain⟨x,dx,a,p,e,rfl,c,k⟩:=h;refine⟨_,He (JE (J 0) (J 1) rfl) (He (JE (J 0) (J 2) rfl) (Hh (JE (J 0) (J 3) rfl))),?_⟩;refine zA Y (zA Y (zO Y c T.cl T.nT (by show 0<1000;decide) ?_));refine zA Y (zA Y (zO Y G9 T.cl T.nP (by show 1<1000;decide) ?_));refine zA Y (zA Y (zO Y G9 T.cl T.nE (by show 2<1000;decide) ?_));rw[Ni,Ni];exact k _ G9 λb o h d=>by rwa [Hf d]
theorem qW:aH ["self"] ["self"] (Hj J0):=HZ
theorem VG{f:Z}{fd:GP}(F:bI K "byte" "Cursor.byte" J0 f fd)(T:cS K mg B C):aN P w K mg base (aS P w C) 1 f fd ["self"] (Se K B):=by
 refine F.okX qW (λvs H Q E h=>?_) (λj A outer s H vs Q E k h=>?_)
 ·obtain⟨c,a,t,p,e,rfl,_⟩:=h;rfl
 ·obtain⟨c,a,t,p,e,rfl,u,q⟩:=h;obtain⟨dx,d⟩:=u.at_;refine⟨_,He (HG (Hs Ip (Hy (J 0) rfl) (Hy (J 0) rfl) (Hw _)) (Hh (Hx (Hr T.cEND))) Hu) (Hh (Hx (IL IR (Hy (J 0) rfl) (Hy (J 0) rfl) (λ_ _=>rfl)))),?_⟩;refine zA Y (zD Y d T.cl T.nP (HA _ _ _) (zA Y (zG Y d ⟨T.cl,T.nE,Zt _ _ _,Y,zA Y ?_⟩)));refine HN (λh=>?_) λh=>?_
  ·have h':(V.int (p:Int))=V.int (e:Int):=of_decide_eq_true h;have e1:p=e:=by injection h' with h';lia
   have g:=(RW u.len u.le).mpr e1;show Q (.int (-1)) H
   rwa [g] at q
  ·have h':¬(V.int (p:Int))=V.int (e:Int):=λz=>h (decide_eq_true z);have e1:p≠e:=λz=>h' (by rw[z]);obtain⟨b,i,g⟩:=Xx u.len (Gc u.le e1);rw[g] at q;refine zA Y (zD Y d T.cl T.nT (Px _ _ _) (zA Y (zD Y d T.cl T.nP (HA _ _ _) (zH Y Y u.txt (pI i) q))))
theorem mX:aH ["self"] ["self"] (Hj Jl):=HZ
theorem YA(F:bI K "advance" "Cursor.advance" Jl f fd)(T:cS K mg B C):aN P w K mg base (aS P w C) 1 f fd ["self"] (YF B):=by
 refine F.okX mX (λvs H Q E h=>?_) (λj A outer s H vs Q E i h=>?_)
 ·obtain⟨c,dx,a,p,e,rfl,_⟩:=h;rfl
 ·obtain⟨c,dx,a,p,e,rfl,d,k⟩:=h;refine⟨_,Hh (TD (J 0) Hm ZI),?_⟩;refine zA Y (zD Y d T.cl T.nP (HA _ _ _) (zB Y Y ⟨dx,_,d,(by show 3<1000;decide),?_⟩));exact k _ (by rw[G9];exact congrArg (λq=>some (HO.ins B dx q)) (ZY a p (p+1) e)) λb o h g=>by rwa [Hf g]
structure fE(P:GJ)(w:GQ)(K:G5)(mg:Str->Option O)(base:Heap)(B C:Z):Prop where
 byte:cW P w K mg base C B 1 "byte" ["self"] (Se K B)
 adv:cW P w K mg base C B 1 "advance" ["self"] (YF B)
theorem qL:aH ["self","wanted"] ["self","wanted"] (Hj JU):=HZ
theorem Wp{f:Z}{fd:GP}(F:bI K "take" "Cursor.take" JU f fd)(T:cS K mg B C)(M:fE P w K mg base B C):aN P w K mg base (aS P w C) 3 f fd ["self","wanted"] (Jh K B C):=by
 refine F.okX qL (λvs H Q E h=>?_) (λk A outer s H vs Q E i h=>?_)
 ·obtain⟨c,a,t,p,e,z,rfl,_⟩:=h;rfl
 ·obtain⟨c,a,t,p,e,z,rfl,u,k1,k2⟩:=h;obtain⟨dx,b⟩:=u.at_;have g:=i.mono (show 1<=2 by decide);refine⟨_,He (HG (Hs Ki (HB M.byte g (J 0)) (J 1) (Hw _)) (Hh (HK T.xt i rfl T.mC (Hy (J 0) rfl))) Hu) (Hh (Hv (HB M.adv g (J 0)))),?_⟩;refine zA Y (zC Y b (HC _ _ _) (zG Y u (zE Y Y (zA Y ?_))));refine HN (λh=>?_) λh=>?_
  ·have h':¬(V.int (Ht (st t p e)))=V.int (z.toNat:Int):=by have:=h;rw[Cq] at this;exact of_decide_eq_false this
   refine zA Y (zD Y b T.cl T.nP (HA _ _ _) ⟨_,Y,λd hd=>?_⟩);exact k2 (λq=>h' (by rw[q])) _ d G9
  ·have h':Ht (st t p e)=(z.toNat:Int):=by
    by_cases q:Ht (st t p e)=(z.toNat:Int)
    ·exact q
    ·exact absurd (show(!decide (V.int (Ht (st t p e))=V.int (z.toNat:Int)))=true by rw[Cq];exact decide_eq_false λy=>q (by injection y)) h
   refine zA Y (zC Y b (HC _ _ _) (zG Y b (λH' h1 h2=>?_)));have j:p<e:=by
    refine Gc u.le λq=>?_;rw[(RW u.len u.le).mpr q] at h';have:(-1:Int)=(z.toNat:Int):=h'
    lia
   exact k1 h' H' (u.move h2 ⟨dx,h1⟩ j) h2
end
open L2 Lute LuR
def Oq(k n pos:Nat)(r:Bytes):Rd Nat:=if k=0 then number pos r else if n=0 then (match r with
 |x::_=>if (digit x).isSome=true then .error pos else .ok (0,pos,r)
 |[]=>.ok (0,pos,[])) else moreDigits (4-k) n pos r
theorem JH(h1:48<=c.toNat)(h2:c.toNat<=57):digit c=some (c.toNat-48):=by rw[LM,G7 ⟨h1,h2⟩]
theorem KJ(h:¬(48<=c.toNat/\c.toNat<=57)):digit c=none:=by rw[LM,G6 h]
theorem Uf(h1:48<=c.toNat)(h2:c.toNat<=57)(a:k<=4)(h:(0<k/\n=0)\/k=4):Oq k n pos (c::r)=.error pos:=by
 unfold Oq;have k0:¬k=0:=by lia
 rw[G6 k0];by_cases hn:n=0
 ·rw[G7 hn];dsimp only;rw[JH h1 h2];rfl
 ·rw[G6 hn];have k4:k=4:=by lia
  subst k4;show moreDigits 0 n pos (c::r)=_;unfold moreDigits;dsimp only;rw[JH h1 h2]
theorem Ts(h1:48<=c.toNat)(h2:c.toNat<=57)(l:k<=4)(d:k=0->n=0)(h:¬((0<k/\n=0)\/k=4)):
  Oq k n pos (c::r)=Oq (k+1) (n*10+(c.toNat-48)) (pos+1) r:=by
 by_cases k0:k=0
 ·have g:=d k0;subst k0 g;show number pos (c::r)=_;unfold number;dsimp only;rw[JH h1 h2];unfold Oq;rw[G6 (by lia)];by_cases b:c.toNat-48=0
  ·rw[b,G7 (by lia)];cases r with
   |nil=>rfl
   |cons a r=>rfl
  ·rw[G6 (by lia)];have e:0*10+(c.toNat-48)=c.toNat-48:=by lia
   rw[e];generalize m:c.toNat-48=x at *;cases x with
   |zero=>exact absurd rfl b
   |succ x=>rfl
 ·have hn:¬n=0:=by lia
  unfold Oq;rw[G6 k0,G6 hn,G6 (by lia),G6 (by lia)];obtain⟨f,j⟩:∃f,4-k=f+1:=⟨3-k,by lia⟩;have i:4-(k+1)=f:=by lia
  rw[j,i]
  conv=>lhs;unfold moreDigits
  dsimp only;rw[JH h1 h2];show moreDigits f (10*n+(c.toNat-48)) (pos+1) r=_;rw[Ci 10 n]
theorem WH(h:∀c u,r=c::u->¬(48<=c.toNat/\c.toNat<=57))(b:k=0->n=0):Oq k n pos r=if k=0 then .error pos else .ok (n,pos,r):=by
 unfold Oq;by_cases k0:k=0
 ·rw[G7 k0,G7 k0];cases r with
  |nil=>rfl
  |cons c u=>unfold number;dsimp only;rw[KJ (h c u rfl)]
 ·rw[G6 k0,G6 k0];by_cases a:n=0
  ·rw[G7 a];cases r with
   |nil=>rw[a]
   |cons c u=>dsimp only;rw[KJ (h c u rfl),a];rfl
  ·rw[G6 a];cases r with
   |nil=>unfold moreDigits;rfl
   |cons c u=>unfold moreDigits;rw[KJ (h c u rfl)]
theorem OX(h1:48<=Ht r)(h2:Ht r<=57):∃c u,r=c::u/\48<=c.toNat/\c.toNat<=57:=by
 cases r with
 |nil=>
  have:(48:Int)<=-1:=h1
  lia
 |cons c u=>have b:(48:Int)<=(c.toNat:Int):=h1;have a:(c.toNat:Int)<=57:=h2;exact⟨c,u,Y,by lia,by lia⟩
theorem MQ(h:¬(48<=Ht r/\Ht r<=57)):∀c u,r=c::u->¬(48<=c.toNat/\c.toNat<=57):=λc u e q=>by
 subst e;refine h ⟨?_,?_⟩
 ·show(48:Int)<=(c.toNat:Int)
  lia
 ·show(c.toNat:Int)<=57
  lia
def Pf:Nat->V->Hp->Prop:=λn y _=>y=.int (n:Int)
def kY:Int->V->Hp->Prop:=λn y _=>y=.int n
section
variable{P:GJ}{w:GQ}{K:G5}{mg:Str->Option O}{base:Heap}{B C:Z}
theorem Tw:aH ["cursor","start","number","digits","begun_with_zero"] ["cursor"] (Hj JV):=HZ
theorem UH(F:bI K "read_number" "read_number" JV f fd)(T:cS K mg B C)(M:fE P w K mg base B C):aN P w K mg base (aS P w C) 3 f fd ["cursor"] (KB K B C Pf number):=by
 refine F.okX Tw (λvs H Q E h=>?_) (λaC A outer s H vs Q E d8 h=>?_)
 ·obtain⟨c,a,t,p,e,rfl,_⟩:=h;rfl
 ·obtain⟨c,a,t,p,e,rfl,u,k⟩:=h;obtain⟨dx,hc⟩:=u.at_;have G:=d8.mono (show 1<=2 by decide);refine⟨_,He (bG 1 Tw.nd (Hy (J 0) rfl))
   (He (bG 2 Tw.nd Hm)
   (He (IJ Jn (NA Mg Mg (Hr T.cZERO) (HB M.byte G (J 0)) (Hr T.cNINE))
    (He (bG 3 Tw.nd (HH JX (Hy (J 0) rfl) (J 1)))
    (He (bG 4 Tw.nd (ZR (Mp LP (J 3) Hm (Hw _)) (Ze (Mp Ip (J 2) Hm (Hw _)))))
    (He (HG (PW.pt (OP (N1 (J 4)) (Mu (Hs Ip (J 3) (Hr T.cMD) (Hw _))))) (Hh (HK T.xt d8 rfl T.mC (Hy (J 0) rfl))) Hu)
    (He (bG 2 Tw.nd (HH JX (HH IU (HH JC (J 2) Hm) (HB M.byte G (J 0))) (Hr T.cZERO)))
    (Hh (Hv (HB M.adv G (J 0)))))))))
   (He (HG (Hs Ip (Hy (J 0) rfl) (J 1) (Hw _)) (Hh (HK T.xt d8 rfl T.mC (J 1))) Hu)
   (Hh (Hx (J 2)))))),?_⟩
  refine zA Y (zD Y hc T.cl T.nP (HA _ _ _) ?_);refine⟨λm σ H'=>∃(pos n:Nat) (o l:Option V),m=e-pos/\σ=[some (.ref c),some (.int (p:Int)),some (.int (n:Int)),o,l]/\bE K B H' c a t pos e/\aL H H' c/\p<=pos/\pos-p<=4/\(pos-p=0->n=0)/\number p (st t p e)=Oq (pos-p) n pos (st t pos e),zG Y Y ⟨u,aL.refl _ _,Ag _,by lia,λ_=>rfl,by rw[EJ];rfl⟩,?_⟩
  rintro m σ H1 ⟨pos,n,o,l,rfl,rfl,j,U,ag,d6,R,I⟩;obtain⟨i,v⟩:=j.at_;have ah:¬(48<=Ht (st t pos e)/\Ht (st t pos e)<=57)->∀(D:Prop),D->D:=λ_ _ d=>d;have done:¬(48<=Ht (st t pos e)/\Ht (st t pos e)<=57)->Q4 (Wb (N4 (dQ lT (VP K (HW 0) "place") (HW 1))) (N3 C E (HW 1)) Qx) (Tl (HW 2)) { nx:=λ_ H'=>Q .non H',rt:=Q } [some (.ref c),some (.int (p:Int)),some (.int (n:Int)),o,l] H1:=λad=>by
   have g:=I.trans (WH (MQ ad) R);refine zA Y (zD Y v T.cl T.nP (HA _ _ _) (zE Y Y ⟨_,Y,?_⟩));refine HN (λh=>?_) λh=>?_
   ·have h':(V.int (pos:Int))=V.int (p:Int):=of_decide_eq_true h;have e1:pos=p:=by injection h' with h';lia
    rw[g,G7 (by lia)] at k;refine⟨_,Y,_,Y,λd hd=>?_⟩;rw[<-e1];exact k _ d (by rw[G9,e1])
   ·have h':¬(V.int (pos:Int))=V.int (p:Int):=λz=>h (decide_eq_true z);have e1:pos≠p:=λz=>h' (by rw[z]);rw[g,G6 (by lia)] at k;exact⟨_,Y,k H1 _ j U rfl⟩
  refine zA Y (zC Y v (HC _ _ _) (zG Y j (zB Y Y (zA Y ?_))));refine HN (λL=>?_) λL=>?_
  ·refine zB Y Y (zA Y ?_);refine HN (λN=>?_) λN=>?_
   ·have d7:48<=Ht (st t pos e):=of_decide_eq_true L;have af:Ht (st t pos e)<=57:=of_decide_eq_true N;obtain⟨b,r,x,S,X⟩:=OX d7 af;refine⟨λW H'=>∃(y:Nat) (o l:Option V),W=[some (.ref c),some (.int (p:Int)),some (.int (y:Int)),o,l]/\bE K B H' c a t (pos+1) e/\aL H H' c/\pos+1-p<=4/\number p (st t p e)=Oq (pos+1-p) y (pos+1) (st t (pos+1) e),?_,?_⟩
    ·rintro W H' ⟨y,o,l,rfl,u',ae,ac,g⟩;exact zA (by have:=Ka (t:=t) (p:=pos) j.len;rw[x] at this;simp only[Af] at this;lia) (zH Y Y u' ae ⟨by lia,ac,by lia,g⟩)
    ·refine zA Y (zD Y v T.cl T.nP (HA _ _ _) (zA Y (zB Y Y ?_)));refine zA Y (zB Y Y (zA Y (Xk (b2:=decide ((n:Int)=0)) (λQ' q=>⟨_,Y,Y,by rwa [ID]⟩) ?_)));refine zA Y (zA Y (LK (b2:=decide ((pos:Int)-(p:Int)=4)) (λQ' q=>zE Y Y ⟨_,Y,by rwa [ID]⟩) ?_));refine HN (λd9=>?_) λd9=>?_
     ·rw[Bh,AB,decide_eq_true_eq,decide_eq_true_eq,decide_eq_true_eq] at d9;have g:=I;rw[x,Uf S X d6 (by lia)] at g;rw[g] at k;exact zA Y (zD Y v T.cl T.nP (HA _ _ _) ⟨_,Y,λd hd=>k _ d G9⟩)
     ·rw[Bh,AB,decide_eq_true_eq,decide_eq_true_eq,decide_eq_true_eq] at d9;have aa:st t (pos+1) e=r:=by have:=Ig t pos e 1;rw[x] at this;exact this.symm
      have ab:pos<e:=by have:=Ka (t:=t) (p:=pos) j.len;rw[x] at this;simp only[Af] at this;lia
      have g:=I;rw[x,Ts S X d6 R (by lia)] at g;refine zA Y (zF Y Y (.inr ⟨by decide,by decide⟩) (zA Y (zC Y v (HC _ _ _) (zG Y j (zB Y Y (zB Y Y ?_))))));refine zA Y (zC Y v (HC _ _ _) (zG Y v (λH' h1 h2=>?_)));have en:(n:Int)*10+Ht (st t pos e)-48=((n*10+(b.toNat-48):Nat):Int):=by
       rw[x];show(n:Int)*10+(b.toNat:Int)-48=_
       lia
      refine zT (n*10+(b.toNat-48)) (some (.int ((pos:Int)-(p:Int)))) (some (.bl (decide (0<(pos:Int)-(p:Int))&&decide ((n:Int)=0)))) ?_ ⟨j.move h2 ⟨i,h1⟩ ab,U.trans h2,by lia,?_⟩
      ·rw[<-en];rfl
      ·rw[g,aa,show pos+1-p=pos-p+1 by lia]
   ·exact done λq=>N (decide_eq_true q.2)
  ·exact zA Y (L6 (done λq=>L (decide_eq_true q.1)))
end
theorem HD(h:Ht r=(z.toNat:Int)):∃u,r=z::u:=by
 cases r with
 |nil=>
  have:(-1:Int)=(z.toNat:Int):=h
  lia
 |cons c u=>have h':(c.toNat:Int)=(z.toNat:Int):=h;have:c=z:=Ee.mp (by lia);exact⟨u,by rw[this]⟩
theorem IP(h:¬Ht r=(z.toNat:Int)):∀c u,r=c::u->¬c=z:=λc u e q=>by subst e q;exact h rfl
theorem IG(h:st t p e=c::r):st t (p+1) e=r:=by have:=Ig t p e 1;rw[h] at this;exact this.symm
theorem JF(a:e<=t.length)(h:st t p e=c::r):p<e:=by
 have:=Ka (t:=t) (p:=p) a;rw[h] at this;simp only[Af] at this
 lia
theorem aZ.at_{a:Type}{rd:Rd a}(b:e<=t.length)(d:p<=e)(F:aZ p (st t p e) rd){v:a}(h:rd=.ok (v,q,u)):p<=q/\q<=e/\u=st t q e:=by
 obtain⟨h1,h2,c⟩:=F v q u h;rw[Ka b] at h2;refine⟨h1,by lia,?_⟩;rw[c,Ig];congr 1
 lia
theorem L5(p:Nat)(r:Bytes):signed p (45::r)=if Ht r=48 then .error (p+1) else match number (p+1) r with
  |.error e=>.error e
  |.ok (n,q,u)=>.ok (-((n:Nat):Int),q,u):=by
 unfold signed;dsimp only;rw[G7 rfl];cases r with
 |nil=>rfl
 |cons c u=>
  by_cases a:c=48
  ·subst a;rfl
  ·have:¬Ht (c::u)=48:=λz=>by have d:(c.toNat:Int)=48:=z;exact a (Ee.mp (by show c.toNat=48;lia))
   rw[G6 this];split
   ·rename_i b;injection b with h1 _;exact absurd h1 a
   ·rfl
theorem LQ(h:∀c u,r=c::u->¬c=45):signed p r=match number p r with
  |.error e=>.error e
  |.ok (n,q,u)=>.ok (((n:Nat):Int),q,u):=by
 cases r with
 |nil=>rfl
 |cons c u=>unfold signed;dsimp only;rw[G6 (h c u rfl)];cases number p (c::u) <;> rfl
theorem Qj:G3 "abs"=some (.builtin "abs"):=by decide
section
variable{P:GJ}{w:GQ}{K:G5}{mg:Str->Option O}{base:Heap}{B C:Z}
theorem oZ:aH ["cursor"] ["cursor"] (Hj IK):=HZ
theorem TX(F:bI K "read_signed_number" "read_signed_number" IK f fd)(T:cS K mg B C)(M:fE P w K mg base B C)(DN:bQ P w K mg base C 3 "read_number" ["cursor"] (KB K B C Pf number)):
  aN P w K mg base (aS P w C) 4 f fd ["cursor"] (KB K B C kY signed):=by
 refine F.okX oZ (λvs H Q E h=>?_) (λL A outer s H vs Q E b h=>?_)
 ·obtain⟨c,a,t,p,e,rfl,_⟩:=h;rfl
 ·obtain⟨c,a,t,p,e,rfl,u,k⟩:=h;obtain⟨dx,g⟩:=u.at_;have j:=b.mono (show 1<=3 by decide);have D:=b.mono (show 2<=3 by decide);refine⟨_,He (HG (Hs Ki (HB M.byte j (J 0)) (Hr T.cMINUS) (Hw _)) (Hh (Hx (HL DN b rfl (G8 (J 0) Hg)))) Hu)
   (He (Hv (HB M.adv j (J 0)))
   (He (HG (Hs Ip (HB M.byte j (J 0)) (Hr T.cZERO) (Hw _)) (Hh (HK T.xt D rfl T.mC (Hy (J 0) rfl))) Hu)
   (Hh (Hx (QA Oo (HL DN b rfl (G8 (J 0) Hg))))))),?_⟩
  refine zA Y (zC Y g (HC _ _ _) (zL Y u Y (zA Y ?_)));rw[ID];refine HN (λh=>?_) λh=>?_
  ·have G:¬Ht (st t p e)=((45:UInt8).toNat:Int):=λz=>by rw[show Ht (st t p e)=45 from z] at h;exact absurd h (by decide)
   rw[LQ (IP G)] at k;refine zA Y (zG Y u ?_);cases hn:number p (st t p e) with
   |error x=>rwa [hn] at k
   |ok z=>obtain⟨n,q,v⟩:=z;rw[hn] at k;exact λH' y h1 h2 d9=>k H' y h1 h2 d9
  ·have o:Ht (st t p e)=((45:UInt8).toNat:Int):=by
    by_cases z:Ht (st t p e)=45
    ·exact z
    ·exact absurd (by rw[decide_eq_false z];rfl) h
   obtain⟨r,i⟩:=HD o;have l:=IG i;have I:=JF u.len i;rw[i,L5] at k;refine zA Y (zC Y g (HC _ _ _) (zG Y g (λH1 h1 h2=>?_)));have m:=u.move h2 ⟨dx,h1⟩ I;refine zA Y (zC Y h1 (HC _ _ _) (zL Y m Y (zA Y ?_)));rw[ID,l];refine HN (λh=>?_) λh=>?_
   ·rw[G7 (of_decide_eq_true h)] at k;exact zA Y (zD Y h1 T.cl T.nP (HA _ _ _) ⟨_,Y,λd hd=>k _ d G9⟩)
   ·rw[G6 (λz=>h (decide_eq_true z))] at k;refine⟨_,Y,zG Y m ?_⟩;rw[l];cases hn:number (p+1) r with
    |error x=>rwa [hn] at k
    |ok z=>obtain⟨n,q,v⟩:=z;rw[hn] at k;intro H' y k1 k2 k3;obtain rfl:y=.int (n:Int):=k3;exact⟨_,Y,k H' _ k1 (h2.trans k2) rfl⟩
def Wj:Sp:=λvs H Q _=>∃(a b:Int),vs=[.int a,.int b]/\0<=b/\Q (.int ((CF a b:Nat):Int)) H
theorem W7:aH ["a","b","rest"] ["a","b"] (Hj IT):=HZ
def Wg:Sp:=λvs H Q _=>∃(a b:Int),vs=[.int a,.int b]/\Q (.int ((CF a b:Nat):Int)) H
theorem U7(x y:Int):CF y (x.fmod y)=CF x y:=by
 rw[Int.gcd_comm x y];have e:x=x.fmod y+y*x.fdiv y:=(Int.fmod_add_mul_fdiv x y).symm
 conv=>rhs;rw[e]
 rw[Int.gcd_add_mul_left_right]
theorem Uy(x:Int)(c:y≠0):(x.fmod y).natAbs<y.natAbs:=by
 have e:x.fmod y=_:=Int.fmod_eq_emod (a:=x) (b:=y);have h1:=Int.emod_nonneg x c;have h2:x % y<(y.natAbs:Int):=Int.emod_lt x c;by_cases h:0<=y\/y∣x
 ·rw[G7 h] at e
  lia
 ·rw[G6 h] at e;have d:¬x % y=0:=λz=>h (.inr (Int.dvd_of_emod_eq_zero z))
  lia
theorem Sz(F:bI K "common_factor" "common_factor" IT f fd)(T:cS K mg B C):aN P w K mg base (aS P w C) 1 f fd ["a","b"] Wg:=by
 refine F.okX W7 (λvs H Q E h=>?_) (λi A outer s H vs Q E j h=>?_)
 ·obtain⟨a,b,rfl,_⟩:=h;rfl
 ·obtain⟨a,b,rfl,k⟩:=h;refine⟨_,He (IJ Jn (Hs Ki (J 1) Hm (Hw _))
    (He (bG 2 W7.nd (HH X6 (J 0) (J 1)))
    (He (bG 0 W7.nd (J 1)) (Hh (bG 1 W7.nd (J 2))))))
   (Hh (Hx (HE QF (by rfl) T.abs Qj (G8 (J 0) Hg)))),?_⟩
  refine⟨λm σ H'=>∃(x y:Int) (v:Option V),m=y.natAbs/\σ=[some (.int x),some (.int y),v]/\H'=H/\CF x y=CF a b,zV Y Y Y Y,?_⟩;rintro m σ H1 ⟨x,y,v,rfl,rfl,rfl,g⟩;refine zE Y Y (zA Y ?_);rw[ID];refine HN (λh=>?_) λh=>?_
  ·have c:¬y=0:=λz=>by rw[z] at h;exact absurd h (by decide)
   refine⟨λd H'=>∃(v:Option V),d=[some (.int y),some (.int (x.fmod y)),v]/\H'=H1,?_,?_⟩
   ·rintro d H' ⟨v,rfl,rfl⟩;exact⟨(x.fmod y).natAbs,Uy x c,zC Y Y Y (by rwa [U7])⟩
   ·refine zA Y (zA Y (zF Y Y c ?_));exact zA Y (zA Y ⟨some (.int (x.fmod y)),Y,Y⟩)
  ·have c:y=0:=by
    by_cases z:y=0
    ·exact z
    ·exact absurd (by rw[decide_eq_false z];rfl) h
   subst c;refine⟨_,Y,_,Y,?_⟩;have e:(if x<0 then -x else x)=((CF a b:Nat):Int):=by
    rw[<-g,Int.gcd_zero_right]
    lia
   rwa [e]
theorem Z1(F:bI K "common_factor" "common_factor" IT f fd)(T:cS K mg B C):aN P w K mg base (aS P w C) 1 f fd ["a","b"] Wj:=(Sz F T).imp λvs H Q E ⟨a,b,e,_,q⟩=>⟨a,b,e,q⟩
end
open L2 Lute LuR LuW
def Lm(p:Nat):Bytes->Rd Nat
 |[]=>.error p
 |c::r=>match [(50:UInt8),51,53,55].idxOf? c with
  |none=>.error p
  |some k=>.ok (k,p+1,r)
theorem Qy(c:UInt8):A0 (c.toNat:Int) [((50:Int),(0:Int)),(51,1),(53,2),(55,3)]=([(50:UInt8),51,53,55].idxOf? c).map λk=>(k:Int):=by
 have h:∀n:Fin 256,A0 ((En n.val).toNat:Int) [((50:Int),(0:Int)),(51,1),(53,2),(55,3)]=([(50:UInt8),51,53,55].idxOf? (En n.val)).map λk=>(k:Int):=by decide
 have e:=h ⟨c.toNat,c.toNat_lt⟩;simpa using e
theorem Vj:A0 (-1:Int) [((50:Int),(0:Int)),(51,1),(53,2),(55,3)]=none:=by decide
def K5(s p:Nat):Bytes->Rd (Int×Nat)
 |[]=>.ok ((1,1),p,[])
 |c::u=>if c=94 then (match signed (p+1) u with
   |.error e=>.error e
   |.ok (n,q,v)=>match v with
    |[]=>if n=0\/n=1 then .error s else .ok ((n,1),q,[])
    |b::w=>if b=47 then (match number (q+1) w with
      |.error e=>.error e
      |.ok (d,z,t)=>if 2<=d/\A5 n.natAbs d=1 then .ok ((n,d),z,t) else .error s)
     else if n=0\/n=1 then .error s else .ok ((n,1),q,b::w))
  else .ok ((1,1),p,c::u)
theorem Ue(s p:Nat)(t:Bytes):aZ p t (K5 s p t):=by
 intro v q u h;cases t with
 |nil=>cases h;simp
 |cons c r=>
  unfold K5 at h;dsimp only at h;by_cases j:c=94
  ·rw[G7 j] at h;cases hs:signed (p+1) r with
   |error e=>rw[hs] at h;cases h
   |ok z=>
    obtain⟨n,a,g⟩:=z;obtain⟨y,m,f⟩:=Kk (p+1) r n a g hs;rw[hs] at h;dsimp only at h;have i:(q,u)=(a,g)->p<=q/\q-p<=(c::r).length/\u=(c::r).drop (q-p):=λz=>by cases z;refine⟨by lia,by simp only[Af];lia,?_⟩;rw[f,show q-p=(q-(p+1))+1 by lia,CM]
    cases g with
    |nil=>
     dsimp only at h;split at h
     ·cases h
     ·cases h;exact i rfl
    |cons b w=>
     dsimp only at h;split at h
     ·cases hn:number (a+1) w with
      |error e=>rw[hn] at h;cases h
      |ok z=>
       obtain⟨d,k,t1⟩:=z;obtain⟨A,o,l⟩:=Js (a+1) w d k t1 hn;rw[hn] at h;dsimp only at h;split at h
       ·cases h;have x:w.length+1=r.length-(a-(p+1)):=by
         have:=congrArg DK f
         rwa [AK,Af] at this
        refine⟨by lia,by simp only[Af];lia,?_⟩;have e1:w=r.drop (a-(p+1)+1):=by
         have:=congrArg (List.drop 1) f
         rwa [Cv] at this
        rw[l,e1,Cv,show q-p=(a-(p+1)+1+(q-(a+1)))+1 by lia,CM]
       ·cases h
     ·split at h
      ·cases h
      ·cases h;exact i rfl
  ·rw[G6 j] at h;cases h;simp
def SC(p:Nat)(t:Bytes):Rd (Nat×Int×Nat):=match Lm p t with
 |.error e=>.error e
 |.ok (k,q,u)=>match K5 p q u with
  |.error e=>.error e
  |.ok (nd,z,v)=>.ok ((k,nd),z,v)
theorem Re(hi:[(50:UInt8),51,53,55].idxOf? c=some k)(u:Bytes):factorAt p (c::94::u)=match signed (p+1+1) u with
  |.error e=>.error e
  |.ok (n,q,v)=>match v with
   |[]=>.ok ((k,if n=0\/n=1 then none else some (n,1)),q,[])
   |x::w=>if x=47 then (match number (q+1) w with
     |.error e=>.error e
     |.ok (d,z,t)=>.ok ((k,if 2<=d/\A5 n.natAbs d=1 then some (n,d) else none),z,t))
    else .ok ((k,if n=0\/n=1 then none else some (n,1)),q,x::w):=by
 unfold factorAt;dsimp only;rw[hi];dsimp only;split
 ·rename_i j h2;injection h2 with _ g;subst g;cases signed (p+1+1) u with
  |error e=>rfl
  |ok z=>
   obtain⟨n,q,v⟩:=z;dsimp only;cases v with
   |nil=>rfl
   |cons x w=>
    dsimp only;by_cases a:x=47
    ·rw[G7 a];split
     ·rename_i i b;injection b with _ h;subst h;cases number (q+1) w <;> rfl
     ·rename_i b;exact absurd (by rw[a]) (b w)
    ·rw[G6 a];split
     ·rename_i f;injection f with h1 _;exact absurd h1 a
     ·rfl
 ·rename_i h2;exact absurd rfl (h2 u)
theorem Ob(hi:[(50:UInt8),51,53,55].idxOf? c=some k)(a:¬b=94)(u:Bytes):factorAt p (c::b::u)=.ok ((k,some (1,1)),p+1,b::u):=by
 unfold factorAt;dsimp only;rw[hi];dsimp only;split
 ·rename_i h2;injection h2 with h1 _;exact absurd h1 a
 ·rfl
theorem P2(p:Nat)(t:Bytes):SC p t=match factorAt p t with
  |.error e=>.error e
  |.ok ((k,none),_,_)=>.error p
  |.ok ((k,some nd),q,u)=>.ok ((k,nd),q,u):=by
 unfold SC;cases t with
 |nil=>rfl
 |cons c r=>
  unfold Lm;dsimp only;cases hi:[(50:UInt8),51,53,55].idxOf? c with
  |none=>unfold factorAt;dsimp only;rw[hi]
  |some k=>
   dsimp only;cases r with
   |nil=>unfold factorAt;dsimp only;rw[hi];rfl
   |cons b u=>
    unfold K5;dsimp only;by_cases f:b=94
    ·subst f;rw[G7 rfl,Re hi];cases hs:signed (p+1+1) u with
     |error e=>rfl
     |ok z=>
      obtain⟨n,q,v⟩:=z;dsimp only;cases v with
      |nil=>
       dsimp only;by_cases hn:n=0\/n=1
       ·rw[G7 hn,G7 hn]
       ·rw[G6 hn,G6 hn]
      |cons x w=>
       dsimp only;by_cases a:x=47
       ·rw[G7 a,G7 a];cases number (q+1) w with
        |error e=>rfl
        |ok z=>
         obtain⟨d,z,t⟩:=z;dsimp only;by_cases hd:2<=d/\A5 n.natAbs d=1
         ·rw[G7 hd,G7 hd]
         ·rw[G6 hd,G6 hd]
       ·rw[G6 a,G6 a];by_cases hn:n=0\/n=1
        ·rw[G7 hn,G7 hn]
        ·rw[G6 hn,G6 hn]
    ·rw[G6 f,Ob hi f]
theorem Tc:∀(f n p:Nat) (t:Bytes) (v q:Nat) (u:Bytes),n<10 ^ (4-f)->f<=4->moreDigits f n p t=.ok (v,q,u)->v<10000
 |f,n,p,[],v,q,u,hn,hf,h=>by unfold moreDigits at h;cases h;exact As hn (Df (by decide) (show 4-f<=4 by lia))
 |f,n,p,c::r,v,q,u,hn,hf,h=>by
  unfold moreDigits at h;cases hd:digit c with
  |none=>rw[hd] at h;cases h;exact As hn (Df (by decide) (show 4-f<=4 by lia))
  |some x=>
   rw[hd] at h;cases f with
   |zero=>cases h
   |succ f=>
    dsimp only at h;have a:x<10:=by
     rw[LM] at hd;split at hd
     ·cases hd;lia
     ·cases hd
    refine Tc f (10*n+x) (p+1) r v q u ?_ (by lia) h;have e:4-f=(4-(f+1))+1:=by lia
    rw[e,BW]
    lia
theorem MB(h:number p t=.ok (v,q,u)):v<10000:=by
 unfold number at h;cases t with
 |nil=>cases h
 |cons c r=>
  dsimp only at h;cases hd:digit c with
  |none=>rw[hd] at h;cases h
  |some x=>
   rw[hd] at h;have a:x<10:=by
    rw[LM] at hd;split at hd
    ·cases hd;lia
    ·cases hd
   cases x with
   |zero=>
    cases r with
    |nil=>
     have h':(.ok (0,p+1,[]):Rd Nat)=.ok (v,q,u):=h;cases h'
     decide
    |cons y r=>
     have h':(if (digit y).isSome=true then .error (p+1) else .ok (0,p+1,y::r):Rd Nat)=.ok (v,q,u):=h;split at h'
     ·cases h'
     ·cases h'
      decide
   |succ x=>exact Tc 3 (x+1) (p+1) r v q u (by simpa using a) (by decide) h
theorem Tk(h:signed p t=.ok (v,q,u)):-10000<v/\v<10000:=by
 cases t with
 |nil=>cases h
 |cons c r=>
  by_cases b:c=45
  ·subst b;rw[L5] at h;split at h
   ·cases h
   ·cases hn:number (p+1) r with
    |error e=>rw[hn] at h;cases h
    |ok z=>
     obtain⟨n,d,a⟩:=z;rw[hn] at h;have:=MB hn;cases h
     lia
  ·rw[LQ (λf a e=>by cases e;exact b)] at h;cases hn:number p (c::r) with
   |error e=>rw[hn] at h;cases h
   |ok z=>
    obtain⟨n,d,a⟩:=z;rw[hn] at h;have:=MB hn;cases h
    lia
def Nn(n:Int)(d:Nat):Prop:=1<=d/\d<10000/\-10000<n/\n<10000/\A5 n.natAbs d=1
theorem WM(h:K5 s p t=.ok ((n,d),q,u)):Nn n d:=by
 have one:Nn 1 1:=by unfold Nn;decide
 cases t with
 |nil=>cases h;exact one
 |cons c r=>
  unfold K5 at h;dsimp only at h;split at h
  ·cases hs:signed (p+1) r with
   |error e=>rw[hs] at h;cases h
   |ok z=>
    obtain⟨k,j,i⟩:=z;have a:=Tk hs;rw[hs] at h;dsimp only at h;have f:(n,d)=(k,1)->Nn n d:=λz=>by cases z;exact⟨by decide,by decide,a.1,a.2,Nat.gcd_one_right _⟩
    cases i with
    |nil=>
     dsimp only at h;split at h
     ·cases h
     ·cases h;exact f rfl
    |cons b w=>
     dsimp only at h;split at h
     ·cases hn:number (j+1) w with
      |error e=>rw[hn] at h;cases h
      |ok z=>
       obtain⟨m,l,t1⟩:=z;have hd:=MB hn;rw[hn] at h;dsimp only at h;split at h
       ·rename_i g;cases h;exact⟨by lia,hd,a.1,a.2,g.2⟩
       ·cases h
     ·split at h
      ·cases h
      ·cases h;exact f rfl
  ·cases h;exact one
theorem Lc{p:Prop}[Decidable p](h:¬(!decide p)=true):p:=by
 by_cases z:p
 ·exact z
 ·exact absurd (by rw[decide_eq_false z];rfl) h
theorem Lr{p:Prop}[Decidable p](h:(!decide p)=true):¬p:=λz=>by rw[decide_eq_true z] at h;exact absurd h (by decide)
theorem Tx(p:Nat)(t:Bytes):aZ p t (Lm p t):=by
 intro v q u h;cases t with
 |nil=>cases h
 |cons c r=>
  unfold Lm at h;dsimp only at h;split at h
  ·cases h
  ·cases h;simp
theorem Zl(h:Lm p t=.ok (k,q,u)):k<4/\q=p+1:=by
 cases t with
 |nil=>cases h
 |cons c r=>
  unfold Lm at h;dsimp only at h;split at h
  ·cases h
  ·rename_i b a;cases h;refine⟨?_,Y⟩;obtain⟨h1,_⟩:=CK.mp (show Fg (λx=>x==c) [(50:UInt8),51,53,55]=some k by simpa [FJ] using a);simpa using h1
def YM(K:G5)(B C:Z):Sp:=λvs H Q E=>∃(c a:Z) (t:Bytes) (p e s:Nat),vs=[.ref c,.int (s:Int)]/\bE K B H c a t p e ∧
 match K5 s p (st t p e) with
 |.error x=>fG C E x
 |.ok (nd,q,_)=>∀(H':Hp) (b:Z),bE K B H' c a t q e->aL H H' c->H' b=some (.tup [.int nd.1,.int (nd.2:Int)])->Q (.ref b) H'
section
variable{P:GJ}{w:GQ}{K:G5}{mg:Str->Option O}{base:Heap}{B C:Z}
theorem lF:aH ["cursor","digit"] ["cursor"] (Hj IA):=HZ
theorem We(F:bI K "read_digit_of_factor" "read_digit_of_factor" IA f fd)(T:cS K mg B C)(M:fE P w K mg base B C):
  aN P w K mg base (aS P w C) 3 f fd ["cursor"] (KB K B C Pf Lm):=by
 refine F.okX lF (λvs H Q E h=>?_) (λv A outer s H vs Q E i h=>?_)
 ·obtain⟨c,a,t,p,e,rfl,_⟩:=h;rfl
 ·obtain⟨c,a,t,p,e,rfl,u,k⟩:=h;obtain⟨dx,b⟩:=u.at_;obtain⟨q,n,m⟩:=T.fac;have l:=i.mono (show 1<=2 by decide);refine⟨_,He (bG 1 lF.nd (HB M.byte l (J 0)))
   (He (HG (KI (N2 m (J 1) (Hr n))) (Hh (HK T.xt i rfl T.mC (Hy (J 0) rfl))) Hu)
   (He (Hv (HB M.adv l (J 0)))
   (Hh (Hx (QB m (Hr n) (J 1) (λ_ _=>rfl)))))),?_⟩
  refine zA Y (zC Y b (HC _ _ _) (zG Y u ?_));refine zA Y (zE Y Y (zA Y ?_));cases hr0:st t p e with
  |nil=>rw[hr0] at k;show if (!(A0 (-1:Int) _).isSome)=true then _ else _;rw[Vj];exact zA Y (zD Y b T.cl T.nP (HA _ _ _) ⟨_,Y,λd hd=>k _ d G9⟩)
  |cons z r=>
   rw[hr0] at k;have o:=JF u.len hr0;show if (!(A0 (z.toNat:Int) _).isSome)=true then _ else _;unfold Lm at k;dsimp only at k;cases hi:[(50:UInt8),51,53,55].idxOf? z with
   |none=>rw[hi] at k;rw[Qy,hi];exact zA Y (zD Y b T.cl T.nP (HA _ _ _) ⟨_,Y,λd hd=>k _ d G9⟩)
   |some j=>rw[hi] at k;have g:=Qy z;rw[hi] at g;rw[g];refine zA Y (zC Y b (HC _ _ _) (zG Y b (λH1 h1 h2=>?_)));refine⟨_,Y,zF Y Y g ?_⟩;exact k H1 _ (u.move h2 ⟨dx,h1⟩ o) h2 rfl
theorem Y2:aH ["cursor","start","n","d"] ["cursor","start"] (Hj Km):=HZ
theorem Wk(F:bI K "read_power" "read_power" Km f fd)(T:cS K mg B C)(M:fE P w K mg base B C)(DN:bQ P w K mg base C 3 "read_number" ["cursor"] (KB K B C Pf number))
  (DS:bQ P w K mg base C 4 "read_signed_number" ["cursor"] (KB K B C kY signed)) (DG:bQ P w K mg base C 1 "common_factor" ["a","b"] Wj):
  aN P w K mg base (aS P w C) 5 f fd ["cursor","start"] (YM K B C):=by
 refine F.okX Y2 (λvs H Q E h=>?_) (λaC A outer s H vs Q E I h=>?_)
 ·obtain⟨c,a,t,p,e,s,rfl,_⟩:=h;rfl
 ·obtain⟨c,a,t,p,e,s',rfl,u,k⟩:=h;obtain⟨dx,U⟩:=u.at_;have j:=I.mono (show 1<=4 by decide);have d7:=I.mono (show 2<=4 by decide);have ac:=I.mono (show 3<=4 by decide);refine⟨_,He (HG (Hs Ki (HB M.byte j (J 0)) (Hr T.cCARET) (Hw _)) (Hh (Hx (Ik (G8 Hm (G8 Hm Hg))))) Hu)
   (He (Hv (HB M.adv j (J 0)))
   (He (bG 2 Y2.nd (HL DS I rfl (G8 (J 0) Hg)))
   (He (HG (Hs Ki (HB M.byte j (J 0)) (Hr T.cSLASH) (Hw _))
    (He (HG (PW.pt (OP (Hs Ip (J 2) Hm (Hw _)) (Mu (Hs Ip (J 2) Hm (Hw _))))) (Hh (HK T.xt d7 rfl T.mC (J 1))) Hu) (Hh (Hx (Ik (G8 (J 2) (G8 Hm Hg)))))) Hu)
   (He (Hv (HB M.adv j (J 0)))
   (He (bG 3 Y2.nd (HL DN ac rfl (G8 (J 0) Hg)))
   (He (HG (PW.pt (OP (Hs S5 (J 3) Hm (Hw _)) (Mu (Hs Ki (HL DG j rfl (G8 (J 2) (G8 (J 3) Hg))) Hm (Hw _))))) (Hh (HK T.xt d7 rfl T.mC (J 1))) Hu)
   (Hh (Hx (Ik (G8 (J 2) (G8 (J 3) Hg))))))))))),?_⟩
  refine zA Y (zC Y U (HC _ _ _) (zL Y u Y (zA Y ?_)));rw[ID];have V:∀{H1:Hp} {b:Z} {o:HO},H1 b=Option.none->aL H1 (aK H1 b o) c:=λ{H1 b o} g x o' i _=>by rwa [Hf (Hk i g)]
  refine HN (λh=>?_) λh=>?_
  ·have S:¬Ht (st t p e)=((94:UInt8).toNat:Int):=Lr h;have e1:K5 s' p (st t p e)=.ok ((1,1),p,st t p e):=by
    cases l:st t p e with
    |nil=>rfl
    |cons z r=>unfold K5;dsimp only;rw[G6 (IP S z r l)]
   rw[e1] at k;refine⟨(by show 2<=GI;decide),λb g=>?_⟩;exact k _ b (u.same (λx o i=>by rwa [Hf (Hk i g)])) (V g) G9
  ·have N:Ht (st t p e)=((94:UInt8).toNat:Int):=Lc h;obtain⟨r,l⟩:=HD N;have X:=IG l;have d6:=JF u.len l;rw[l] at k;unfold K5 at k;dsimp only at k;rw[G7 rfl] at k;refine zA Y (zC Y U (HC _ _ _) (zG Y U (λH1 h1 h2=>?_)));have u1:=u.move h2 ⟨dx,h1⟩ d6;refine zA Y (zG Y u1 ?_);rw[X];cases hs:signed (p+1) r with
   |error x=>rwa [hs] at k
   |ok z=>
    obtain⟨n,q,v⟩:=z;rw[hs] at k;dsimp only at k;intro H2 y m k2 d8;obtain rfl:y=.int n:=d8;obtain⟨a1,a2,a3⟩:=aZ.at_ u.len d6 (by rw[X];exact Kk (p+1) r) hs;subst a3;obtain⟨G,d9⟩:=m.at_;have af:∀(R:Prop),R->R:=λ_ r=>r;refine zA Y (zC Y d9 (HC _ _ _) (zL Y m Y (zA Y ?_)));rw[ID];refine HN (λh=>?_) λh=>?_
    ·have S:¬Ht (st t q e)=((47:UInt8).toNat:Int):=Lr h;have D:match (if n=0\/n=1 then .error s' else .ok ((n,1),q,st t q e):Rd (Int×Nat)) with
       |.error x=>fG C E x
       |.ok (nd,q,_)=>∀(H':Hp) (b:Z),bE K B H' c a t q e->aL H H' c->H' b=some (.tup [.int nd.1,.int (nd.2:Int)])->Q (.ref b) H':=by
      cases hq:st t q e with
      |nil=>rwa [hq] at k
      |cons b w=>
       rw[hq] at k;dsimp only at k
       rwa [G6 (IP S b w hq)] at k
     refine zE Y Y (zA Y (LK (b2:=decide (n=1)) (λQ' q'=>⟨_,Y,Y,_,Y,by rwa [ID]⟩) ?_));rw[ID];refine HN (λh=>?_) λh=>?_
     ·rw[Bh,decide_eq_true_eq,decide_eq_true_eq] at h;rw[G7 h] at D;exact⟨_,Y,_,Y,λd hd=>D _ d G9⟩
     ·rw[Bh,decide_eq_true_eq,decide_eq_true_eq] at h;rw[G6 h] at D;refine zE Y (by show 2<=GI;decide) (λb g=>?_);exact D _ b (m.same (λx o i=>by rwa [Hf (Hk i g)])) ((h2.trans k2).trans (V g)) G9
    ·have N:Ht (st t q e)=((47:UInt8).toNat:Int):=Lc h;obtain⟨w',L⟩:=HD N;have ab:=IG L;have aa:=JF u.len L;rw[L] at k;dsimp only at k;rw[G7 rfl] at k;refine zA Y (zC Y d9 (HC _ _ _) (zG Y d9 (λH3 h3 k3=>?_)));have u3:=m.move k3 ⟨G,h3⟩ aa;refine zA Y (zG Y u3 ?_);rw[ab];cases hn:number (q+1) w' with
     |error x=>rwa [hn] at k
     |ok z=>
      obtain⟨d,z1,t1⟩:=z;rw[hn] at k;dsimp only at k;intro H4 y u4 k4 d8;obtain rfl:y=.int (d:Int):=d8;refine zA Y (zB Y Y (zA Y (LK (b2:=!decide (((CF n (d:Int):Nat):Int)=1)) (λQ' q'=>zA Y (zA Y (zF Y (by lia) Y ⟨_,Y,by rwa [ID]⟩))) ?_)));have W:CF n (d:Int)=A5 n.natAbs d:=rfl;refine HN (λh=>?_) λh=>?_
      ·rw[Bh,decide_eq_true_eq] at h;rw[G6 (by
        rintro⟨g1,g2⟩;rcases h with h | h
        ·lia
        ·exact Lr h (by rw[W,g2];rfl))] at k
       exact⟨_,Y,_,Y,λd' ad=>k _ d' G9⟩
      ·rw[Bh,decide_eq_true_eq] at h;have ag:¬((d:Int)<2):=λz=>h (.inl z);have ae:((CF n (d:Int):Nat):Int)=1:=Lc λz=>h (.inr z);rw[G7 ⟨by lia,by rw[<-W];lia⟩] at k;refine⟨_,Y,zE Y (by show 2<=GI;decide) (λb g=>?_)⟩;exact k _ b (u4.same (λx o i=>by rwa [Hf (Hk i g)])) (((h2.trans k2).trans (k3.trans k4)).trans (V g)) G9
end
def QV(y:Iv)(q:Nat):Bytes->Except Nat Iv
 |[]=>if y.ok=true then .ok y else .error q
 |_::_=>.error q
theorem VE(least:Nat)(x:Iv)(p:Nat)(t:Bytes):fa least x p t=match SC p t with
  |.error e=>.error e
  |.ok ((k,n,d),q,u)=>if k<least then .error p else match u with
   |[]=>QV (x.plus (powerOf k n d)) q []
   |c::v=>if c=32 then fa (k+1) (x.plus (powerOf k n d)) (q+1) v else .error q:=by
 rw[pN,P2];cases factorAt p t with
 |error e=>rfl
 |ok z=>
  obtain⟨⟨k,w⟩,q,u⟩:=z;cases w with
  |none=>dsimp only;split <;> rfl
  |some nd=>obtain⟨n,d⟩:=nd;rfl
def bX(H:Hp)(l:Z)(P:Lz):Prop:=∃d c a b:Z,H l=some (.lst [.ref d,.ref c,.ref a,.ref b])/\H d=some (.tup [.int (P 0).1,.int ((P 0).2:Int)])/\H c=some (.tup [.int (P 1).1,.int ((P 1).2:Int)]) ∧
 H a=some (.tup [.int (P 2).1,.int ((P 2).2:Int)])/\H b=some (.tup [.int (P 3).1,.int ((P 3).2:Int)])
def cB(H H':Hp)(c l:Z):Prop:=∀b o,H b=some o->b≠c->b≠l->H' b=some o
theorem cB.refl(H:Hp)(c l:Z):cB H H c l:=λ_ _ h _ _=>h
theorem cB.trans(a:cB H H1 c l)(b:cB H1 H2 c l):cB H H2 c l:=λx o h h1 h2=>b x o (a x o h h1 h2) h1 h2
theorem cB.of(a:aL H H' c):cB H H' c l:=λx o h h1 _=>a x o h h1
theorem bX.keep(h:bX H l P)(k:aL H H' c)(a:H c=some (.ins B dx fs)):bX H' l P:=by obtain⟨i,j,f,g,b,h1,h2,e,d⟩:=h;exact zH (k _ _ b (Hq b a aO)) (k _ _ h1 (Hq h1 a aO)) (k _ _ h2 (Hq h2 a aO)) (k _ _ e (Hq e a aO)) (k _ _ d (Hq d a aO))
theorem bX.set{H:Hp}{l b:Z}{P:Lz}{k:Nat}{n:Int}{d:Nat}{xs:List V}(h:bX H l P)(p:H l=some (.lst xs))(t:k<4)(q:H b=some (.tup [.int n,.int (d:Int)])):bX (aK H l (.lst (xs.set k (.ref b)))) l (Lo P k (n,d)):=by
 obtain⟨m,o,i,j,a,h1,h2,s,r⟩:=h;rw[a] at p;cases p;have g:=Hq h1 a aO;have f:=Hq h2 a aO;have n2:=Hq s a aO;have n3:=Hq r a aO;have e:=Hq q a aO;have c:k=0\/k=1\/k=2\/k=3:=by lia
 rcases c with rfl | rfl | rfl | rfl
 ·exact zH G9 (by rwa [Hf e]) (by rwa [Hf f]) (by rwa [Hf n2]) (by rwa [Hf n3])
 ·exact zH G9 (by rwa [Hf g]) (by rwa [Hf e]) (by rwa [Hf n2]) (by rwa [Hf n3])
 ·exact zH G9 (by rwa [Hf g]) (by rwa [Hf f]) (by rwa [Hf e]) (by rwa [Hf n3])
 ·exact zH G9 (by rwa [Hf g]) (by rwa [Hf f]) (by rwa [Hf n2]) (by rwa [Hf e])
def cY(P:Lz):Prop:=∀j,(P j).2<10000/\-10000<(P j).1/\(P j).1<10000
theorem Qs:cY iF:=λ_=>by unfold iF;decide
theorem cY.set(h:cY P)(hd:d<10000)(h1:-10000<n)(h2:n<10000):cY (Lo P k (n,d)):=λj=>by
 unfold Lo;split
 ·exact⟨hd,h1,h2⟩
 ·exact h j
def O2(K:G5)(B C:Z):Sp:=λvs H Q E=>∃(c a l:Z) (t:Bytes) (p e:Nat),vs=[.ref c,.ref l]/\bE K B H c a t p e/\bX H l iF ∧
 (∀x,fa 0 unison p (st t p e)=.error x->fG C E x) ∧
 (∀(H':Hp) (P:Lz) (k q:Nat),bE K B H' c a t q e->bX H' l P->cZ P k->cY P->fa 0 unison p (st t p e)=QV (cX P) q (st t q e)->cB H H' c l->Q .non H')
variable{P:GJ}{w:GQ}{K:G5}{mg:Str->Option O}{base:Heap}{B C:Z}
theorem Rk:aH ["cursor","powers","before","more","start","which","power"] ["cursor","powers"] (Hj JK):=HZ
theorem R5(F:bI K "read_factors" "read_factors" JK f fd)(T:cS K mg B C)(M:fE P w K mg base B C)(DD:bQ P w K mg base C 3 "read_digit_of_factor" ["cursor"] (KB K B C Pf Lm))
  (DP:bQ P w K mg base C 5 "read_power" ["cursor","start"] (YM K B C)):
  aN P w K mg base (aS P w C) 6 f fd ["cursor","powers"] (O2 K B C):=by
 refine F.okX Rk (λvs H Q E h=>?_) (λaC A outer s H vs Q E W h=>?_)
 ·obtain⟨c,a,l,t,p,e,rfl,_⟩:=h;rfl
 ·obtain⟨c,a,l,t,p,e,rfl,u,hP,kE,kQ⟩:=h;have ab:=W.mono (show 1<=5 by decide);have az:=W.mono (show 2<=5 by decide);have ax:=W.mono (show 3<=5 by decide);refine⟨_,He (bG 2 Rk.nd (QA Oo Hm))
   (He (bG 3 Rk.nd YV)
   (Hh (IJ Jn (N1 (J 3))
    (He (bG 4 Rk.nd (Hy (J 0) rfl))
    (He (bG 5 Rk.nd (HL DD ax rfl (G8 (J 0) Hg)))
    (He (bG 6 Rk.nd (HL DP W rfl (G8 (J 0) (G8 (J 4) Hg))))
    (He (HG (Hs Mg (J 5) (J 2) (Hw _)) (Hh (HK T.xt az rfl T.mC (J 4))) Hu)
    (He (Vk (J 6) (Wt (J 1) (J 5) QT))
    (He (bG 2 Rk.nd (J 5))
    (He (bG 3 Rk.nd (Mp Ip (HB M.byte ab (J 0)) (Hr T.cBI) (Hw _)))
    (Hh (HG (N1 (J 3)) (Hh (Hv (HB M.adv ab (J 0)))) Hu)))))))))))),?_⟩
  refine zA Y ?_;refine⟨λm σ H'=>∃(more:Bool) (least pos:Nat) (i:Lz) (I G D:Option V),m=(if more=true then e-pos+1 else 0)/\σ=[some (.ref c),some (.ref l),some (.int ((least:Int)-1)),some (.bl more),I,G,D]/\bE K B H' c a t pos e/\bX H' l i/\cZ i least/\cY i/\cB H H' c l ∧
    fa 0 unison p (st t p e)=(if more=true then fa least (cX i) pos (st t pos e) else QV (cX i) pos (st t pos e)),⟨_,true,zP Y Y u ⟨hP,U8,Qs,cB.refl _ _ _,by rw[S8];rfl⟩⟩,?_⟩
  rintro m σ H1 ⟨more,least,pos,i,I,G,D,rfl,rfl,v,ak,ag,ac,am,g⟩;refine zA Y (zA Y ?_);cases more with
  |false=>exact kQ H1 i least pos v ak ag ac g am
  |true=>
   rw[G7 rfl] at g ⊢;obtain⟨dx,hc⟩:=v.at_;refine⟨λae H'=>∃(more:Bool) (least q:Nat) (i:Lz) (I G D:Option V),pos<q/\ae=[some (.ref c),some (.ref l),some (.int ((least:Int)-1)),some (.bl more),I,G,D]/\bE K B H' c a t q e/\bX H' l i/\cZ i least/\cY i/\cB H H' c l ∧
    fa 0 unison p (st t p e)=(if more=true then fa least (cX i) q (st t q e) else QV (cX i) q (st t q e)),?_,?_⟩
   ·rintro ae H' ⟨more,least,q,i,I,G,D,hq,rfl,a1,a2,a3,a4,a5,a6⟩;refine zA ?_ (zM more least q i I G D Y ⟨Y,a1,a2,a3,a4,a5,a6⟩);have:=a1.le;show(if more=true then e-q+1 else 0)<e-pos+1;split <;> lia
   ·refine zA Y (zD Y hc T.cl T.nP (HA _ _ _) ?_);refine zA Y (zG Y v ?_);rw[VE least (cX i) pos (st t pos e)] at g;unfold SC at g;cases hd:Lm pos (st t pos e) with
    |error x=>rw[hd] at g;exact kE x g
    |ok z=>
     obtain⟨k,q1,r1⟩:=z;obtain⟨an,rfl⟩:=Zl hd;obtain⟨a1,a2,a3⟩:=aZ.at_ v.len v.le (Tx pos (st t pos e)) hd;subst a3;rw[hd] at g;dsimp only at g;intro H2 y d7 k2 hy;obtain rfl:y=.int (k:Int):=hy;refine zA Y (zA Y ⟨c,zG Y d7 ?_⟩);cases hp:K5 pos (pos+1) (st t (pos+1) e) with
     |error x=>rw[hp] at g;exact kE x g
     |ok z=>
      obtain⟨⟨n,d⟩,j,r2⟩:=z;have pf:=WM hp;obtain⟨b1,b2,N⟩:=aZ.at_ v.len d7.le (Ue pos (pos+1) (st t (pos+1) e)) hp;subst N;rw[hp] at g;dsimp only at g;intro H3 b R k3 hb;have aw:=ak.keep k2 hc;obtain⟨a8,ao⟩:=d7.at_;have d6:=aw.keep k3 ao;obtain⟨ay,aq⟩:=R.at_;refine zA Y (zA Y (zB Y Y (zA Y ?_)));refine HN (λh=>?_) λh=>?_
      ·have aj:(k:Int)<=(least:Int)-1:=of_decide_eq_true h;rw[G7 (by lia)] at g;exact zA Y ⟨_,Y,λd' a0=>kE pos g _ d' G9⟩
      ·have a7:¬(k:Int)<=(least:Int)-1:=λz=>h (decide_eq_true z);rw[G6 (by lia)] at g;obtain⟨xs,L,ar⟩:∃xs,H3 l=some (.lst xs)/\xs.length=4:=by obtain⟨b0,b1,b2,N,X,_⟩:=d6;exact⟨_,X,Y⟩
       have av:gF xs.length (k:Int)=some k:=by unfold gF;rw[G7 (by lia),G7 (by rw[ar];lia)];rfl
       refine zA Y (zA Y (zA Y (zH Y Y L av ?_)));have ah:=d6.set L an hb;have ap:c≠l:=Hq aq L aO;obtain⟨af,aa⟩:=U0 ag (show least<=k by lia) an pf.1 pf.2.2.2.2;have ad:=cY.set (k:=k) ac pf.2.1 pf.2.2.1 pf.2.2.2.1;have S:bE K B (aK H3 l (.lst (xs.set k (.ref b)))) c a t j e:=by
        refine⟨⟨ay,by rwa [Hf ap]⟩,?_,R.le,R.len⟩;rcases R.txt with (h | ⟨o,h⟩) | h
        ·by_cases z:a=l
         ·exfalso
          obtain⟨b0,b1,b2,N,X,_⟩:=d6;rw[z,X] at h;have h':[V.ref b0,.ref b1,.ref b2,.ref N]=tx t:=by injection h with h;injection h
          unfold tx at h';cases t with
          |nil=>cases h'
          |cons x r=>injection h' with h' _;cases h'
         ·exact .inl (.inl (by rwa [Hf z]))
        ·exact .inl (.inr ⟨o,by rwa [Hf (Hq h L aO)]⟩)
        ·exact .inr h
       have al:cB H (aK H3 l (.lst (xs.set k (.ref b)))) c l:=λx o hx n1 n2=>by rw[Hf n2];exact k3 _ _ (k2 _ _ (am _ _ hx n1 n2) n1) n1
       obtain⟨d8,U⟩:=S.at_;refine zA Y ?_;refine zA Y (zC Y U (HC _ _ _) (zL Y S Y ?_));rw[ID];refine zA Y (zA Y ?_);have vals:∀(mm:Bool),([some (V.ref c),some (.ref l),some (.int ((k:Int))),some (.bl mm),some (.int (pos:Int)),some (.int (k:Int)),some (.ref b)]:List (Option V))=[some (V.ref c),some (.ref l),some (.int (((k+1:Nat):Int)-1)),some (.bl mm),some (.int (pos:Int)),some (.int (k:Int)),some (.ref b)]:=λmm=>by rw[show(((k+1:Nat):Int)-1)=(k:Int) by lia]
       refine HN (λh=>?_) λh=>?_
       ·have au:Ht (st t j e)=((32:UInt8).toNat:Int):=of_decide_eq_true h;obtain⟨r,d9⟩:=HD au;have as:=IG d9;have aj:=JF v.len d9;rw[d9] at g;dsimp only at g;rw[G7 rfl,af] at g;refine zI _ Y (zJ c d8 _ Y U (HC _ _ _) (zW c d8 a j e Y ⟨U,λH5 h5 k5=>?_⟩));refine zM true (k+1) (j+1) _ (some (.int (pos:Int))) (some (.int (k:Int))) (some (.ref b)) (by lia) ⟨?_,S.move k5 ⟨d8,h5⟩ aj,ah.keep k5 U,aa,ad,al.trans (cB.of k5),?_⟩
        ·rw[<-vals true];show _=[some (V.ref c),some (.ref l),some (.int ((k:Int))),some (.bl true),some (.int (pos:Int)),some (.int (k:Int)),some (.ref b)];rw[show(decide (Ht (st t j e)=32))=true from h];rfl
        ·rwa [as]
       ·have ai:¬Ht (st t j e)=((32:UInt8).toNat:Int):=λz=>h (decide_eq_true z);refine⟨false,k+1,j,_,some (.int (pos:Int)),some (.int (k:Int)),some (.ref b),by lia,?_,S,ah,aa,ad,al,?_⟩
        ·rw[<-vals false];show _=[some (V.ref c),some (.ref l),some (.int ((k:Int))),some (.bl false),some (.int (pos:Int)),some (.int (k:Int)),some (.ref b)];have hf:(decide (Ht (st t j e)=32))=false:=decide_eq_false ai;rw[hf];rfl
        ·show _=QV _ _ _;rw[g,<-af];cases d9:st t j e with
         |nil=>rfl
         |cons z r=>dsimp only;rw[G6 (IP ai z r d9)];rfl
end Lu
namespace LZ
inductive Src where
 |lst (a:Z) | tup (a:Z) | txt (x:Str) (t:Tok)
def Src.has:Src->Z->Prop
 |.lst a,l=>l=a
 |.tup a,l=>l=a
 |.txt _ _,_=>False
def Src.val:Src->O
 |.lst a=>.ref a
 |.tup a=>.ref a
 |.txt x t=>.str x t
def Src.ty:Src->String
 |.lst _=>"list_iterator"
 |.tup _=>"tuple_iterator"
 |.txt _ _=>"str_ascii_iterator"
abbrev Src.obj(r:Src):Obj:={ cls:=.type r.ty,data:=.fields #[r.val,.int 0 0] }
def bO(h:Heap)(it:Z):Src->Nat->Prop
 |.lst a,i=>h.IsListIter it a i
 |.tup a,i=>h.IsTupleIter it a i
 |.txt x t,i=>h.IsStrIter it "str_ascii_iterator" x t i
def At(h:Heap):Src->List L2.V->Prop
 |.lst a,vs=>∃b:List O,L2.aJ vs b/\h.IsList a b.toArray
 |.tup a,vs=>∃b:List O,L2.aJ vs b/\h.IsTuple a b.toArray
 |.txt x _,vs=>x.cps.all (·<128)=true/\vs=x.cps.toList.map λc=>L2.V.str ⟨#[c]⟩
theorem At.keeps(x:At h r vs)(k:∀l o,r.has l->h.get? l=some o->h'.get? l=some o):At h' r vs:=by
 cases r with
 |lst a=>obtain⟨d,r,o,b,c⟩:=x;exact⟨d,r,o,k a o rfl b,c⟩
 |tup a=>obtain⟨d,r,o,b,c⟩:=x;exact⟨d,r,o,k a o rfl b,c⟩
 |txt x t=>exact x
theorem bO.at_(x:bO h it r i)(k:∀o,h.get? it=some o->h'.get? it=some o):bO h' it r i:=by
 cases r with
 |lst a=>obtain⟨o,b,c⟩:=x;exact⟨o,k o b,c⟩
 |tup a=>obtain⟨o,b,c⟩:=x;exact⟨o,k o b,c⟩
 |txt x t=>obtain⟨o,b,c⟩:=x;exact⟨o,k o b,c⟩
theorem bO.some_(x:bO h it r i):∃o,h.get? it=some o/\∀v,o.data≠.cell v:=by
 cases r with
 |lst a=>obtain⟨o,b,_,d⟩:=x;exact⟨o,b,λv q=>by rw[d] at q;cases q⟩
 |tup a=>obtain⟨o,b,_,d⟩:=x;exact⟨o,b,λv q=>by rw[d] at q;cases q⟩
 |txt x t=>obtain⟨o,b,_,d⟩:=x;exact⟨o,b,λv q=>by rw[d] at q;cases q⟩
section
variable{prog:GJ}{w:GQ}{A:GS}{E:O->GF->Prop}{s:GF}
theorem Y6{Q:O->GF->Prop}(a:s.heap.IsTupleIter it l i)(b:s.heap.IsTuple l vs)(e:vs[i]?=some x)
  (k:∀h',h'.IsTupleIter it l (i+1)->Heap.SameBut it s.heap h'->Q x { s with heap:=h' }):GL (model prog w) A (Builtin.SmallTypes.nextOf (.ref it)) Q E s:=by
 obtain⟨o,h1,h2,c⟩:=id a;obtain⟨f,g1,_,d,g2⟩:=b;unfold Builtin.SmallTypes.nextOf;refine GE (wpAny_callSpecial?_slot (name:=Str.ofString "__next__") a.typeIs F.slot_tuple_iterator_next (wpAny_call_entry F.slot_tuple_iterator_next a.typeIs F.entry_tuple_iterator_next ?_ (F.args_tuple_iterator_next_1 _)));show GL _ _ (field (.ref it) 0 >>= _) _ _ s;refine GE (GT h1 c (x:=.ref l) rfl ?_);show GL _ _ (if (O.ref l==O.none)=true then _ else _) _ _ s;rw[G6 (show ¬((O.ref l==O.none)=true) from Ak)];show GL _ _ (field (.ref it) 1 >>= _) _ _ s;refine GE (GT h1 c (x:=.int i 0) rfl ?_);show GL _ _ (seqItems? (.ref l) >>= _) _ _ s;refine GE (wpAny_seqItems g1 g2 ?_);simp only[C8,e];refine GE (wpAny_setField h1 c (by simp) (GK ⟨x,Y,GK (k _ ?_ (Heap.SameBut.update ..))⟩));refine⟨_,BZ _ h1 (Obj.isFreed_of_fields (Obj.data_mapFields c _)),(Obj.cls_mapFields ..).trans h2,?_⟩;rw[Obj.data_mapFields c];simp[rawInt]
theorem R3{Q:O->GF->Prop}(d:A.handled=none)(a:s.heap.IsTupleIter it l i)(b:s.heap.IsTuple l vs)(e:vs[i]?=none)
  (k:∀h' x,Heap.ExtBut it s.heap h'->(∃o,h'.get? x=some o/\o.cls=.type "StopIteration")->E (.ref x) { s with heap:=h' }):GL (model prog w) A (Builtin.SmallTypes.nextOf (.ref it)) Q E s:=by
 obtain⟨o,h1,h2,c⟩:=id a;obtain⟨g,g1,_,f,g2⟩:=b;unfold Builtin.SmallTypes.nextOf;refine GE (wpAny_callSpecial?_slot (name:=Str.ofString "__next__") a.typeIs F.slot_tuple_iterator_next (wpAny_call_entry F.slot_tuple_iterator_next a.typeIs F.entry_tuple_iterator_next ?_ (F.args_tuple_iterator_next_1 _)));show GL _ _ (field (.ref it) 0 >>= _) _ _ s;refine GE (GT h1 c (x:=.ref l) rfl ?_);show GL _ _ (if (O.ref l==O.none)=true then _ else _) _ _ s;rw[G6 (show ¬((O.ref l==O.none)=true) from Ak)];show GL _ _ (field (.ref it) 1 >>= _) _ _ s;refine GE (GT h1 c (x:=.int i 0) rfl ?_);show GL _ _ (seqItems? (.ref l) >>= _) _ _ s;refine GE (wpAny_seqItems g1 g2 ?_);simp only[C8,e];refine GE (wpAny_rule (GE (wpAny_setField h1 c (by simp) ?_)));show GL _ _ (newExc (.type "StopIteration") [] >>= _) _ _ _;refine GE ?_;simp only[newExc,newTuple];refine GE (G2 ?_ (by size_fits));refine GE (m:=firstArgMember _ _) (wpAny_of_eq (a:=O.none) (by first | rfl | (simp only[firstArgMember];rfl)) ?_)
 refine G2 ?_ (by size_fits);simp only[raiseNew];refine GE (wpAny_handled ?_);first | rw[show A.in1.handled=none from d] | rw[d]
 exact GE (GK (wpAny_throw (k _ _ (((Heap.SameBut.update ..).extBut.push _).push _) ⟨_,Ap _ rfl,Y⟩)))
theorem UJ{Q:O->GF->Prop}(a:bO s.heap it r i)(b:At s.heap r vs)(e:vs[i]?=some x)
  (k:∀u h' tk,L2.RelV x u->bO h' it r (i+1)->Heap.SameBut it s.heap h'->Q u { s with heap:=h',toks:=tk }):GL (model prog w) A (Builtin.SmallTypes.nextOf (.ref it)) Q E s:=by
 cases r with
 |lst l=>obtain⟨n,f,h⟩:=b;obtain⟨u,j,g⟩:=f.get e;exact wpAny_nextOf_list_item a h (x:=u) (by simpa using j) λh' t d=>k u h' s.toks g t d
 |tup l=>obtain⟨n,f,h⟩:=b;obtain⟨u,j,g⟩:=f.get e;exact Y6 a h (x:=u) (by simpa using j) λh' t d=>k u h' s.toks g t d
 |txt y t=>
  obtain⟨_,rfl⟩:=b;rw[Ah] at e;cases hc:y.cps.toList[i]? with
  |none=>rw[hc] at e;cases e
  |some c=>rw[hc] at e;cases e;exact wpAny_nextOf_ascii_item a (c:=c) (by simpa using hc) λh' m d=>k _ h' _ ⟨_,Y⟩ m d
theorem RM{Q:O->GF->Prop}(f:A.handled=none)(a:bO s.heap it r i)(b:At s.heap r vs)(e:vs[i]?=none)
  (k:∀h' x,Heap.ExtBut it s.heap h'->(∃o,h'.get? x=some o/\o.cls=.type "StopIteration")->E (.ref x) { s with heap:=h' }):GL (model prog w) A (Builtin.SmallTypes.nextOf (.ref it)) Q E s:=by
 cases r with
 |lst l=>obtain⟨h,d,g⟩:=b;have:=d.length;have c:=Dx.mp e;exact wpAny_nextOf_list_end f a g (by simp;lia) k
 |tup l=>obtain⟨h,d,g⟩:=b;have:=d.length;have c:=Dx.mp e;exact R3 f a g (by simp;lia) k
 |txt y t=>obtain⟨_,rfl⟩:=b;have c:=Dx.mp e;rw[Ab] at c;exact wpAny_nextOf_ascii_end f a (Fn (by simpa using c)) k
theorem VR{Q:O->GF->Prop}(b:At s.heap r vs)(h:Q (.ref s.heap.objs.size) { s with heap:=s.heap.push r.obj }):GL (model prog w) A (pyIter r.val) Q E s:=by
 cases r with
 |lst l=>obtain⟨d,c,a⟩:=b;exact wpAny_pyIter_list a h
 |tup l=>obtain⟨d,c,a⟩:=b;exact wpAny_pyIter_tuple a h
 |txt y t=>exact wpAny_pyIter_ascii b.1 h
theorem bO.zero(e:h.get? it=some r.obj):bO h it r 0:=by
 cases r with
 |lst l=>exact⟨_,e,Y,Y⟩
 |tup l=>exact⟨_,e,Y,Y⟩
 |txt y t=>exact⟨_,e,Y,Y⟩
structure Apart(z TI TO i1 i2:Z)(r1 r2:Src):Prop where
 TIz:TI≠z
 TOz:TO≠z
 i1z:i1≠z
 i2z:i2≠z
 TITO:TI≠TO
 TIi1:TI≠i1
 TIi2:TI≠i2
 TOi1:TO≠i1
 TOi2:TO≠i2
 i12:i1≠i2
 r1:∀l,r1.has l->l≠z/\l≠TO/\l≠i1/\l≠i2
 r2:∀l,r2.has l->l≠z/\l≠TO/\l≠i1/\l≠i2
theorem VV{Q:O->GF->Prop}(D:Apart z TI TO i1 i2 r1 r2)
  (hz:IsZip s.heap z TI TO .none) (hTI:IsPair s.heap TI (.ref i1) (.ref i2)) (hTO:IsPair s.heap TO a b) (h1:bO s.heap i1 r1 k1) (h2:bO s.heap i2 r2 k2) (hl1:At s.heap r1 xs) (hl2:At s.heap r2 ys) (hx:xs[k1]?=some x) (hy:ys[k2]?=some y)
  (hQ:∀u v h' tk,L2.RelV x u->L2.RelV y v->IsZip h' z TI TO (rawInt s.heap.objs.size)->IsPair h' TO u v->bO h' i1 r1 (k1+1)->bO h' i2 r2 (k2+1)->IsPair h' s.heap.objs.size u v->h'.objs.size=s.heap.objs.size+1->(∀c o,c≠z->c≠TO->c≠i1->c≠i2->s.heap.get? c=some o->h'.get? c=some o)->Q (.ref s.heap.objs.size) { s with heap:=h',toks:=tk }):
  GL (model prog w) A (Builtin.«zip.__next__» ⟨[.ref z],[]⟩) (λd7 s'=>∃v,d7=.done (.ret v)/\Q v s') E s:=by
 show GL _ _ (field (.ref z) 2 >>= _) _ _ _;refine GE (GT hz rfl (x:=.bool false) rfl ?_);show GL _ _ (field (.ref z) 3 >>= _) _ _ _;refine GE (GT hz rfl (x:=.ref TI) rfl ?_);refine GE (wpAny_seqItems hTI rfl ?_);show GL _ _ (Builtin.SmallTypes.ownedTupleIsFree (.ref z) >>= _) _ _ _;refine GE ?_;unfold Builtin.SmallTypes.ownedTupleIsFree;refine GE (GT hz rfl (x:=.none) rfl (GK ?_));simp only[if_true];refine GE (wpAny_rule ?_);refine GE (GT hz rfl (x:=.ref TO) rfl ?_);refine GE (GW hz (by simp) λg1 B f=>?_);replace B:IsZip g1 z TI TO .ellipsis:=B;refine GE ?_;simp only[Gi,Go,E3,Ep];refine GE (GE (wpAny_onRaise ?_));show GL _ _ (Builtin.SmallTypes.nextOf (.ref i1) >>= _) _ _ _;refine GE (UJ (h1.at_ λo e=>f.extBut _ _ D.i1z e) (hl1.keeps λl o m e=>f.extBut _ _ (D.r1 l m).1 e) hx λu g2 aa U S g=>GK ?_);have d8:IsPair g2 TO a b:=g.extBut _ _ D.TOi1 (f.extBut _ _ D.TOz hTO);refine GE (wpAny_seqItems d8 rfl ?_);refine GE (wpAny_updateSeq_pair d8 λg3 G h=>?_);replace G:IsPair g3 TO u b:=G;refine GE (wpAny_letGo (GK ?_));refine GE (GE (wpAny_onRaise ?_));show GL _ _ (Builtin.SmallTypes.nextOf (.ref i2) >>= _) _ _ _;refine GE (UJ (r:=r2) (h2.at_ λo e=>h.extBut _ _ D.TOi2.symm (g.extBut _ _ D.i12.symm (f.extBut _ _ D.i2z e))) (hl2.keeps λl o m e=>h.extBut _ _ (D.r2 l m).2.1 (g.extBut _ _ (D.r2 l m).2.2.1 (f.extBut _ _ (D.r2 l m).1 e))) hy λv g4 ab d6 R j=>GK ?_);have P:IsPair g4 TO u b:=j.extBut _ _ D.TOi2 G;refine GE (wpAny_seqItems P rfl ?_);refine GE (wpAny_updateSeq_pair P λg5 t k=>?_);replace t:IsPair g5 TO u v:=t;refine GE (wpAny_letGo (GK (GK ?_)));refine GE (wpAny_seqItems t rfl ?_);refine GE (wpAny_newTuple ?_);have sz:g5.objs.size=s.heap.objs.size:=by rw[k.1,j.1,h.1,g.1,f.1]
 have L:IsZip g5 z TI TO .ellipsis:=k.extBut _ _ D.TOz.symm (j.extBut _ _ D.i2z.symm (h.extBut _ _ D.TOz.symm (g.extBut _ _ D.i1z.symm B)));have k5:∀c o,c≠z->c≠TO->c≠i1->c≠i2->s.heap.get? c=some o->g5.get? c=some o:=λc o d q d9 F e=>k.extBut _ _ q (j.extBut _ _ F (h.extBut _ _ q (g.extBut _ _ d9 (f.extBut _ _ d e))));have X:bO g5 i1 r1 (k1+1):=S.at_ λo e=>k.extBut _ _ D.TOi1.symm (j.extBut _ _ D.i12 (h.extBut _ _ D.TOi1.symm e));have V:bO g5 i2 r2 (k2+1):=R.at_ λo e=>k.extBut _ _ D.TOi2.symm e;have M:z<g5.objs.size:=Ao L;show GL _ _ (Builtin.SmallTypes.ownedTupleHandOut (.ref z) (.ref g5.objs.size) >>= _) _ _ _;refine GE ?_;unfold Builtin.SmallTypes.ownedTupleHandOut;have W:IsZip (g5.push { cls:=.type "tuple",data:=.seq #[u,v] }) z TI TO .ellipsis:=Ac _ L;refine GE (GW W (by simp) λT I H=>?_);replace I:IsZip T z TI TO (rawInt g5.objs.size):=I;refine GW I (by simp) λi p C=>?_;replace p:IsZip i z TI TO (rawInt g5.objs.size):=p;have n:∀c o,c≠z->g5.get? c=some o->i.get? c=some o:=λc o d e=>C.extBut _ _ d (H.extBut _ _ d (Ac _ e));have K:IsPair i g5.objs.size u v:=C.extBut _ _ (Dm M) (H.extBut _ _ (Dm M) (Ap _ rfl));have N:i.objs.size=g5.objs.size+1:=by rw[C.1,H.1,AY]
 rw[sz] at p K N;refine GK (zA Y ?_);show Q (.ref g5.objs.size) _;rw[sz];exact hQ u v i _ U d6 p (n _ _ D.TOz t) (X.at_ λo e=>n _ o D.i1z e) (V.at_ λo e=>n _ o D.i2z e) K N λc o d q d9 F e=>n c o d (k5 c o d q d9 F e)
theorem XA{Q:Fin->GF->Prop}(r:A.handled=none)(D:Apart z TI TO i1 i2 r1 r2)
  (hz:IsZip s.heap z TI TO .none) (hTI:IsPair s.heap TI (.ref i1) (.ref i2)) (hTO:IsPair s.heap TO a b) (h1:bO s.heap i1 r1 k1) (hl1:At s.heap r1 xs) (hx:xs[k1]?=none)
  (hE:∀h' e,(∀c o,c≠z->c≠TO->c≠i1->c≠i2->s.heap.get? c=some o->h'.get? c=some o)->(∃o,h'.get? e=some o/\o.cls=.type "StopIteration")->E (.ref e) { s with heap:=h' }):
  GL (model prog w) A (Builtin.«zip.__next__» ⟨[.ref z],[]⟩) Q E s:=by
 show GL _ _ (field (.ref z) 2 >>= _) _ _ _;refine GE (GT hz rfl (x:=.bool false) rfl ?_);show GL _ _ (field (.ref z) 3 >>= _) _ _ _;refine GE (GT hz rfl (x:=.ref TI) rfl ?_);refine GE (wpAny_seqItems hTI rfl ?_);show GL _ _ (Builtin.SmallTypes.ownedTupleIsFree (.ref z) >>= _) _ _ _;refine GE ?_;unfold Builtin.SmallTypes.ownedTupleIsFree;refine GE (GT hz rfl (x:=.none) rfl (GK ?_));simp only[if_true];refine GE (wpAny_rule ?_);refine GE (GT hz rfl (x:=.ref TO) rfl ?_);refine GE (GW hz (by simp) λg1 d g=>?_);replace d:IsZip g1 z TI TO .ellipsis:=d;refine GE ?_;simp only[Gi,Go,E3,Ep];refine GE (GE (wpAny_onRaise ?_));show GL _ _ (Builtin.SmallTypes.nextOf (.ref i1) >>= _) _ _ _;refine GE (RM r (h1.at_ λo e=>g.extBut _ _ D.i1z e) (hl1.keeps λl o p e=>g.extBut _ _ (D.r1 l p).1 e) hx λg2 e h n=>?_);obtain⟨oe,f,p2⟩:=n;have k:IsZip g2 z TI TO .ellipsis:=h _ _ D.i1z.symm d;have t:e≠z:=λq=>by subst q;rw[k] at f;cases f;simp at p2
 exact GW k (by simp) λg3 _ j=>hE g3 e (λc o i _ m _ q=>j.extBut _ _ i (h _ _ m (g.extBut _ _ i q))) ⟨oe,j.extBut _ _ t f,p2⟩
theorem hJ{Q:Option O->GF->Prop}(D:Apart z TI TO i1 i2 r1 r2)
  (hz:IsZip s.heap z TI TO .none) (hTI:IsPair s.heap TI (.ref i1) (.ref i2)) (hTO:IsPair s.heap TO a b) (h1:bO s.heap i1 r1 k1) (h2:bO s.heap i2 r2 k2) (hl1:At s.heap r1 xs) (hl2:At s.heap r2 ys) (hx:xs[k1]?=some x) (hy:ys[k2]?=some y)
  (hQ:∀u v h' tk,L2.RelV x u->L2.RelV y v->IsZip h' z TI TO (rawInt s.heap.objs.size)->IsPair h' TO u v->bO h' i1 r1 (k1+1)->bO h' i2 r2 (k2+1)->IsPair h' s.heap.objs.size u v->h'.objs.size=s.heap.objs.size+1->(∀c o,c≠z->c≠TO->c≠i1->c≠i2->s.heap.get? c=some o->h'.get? c=some o)->Q (some (.ref s.heap.objs.size)) { s with heap:=h',toks:=tk }):
  GL (model prog w) A (pyNext (.ref z)) Q E s:=by
 have d:s.TypeIs (.ref z) "zip":=⟨_,hz,Y⟩;unfold pyNext;exact GE (wpAny_attempt (wpAny_callSpecial?_slot (name:=Str.ofString "__next__") d F.slot_zip_next (wpAny_call_entry F.slot_zip_next d F.entry_zip_next (VV D hz hTI hTO h1 h2 hl1 hl2 hx hy λu v h' tk l g k f h e i j m=>GK (hQ u v h' tk l g k f h e i j m)) (F.args_zip_next_1 _))))
theorem iN{Q:Option O->GF->Prop}(h:A.handled=none)(D:Apart z TI TO i1 i2 r1 r2)
  (hz:IsZip s.heap z TI TO .none) (hTI:IsPair s.heap TI (.ref i1) (.ref i2)) (hTO:IsPair s.heap TO a b) (h1:bO s.heap i1 r1 k1) (hl1:At s.heap r1 xs) (hx:xs[k1]?=none)
  (hQ:∀h',(∀c o,c≠z->c≠TO->c≠i1->c≠i2->s.heap.get? c=some o->h'.get? c=some o)->Q none { s with heap:=h' }):GL (model prog w) A (pyNext (.ref z)) Q E s:=by
 have d:s.TypeIs (.ref z) "zip":=⟨_,hz,Y⟩;unfold pyNext;refine GE (wpAny_attempt (wpAny_callSpecial?_slot (name:=Str.ofString "__next__") d F.slot_zip_next (wpAny_call_entry F.slot_zip_next d F.entry_zip_next (XA h D hz hTI hTO h1 hl1 hx λh' e f g=>?_) (F.args_zip_next_1 _))));obtain⟨o,i,j⟩:=g;exact GE (wpAny_isInstance (T:="StopIteration") (b:=true) ⟨o,i,j⟩ isSubtype_stop (GK (hQ _ f)))
end
abbrev g1(h:Heap)(a:Src):Heap:=h.push a.obj
abbrev g2(h:Heap)(a b:Src):Heap:=(g1 h a).push b.obj
abbrev g3(h:Heap)(a b:Src):Heap:=(g2 h a b).push { cls:=.type "tuple",data:=.seq #[.ref h.objs.size,.ref (g1 h a).objs.size] }
abbrev g4(h:Heap)(a b:Src):Heap:=(g3 h a b).push { cls:=.type "tuple",data:=.seq #[.none,.none] }
abbrev g5(h:Heap)(a b:Src):Heap:=(g4 h a b).push { cls:=.type "zip",data:=.fields #[.none,.bool false,.bool false,.ref (g2 h a b).objs.size,.ref (g3 h a b).objs.size] }
theorem Tn(a b:Src)(xs ys:List L2.V):Meets (Builtin.«zip.__new__» ⟨[.type "zip",a.val,b.val],[]⟩) (λ_ R s=>At s.heap a xs/\At s.heap b ys/\R (.ok (.ret (.ref (g4 s.heap a b).objs.size))) { s with heap:=g5 s.heap a b }):=
 .of_wp λprog w A R s h=>by
  obtain⟨c,g,d,tk,os⟩:=s;obtain⟨k1,k2,h⟩:=h;have i:=sub_zip;have f:At (GF.heap ⟨c,g,d,tk,os⟩) a xs:=k1;have L2:At (GF.heap ⟨c.push a.obj,g,d,tk,os⟩) b ys:=k2.keeps λl o _ e=>Ac _ e
  wp_walk using VR f,VR L2
  exact zA Y h
variable{prog:GJ}{w:GQ}{A:GS}{E:O->GF->Prop}{s:GF}
theorem gO{Q:O->GF->Prop}(k1:At s.heap a xs)(k2:At s.heap b ys)
  (h:∀h',IsZip h' (s.heap.objs.size+4) (s.heap.objs.size+2) (s.heap.objs.size+3) .none->IsPair h' (s.heap.objs.size+2) (.ref s.heap.objs.size) (.ref (s.heap.objs.size+1))->IsPair h' (s.heap.objs.size+3) .none .none->bO h' s.heap.objs.size a 0->bO h' (s.heap.objs.size+1) b 0->h'.objs.size=s.heap.objs.size+5->(∀c o,s.heap.get? c=some o->h'.get? c=some o)->Q (.ref (s.heap.objs.size+4)) { s with heap:=h' }):
  GL (model prog w) A (call (.type "zip") [a.val,b.val]) Q E s:=by
 refine callType_new F.called_zip (by decide) (F.typeCall_zip_2 _ _) (F.newCall_zip_2 _ _) (λobj=>F.args_object_init_3 obj _ _) F.entry_zip_new (Tn a b xs ys) ⟨k1,k2,?_⟩;have d:(g1 s.heap a).objs.size=s.heap.objs.size+1:=AY ..;have e:(g2 s.heap a b).objs.size=s.heap.objs.size+2:=by rw[AY,d]
 have f:(g3 s.heap a b).objs.size=s.heap.objs.size+3:=by rw[AY,e]
 have i:(g4 s.heap a b).objs.size=s.heap.objs.size+4:=by rw[AY,f]
 have m:(g5 s.heap a b).objs.size=s.heap.objs.size+5:=by rw[AY,i]
 have g:(g5 s.heap a b).get? (g4 s.heap a b).objs.size=some _:=Ap _ rfl;have j:(g5 s.heap a b).get? (g3 s.heap a b).objs.size=some _:=Ac _ (Ap _ rfl);have k:(g5 s.heap a b).get? (g2 s.heap a b).objs.size=some _:=Ac _ (Ac _ (Ap _ rfl));have l:(g5 s.heap a b).get? (g1 s.heap a).objs.size=some b.obj:=Ac _ (Ac _ (Ac _ (Ap _ rfl)));have e1:(g5 s.heap a b).get? s.heap.objs.size=some a.obj:=Ac _ (Ac _ (Ac _ (Ac _ (Ap _ rfl))));show _/\_;rw[e,f,i] at g;rw[d,e] at k;rw[f] at j;rw[d] at l;rw[i];exact⟨⟨_,g,Y⟩,h _ g k j (.zero e1) (.zero l) m λc o q=>Ac _ (Ac _ (Ac _ (Ac _ (Ac _ q))))⟩
end LZ
namespace L2
open LZ (Src)
def bZ(K:G5)(H:Hp):Src->List V->Prop
 |.lst a,xs=>aP K H a xs
 |.tup a,xs=>aQ K H a xs
 |.txt x _,xs=>x.cps.all (·<128)=true/\xs=x.cps.toList.map λc=>V.str ⟨#[c]⟩
theorem Inv.src(I:Inv X aA σ H s)(h:bZ X.K H r xs):LZ.At s.heap r xs:=by
 cases r with
 |lst a=>obtain⟨aD,b,p,_⟩:=I.list h;exact⟨aD,b,p.isList⟩
 |tup a=>obtain⟨aD,b,p,_⟩:=I.tuple h;exact⟨aD,b,p⟩
 |txt x t=>exact h
theorem Inv.src_inj(I:Inv X aA σ H s)(h:bZ X.K H r xs)(h':bZ X.K H r ys):xs=ys:=by
 cases r with
 |lst a=>exact I.list_inj h h'
 |tup a=>exact I.tuple_inj h h'
 |txt x t=>exact h.2.trans h'.2.symm
def NW(K:G5)(a b:Src):It:=
 ⟨λi H=>∃(xs ys:List V) (x y:V),bZ K H a xs/\bZ K H b ys/\xs[i]?=some x/\ys[i]?=some y,λi H v H'=>∃T x y,v=.ref T/\H T=none/\H'=aK H T (.tup [x,y])/\(∀xs,bZ K H a xs->xs[i]?=some x)/\∀ys,bZ K H b ys->ys[i]?=some y,λi H=>∃xs ys:List V,bZ K H a xs/\bZ K H b ys/\xs.length<=i⟩
theorem Up{P:GJ}{w:GQ}{K:G5}{elts:List GR}{kk:Nat}{tpos:Pos}{a b:Src}{z TI TO i1 i2:Z}(D:LZ.Apart z TI TO i1 i2 a b):
  eV P w K (.Tuple elts kk tpos) (NW K a b) [z,TI,TO,i1,i2] z (λi h=>IsZip h z TI TO .none/\IsPair h TI (.ref i1) (.ref i2)/\(∃x y,IsPair h TO x y)/\LZ.bO h i1 a i/\LZ.bO h i2 b i) where
 mem:=by simp
 obj:=λi h st c hc=>by
  obtain⟨hz,hTI,⟨x,y,hTO⟩,h1,h2⟩:=st;have e':c=z\/c=TI\/c=TO\/c=i1\/c=i2:=by simpa using hc
  rcases e' with q | q | q | q | q
  ·rw[q];exact⟨_,hz,λv q=>nomatch q⟩
  ·rw[q];exact⟨_,hTI,λv q=>nomatch q⟩
  ·rw[q];exact⟨_,hTO,λv q=>nomatch q⟩
  ·rw[q];exact h1.some_
  ·rw[q];exact h2.some_
 keep:=λi h h' st k=>by obtain⟨hz,hTI,⟨x,y,hTO⟩,h1,h2⟩:=st;exact⟨k z (by simp) _ hz,k TI (by simp) _ hTI,⟨x,y,k TO (by simp) _ hTO⟩,h1.at_ λo q=>k i1 (by simp) o q,h2.at_ λo q=>k i2 (by simp) o q⟩
 item:=by
  intro X hP hw hK hc i aA s σ H E I hf st hg;subst hP hw hK;obtain⟨hz,hTI,⟨x0,y0,hTO⟩,h1,h2⟩:=st;obtain⟨xs,ys,x,y,hqx,hqy,hx,hy⟩:=hg;have hzl:z<s.heap.objs.size:=Ao hz;refine LZ.hJ D hz hTI hTO h1 h2 (I.src hqx) (I.src hqy) hx hy λu u2 h' tk ru ru2 z' TO' h1' h2' hT hsz hk=>?_;refine zA Y (wpAny_letOwnedTupleGo_zip (s:={ s with heap:=h',toks:=tk }) z' λh'' z'' sb=>?_);have hT2:h''.get? s.heap.objs.size=some { cls:=.type "tuple",data:=.seq #[u,u2] }:=(sb.2 _ (Dm hzl)).trans hT;have new:aT X.prog X.w (aK H s.heap.objs.size (.tup [x,y])) h'' s.heap.objs.size (.tup [x,y]):=⟨⟨by show 2<=GI;decide,Nq hT2 rfl⟩,[u,u2],.cons ru (.cons ru2 .nil),⟨_,hT2,Y,_,Y⟩⟩
  have I1:Inv X aA σ (aK H s.heap.objs.size (.tup [x,y])) { s with heap:=h'',toks:=tk }:=I.turnedNew (t':=tk) (ch:=[z,TI,TO,i1,i2]) (λc o hb q=>(sb.2 c (λq'=>hb (by simp[q']))).trans (hk c o (λq'=>hb (by simp[q'])) (λq'=>hb (by simp[q'])) (λq'=>hb (by simp[q'])) (λq'=>hb (by simp[q'])) q)) hf (Ag _) new
  refine⟨.ref s.heap.objs.size,_,I1,Y,zT _ x y Y ⟨I.hok.fresh (Ag _),Y,λl hl=>by rwa [I.src_inj hl hqx],λl hl=>by rwa [I.src_inj hl hqy]⟩,⟨z'',?_,⟨u,u2,?_⟩,?_,?_⟩,λc hcm=>?_⟩
  ·exact(sb.2 _ D.TIz).trans (hk _ _ D.TIz D.TITO D.TIi1 D.TIi2 hTI)
  ·exact(sb.2 _ D.TOz).trans TO'
  ·exact h1'.at_ λo q=>(sb.2 _ D.i1z).trans q
  ·exact h2'.at_ λo q=>(sb.2 _ D.i2z).trans q
  ·have hlt:c<s.heap.objs.size:=by
    have e':c=z\/c=TI\/c=TO\/c=i1\/c=i2:=by simpa using hcm
    rcases e' with q | q | q | q | q
    ·rwa [q]
    ·rw[q];exact Ao hTI
    ·rw[q];exact Ao hTO
    ·rw[q];obtain⟨_,e1,_⟩:=h1.some_;exact Ao e1
    ·rw[q];obtain⟨_,e2,_⟩:=h2.some_;exact Ao e2
   rw[Hf (AL hlt)];exact(hf c hcm).1
 done:=by intro X hP hw hK hc i aA s σ H E I hf st hg;subst hP hw hK;obtain⟨hz,hTI,⟨x0,y0,hTO⟩,h1,h2⟩:=st;obtain⟨xs,ys,hqx,hqy,hend⟩:=hg;exact LZ.iN (I.ok.hd hc) D hz hTI hTO h1 (I.src hqx) (AT hend) λh' hk=>⟨Y,I.turnedL (t':=s.toks) (ch:=[z,TI,TO,i1,i2]) (λc o hb q=>hk c o (λq'=>hb (by simp[q'])) (λq'=>hb (by simp[q'])) (λq'=>hb (by simp[q'])) (λq'=>hb (by simp[q'])) q) hf⟩
 self:=λA i s Q E st h=>wpAny_pyIter_zip st.1 h
def S1(cond:List V->Hp->(It->Hp->Prop)->Prop)(ta:TA):TI:=λσ H R=>ta σ H λvs H1=>cond vs H1 R
theorem Qh{X:Cx}{cond:List V->Hp->(It->Hp->Prop)->Prop}{e f:GR}{ta:TA}{p pos tpos:Pos}{L:List GR}{U:Nat}(u:∀vs H1 R,cond vs H1 R->∃k m,vs=[k,m]/\∀A w,RelV k A->RelV m w->∃a b xs ys,Src.val a=A/\Src.val b=w/\bZ X.K H1 a xs/\bZ X.K H1 b ys/\R (NW X.K a b) H1)(M:Gl X "zip")(W:X.mg "zip"=none)(N:PA X [e,f] ta)
  (hs:GO [e,f] X.env=(false,eval e X.env)::GO [f] X.env:=by rfl) (hpl:(backTo pos (GO [f] X.env)).any (·.1)=false:=by rfl):
  PI X (.Tuple L U tpos) (.Call (.Name "zip" p) [e,f] [] pos) (S1 cond ta):=by
 intro aA s σ H R I h;refine Call_ (KW I M W Uw (Bw (aW (N pos aA s σ H _ I h) λus d qQ=>?_) hs hpl));obtain⟨vs,H1,i,r1,B⟩:=qQ;obtain⟨k,m,ex,S⟩:=u _ _ _ B;clear B;subst ex;cases r1 with
 |cons r j=>
  cases j with
  |cons P j=>
   cases j;obtain⟨a,b,xs,ys,e1,f,d9,G,q⟩:=S _ _ r P;subst e1 f;have v:∀{c:Src} {zs:List V} {l:Z},bZ X.K H1 c zs->c.has l->l<d.heap.objs.size:=λ{c zs l} u g=>by
    have at_:=i.src u;cases c with
    |lst a=>cases g;obtain⟨_,_,o,n,_⟩:=at_;exact Ao n
    |tup a=>cases g;obtain⟨_,_,o,n,_⟩:=at_;exact Ao n
    |txt x t=>exact g.elim
   refine LZ.gO (i.src d9) (i.src G) λh' F d8 T h1 h2 aa K=>wpAny_pyIter_zip F ?_;have d7:Inv X aA σ H1 { d with heap:=h' }:=i.kept (t':=d.toks) K;have D:LZ.Apart (d.heap.objs.size+4) (d.heap.objs.size+2) (d.heap.objs.size+3) d.heap.objs.size (d.heap.objs.size+1) a b:=by
    have ne:∀{x y:Nat},x<y\/y<x->(x:Z)≠y:=λh q=>by
     have q:(_:Nat)=_:=q
     lia
    have C:∀l:Nat,l<d.heap.objs.size->(l:Z)≠d.heap.objs.size+4/\(l:Z)≠d.heap.objs.size+3/\(l:Z)≠d.heap.objs.size/\(l:Z)≠d.heap.objs.size+1:=λl h=>⟨ne (.inl (by lia)),ne (.inl (by lia)),ne (.inl h),ne (.inl (by lia))⟩;exact⟨ne (.inl (by lia)),ne (.inl (by lia)),ne (.inl (by lia)),ne (.inl (by lia)),ne (.inl (by lia)),ne (.inr (by lia)),ne (.inr (by lia)),ne (.inr (by lia)),ne (.inr (by lia)),ne (.inl (by lia)),λl g=>C l (v d9 g),λl g=>C l (v G g)⟩
   refine zD Y d7 (Up D) ⟨F,d8,⟨_,_,T⟩,h1,h2⟩ (λc Q=>?_) q;have d6:c=d.heap.objs.size+4\/c=d.heap.objs.size+2\/c=d.heap.objs.size+3\/c=d.heap.objs.size\/c=d.heap.objs.size+1:=by simpa using Q
   have E:d.heap.objs.size<=c:=by
    rcases d6 with z | z | z | z | z
    ·rw[z];exact Cd _ _
    ·rw[z];exact Cd _ _
    ·rw[z];exact Cd _ _
    ·rw[z];exact Ag _
    ·rw[z];exact Cd _ _
   exact i.fpOk E (i.hok.fresh E)
abbrev Xd(K:G5)(a b:Z):It:=NW K (.tup a) (.tup b)
def rB(K:G5)(ta:TA):TI:=S1 (λvs H1 R=>∃a b xs ys,vs=[.ref a,.ref b]/\aQ K H1 a xs/\aQ K H1 b ys/\R (Xd K a b) H1) ta
theorem SL(d:Gl X "zip")(g:X.mg "zip"=none)(c:PA X [e,e2] ta)
  (hs:GO [e,e2] X.env=(false,eval e X.env)::GO [e2] X.env:=by rfl) (hpl:(backTo pos (GO [e2] X.env)).any (·.1)=false:=by rfl):
  PI X (.Tuple elts kk tpos) (.Call (.Name "zip" p) [e,e2] [] pos) (rB X.K ta):=
 Qh (λvs H1 R qQ=>by obtain⟨a,b,xs,ys,e,h1,h2,q⟩:=qQ;exact ⟨_,_,e,λj i h f=>zX (.tup a) (.tup b) xs ys h.symm f.symm h1 h2 q⟩) d g c hs hpl
def Zb(K:G5)(ta:TA):TI:=S1 (λvs H1 R=>∃a b xs ys,vs=[.ref a,.ref b]/\aP K H1 a xs/\aQ K H1 b ys/\R (NW K (.lst a) (.tup b)) H1) ta
theorem VS(d:Gl X "zip")(g:X.mg "zip"=none)(c:PA X [e,e2] ta)
  (hs:GO [e,e2] X.env=(false,eval e X.env)::GO [e2] X.env:=by rfl) (hpl:(backTo pos (GO [e2] X.env)).any (·.1)=false:=by rfl):
  PI X (.Tuple elts kk tpos) (.Call (.Name "zip" p) [e,e2] [] pos) (Zb X.K ta):=
 Qh (λvs H1 R qQ=>by obtain⟨a,b,xs,ys,e,h1,h2,q⟩:=qQ;exact ⟨_,_,e,λj i h f=>zX (.lst a) (.tup b) xs ys h.symm f.symm h1 h2 q⟩) d g c hs hpl
end L2
namespace L2
theorem ZB{K:G5}{a:Z}{xs ys:List V}{g:TG}{te:TE}{σ:List (Option V)}{vs:List Nat}{u:Hp->Prop}{H1:Hp}{D:Z}(n:aP K H1 a xs)(v:ys.length=xs.length)(hz:ys.length<=1000)(t:H1 D=none)
  (step:∀(i:Nat) (x y:V) (k:Hp),xs[i]?=some x->ys[i]?=some y->aG H1 k->∀(R:VK) (d7:Hp->Prop),R y k->g x (Ia σ vs) k λc H2=>Ia c vs=Ia σ vs/\R7 c H2 λb f=>if b=true then te c f R else d7 f)
  (hQ:∀H',aG H1 H'->H' D=some (.lst ys)->u H'):
  ∃W:Nat->Nat->Hp->Prop,(∃m,W 0 m (aK H1 D (.lst [])))/\∀i m H,W i m H->((gN K a).stop i H/\u H)\/((gN K a).go i H/\∃l:Hp->Prop,(∀H',l H'->∃q,q<m/\W (i+1) q H') ∧
   ∀x H',(gN K a).yld i H x H'->g x (Ia σ vs) H' λc H2=>Ia c vs=Ia σ vs/\R7 c H2 λb f=>if b=true then te c f λy s=>∃aE,s D=some (.lst aE)/\aE.length<GI/\l (aK s D (.lst (aE++[y]))) else l f):=by
 refine zI (λi m H=>m=xs.length-i/\i<=xs.length/\aG H1 H/\H D=some (.lst (ys.take i))) ⟨xs.length,by simp,Az _,λb o h=>by rwa [Hf (Hk h t)],G9⟩ ?_;rintro i m H ⟨rfl,hi,d,hd⟩;by_cases p:i<xs.length
 ·have r:ys[i]?=some (ys[i]'(by lia)):=Aa _;refine .inr ⟨⟨xs,xs[i],d.seq n,by simp[p]⟩,zI (λH'=>aG H1 H'/\H' D=some (.lst (ys.take (i+1)))) (λH' ⟨h1,h2⟩=>⟨xs.length-(i+1),by lia,Y,p,h1,h2⟩) (λx H' j=>?_)⟩;obtain⟨e,j⟩:=j;subst e;refine step i x _ _ (j xs (d.seq n)) r d _ _ ⟨_,hd,?_,λb o h=>?_,?_⟩
  ·rw[AJ];exact AD (Dc _ _) (Kh hz)
  ·rw[Hf (Hk h t)];exact d _ _ h
  ·rw[G9,DE,r];rfl
 ·have e:i=xs.length:=by lia
  subst e;refine .inl ⟨⟨xs,d.seq n,Ag _⟩,hQ H d ?_⟩;rw[hd,<-v,AZ]
end L2
namespace Lu
open L2 Lute LuR LuW
def cT(x:Iv):List V:=[.int x.a,.int x.b,.int x.c,.int x.e,.int (x.d:Int)]
def dN(P:Lz):Nat->Nat
 |0=>1
 |i+1=>BI (dN P i) (P i).2
theorem bX.items(h:bX H l P):∃bs:List Z,H l=some (.lst (bs.map V.ref))/\bs.length=4/\∀i b,bs[i]?=some b->H b=some (.tup [.int (P i).1,.int ((P i).2:Int)]):=by
 obtain⟨f,j,d,e,c,h1,h2,k,g⟩:=h;refine⟨[f,j,d,e],c,Y,λi b a=>?_⟩
 match i,a with
 |0,a=>cases a;exact h1
 |1,a=>cases a;exact h2
 |2,a=>cases a;exact k
 |3,a=>cases a;exact g
 |i+4,a=>simp at a
def NC(K:G5):Sp:=λvs H Q _=>∃(l:Z) (P:Lz),vs=[.ref l]/\bX H l P/\(∀j,1<=(P j).2)/\cY P/\∀(H':Hp) (b:Z),aG H H'->H' b=some (.tup (cT (cX P)))->Q (.ref b) H'
variable{P:GJ}{w:GQ}{K:G5}{mg:Str->Option O}{base:Heap}{B C:Z}
theorem Uc:aH ["powers","d","power","numbers"] ["powers"] (Hj Im):=HZ
theorem Uh{f:Z}{fd:GP}(F:bI K "with_common_parts" "with_common_parts" Im f fd)(T:cS K mg B C)(S:bQ P w K mg base C 1 "common_factor" ["a","b"] Wj):
  aN P w K mg base (aS P w C) 2 f fd ["powers"] (NC K):=by
 refine F.okX Uc (λvs H Q E h=>?_) (λaC A outer s H vs Q E X h=>?_)
 ·obtain⟨l,c,rfl,_⟩:=h;rfl
 ·obtain⟨l,c,rfl,W,pos,I,k⟩:=h;refine⟨_,He (Ms (i:=1) Uc.nd rfl (Or.inr rfl) Hm)
   (He (IX Jn rfl (Iz (J 0)) (cM 2 Uc.nd)
    (Hh (Ms (i:=1) Uc.nd rfl (Or.inr rfl) (HH LN (HH JC (J 1) (IL JB (J 2) Hm (λ_ _=>rfl))) (HL S X rfl (G8 (J 1) (G8 (IL JB (J 2) Hm (λ_ _=>rfl)) Hg)))))))
   (He (NL (i:=3) (own:=[("power",2)]) (te:=dQ (rI eZ λi j=>.int (i*j)) (dQ (WU K) (HW 2) (tC (.int 0))) (dQ (rI Zr λi j=>.int (i / j)) (HW 1) (dQ (WU K) (HW 2) (tC (.int 1))))) rfl Uc.nd rfl rfl rfl (Iz (J 0)) (show bS ["powers","d","power","numbers"] (Hj Im) _ [("power",2)] from ⟨Y,by decide,by decide,by decide,by decide⟩)
    (λ_ _ _ _ _=>cM 2 Uc.nd) (λ_ _ _ _ _=>Jr)
    (λ_ _ _ _ _=>HH JC (IL JB (J 2) Hm (λ_ _=>rfl)) (HH LN (J 1) (IL JB (J 2) Hm (λ_ _=>rfl)))))
   (Hh (Hx (Ik (G8 (IL IR (J 3) Hm (λ_ _=>rfl)) (G8 (IL IR (J 3) Hm (λ_ _=>rfl)) (G8 (IL IR (J 3) Hm (λ_ _=>rfl)) (G8 (IL IR (J 3) Hm (λ_ _=>rfl)) (G8 (J 1) Hg)))))))))),?_⟩
  obtain⟨bs,n,z,q⟩:=W.items;have L:∀(i:Nat) (y:V),(bs.map V.ref)[i]?=some y->∃b,y=.ref b/\i<4/\H b=some (.tup [.int (c i).1,.int ((c i).2:Int)]):=λi y d=>by
   rw[Ah] at d;cases hb':bs[i]? with
   |none=>rw[hb'] at d;cases d
   |some b=>rw[hb'] at d;exact⟨b,(Option.some.inj d).symm,by rw[<-z];exact(Al.mp hb').1,q i b hb'⟩
  refine zA Y (zE Y ⟨_,aP.of n⟩ (Jg (K:=K) (a:=l) (xs:=bs.map V.ref) (λi σ H'=>∃u:Option V,σ=[some (.ref l),some (.int ((dN c i:Nat):Int)),u,none]/\H'=H) ⟨none,Y,Y⟩ (λi σ H' _ ⟨_,_,e⟩=>by rw[e];exact aP.of n) ?_ ?_))
  ·rintro i y σ H' hi ⟨u,rfl,rfl⟩;obtain⟨b,rfl,G,g⟩:=L i y hi;have t:=pos i;have d8:=I i;have r:CF ((dN c i:Nat):Int) ((c i).2:Int)=A5 (dN c i) (c i).2:=rfl;have g1:1<=A5 (dN c i) (c i).2:=Nat.gcd_pos_of_pos_right _ t;have g2:A5 (dN c i) (c i).2<=(c i).2:=Nat.gcd_le_right _ t;refine zA Y (zA Y (zH Y Y (aQ.of g) (Jo (j:=1) rfl rfl) (zF Y Y (.inr ⟨by lia,by lia⟩) ?_)));refine zA Y (zA Y (zH Y Y (aQ.of g) (Jo (j:=1) rfl rfl) (zB Y (by lia) (zF Y Y ⟨by rw[r];lia,by rw[r];lia⟩ ?_))));refine⟨some (.ref b),?_,Y⟩;have e:((dN c i:Nat):Int)*((c i).2:Int) / ((CF ((dN c i:Nat):Int) ((c i).2:Int):Nat):Int)=((dN c (i+1):Nat):Int):=by rw[r];show _=((BI (dN c i) (c i).2:Nat):Int);unfold BI;rw[CC,B7]
   rw[<-e];rfl
  ·rintro σ H1 ⟨u,rfl,rfl⟩;have v:(bs.map V.ref).length=4:=by rw[Ab,z]
   rw[v];have N:dN c 4=JJ c:=rfl;rw[N];have cp:=N5 pos;refine zA Y (zE Y ⟨_,aP.of n⟩ (λD M=>ZB (K:=K) (xs:=bs.map V.ref) (ys:=[.int (cX c).a,.int (cX c).b,.int (cX c).c,.int (cX c).e]) (aP.of n) (by rw[v];rfl) (by show 4<=1000;decide) M ?_ ?_))
   ·intro i x y d6 p d m R d7 d9;obtain⟨b,rfl,G,g⟩:=L i x p;have t:=pos i;have d8:=I i;refine⟨Y,?_⟩;have U:y=.int ((c i).1*(((JJ c:Nat):Int) / ((c i).2:Int))):=by
     match i,G,d with
     |0,_,d=>cases d;show V.int ((c 0).1*((JJ c / (c 0).2:Nat):Int))=_;rw[CC]
     |1,_,d=>cases d;show V.int ((c 1).1*((JJ c / (c 1).2:Nat):Int))=_;rw[CC]
     |2,_,d=>cases d;show V.int ((c 2).1*((JJ c / (c 2).2:Nat):Int))=_;rw[CC]
     |3,_,d=>cases d;show V.int ((c 3).1*((JJ c / (c 3).2:Nat):Int))=_;rw[CC]
    rw[U] at d9;exact⟨_,Y,zH Y Y (aQ.of (m _ _ g)) (Jo (j:=0) rfl rfl) ⟨_,Y,_,Y,zH Y Y (aQ.of (m _ _ g)) (Jo (j:=1) rfl rfl) (zF Y Y ⟨by lia,by lia⟩ ⟨_,_,Y,Y,.inl ⟨by lia,by lia⟩,d9⟩)⟩⟩
   ·intro H' m hd;refine zA Y (zH Y Y (aP.of hd) (Jo (j:=0) rfl rfl) (zA Y (zH Y Y (aP.of hd) (Jo (j:=1) rfl rfl) (zA Y (zH Y Y (aP.of hd) (Jo (j:=2) rfl rfl) (zA Y (zH Y Y (aP.of hd) (Jo (j:=3) rfl rfl) (zE Y (by show 5<=GI;decide) (λb q=>?_)))))))));exact k _ b (λx o p=>by rw[Hf (Hk (m _ _ p) q)];exact m _ _ p) G9
end Lu
namespace L2
theorem aG.tup{K:G5}{H H':Hp}{a:Z}{xs:List V}(e:aG H H')(h:aQ K H a xs):aQ K H' a xs:=by
 rcases h with (h | ⟨o,h⟩) | h
 ·exact .inl (.inl (e _ _ h))
 ·exact .inl (.inr ⟨o,e _ _ h⟩)
 ·exact .inr h
theorem Xo{K:G5}{a b:Z}{xs ys zs:List V}{g:TG}{te:TE}{σ:List (Option V)}{vs:List Nat}{s:Hp->Prop}{H1:Hp}{D:Z}(k:aQ K H1 a xs)(n:aQ K H1 b ys)(h1:ys.length=xs.length)(E:zs.length=xs.length)(hz:zs.length<=1000)(q:H1 D=none)
  (step:∀(i:Nat) (x y z:V) (j:Hp) (T:Z),xs[i]?=some x->ys[i]?=some y->zs[i]?=some z->j T=some (.tup [x,y])->∀(R:VK) (d7:Hp->Prop),R z j->g (.ref T) (Ia σ vs) j λd H2=>Ia d vs=Ia σ vs/\R7 d H2 λb f=>if b=true then te d f R else d7 f)
  (hQ:∀H',aG H1 H'->H' D=some (.lst zs)->s H'):
  ∃W:Nat->Nat->Hp->Prop,(∃m,W 0 m (aK H1 D (.lst [])))/\∀i m H,W i m H->((Xd K a b).stop i H/\s H)\/((Xd K a b).go i H/\∃l:Hp->Prop,(∀H',l H'->∃u,u<m/\W (i+1) u H') ∧
   ∀x H',(Xd K a b).yld i H x H'->g x (Ia σ vs) H' λd H2=>Ia d vs=Ia σ vs/\R7 d H2 λb f=>if b=true then te d f λy w=>∃aE,w D=some (.lst aE)/\aE.length<GI/\l (aK w D (.lst (aE++[y]))) else l f):=by
 refine zI (λi m H=>m=xs.length-i/\i<=xs.length/\aG H1 H/\H D=some (.lst (zs.take i))) ⟨xs.length,by simp,Az _,λb o h=>by rwa [Hf (Hk h q)],G9⟩ ?_;rintro i m H ⟨rfl,hi,c,hd⟩;by_cases r:i<xs.length
 ·have p:zs[i]?=some (zs[i]'(by lia)):=Aa _;refine .inr ⟨⟨xs,ys,xs[i],ys[i]'(by lia),c.tup k,c.tup n,by simp[r],Aa _⟩,zI (λH'=>aG H1 H'/\H' D=some (.lst (zs.take (i+1)))) (λH' ⟨h1,h2⟩=>⟨xs.length-(i+1),by lia,Y,r,h1,h2⟩) (λv H' B=>?_)⟩;obtain⟨T,x,y,rfl,t,rfl,F,C⟩:=B;have A:D≠T:=Hk hd t;refine step i x y _ _ T (F xs (c.tup k)) (C ys (c.tup n)) p G9 _ _ ⟨_,by rwa [Hf A],?_,λb o h=>?_,?_⟩
  ·rw[AJ];exact AD (Dc _ _) (Kh hz)
  ·rw[Hf (Hk h q),Hf (Hk (c _ _ h) t)];exact c _ _ h
  ·rw[G9,DE,p];rfl
 ·have e:i=xs.length:=by lia
  subst e;refine .inl ⟨⟨xs,ys,c.tup k,c.tup n,Ag _⟩,hQ H c ?_⟩;rw[hd,<-E,AZ]
end L2
namespace Lu
open L2 Lute LuR LuW
def gL(x:Iv):Bool:=decide (-99<=x.a/\x.a<=99)&&(decide (-99<=x.b/\x.b<=99)&&(decide (-99<=x.c/\x.c<=99)&&(decide (-99<=x.e/\x.e<=99)&&decide (x.d<=24))))
theorem V4(h1:x.common=1)(h2:1<=x.d):gL x=x.ok:=by
 have w:∀z:Int,within z=decide (-99<=z/\z<=99):=λz=>by unfold within MOST;rw[B6];simp
 unfold gL Iv.ok;rw[w,w,w,w,h1,decide_eq_true h2];simp only[D4,beq_self_eq_true,Bool.and_true];rfl
def L8(K:G5):Sp:=λvs H Q _=>∃(b:Z) (x:Iv),vs=[.ref b]/\aQ K H b (cT x)/\∀H',aG H H'->Q (.bl (gL x)) H'
def Ml(K:G5):Sp:=λvs H Q _=>∃(b:Z) (x:Iv),vs=[.ref b]/\aQ K H b (cT x)/\x.ok=true/\∀H',aG H H'->Q (.int (width x)) H'
theorem V2(x:Iv):Q1 (cT x) none (some 4)=[.int x.a,.int x.b,.int x.c,.int x.e]:=by unfold Q1 cT;rw[show(some (4:Int))=some ((4:Nat):Int) from rfl,HT.fC,HT.fX];rfl
theorem M9(x:Iv):¬(HT.bN (cT x).length 0 none=0/\HT.bN (cT x).length (cT x).length (some 4)=(cT x).length):=by rw[show(some (4:Int))=some ((4:Nat):Int) from rfl,HT.fC,HT.fX];unfold cT;simp
section
variable{P:GJ}{w:GQ}{K:G5}{mg:Str->Option O}{base:Heap}{B C:Z}
theorem lJ:aH ["numbers","power"] ["numbers"] (Hj IZ):=HZ
theorem UA{f:Z}{fd:GP}(F:bI K "is_within_bounds" "is_within_bounds" IZ f fd)(T:cS K mg B C):aN P w K mg base (aS P w C) 1 f fd ["numbers"] (L8 K):=by
 refine F.okX lJ (λvs H Q E h=>?_) (λI A outer s H vs Q E G h=>?_)
 ·obtain⟨b,x,rfl,_⟩:=h;rfl
 ·obtain⟨b,x,rfl,m,k⟩:=h;refine⟨_,He (IX Jn rfl (Wn (L3 Qi (J 0) Nk (No Hm))) (cM 1 lJ.nd)
    (Hh (HG (Hs LP (HE QF (by rfl) T.abs Qj (G8 (J 1) Hg)) (Hr T.cMP) (Hw _)) (Hh (Hx YV)) Hu)))
   (Hh (Hx (Mp Mg (IL JB (J 0) Hm (λ_ _=>rfl)) (Hr T.cMA) (Hw _)))),?_⟩
  refine zA Y (zA Y (zF Y m (M9 x) (λp D=>?_)));rw[V2];have g:aG H (aK H p (.tup [.int x.a,.int x.b,.int x.c,.int x.e])):=λc o h=>by rwa [Hf (Hk h D)]
  have r:∀z:Int,99<(if z<0 then -z else z)->¬(-99<=z/\z<=99):=λz h q=>by split at h <;> lia
  have u:∀z:Int,¬99<(if z<0 then -z else z)->(-99<=z/\z<=99):=λz h=>by split at h <;> lia
  refine zE Y ⟨_,aQ.of G9⟩ (SW (K:=K) (a:=p) (xs:=[.int x.a,.int x.b,.int x.c,.int x.e]) (λi σ H'=>∃v:Option V,σ=[some (.ref b),v]/\H'=aK H p (.tup [.int x.a,.int x.b,.int x.c,.int x.e])/\∀j,j<i->∀z,[x.a,x.b,x.c,x.e][j]?=some z->(-99<=z/\z<=99)) ⟨none,Y,Y,λj n=>by lia⟩ (λi σ H' _ ⟨_,_,e,_⟩=>by rw[e];exact aQ.of G9) ?_ ?_)
  ·rintro i y σ H' hi ⟨v,rfl,rfl,all⟩;obtain⟨z,d,rfl⟩:∃z,[x.a,x.b,x.c,x.e][i]?=some z/\y=.int z:=by
    match i,hi with
    |0,hi=>cases hi;exact⟨_,Y,Y⟩
    |1,hi=>cases hi;exact⟨_,Y,Y⟩
    |2,hi=>cases hi;exact⟨_,Y,Y⟩
    |3,hi=>cases hi;exact⟨_,Y,Y⟩
    |i+4,hi=>simp at hi
   refine zA Y (zA Y (zB Y Y (zA Y ?_)));refine HN (λh=>?_) λh=>?_
   ·have h':=r z (of_decide_eq_true h);have e:gL x=false:=by
     unfold gL
     match i,d with
     |0,d=>cases d;rw[decide_eq_false h'];rfl
     |1,d=>cases d;rw[decide_eq_false h'];simp
     |2,d=>cases d;rw[decide_eq_false h'];simp
     |3,d=>cases d;rw[decide_eq_false h'];simp
     |i+4,d=>simp at d
    have:=k _ g
    rwa [e] at this
   ·refine⟨some (.int z),Y,Y,λj n t l=>?_⟩;by_cases q:j=i
    ·subst q;rw[d] at l;cases l;exact u z λz=>h (decide_eq_true z)
    ·exact all j (by lia) t l
  ·rintro σ H' ⟨v,rfl,rfl,all⟩;refine zA Y (zH Y Y (g.tup m) (Jo (j:=4) rfl rfl) (zB Y Y ?_));have e:gL x=decide ((x.d:Int)<=24):=by
    unfold gL;rw[decide_eq_true (all 0 (by simp) _ rfl),decide_eq_true (all 1 (by simp) _ rfl),decide_eq_true (all 2 (by simp) _ rfl),decide_eq_true (all 3 (by simp) _ rfl)];simp only[D4];rw[B6,decide_eq_true_eq,decide_eq_true_eq]
    lia
   have:=k _ g
   rwa [e] at this
theorem TB:aH ["interval","powers","total","power","logarithm"] ["interval"] (Hj Np):=HZ
theorem OF:G3 "sum"=some (.builtin "sum"):=by decide
theorem WP{f:Z}{fd:GP}(F:bI K "width" "width" Np f fd)(T:cS K mg B C):aN P w K mg base (aS P w C) 1 f fd ["interval"] (Ml K):=by
 refine F.okX TB (λvs H Q E h=>?_) (λaC A outer s H vs Q E hr h=>?_)
 ·obtain⟨b,x,rfl,_⟩:=h;rfl
 ·obtain⟨b,x,rfl,d9,ab,k⟩:=h;obtain⟨M,U,N⟩:=T.log;obtain⟨ba,bb,S,be,d1,d2,_⟩:=IQ ab;refine⟨_,He (bG 1 TB.nd (L3 Qi (J 0) Nk (No Hm)))
   (He (bG 2 TB.nd (HE (V1 rfl) (by rfl) T.sum OF (G8 (MV (own:=[("power",3),("logarithm",4)]) (g:=Tj K 2 (KH (IF 3) (KH (IF 4) T5))) (te:=dQ (rI eZ λi j=>.int (i*j)) (HW 3) (HW 4)) rfl TB.nd (SL (by rfl) T.zip (G8 (J 1) (G8 (Hr U) Hg)))
     (show bS ["interval","powers","total","power","logarithm"] (Hj Np) _ [("power",3),("logarithm",4)] from ⟨Y,by decide,by decide,by decide,by decide⟩)
     (λ_ _ _ _ _=>KO rfl (HU (cM 3 TB.nd) (HU (cM 4 TB.nd) JM))) (λ_ _ _ _ _=>Jr)
     (λ_ _ _ _ _=>HH JC (J 3) (J 4))) Hg)))
   (Hh (Hx (HH JC (J 2) (HH LN (Hr T.cCP) (IL JB (J 0) Hm (λ_ _=>rfl))))))),?_⟩
  refine zA Y (zA Y (zF Y d9 (M9 x) (λp W=>?_)));rw[V2];have L:aG H (aK H p (.tup [.int x.a,.int x.b,.int x.c,.int x.e])):=λc o h=>by rwa [Hf (Hk h W)]
  generalize d6:(6931471805599453094172321214581765680755:Int)=t at *;generalize ad:(10986122886681096913952452369225257046474:Int)=G at *;generalize aa:(16094379124341003746007593332261876395256:Int)=y at *;generalize ac:(19459101490553133051053527434431797296370:Int)=I at *;refine zA Y (zV Y (aQ.of G9) (N _) (λD X=>Xo (K:=K) (a:=p) (b:=M) (xs:=[.int x.a,.int x.b,.int x.c,.int x.e]) (ys:=[.int t,.int G,.int y,.int I]) (zs:=[x.a*t,x.b*G,x.c*y,x.e*I].map V.int) (aQ.of G9) (N _) rfl rfl (by show 4<=1000;decide) X ?_ ?_))
  ·intro i u v z Hi TT d r l hT R d7 hR;obtain⟨n,m,rfl,rfl,rfl,hn⟩:∃n m:Int,u=.int n/\v=.int m/\z=.int (n*m)/\(-99<=n/\n<=99):=by
    match i,d,r,l with
    |0,d,r,l=>cases d;cases r;cases l;exact zF Y Y Y ba
    |1,d,r,l=>cases d;cases r;cases l;exact zF Y Y Y bb
    |2,d,r,l=>cases d;cases r;cases l;exact zF Y Y Y S
    |3,d,r,l=>cases d;cases r;cases l;exact zF Y Y Y be
    |i+4,d,_,_=>simp at d
   exact zF Y (aQ.of hT) Y (zK Y (zF Y Y Y ⟨_,Y,_,Y,_,_,Y,Y,.inl ⟨by lia,by lia⟩,hR⟩))
  ·intro H' d8 hd;refine zB Y (aP.of hd) ?_;refine zA Y (zA Y (zH Y Y ((L.trans d8).tup d9) (Jo (j:=4) rfl rfl) (zF Y Y ⟨by lia,by lia⟩ (zF Y Y (.inr ?_) ?_))))
   ·have h0:(0:Int)<=5354228880 / (x.d:Int):=Int.ediv_nonneg (by decide) (by lia);have h1:(5354228880:Int) / (x.d:Int)<=5354228880:=Int.ediv_le_self _ (by decide);exact⟨by lia,by lia⟩
   ·have e:[x.a*t,x.b*G,x.c*y,x.e*I].sum*(5354228880 / (x.d:Int))=width x:=by
     unfold width eJ;rw[d6,ad,aa,ac];congr 1;simp only[BC,List.sum_nil]
     lia
    have q:=k _ (L.trans d8)
    rwa [<-e] at q
end
theorem aF(h:H b=none):aG H (aK H b o):=λc u a=>by rwa [Hf (Hk a h)]
theorem Kg(h:Ht r=-1):r=[]:=by
 cases r with
 |nil=>rfl
 |cons c u=>
  have:(c.toNat:Int)=-1:=h
  lia
theorem Kz(h:¬Ht r=-1):∃c u,r=c::u:=by
 cases r with
 |nil=>exact absurd rfl h
 |cons c u=>exact⟨c,u,Y⟩
theorem ZQ(p:Nat):fa 0 unison p []=.error p:=by rw[VE];rfl
def Lv(K:G5)(C:Z):Sp:=λvs H Q E=>∃(a:Z) (t:Bytes) (s e:Nat),vs=[.ref a,.int (s:Int),.int (e:Int)]/\aP K H a (tx t)/\s<=e/\e<=t.length ∧
 match HP s (st t s e) with
 |.error x=>fG C E x
 |.ok x=>∀(H':Hp) (b:Z),aG H H'->H' b=some (.tup (cT x))->x.ok=true->Q (.ref b) H'
section
variable{P:GJ}{w:GQ}{K:G5}{mg:Str->Option O}{base:Heap}{B C:Z}
theorem W5:aH ["text","start","end","cursor","powers","interval"] ["text","start","end"] (Hj Jp):=HZ
theorem Rn(F:bI K "read_interval" "read_interval" Jp f fd)(T:cS K mg B C)(M:fE P w K mg base B C)(DI:gD P w K mg base C B 1 "Cursor" ["self","text","place","end"] (NJ B))
  (DF:bQ P w K mg base C 6 "read_factors" ["cursor","powers"] (O2 K B C)) (DC:bQ P w K mg base C 2 "with_common_parts" ["powers"] (NC K)) (DB:bQ P w K mg base C 1 "is_within_bounds" ["numbers"] (L8 K)):
  aN P w K mg base (aS P w C) 7 f fd ["text","start","end"] (Lv K C):=by
 refine F.okX W5 (λvs H Q E h=>?_) (λaC A outer s H vs Q E hr h=>?_)
 ·obtain⟨a,t,s,e,rfl,_⟩:=h;rfl
 ·obtain⟨a,t,g,e,rfl,hS,ax,am,k⟩:=h;have S:=hr.mono (show 1<=6 by decide);have aa:=hr.mono (show 2<=6 by decide);have u:∀{i:Int} {j:Nat} {q:Pos} (v:GR) (p:Pos),GR.Constant (.int i) j q≠.Starred v p:=λv p h=>by cases h
  have nt:∀{l:List GR} {j:Nat} {q:Pos} (v:GR) (p:Pos),GR.Tuple l j q≠.Starred v p:=λv p h=>by cases h
  refine⟨_,dL.h (dL.cons ⟨bG 3 W5.nd (Ra DI aa rfl (G8 (J 0) (G8 (J 1) (G8 (J 2) Hg))))⟩
   (dL.cons (jE.set (i:=4) W5.nd rfl (Or.inl rfl) (dM.lst4 nt nt nt nt (dM.tup2 u u dM.int dM.int) (dM.tup2 u u dM.int dM.int) (dM.tup2 u u dM.int dM.int) (dM.tup2 u u dM.int dM.int)) X4 (.inl rfl))
   (dL.cons ⟨HG (Hs Ip (HB M.byte S (J 3)) (Hr T.cONE) (Hw _)) (Hh (Hv (HB M.adv S (J 3)))) (Hh (Hv (HL DF hr rfl (G8 (J 3) (G8 (J 4) Hg)))))⟩
   (dL.cons ⟨HG (Hs Ki (HB M.byte S (J 3)) (Hr T.cEND) (Hw _)) (Hh (HK T.xt aa rfl T.mC (Hy (J 3) rfl))) Hu⟩
   (dL.cons ⟨bG 5 W5.nd (HL DC aa rfl (G8 (J 4) Hg))⟩
   (dL.cons ⟨HG (MF (N1 (HL DB S rfl (G8 (J 5) Hg)))) (Hh (HK T.xt aa rfl T.mC (J 2))) Hu⟩
   (dL.one ⟨Hx (J 5)⟩))))))),?_⟩
  refine zA Y (zA Y (zA Y (λc dx ac aw ak=>?_)));refine zG Y G9 (λH1 al k1=>⟨Y,?_⟩);have s1:aG H H1:=aG.made ac aw k1;refine⟨(by show 2<=GI;decide),λI h0=>⟨(by show 2<=GI;decide),λy h1=>⟨(by show 2<=GI;decide),λd9 h2=>⟨(by show 2<=GI;decide),λD h3=>⟨(by show 4<=GI;decide),λl hl=>?_⟩⟩⟩⟩⟩;generalize af:aK H1 I (.tup [.int 0,.int 1])=X at *;generalize ag:aK X y (.tup [.int 0,.int 1])=d7 at *;generalize ae:aK d7 d9 (.tup [.int 0,.int 1])=A3 at *;generalize aj:aK A3 D (.tup [.int 0,.int 1])=G at *;have t1:aG H1 X:=by rw[<-af];exact aF h0
  have t2:aG X d7:=by rw[<-ag];exact aF h1
  have U:aG d7 A3:=by rw[<-ae];exact aF h2
  have N:aG A3 G:=by rw[<-aj];exact aF h3
  have R:aG G (aK G l (.lst [.ref I,.ref y,.ref d9,.ref D])):=aF hl;have e0:X I=some (.tup [.int 0,.int 1]):=by rw[<-af];exact G9
  have e1:d7 y=some (.tup [.int 0,.int 1]):=by rw[<-ag];exact G9
  have e2:A3 d9=some (.tup [.int 0,.int 1]):=by rw[<-ae];exact G9
  have e3:G D=some (.tup [.int 0,.int 1]):=by rw[<-aj];exact G9
  have hP:bX (aK G l (.lst [.ref I,.ref y,.ref d9,.ref D])) l iF:=zH G9 (R _ _ (N _ _ (U _ _ (t2 _ _ e0)))) (R _ _ (N _ _ (U _ _ e1))) (R _ _ (N _ _ e2)) (R _ _ e3);have V:aG H1 (aK G l (.lst [.ref I,.ref y,.ref d9,.ref D])):=((((t1.trans t2).trans U).trans N).trans R);have ar:H l=Option.none:=(s1.trans (((t1.trans t2).trans U).trans N)).free hl;generalize aK G l (.lst [.ref I,.ref y,.ref d9,.ref D])=H5 at *;have u5:bE K B H5 c a t g e:=⟨⟨dx,V _ _ al⟩,V.seq (s1.seq hS),ax,am⟩;have s5:aG H H5:=s1.trans V;have W:H5 c=some (.ins B dx (cf a g e)):=V _ _ al;have rest:∀(H':Hp) (n:Lz) (d6 q:Nat),bE K B H' c a t q e->bX H' l n->cZ n d6->cY n->HP g (st t g e)=QV (cX n) q (st t q e)->aG H H'->
    Q4 (Wb (N4 (dQ lG (Ol B "byte" (Se K B) [] E (HW 3) JL) (tC (.int (-1))))) (N3 C E (VP K (HW 3) "place")) Qx) (Q4 (Uv (MS (NC K) [] E (Ii (HW 4) JL)) (IF 5)) (Q4 (Wb (lK (tB (MS (L8 K) [] E (Ii (HW 5) JL)))) (N3 C E (HW 2)) Qx) (Tl (HW 5))))
     { nx:=λ_ H'=>Q .non H',rt:=Q } [some (.ref a),some (.int (g:Int)),some (.int (e:Int)),some (.ref c),some (.ref l),none] H':=by
   intro H' n d6 q u' ap ab az hR sH;obtain⟨ah,ai⟩:=u'.at_;refine zA Y (zC Y ai (HC _ _ _) (zL Y u' Y (zA Y ?_)));rw[ID];refine HN (λh=>?_) λh=>?_
   ·obtain⟨z,r,L⟩:=Kz (Lr h);rw[hR,L] at k;exact zA Y (zD Y ai T.cl T.nP (HA _ _ _) ⟨_,Y,λd hd=>k _ d G9⟩)
   ·have L:=Kg (Lc h);have hq:q=e:=(RW u'.len u'.le).mp L;rw[hR,L] at k;refine zA Y ⟨l,n,Y,ap,ab.pos,az,λH2 b s2 m=>?_⟩;have aq:gL (cX n)=(cX n).ok:=V4 ab.low (N5 ab.pos);refine zA Y (zB Y (aQ.of m) (λH3 s3=>zA Y ?_));rw[aq];cases hok:(cX n).ok with
    |false=>unfold QV at k;rw[hok] at k;refine⟨_,Y,_,Y,λd hd=>?_⟩;rw[<-hq];exact k _ d G9
    |true=>unfold QV at k;rw[hok] at k;exact⟨_,Y,k H3 b ((sH.trans s2).trans s3) (s3 _ _ m) hok⟩
  refine zA Y (zC Y W (HC _ _ _) (zL Y u5 Y (zA Y ?_)));rw[ID];refine HN (λh=>?_) λh=>?_
  ·have av:Ht (st t g e)=((49:UInt8).toNat:Int):=of_decide_eq_true h;obtain⟨r,ad⟩:=HD av;have au:=IG ad;have ay:=JF am ad;refine zA Y (zC Y W (HC _ _ _) (zG Y W (λH6 h6 d8=>?_)));refine rest H6 iF 0 (g+1) (u5.move d8 ⟨dx,h6⟩ ay) (hP.keep d8 W) U8 Qs ?_ (λb o m=>d8 _ _ (s5 _ _ m) (λz=>by rw[z,ac] at m;cases m));rw[OS,ad,au,S8];dsimp only;rw[G7 rfl];cases r with
   |nil=>rfl
   |cons z r=>rfl
  ·have ak:¬Ht (st t g e)=((49:UInt8).toNat:Int):=λz=>h (decide_eq_true z);have eR:HP g (st t g e)=fa 0 unison g (st t g e):=by
    rw[OS];cases L:st t g e with
    |nil=>rw[ZQ]
    |cons z r=>dsimp only;rw[G6 (IP ak z r L)]
   refine zA Y (zA Y (zP Y u5 hP ⟨λx hx=>?_,λH6 n d6 q u6 ao as an hf d8=>?_⟩))
   ·rwa [eR,hx] at k
   ·exact rest H6 n d6 q u6 ao as an (eR.trans hf) (λb o m=>d8 _ _ (s5 _ _ m) (λz=>by rw[z,ac] at m;cases m) (λz=>by rw[z,ar] at m;cases m))
end
theorem Td(a:q<=e):(st t p e).take (q-p)=st t p q:=by
 unfold st;rw[List.take_drop,List.take_take];by_cases h:p<=q
 ·rw[show p+(q-p)=q by lia,Gw a]
 ·rw[show p+(q-p)=p by lia,Fw (by rw[AJ];lia),Fw (by rw[AJ];lia)]
theorem Rr(t:Bytes):t.take (Ho t).length=Ho t:=by unfold Ho;have h:=congrArg (List.take (t.takeWhile J7).length) (EN (p:=J7) (l:=t));rw[Gx] at h;exact h.symm
theorem QM(h:J7 c=true):Ho (c::r)=c::Ho r:=by unfold Ho;rw[CH,G7 h]
theorem N9(h:J7 c=false):Ho (c::r)=[]:=by unfold Ho;rw[CH,G6 (by rw[h];exact Ak)]
theorem qD(h:Int):iD (.int h) [.int 44,.int 10,.int (-1)]=(decide (h=44) || (decide (h=10) || decide (h=-1))):=by
 unfold iD;simp only[BD,List.any_nil,Fi,gU];rw[B6];simp only[Bh,beq_iff_eq,decide_eq_true_eq]
 lia
def WD(K:G5)(B C:Z):Sp:=λvs H Q E=>∃(c a:Z) (t:Bytes) (p e:Nat),vs=[.ref c]/\bE K B H c a t p e ∧
 match HP p (Ho (st t p e)) with
 |.error x=>fG C E x
 |.ok x=>∀(H':Hp) (b:Z),bE K B H' c a t (p+(Ho (st t p e)).length) e->aL H H' c->H' b=some (.tup (cT x))->x.ok=true->Q (.ref b) H'
section
variable{P:GJ}{w:GQ}{K:G5}{mg:Str->Option O}{base:Heap}{B C:Z}
theorem lD:aH ["cursor","start"] ["cursor"] (Hj KF):=HZ
theorem Yn(F:bI K "read_note" "read_note" KF f fd)(T:cS K mg B C)(M:fE P w K mg base B C)(d8:bQ P w K mg base C 7 "read_interval" ["text","start","end"] (Lv K C)):
  aN P w K mg base (aS P w C) 8 f fd ["cursor"] (WD K B C):=by
 refine F.okX lD (λvs H Q E h=>?_) (λaC A outer s H vs Q E d9 h=>?_)
 ·obtain⟨c,a,t,p,e,rfl,_⟩:=h;rfl
 ·obtain⟨c,a,t,p,e,rfl,u,k⟩:=h;obtain⟨dx,hc⟩:=u.at_;have y:=d9.mono (show 1<=7 by decide);refine⟨_,He (bG 1 lD.nd (Hy (J 0) rfl))
   (He (IJ Jn (Hs Mb (HB M.byte y (J 0)) (Ik (G8 (Hr T.cCO) (G8 (Hr T.cNL) (G8 (Hr T.cEND) Hg)))) (by with_unfolding_all rfl)) (Hh (Hv (HB M.adv y (J 0)))))
   (Hh (Hx (HL d8 d9 rfl (G8 (Hy (J 0) rfl) (G8 (J 1) (G8 (Hy (J 0) rfl) Hg))))))),?_⟩
  refine zA Y (zD Y hc T.cl T.nP (HA _ _ _) ?_);refine⟨λm σ H'=>∃(pos:Nat),m=e-pos/\σ=[some (.ref c),some (.int (p:Int))]/\bE K B H' c a t pos e/\aL H H' c/\p<=pos/\(Ho (st t p e)).length=pos-p+(Ho (st t pos e)).length,⟨_,p,Y,Y,u,aL.refl _ _,Ag _,by lia⟩,?_⟩
  rintro m σ H1 ⟨pos,rfl,rfl,d,D,V,l⟩;obtain⟨g,I⟩:=d.at_;refine zA Y (zC Y I (HC _ _ _) (zL Y d (by show 3<=GI;decide) (λb N=>?_)));have j:aG H1 (aK H1 b (.tup [.int 44,.int 10,.int (-1)])):=aF N;have n:=d.same j;have i:=j _ _ I;refine zK Y ⟨.inr (aQ.of G9),Y,Y,zA Y ?_⟩;show if (!iD (.int (Ht (st t pos e))) [.int 44,.int 10,.int (-1)])=true then _ else _;rw[qD];refine HN (λh=>?_) λh=>?_
  ·rw[Cq,B8,B8,decide_eq_false_iff_not,decide_eq_false_iff_not,decide_eq_false_iff_not] at h;obtain⟨z,r,v⟩:=Kz h.2.2;have d6:=IG v;have ab:=JF d.len v;rw[v] at h l;have L:z≠44:=λq=>h.1 (by rw[q];rfl);have R:z≠10:=λq=>h.2.1 (by rw[q];rfl);have hn:J7 z=true:=by unfold J7;rw[bne_iff_ne.mpr L,bne_iff_ne.mpr R];rfl
   rw[QM hn,Af] at l;refine zI (λG H'=>G=[some (.ref c),some (.int (p:Int))]/\bE K B H' c a t (pos+1) e/\aL H H' c) ?_ ?_
   ·rintro G H' ⟨rfl,u',ac⟩;exact⟨_,by lia,pos+1,Y,Y,u',ac,by lia,by rw[d6];lia⟩
   ·refine zA Y (zC Y i (HC _ _ _) (zG Y i (λH3 S k3=>?_)));exact⟨Y,n.move k3 ⟨g,S⟩ ab,(D.trans (aL.of j)).trans k3⟩
  ·have h':Ht (st t pos e)=44\/Ht (st t pos e)=10\/Ht (st t pos e)=-1:=by
    by_cases q:Ht (st t pos e)=44\/Ht (st t pos e)=10\/Ht (st t pos e)=-1
    ·exact q
    ·refine absurd ?_ h;rw[Cq,B8,B8,decide_eq_false_iff_not,decide_eq_false_iff_not,decide_eq_false_iff_not];exact⟨λz=>q (.inl z),λz=>q (.inr (.inl z)),λz=>q (.inr (.inr z))⟩
   have W:Ho (st t pos e)=[]:=by
    rcases h' with q | q | q
    ·obtain⟨r,o⟩:=HD (z:=44) q;rw[o];exact N9 rfl
    ·obtain⟨r,o⟩:=HD (z:=10) q;rw[o];exact N9 rfl
    ·rw[Kg q];rfl
   rw[W] at l;have hl:(Ho (st t p e)).length=pos-p:=by simpa using l
   have d7:st t p pos=Ho (st t p e):=by rw[<-Rr,hl,Td d.le]
   refine zA Y (zD Y i T.cl T.nT (Px _ _ _) (zA Y (zA Y (zD Y i T.cl T.nP (HA _ _ _) (zH Y n.txt V (AE d.le d.len) ?_)))));rw[d7];cases hR:HP p (Ho (st t p e)) with
   |error x=>rwa [hR] at k
   |ok x=>rw[hR] at k;intro H' U s' X aa;refine k H' U ?_ ((D.trans (aL.of j)).trans (aL.of s')) X aa;rw[show p+(Ho (st t p e)).length=pos by lia];exact n.same s'
end
def aI(H:Hp)(m:Z)(l:List Iv):Prop:=∃bs:List Z,H m=some (.lst (bs.map V.ref))/\bs.length=l.length/\∀(i:Nat) (b:Z) (x:Iv),bs[i]?=some b->l[i]?=some x->H b=some (.tup (cT x))
theorem aI.move(h:aI H m l)(k:∀b o,H b=some o->(∃xs,o=.lst xs)\/(∃xs,o=.tup xs)->H' b=some o):aI H' m l:=by obtain⟨bs,h1,h2,d⟩:=h;exact⟨bs,k _ _ h1 (.inl ⟨_,Y⟩),h2,λi b x c a=>k _ _ (d i b x c a) (.inr ⟨_,Y⟩)⟩
theorem aI.same(h:aI H m l)(k:aG H H'):aI H' m l:=h.move λb o a _=>k b o a
theorem aI.keep(h:aI H m l)(k:aL H H' c)(e:H c=some (.ins B dx fs)):aI H' m l:=h.move λb o a d=>k b o a (Hq a e (by rintro rfl;rcases d with ⟨_,z⟩ | ⟨_,z⟩ <;> cases z))
theorem aI.snoc(h:aI H m l)(d:H m=some (.lst xs))(g:H b=some (.tup (cT x))):aI (aK H m (.lst (xs++[.ref b]))) m (l++[x]):=by
 obtain⟨bs,h1,h2,n⟩:=h;rw[h1] at d;cases d;refine⟨bs++[b],by rw[G9,AM];rfl,by rw[Ad,Ad,h2];rfl,λi f e a c=>?_⟩;have k:H f=some (.tup (cT e)):=by
  by_cases hi:i<bs.length
  ·rw[AC hi] at a;rw[AC (by lia)] at c;exact n i f e a c
  ·rw[Ax (by lia)] at a;rw[Ax (by lia)] at c;have j:i-bs.length=0:=by
    have:=(Al.mp a).1;simp at this
    lia
   rw[j] at a;rw[show i-l.length=0 by lia] at c;cases a;cases c;exact g
 rwa [Hf (Hq k h1 aO)]
theorem aI.len(h:aI H m l):∃xs,H m=some (.lst xs)/\xs.length=l.length:=by obtain⟨bs,h1,h2,_⟩:=h;exact⟨_,h1,by rw[Ab,h2]⟩
theorem aI.last(h:aI H m (l++[y])):∃(xs:List V) (b:Z),H m=some (.lst xs)/\gE xs (-1)=some (.ref b)/\H b=some (.tup (cT y)):=by
 obtain⟨bs,h1,h2,f⟩:=h;rw[Ad] at h2;have c:bs.length=l.length+1:=h2;obtain⟨a,b,rfl⟩:∃a b,bs=a++[b]:=by
  rcases Ek bs with e | ⟨a,b,e⟩
  ·rw[e] at c;simp at c
  ·exact⟨a,b,by rw[e,El]⟩
 have d:a.length=l.length:=by rw[Ad] at c;simpa using c
 refine⟨_,b,h1,by rw[AM];exact Ww _ _,f l.length b y ?_ ?_⟩
 ·rw[Ax (by lia),d,EJ];rfl
 ·rw[Ax (Ag _),EJ];rfl
theorem Ke(k:aL H H' c)(a:∃o,H' c=some o)(h:H' m=none):H m=none:=by
 cases q:H m with
 |none=>rfl
 |some o=>
  by_cases z:m=c
  ·obtain⟨o',a⟩:=a;rw[z,a] at h;cases h
  ·rw[k _ _ q z] at h;cases h
def Kd(aE:List Iv)(y:Iv)(q:Nat):Bytes->Rd (List Iv)
 |[]=>.ok (aE,q,[])
 |c::r=>if c=44 then (match r with
   |[]=>.error (q+1)
   |b::v=>if b=32 then (match nn aE.length (some y) (q+2) v with
     |.error e=>.error e
     |.ok (l,z,w)=>.ok (aE++l,z,w)) else .error (q+1)) else .ok (aE,q,c::r)
theorem Vf(p:Nat)(t:Bytes):nn 0 none p t=match HP p (Ho t) with
  |.error e=>.error e
  |.ok x=>Kd [x] x (p+(Ho t).length) (t.drop (Ho t).length):=by
 rw[YL,G6 (by decide)];cases HP p (Ho t) with
 |error e=>rfl
 |ok x=>
  dsimp only;rw[G6 (by show ¬(false=true);exact Ak)];unfold Kd;cases t.drop (Ho t).length with
  |nil=>rfl
  |cons c r=>
   dsimp only;by_cases d:c=44
   ·rw[G7 d,G7 d];cases r with
    |nil=>rfl
    |cons b u=>
     dsimp only;by_cases a:b=32
     ·rw[G7 a,G7 a];have e1:nn [x].length (some x) (p+(Ho t).length+2) u=nn (0+1) (some x) (p+(Ho t).length+2) u:=rfl;rw[e1];cases nn (0+1) (some x) (p+(Ho t).length+2) u with
      |error e=>rfl
      |ok z=>rfl
     ·rw[G6 a,G6 a]
   ·rw[G6 d,G6 d]
theorem Rw(aE:List Iv)(y:Iv)(q:Nat)(v:Bytes):Kd aE y q (44::32::v)=if 14<=aE.length then .error (q+2) else match HP (q+2) (Ho v) with
  |.error e=>.error e
  |.ok x=>if x.lt y=true then .error (q+2) else Kd (aE++[x]) x (q+2+(Ho v).length) (v.drop (Ho v).length):=by
 have h:Kd aE y q (44::32::v)=(match nn aE.length (some y) (q+2) v with
     |.error e=>.error e
     |.ok (l,z,w)=>.ok (aE++l,z,w)):=by
  unfold Kd;dsimp only;rw[G7 rfl,G7 rfl]
 rw[h,YL];by_cases a:14<=aE.length
 ·rw[G7 a,G7 a]
 ·rw[G6 a,G6 a];cases HP (q+2) (Ho v) with
  |error e=>rfl
  |ok x=>
   dsimp only;show(match (if x.lt y=true then _ else _:Rd (List Iv)) with | .error e=>_ | .ok (l,z,w)=>_)=_;by_cases f:x.lt y=true
   ·rw[G7 f,G7 f]
   ·rw[G6 f,G6 f];unfold Kd;cases v.drop (Ho v).length with
    |nil=>rfl
    |cons c r=>
     dsimp only;by_cases g:c=44
     ·rw[G7 g,G7 g];cases r with
      |nil=>rfl
      |cons b u=>
       dsimp only;by_cases d:b=32
       ·rw[G7 d,G7 d,Ad];have e1:nn (aE.length+[x].length) (some x) (q+2+(Ho v).length+2) u=nn (aE.length+1) (some x) (q+2+(Ho v).length+2) u:=rfl;rw[e1];cases nn (aE.length+1) (some x) (q+2+(Ho v).length+2) u with
        |error e=>rfl
        |ok z=>obtain⟨l,i,w⟩:=z;dsimp only;rw[Bq];rfl
       ·rw[G6 d,G6 d]
     ·rw[G6 g,G6 g]
def SD(K:G5)(B C:Z):Sp:=λvs H Q E=>∃(c a:Z) (t:Bytes) (p e:Nat),vs=[.ref c]/\bE K B H c a t p e ∧
 (∀x,J9 p (st t p e)=.error x->fG C E x) ∧
 ∀v q w,J9 p (st t p e)=.ok (v,q,w)->∀(H':Hp) (m:Z),bE K B H' c a t q e->aL H H' c->H m=none->aI H' m v->(∀x∈v,x.ok=true)->Q (.ref m) H'
section
variable{P:GJ}{w:GQ}{K:G5}{mg:Str->Option O}{base:Heap}{B C:Z}
theorem XU:aH ["cursor","notes","start","note"] ["cursor"] (Hj Ku):=HZ
theorem VF(F:bI K "read_notes" "read_notes" Ku f fd)(T:cS K mg B C)(M:fE P w K mg base B C)(MT:cW P w K mg base C B 3 "take" ["self","wanted"] (Jh K B C))
  (DO:bQ P w K mg base C 8 "read_note" ["cursor"] (WD K B C)) (DW:bQ P w K mg base C 1 "width" ["interval"] (Ml K)):
  aN P w K mg base (aS P w C) 9 f fd ["cursor"] (SD K B C):=by
 refine F.okX XU (λvs H Q E h=>?_) (λaC A outer s H vs Q E S h=>?_)
 ·obtain⟨c,a,t,p,e,rfl,_⟩:=h;rfl
 ·obtain⟨c,a,t,p,e,rfl,u,U,kQ⟩:=h;obtain⟨dx,hc⟩:=u.at_;have I:=S.mono (show 1<=8 by decide);have ai:=S.mono (show 2<=8 by decide);have az:=S.mono (show 3<=8 by decide);refine⟨_,He (HG (Hs Ip (HB M.byte I (J 0)) (Hr T.cPO) (Hw _)) (He (Hv (HB M.adv I (J 0))) (Hh (Hx (Iw Hg)))) Hu)
   (He (bG 1 XU.nd (Iw (G8 (HL DO S rfl (G8 (J 0) Hg)) Hg)))
   (He (IJ Jn (Hs Ip (HB M.byte I (J 0)) (Hr T.cCO) (Hw _))
    (He (Hv (HB M.adv I (J 0)))
    (He (Hv (IN MT az (J 0) (G8 (Hr T.cBT) Hg)))
    (He (bG 2 XU.nd (Hy (J 0) rfl))
    (He (HG (Hs Ip (HE HF (by rfl) T.len PySem.boot_len (G8 (J 1) Hg)) (Hr T.cMN) (Hw _)) (Hh (HK T.xt ai rfl T.mC (J 2))) Hu)
    (He (bG 3 XU.nd (HL DO S rfl (G8 (J 0) Hg)))
    (He (HG (Hs S5 (HL DW I rfl (G8 (J 3) Hg)) (HL DW I rfl (G8 (IL IR (J 1) (QA Oo Hm) (λ_ _=>rfl)) Hg)) (Hw _)) (Hh (HK T.xt ai rfl T.mC (J 2))) Hu)
    (Hh (Hv (JS AO AV AU Iu (J 1) (G8 (J 3) Hg)))))))))))
   (Hh (Hx (J 1))))),?_⟩
  refine zA Y (zC Y hc (HC _ _ _) (zL Y u Y (zA Y ?_)));rw[ID];refine HN (λh=>?_) λh=>?_
  ·have aa:Ht (st t p e)=((46:UInt8).toNat:Int):=of_decide_eq_true h;obtain⟨r,n⟩:=HD aa;have af:=JF u.len n;have k:J9 p (st t p e)=.ok ([],p+1,r):=by rw[n];unfold J9;dsimp only;rw[G7 rfl]
   refine zA Y (zC Y hc (HC _ _ _) (zG Y hc (λH1 h1 k1=>?_)));refine⟨Az _,λm N=>?_⟩;have d9:=aF (o:=.lst []) N;exact kQ _ _ _ k _ m ((u.move k1 ⟨dx,h1⟩ af).same d9) (k1.trans (aL.of d9)) (Ke k1 ⟨_,h1⟩ N) ⟨[],G9,Y,λi b x j=>by simp at j⟩ λx D=>by cases D
  ·have ba:¬Ht (st t p e)=((46:UInt8).toNat:Int):=λz=>h (decide_eq_true z);have k:J9 p (st t p e)=nn 0 none p (st t p e):=by
    unfold J9;cases g:st t p e with
    |nil=>rfl
    |cons z r=>dsimp only;rw[G6 (IP ba z r g)]
   rw[Vf] at k;refine zA Y (zG Y u ?_);cases hR:HP p (Ho (st t p e)) with
   |error x=>rw[hR] at k;exact U x k
   |ok x0=>
    rw[hR] at k;dsimp only at k;intro H1 b0 u1 k1 bc bp;refine⟨(by show 1<=GI;decide),λm N=>?_⟩;have d9:=aF (o:=.lst [.ref b0]) N;have ak:H m=Option.none:=Ke k1 (let ⟨_,z⟩:=u1.at_;⟨_,z⟩) N;rw[Ig] at k;refine⟨λmm σ H'=>∃(aE:List Iv) (y:Iv) (q:Nat) (G L:Option V),mm=e-q/\σ=[some (.ref c),some (.ref m),G,L]/\bE K B H' c a t q e/\aL H H' c/\aI H' m (aE++[y])/\(∀x∈aE++[y],x.ok=true)/\(aE++[y]).length<=14 ∧
      J9 p (st t p e)=Kd (aE++[y]) y q (st t q e),
     ⟨_,[],x0,p+(Ho (st t p e)).length,none,none,Y,Y,u1.same d9,k1.trans (aL.of d9),?_,?_,by simp,k⟩,?_⟩
    ·refine⟨[b0],G9,Y,λi b x j D=>?_⟩
     match i,j,D with
     |0,j,D=>cases j;cases D;exact d9 _ _ bc
     |i+1,j,_=>simp at j
    ·intro x D;have ab:x=x0:=by simpa using D
     rwa [ab]
    ·rintro mm σ H2 ⟨aE,y,q,G,L,rfl,rfl,u2,ap,an,d6,bm,k2⟩;obtain⟨X,d7⟩:=u2.at_;refine zA Y (zC Y d7 (HC _ _ _) (zL Y u2 Y (zA Y ?_)));rw[ID];refine HN (λh=>?_) λh=>?_
     ·have aa:Ht (st t q e)=((44:UInt8).toNat:Int):=of_decide_eq_true h;obtain⟨r,n⟩:=HD aa;have ad:=IG n;have af:=JF u.len n;refine⟨λaj H'=>∃(aE:List Iv) (y:Iv) (l:Nat) (G L:Option V),q<l/\aj=[some (.ref c),some (.ref m),G,L]/\bE K B H' c a t l e/\aL H H' c/\aI H' m (aE++[y])/\(∀x∈aE++[y],x.ok=true)/\(aE++[y]).length<=14 ∧
       J9 p (st t p e)=Kd (aE++[y]) y l (st t l e),?_,?_⟩
      ·rintro aj H' ⟨aE,y,l,G,L,hq,rfl,a1,a2,a3,a4,a5,a6⟩;have:=a1.le;exact zA (by lia) (zD Y Y a1 a2 a3 ⟨a4,a5,a6⟩)
      ·refine zI _ Y (zJ c X _ Y d7 (HC _ _ _) (zW c X a q e Y ⟨d7,λH3 h3 k3=>?_⟩));have u3:=u2.move k3 ⟨X,h3⟩ af;have a0:=an.keep k3 d7;refine zI _ Y (zJ c X _ Y h3 (HC _ _ _) (zS c a t (q+1) e 32 Y ⟨u3,λR=>?_,λR=>?_⟩))
       ·intro H4 u4 k4;rw[ad] at R;obtain⟨v,hv⟩:=HD R;subst hv;have ah:st t (q+2) e=v:=IG ad;obtain⟨bg,al⟩:=u4.at_;have ao:=a0.keep k4 h3;rw[n,Rw] at k2;obtain⟨xs,a8,bn⟩:=ao.len;refine zI _ Y (zY c B bg _ _ Y al T.cl T.nP (HA _ _ _) ?_);refine zI _ Y (zR m xs Y (.inl (aP.of a8)) ⟨Y,zI _ Y ?_⟩);rw[ID];refine HN (λac=>?_) λac=>?_
        ·have bd:(xs.length:Int)=14:=of_decide_eq_true ac;rw[G7 (by lia)] at k2;exact⟨_,Y,_,Y,λd hd=>U _ k2 _ d G9⟩
        ·have bd:¬(xs.length:Int)=14:=λz=>ac (decide_eq_true z);rw[G6 (by lia)] at k2;refine zI _ Y (zW c a t (q+2) e Y ⟨u4,?_⟩);rw[ah];cases hR2:HP (q+2) (Ho v) with
         |error x=>rw[hR2] at k2;exact U _ k2
         |ok x=>
          rw[hR2] at k2;dsimp only at k2;intro H5 b5 u5 k5 aq am;have bk:=ao.keep k5 al;refine zI _ Y (zR b5 x Y (aQ.of aq) ⟨am,λH6 s6=>?_⟩);have ag:=bk.same s6;obtain⟨aw,b6,a9,a7,av⟩:=ag.last;refine zI _ Y (zI _ Y (zX m aw _ _ Y Y (aP.of a9) a7 (zR b6 y Y (aQ.of av) ⟨d6 y (by simp),λH7 s7=>?_⟩)));have bh:=Q3 am (d6 y (by simp));refine zR _ _ Y Y (zI _ Y ?_);rw[<-bh];refine HN (λhL=>?_) λhL=>?_
          ·rw[G7 hL] at k2;exact⟨_,Y,_,Y,λd hd=>U _ k2 _ d G9⟩
          ·rw[G6 hL] at k2;have ae:=ag.same s7;obtain⟨bo,d8,bf⟩:=ae.len;have as:=s7 _ _ (s6 _ _ aq);have u7:=(u5.same s6).same s7;have ay:aL H H7 c:=ap.trans (k3.trans (k4.trans (k5.trans ((aL.of s6).trans (aL.of s7)))));obtain⟨au,bi⟩:=u7.at_;refine⟨_,Y,.inl ⟨Y,_,aP.of d8⟩,zI _ Y (zJ m _ _ Y Y d8 ⟨(by rw[bf];exact AD bm (by show 14<GI;decide)),?_⟩)⟩;have bb:c≠m:=Hq bi d8 aO;have ax:=ae.snoc d8 as;refine zY (aE++[y]) x (q+2+(Ho v).length) (some (.int ((q+2:Nat):Int))) (some (.ref b5)) (by lia) Y ?_ ?_ ax ⟨?_,?_,?_⟩
           ·refine⟨⟨au,by rwa [Hf bb]⟩,?_,u7.le,u7.len⟩;rcases u7.txt with (g | ⟨o,g⟩) | g
            ·by_cases z:a=m
             ·exfalso
              obtain⟨bs,be,ar,_⟩:=ae;rw[z,be] at g;have W:bs.map V.ref=tx t:=by injection g with g;injection g
              cases bs with
              |nil=>rw[Ad] at ar;simp at ar
              |cons b bs=>
               unfold tx at W;cases t with
               |nil=>cases W
               |cons x r=>injection W with W _;cases W
             ·exact .inl (.inl (by rwa [Hf z]))
            ·exact .inl (.inr ⟨o,by rwa [Hf (Hq g d8 aO)]⟩)
            ·exact .inr g
           ·intro b o j bj;rw[Hf (λz=>by rw[z,ak] at j;cases j)];exact ay b o j bj
           ·intro x' ab;rcases AA.mp ab with z | z
            ·exact d6 x' z
            ·rwa [Ai.mp z]
           ·rw[Ad];show(aE++[y]).length+1<=14
            lia
           ·rwa [show st t (q+2+(Ho v).length) e=v.drop (Ho v).length by rw[<-ah,Ig]]
       ·rw[ad] at R;rw[n] at k2;have e2:Kd (aE++[y]) y q (44::r)=.error (q+1):=by
         unfold Kd;dsimp only;rw[G7 rfl];cases r with
         |nil=>rfl
         |cons z r=>dsimp only;rw[G6 (λq=>R (by rw[q];rfl))]
        rw[e2] at k2;exact U _ k2
     ·have bl:¬Ht (st t q e)=((44:UInt8).toNat:Int):=λz=>h (decide_eq_true z);have e2:Kd (aE++[y]) y q (st t q e)=.ok (aE++[y],q,st t q e):=by
       unfold Kd;cases g:st t q e with
       |nil=>rfl
       |cons z r=>dsimp only;rw[G6 (IP bl z r g)]
      rw[e2] at k2;exact⟨_,Y,kQ _ _ _ k2 H2 m u2 ap ak an d6⟩
end
abbrev QY:List UInt8:=[120,116,115,101,113,104,119]
abbrev Ve:List (Int×Int):=[(120,1),(116,2),(115,4),(101,8),(113,16),(104,32),(119,64)]
theorem Wf(c:UInt8):A0 (c.toNat:Int) Ve=(QY.idxOf? c).map λk=>((2 ^ k:Nat):Int):=by
 have h:∀n:Fin 256,A0 ((En n.val).toNat:Int) Ve=(QY.idxOf? (En n.val)).map λk=>((2 ^ k:Nat):Int):=by decide
 have e:=h ⟨c.toNat,c.toNat_lt⟩;simpa using e
theorem UO:A0 (-1:Int) Ve=none:=by decide
theorem Z5(h:QY.idxOf? c=some i):i<7:=by obtain⟨h1,_⟩:=CK.mp (show Fg (λx=>x==c) QY=some i by simpa [FJ] using h);simpa using h1
def JA(p:Nat):Bytes->Rd Nat
 |[]=>.error p
 |c::r=>match QY.idxOf? c with
  |none=>.error p
  |some i=>match r with
   |[]=>.ok (2 ^ i,p+1,[])
   |b::u=>if b=46/\i≠0 then .ok (2 ^ i+2 ^ (i-1),p+2,u) else .ok (2 ^ i,p+1,b::u)
theorem RT(p:Nat)(t:Bytes):aZ p t (JA p t):=by
 intro v q u h;cases t with
 |nil=>cases h
 |cons c r=>
  unfold JA at h;dsimp only at h;split at h
  ·cases h
  ·cases r with
   |nil=>cases h;simp
   |cons b u=>
    dsimp only at h;split at h
    ·cases h;refine⟨by lia,by simp,?_⟩;rw[show p+2-p=2 by lia];rfl
    ·cases h;refine⟨by lia,by simp,?_⟩;rw[show p+1-p=1 by lia];rfl
theorem nY(hi:QY.idxOf? c=some i)(r:Bytes):Bm p (c::r)=match r with
  |[]=>.error (p+1)
  |b::u=>if b=46 then (match u with
    |[]=>if i=0 then .error (p+1) else .error (p+2)
    |d::v=>if d=32 then (if i=0 then .error (p+1) else .ok (2 ^ i+2 ^ (i-1),p+3,v)) else if i=0 then .error (p+1) else .error (p+2))
   else if b=32 then .ok (2 ^ i,p+2,u) else .error (p+1):=by
 have f:[(120:UInt8),116,115,101,113,104,119].idxOf? c=some i:=hi;unfold Bm;dsimp only;rw[f];dsimp only;cases r with
 |nil=>rfl
 |cons b u=>
  dsimp only;by_cases a:b=46
  ·rw[G7 a];cases u with
   |nil=>rw[a];rfl
   |cons d v=>
    dsimp only;by_cases hd:d=32
    ·rw[G7 hd,a,hd];rfl
    ·rw[G6 hd,a];split
     ·rename_i h;injection h with _ h;injection h with h _;exact absurd h hd
     ·rfl
     ·rename_i h;injection h with h _;exact absurd h (by decide)
     ·rename_i h _;exact absurd rfl (h _)
  ·rw[G6 a];by_cases e:b=32
   ·rw[G7 e,e];rfl
   ·rw[G6 e];split
    ·rename_i h;injection h with h _;exact absurd h a
    ·rename_i h;injection h with h _;exact absurd h a
    ·rename_i h;injection h with h _;exact absurd h e
    ·rfl
theorem Rm(p:Nat)(t:Bytes):Bm p t=match JA p t with
  |.error e=>.error e
  |.ok (n,q,u)=>match u with
   |[]=>.error q
   |b::v=>if b=32 then .ok (n,q+1,v) else .error q:=by
 cases t with
 |nil=>rfl
 |cons c r=>
  cases hi:QY.idxOf? c with
  |none=>have f:[(120:UInt8),116,115,101,113,104,119].idxOf? c=none:=hi;unfold Bm JA;dsimp only;rw[f]
  |some i=>
   rw[nY hi];unfold JA;dsimp only;rw[hi];dsimp only;cases r with
   |nil=>rfl
   |cons b u=>
    dsimp only;by_cases a:b=46
    ·rw[G7 a];by_cases i0:i=0
     ·subst i0;rw[G6 (show ¬(b=46/\0≠0) from λh=>h.2 rfl)];dsimp only;rw[G6 (show ¬b=32 by rw[a];decide)];cases u with
      |nil=>rfl
      |cons d v=>dsimp only;split <;> rfl
     ·rw[G7 (show b=46/\i≠0 from ⟨a,i0⟩)];cases u with
      |nil=>dsimp only;rw[G6 i0]
      |cons d v=>dsimp only;rw[G6 i0,G6 i0]
    ·rw[G6 a,G6 (show ¬(b=46/\i≠0) from λh=>a h.1)]
section
variable{P:GJ}{w:GQ}{K:G5}{mg:Str->Option O}{base:Heap}{B C:Z}
theorem kM:aH ["cursor","letter","length"] ["cursor"] (Hj IV):=HZ
theorem YC(F:bI K "read_length_sign" "read_length_sign" IV f fd)(T:cS K mg B C)(M:fE P w K mg base B C):
  aN P w K mg base (aS P w C) 3 f fd ["cursor"] (KB K B C Pf JA):=by
 refine F.okX kM (λvs H Q E h=>?_) (λaC A outer s H vs Q E L h=>?_)
 ·obtain⟨c,a,t,p,e,rfl,_⟩:=h;rfl
 ·obtain⟨c,a,t,p,e,rfl,u,k⟩:=h;obtain⟨dx,i⟩:=u.at_;obtain⟨d7,x,n⟩:=T.lgs;have l:=L.mono (show 1<=2 by decide);refine⟨_,He (bG 1 kM.nd (HB M.byte l (J 0)))
   (He (HG (KI (N2 n (J 1) (Hr x))) (Hh (HK T.xt L rfl T.mC (Hy (J 0) rfl))) Hu)
   (He (Hv (HB M.adv l (J 0)))
   (He (bG 2 kM.nd (QB n (Hr x) (J 1) (λ_ _=>rfl)))
   (He (HG (PW.pt (OP (Hs Ip (J 2) Hm (Hw _)) (Mu (Hs Ki (HB M.byte l (J 0)) (Hr T.cPO) (Hw _))))) (Hh (Hx (J 2))) Hu)
   (He (Hv (HB M.adv l (J 0)))
   (Hh (Hx (HH IU (J 2) (HH LN (J 2) Hm))))))))),?_⟩
  refine zA Y (zC Y i (HC _ _ _) (zG Y u ?_));refine zA Y (zE Y Y (zA Y ?_));cases hr0:st t p e with
  |nil=>rw[hr0] at k;show if (!(A0 (-1:Int) Ve).isSome)=true then _ else _;rw[UO];exact zA Y (zD Y i T.cl T.nP (HA _ _ _) ⟨_,Y,λd hd=>k _ d G9⟩)
  |cons z r=>
   rw[hr0] at k;have W:=JF u.len hr0;have G:=IG hr0;show if (!(A0 (z.toNat:Int) Ve).isSome)=true then _ else _;unfold JA at k;dsimp only at k;have g:=Wf z;cases hi:QY.idxOf? z with
   |none=>rw[hi] at k g;rw[g];exact zA Y (zD Y i T.cl T.nP (HA _ _ _) ⟨_,Y,λd hd=>k _ d G9⟩)
   |some j=>
    have o:=Z5 hi;rw[hi] at k g;rw[g];dsimp only at k;refine zA Y (zC Y i (HC _ _ _) (zG Y i (λH1 h1 h2=>?_)));have m:=u.move h2 ⟨dx,h1⟩ W;refine zA Y (zF Y Y g ?_);refine zE Y Y (zA Y (LK (b2:=!decide (Ht (st t (p+1) e)=46)) (λd6 q'=>zA Y (zC Y h1 (HC _ _ _) (zL Y m Y ⟨_,Y,by rwa [ID]⟩))) ?_));rw[ID,G];have d9:((2 ^ j:Nat):Int)=1↔j=0:=by
     match j,o with
     |0,_=>decide
     |1,_=>decide
     |2,_=>decide
     |3,_=>decide
     |4,_=>decide
     |5,_=>decide
     |6,_=>decide
    refine HN (λh=>?_) λh=>?_
    ·rw[Bh,decide_eq_true_eq] at h;have R:∀(H':Hp) (y:V),bE K B H' c a t (p+1) e->aL H H' c->Pf (2 ^ j) y H'->Q y H':=by
      cases r with
      |nil=>exact k
      |cons b v=>
       dsimp only at k
       rwa [G6 (by
        rintro⟨g1,g2⟩;rcases h with h | h
        ·exact g2 (d9.mp h)
        ·exact Lr h (by rw[g1];rfl))] at k
     exact⟨_,Y,R H1 _ m h2 rfl⟩
    ·rw[Bh,decide_eq_true_eq] at h;have D:j≠0:=λz=>h (.inl (d9.mpr z));have N:Ht r=((46:UInt8).toNat:Int):=Lc λz=>h (.inr z);obtain⟨v,X⟩:=HD N;subst X;dsimp only at k;rw[G7 ⟨Y,D⟩] at k;have d8:=JF u.len G;refine zA Y (zC Y h1 (HC _ _ _) (zG Y h1 (λH2 S I=>?_)));refine⟨_,Y,_,Y,zF Y Y ⟨by decide,by decide⟩ (zB Y Y ?_)⟩;have U:((2 ^ j:Nat):Int)+((2 ^ j:Nat):Int) / 2=((2 ^ j+2 ^ (j-1):Nat):Int):=by
      match j,o,D with
      |0,_,q=>exact absurd rfl q
      |1,_,_=>decide
      |2,_,_=>decide
      |3,_,_=>decide
      |4,_,_=>decide
      |5,_,_=>decide
      |6,_,_=>decide
     exact k H2 _ (m.move I ⟨dx,S⟩ d8) (h2.trans I) (by unfold Pf;rw[<-U])
def Q8(K:G5)(B C:Z):Sp:=λvs H Q E=>∃(c a:Z) (t:Bytes) (p e last:Nat),vs=[.ref c,.int (last:Int)]/\bE K B H c a t p e ∧
 (∀x,KA last p (st t p e)=.error x->fG C E x) ∧
 ∀n q w,KA last p (st t p e)=.ok (n,q,w)->∀H':Hp,bE K B H' c a t q e->aL H H' c->Q (.int (n:Int)) H'
theorem Y4:aH ["cursor","before","start","length"] ["cursor","before"] (Hj JY):=HZ
theorem Tv(F:bI K "read_length" "read_length" JY f fd)(T:cS K mg B C)(M:fE P w K mg base B C)(X:cW P w K mg base C B 3 "take" ["self","wanted"] (Jh K B C))
  (DS:bQ P w K mg base C 3 "read_length_sign" ["cursor"] (KB K B C Pf JA)):
  aN P w K mg base (aS P w C) 4 f fd ["cursor","before"] (Q8 K B C):=by
 refine F.okX Y4 (λvs H Q E h=>?_) (λaC A outer s H vs Q E j h=>?_)
 ·obtain⟨c,a,t,p,e,last,rfl,_⟩:=h;rfl
 ·obtain⟨c,a,t,p,e,last,rfl,u,l,d9⟩:=h;obtain⟨dx,k⟩:=u.at_;have D:=j.mono (show 1<=3 by decide);have d6:=j.mono (show 2<=3 by decide);refine⟨_,He (bG 2 Y4.nd (Hy (J 0) rfl))
   (He (HG (PW.pt (Z3 (Hs Ip (HB M.byte D (J 0)) (Hr T.cBT) (Hw _)) (Xm (Hs Ki (J 1) Hm (Hw _))))) (He (Hv (HB M.adv D (J 0))) (Hh (Hx (J 1)))) Hu)
   (He (bG 3 Y4.nd (HL DS j rfl (G8 (J 0) Hg)))
   (He (Hv (IN X j (J 0) (G8 (Hr T.cBT) Hg)))
   (He (HG (Hs Ip (J 3) (J 1) (Hw _)) (Hh (HK T.xt d6 rfl T.mC (J 2))) Hu)
   (Hh (Hx (J 3))))))),?_⟩
  refine zA Y (zD Y k T.cl T.nP (HA _ _ _) ?_);refine zA Y (zC Y k (HC _ _ _) (zL Y u Y (zA Y (VD (b2:=!decide ((last:Int)=0)) (λQ' q'=>⟨_,Y,Y,_,Y,by rwa [ID]⟩) ?_))));rw[ID];refine HN (λh=>?_) λh=>?_
  ·rw[AB,decide_eq_true_eq] at h;have N:Ht (st t p e)=((32:UInt8).toNat:Int):=h.1;have U:last≠0:=λz=>Lr h.2 (by rw[z];rfl);obtain⟨r,I⟩:=HD N;have V:=JF u.len I;have g:KA last p (st t p e)=.ok (last,p+1,r):=by rw[I];unfold KA;dsimp only;rw[G7 ⟨Y,U⟩]
   refine zA Y (zC Y k (HC _ _ _) (zG Y k (λH1 h1 h2=>?_)));exact⟨_,Y,d9 _ _ _ g H1 (u.move h2 ⟨dx,h1⟩ V) h2⟩
  ·rw[AB,decide_eq_true_eq] at h;have g:KA last p (st t p e)=match JA p (st t p e) with
     |.error e=>.error e
     |.ok (n,q,u)=>match u with
      |[]=>.error q
      |b::v=>if b=32 then (if n=last then .error p else .ok (n,q+1,v)) else .error q:=by
    cases hz:st t p e with
    |nil=>rfl
    |cons z r=>
     unfold KA;dsimp only;rw[G6 (by rintro⟨g1,g2⟩;refine h ⟨by rw[hz,g1];rfl,?_⟩;rw[decide_eq_false (by lia)];rfl),Rm]
     cases JA p (z::r) with
     |error e=>rfl
     |ok y=>
      obtain⟨n,q,v⟩:=y;dsimp only;cases v with
      |nil=>rfl
      |cons b v=>
       dsimp only;by_cases i:b=32
       ·rw[G7 i,G7 i]
       ·rw[G6 i,G6 i]
   refine zA Y (zG Y u ?_);cases hs:JA p (st t p e) with
   |error x=>rw[hs] at g;exact l x g
   |ok y=>
    obtain⟨n,q,v⟩:=y;obtain⟨a1,d7,d8⟩:=aZ.at_ u.len u.le (RT p (st t p e)) hs;subst d8;rw[hs] at g;dsimp only at g;intro H1 y G k1 S;obtain rfl:y=.int (n:Int):=S;obtain⟨R,W⟩:=G.at_;refine zI _ Y (zJ c R _ Y W (HC _ _ _) (zS c a t q e 32 Y ⟨G,λo=>?_,λo=>?_⟩))
    ·intro H2 L k2;obtain⟨v,m⟩:=HD o;rw[m] at g;dsimp only at g;rw[G7 rfl] at g;refine zA Y (zE Y Y ⟨_,Y,?_⟩);rw[ID];refine HN (λh=>?_) λh=>?_
     ·have h':(n:Int)=(last:Int):=of_decide_eq_true h;rw[G7 (by lia)] at g;exact⟨_,Y,_,Y,λd hd=>l _ g _ d G9⟩
     ·have h':¬(n:Int)=(last:Int):=λz=>h (decide_eq_true z);rw[G6 (by lia)] at g;exact⟨_,Y,d9 _ _ _ g H2 L (k1.trans k2)⟩
    ·refine l q ?_;rw[g];cases m:st t q e with
     |nil=>rfl
     |cons b v=>dsimp only;rw[G6 (IP o b v m)]
end
open L2 Lute LuR LuW LuteSong
theorem rJ{t:Bytes}{bs:List Z}(h:t≠[]):tx t≠bs.map V.ref:=λz=>by
 cases t with
 |nil=>exact h rfl
 |cons x r=>
  cases bs with
  |nil=>cases z
  |cons b bs=>injection z with z _;cases z
theorem bE.write{K:G5}{B:Z}{H:Hp}{c a m:Z}{t:Bytes}{p e:Nat}{bs:List Z}{o:HO}(u:bE K B H c a t p e)(d:H m=some (.lst (bs.map V.ref)))(g:t≠[]):bE K B (aK H m o) c a t p e:=by
 obtain⟨⟨dx,h⟩,f,le,len⟩:=u;refine⟨⟨dx,by rwa [Hf (Hq h d aO)]⟩,?_,le,len⟩;rcases f with (b | ⟨o',b⟩) | b
 ·refine .inl (.inl ?_)
  rwa [Hf (λz=>by rw[z,d] at b;exact rJ g (by injection b with b;injection b with b;exact b.symm))]
 ·exact .inl (.inr ⟨o',by rwa [Hf (Hq b d aO)]⟩)
 ·exact .inr b
theorem LR(t:Bytes)(p:Nat):st t p t.length=t.drop p:=by unfold st;rw[AZ]
theorem Ja(z:UInt8)(l:Bytes)(p:Nat)(t:Bytes):Aj (z::l) p t=if Ht t=(z.toNat:Int) then Aj l (p+1) (t.drop 1) else .error p:=by
 cases t with
 |nil=>rw[G6 (by show ¬(-1:Int)=(z.toNat:Int);lia)];rfl
 |cons c r=>
  by_cases h:c=z
  ·rw[G7 (by rw[h];rfl)]
   conv=>lhs;unfold Aj
   rw[G7 h];rfl
  ·rw[G6 (λq=>h (Ee.mp (by have a:(c.toNat:Int)=(z.toNat:Int):=q;lia)))];unfold Aj;rw[G6 h]
theorem X9{x:Str}{g:TG}{tb:TS}{D:eG}{σ:L2.St}{H:Hp}(a:Nat->L2.St->Hp->Prop)(h:a 0 σ H)
  (hs:∀i c σ H,x.cps[i]?=some c->a i σ H->g (.str ⟨#[c]⟩) σ H λb H2=>tb { D with nx:=a (i+1),ct:=a (i+1),bk:=D.nx } b H2) (hd:∀σ H,a x.cps.size σ H->D.nx σ H):
  ∃W:Nat->Nat->L2.St->Hp->Prop,(∃m,W 0 m σ H)/\∀i m σ H,W i m σ H->
   ((iZ x).stop i H/\D.nx σ H)\/((iZ x).go i H/\∃N:L2.St->Hp->Prop,(∀σ' H',N σ' H'->∃d,d<m/\W (i+1) d σ' H')/\∀v H',(iZ x).yld i H v H'->g v σ H' λb H2=>tb { D with nx:=N,ct:=N,bk:=D.nx } b H2):=by
 refine⟨λi m σ H=>m=x.cps.size-i/\i<=x.cps.size/\a i σ H,⟨x.cps.size,by simp,Az _,h⟩,?_⟩;rintro i m σ H ⟨rfl,hi,p⟩;by_cases f:i<x.cps.size
 ·refine .inr ⟨f,a (i+1),λσ' H' k=>⟨x.cps.size-(i+1),by lia,Y,f,k⟩,λv H' y=>?_⟩;obtain⟨e,c,l,j⟩:=y;subst e j;exact hs i c σ _ l p
 ·have e:i=x.cps.size:=by lia
  subst e;exact .inl ⟨Ag _,hd σ H p⟩
def Wd(x:Str)(l:Bytes):Prop:=x.cps.toList=l.map (·.toNat)
theorem RF(l:Bytes):∀(p:Nat) (t:Bytes) (q:Nat) (u:Bytes),Aj l p t=.ok ((),q,u)->q=p+l.length/\u=t.drop l.length/\l.length<=t.length:=by
 induction l with
 |nil=>intro p t q u h;unfold Aj at h;cases h;simp
 |cons z l b=>
  intro p t q u h;cases t with
  |nil=>cases h
  |cons c r=>
   unfold Aj at h;by_cases a:c=z
   ·rw[G7 a] at h;obtain⟨h1,h2,d⟩:=b _ _ _ _ h;refine⟨by rw[h1,Af];lia,by rw[h2];rfl,by simp only[Af];lia⟩
   ·rw[G6 a] at h;cases h
theorem Qr:∀{p:Nat} {t:Bytes} {y:Nat},Aj l p t=.error y->Aj (l++m) p t=.error y:=by
 induction l with
 |nil=>intro p t y h;cases h
 |cons z l b=>
  intro p t y h;cases t with
  |nil=>cases h;rfl
  |cons c r=>
   unfold Aj at h;show(if c=z then Aj (l++m) (p+1) r else .error p)=_;by_cases a:c=z
   ·rw[G7 a] at h ⊢;exact b h
   ·rw[G6 a] at h ⊢;exact h
theorem SO:∀{p:Nat} {t:Bytes} {q:Nat} {u:Bytes},Aj l p t=.ok ((),q,u)->Aj (l++m) p t=Aj m q u:=by
 induction l with
 |nil=>intro p t q u h;unfold Aj at h;cases h;rfl
 |cons z l b=>
  intro p t q u h;cases t with
  |nil=>cases h
  |cons c r=>
   unfold Aj at h;show(if c=z then Aj (l++m) (p+1) r else .error p)=_;by_cases a:c=z
   ·rw[G7 a] at h ⊢;exact b h
   ·rw[G6 a] at h;cases h
def NQ(K:G5)(B C:Z):Sp:=λvs H Q E=>∃(c a:Z) (t:Bytes) (p e:Nat) (x:Str) (l:Bytes),vs=[.ref c,.str x]/\Wd x l/\bE K B H c a t p e/\(∀y,Aj l p (st t p e)=.error y->fG C E y) ∧
 ∀q u,Aj l p (st t p e)=.ok ((),q,u)->∀H':Hp,bE K B H' c a t q e->aL H H' c->u=st t q e->Q .non H'
section
variable{P:GJ}{w:GQ}{K:G5}{mg:Str->Option O}{base:Heap}{B C:Z}
theorem lI:aH ["self","word","sign"] ["self","word"] (Hj IW):=HZ
theorem U5{f:Z}{fd:GP}(F:bI K "take_word" "Cursor.take_word" IW f fd)(T:cS K mg B C)(M:cW P w K mg base C B 3 "take" ["self","wanted"] (Jh K B C)):
  aN P w K mg base (aS P w C) 4 f fd ["self","word"] (NQ K B C):=by
 refine F.okX lI (λvs H Q E h=>?_) (λd8 A outer s H vs Q E N h=>?_)
 ·obtain⟨c,a,t,p,e,x,l,rfl,_⟩:=h;rfl
 ·obtain⟨c,a,t,p,e,x,l,rfl,k,u,I,D⟩:=h;refine⟨_,Hh (IX Jn rfl (Z6 (J 1)) (cM 2 lI.nd) (Hh (Hv (IN M N (J 0) (G8 (HE Vt (by rfl) T.ord boot_ord (G8 (J 2) Hg)) Hg))))),?_⟩;have o:x.cps.size=l.length:=by have:=congrArg DK k;rw[Ab] at this;simpa using this
  refine zA Y (zA Y (X9 (λi σ H'=>∃v:Option V,σ=[some (.ref c),some (.str x),v]/\bE K B H' c a t (p+i) e/\aL H H' c/\Aj l p (st t p e)=Aj (l.drop i) (p+i) (st t (p+i) e)) ⟨none,Y,u,aL.refl _ _,Y⟩ ?_ ?_))
  ·rintro i j σ H' hi ⟨v,rfl,m,n,b⟩;obtain⟨z,G,L⟩:∃z:UInt8,j=z.toNat/\l.drop i=z::l.drop (i+1):=by
    have h1:x.cps.toList[i]?=some j:=by simpa using hi
    rw[show x.cps.toList=l.map (·.toNat) from k,Ah] at h1;cases hli:l[i]? with
    |none=>rw[hli] at h1;cases h1
    |some z=>rw[hli] at h1;obtain⟨d9,y⟩:=Al.mp hli;exact⟨z,by simpa using h1.symm,by rw[<-y];exact CB d9⟩
   subst G;obtain⟨r,q⟩:=m.at_;rw[L,Ja] at b;refine zA Y (zC Y q (HC _ _ _) (zA Y (zE Y Y (zP Y m (λg=>?_) (λg=>?_)))))
   ·intro H2 d k2;rw[G7 g,Ig] at b;exact⟨_,Y,d,n.trans k2,b⟩
   ·rw[G6 g] at b;exact I _ b
  ·rintro σ H2 ⟨v,rfl,d,k2,b⟩;rw[o] at d b;rw[List.drop_length] at b;exact D _ _ b H2 d k2 rfl
end
section
variable{β:Type}(f:β->List V)(ok:List β->Prop)
def cP(H:Hp)(m:Z)(l:List β):Prop:=∃bs:List Z,H m=some (.lst (bs.map V.ref))/\bs.length=l.length/\∀(i:Nat) (b:Z) (x:β),bs[i]?=some b->l[i]?=some x->H b=some (.tup (f x))
def cN(H:Hp)(m b:Z):Ln β->Prop
 |none=>∃a,H b=some (.tup [.int 0,.ref a])/\a≠m/\H a=some (.lst [])
 |some (n,l)=>∃a,H b=some (.tup [.int (n:Int),.ref a])/\a≠m/\cP f H a l/\ok l
def aV(H:Hp)(m:Z)(s:List (Ln β)):Prop:=∃bs:List Z,H m=some (.lst (bs.map V.ref))/\bs.length=s.length/\∀(i:Nat) (b:Z) (v:Ln β),bs[i]?=some b->s[i]?=some v->cN f ok H m b v
variable{f ok}{H H':Hp}{m b:Z}
theorem cP.move(h:cP f H m l)(k:∀b o,H b=some o->(∃xs,o=.lst xs)\/(∃xs,o=.tup xs)->H' b=some o):cP f H' m l:=by obtain⟨bs,h1,h2,d⟩:=h;exact⟨bs,k _ _ h1 (.inl ⟨_,Y⟩),h2,λi b x c a=>k _ _ (d i b x c a) (.inr ⟨_,Y⟩)⟩
theorem cP.same(h:cP f H m l)(k:aG H H'):cP f H' m l:=h.move λb o a _=>k b o a
theorem cN.move(h:cN f ok H m b v)(k:∀b o,H b=some o->b≠m->(∃xs,o=.lst xs)\/(∃xs,o=.tup xs)->H' b=some o)(nm:∀xs,H m≠some (.tup xs)):cN f ok H' m b v:=by
 cases v with
 |none=>obtain⟨a,h1,h2,g⟩:=h;exact⟨a,k _ _ h1 (λz=>by rw[z] at h1;exact nm _ h1) (.inr ⟨_,Y⟩),h2,k _ _ g h2 (.inl ⟨_,Y⟩)⟩
 |some a=>obtain⟨n,l⟩:=a;obtain⟨a,h1,h2,⟨bs,g1,g2,g3⟩,e⟩:=h;exact⟨a,k _ _ h1 (λz=>by rw[z] at h1;exact nm _ h1) (.inr ⟨_,Y⟩),h2,⟨bs,k _ _ g1 h2 (.inl ⟨_,Y⟩),g2,λi b x c d=>k _ _ (g3 i b x c d) (λz=>by have:=g3 i b x c d;rw[z] at this;exact nm _ this) (.inr ⟨_,Y⟩)⟩,e⟩
theorem aV.nt(h:aV f ok H m s):∀xs,H m≠some (.tup xs):=λxs z=>by obtain⟨bs,h1,_⟩:=h;rw[h1] at z;cases z
theorem aV.move(h:aV f ok H m s)(k:∀b o,H b=some o->(∃xs,o=.lst xs)\/(∃xs,o=.tup xs)->H' b=some o):aV f ok H' m s:=by have nt:=h.nt;obtain⟨bs,h1,h2,e⟩:=h;exact⟨bs,k _ _ h1 (.inl ⟨_,Y⟩),h2,λi b v d a=>(e i b v d a).move (λb o c _ q=>k b o c q) nt⟩
theorem aV.same(h:aV f ok H m s)(k:aG H H'):aV f ok H' m s:=h.move λb o a _=>k b o a
theorem aV.keep(h:aV f ok H m s)(k:aL H H' c)(e:H c=some (.ins B dx fs)):aV f ok H' m s:=h.move λb o a d=>k b o a (Hq a e (by rintro rfl;rcases d with ⟨_,z⟩ | ⟨_,z⟩ <;> cases z))
theorem aV.len(h:aV f ok H m s):∃bs:List Z,H m=some (.lst (bs.map V.ref))/\bs.length=s.length:=by obtain⟨bs,h1,h2,_⟩:=h;exact⟨bs,h1,h2⟩
theorem aV.snoc{s:List (Ln β)}{v:Ln β}{bs:List Z}(h:aV f ok H m s)(g:H m=some (.lst (bs.map V.ref)))(l:cN f ok H m b v):aV f ok (aK H m (.lst (bs.map V.ref++[.ref b]))) m (s++[v]):=by
 have nt:=h.nt;obtain⟨d,h1,h2,p⟩:=h;have e:d=bs:=by
  rw[h1] at g;have:d.map V.ref=bs.map V.ref:=by injection g with g;injection g
  exact List.map_inj_right (λx y h=>by injection h) |>.mp this
 subst e;refine⟨d++[b],by rw[G9,AM];rfl,by rw[Ad,Ad,h2];rfl,λi k j a c=>?_⟩;have n:cN f ok H m k j:=by
  by_cases hi:i<d.length
  ·rw[AC hi] at a;rw[AC (by lia)] at c;exact p i k j a c
  ·rw[Ax (by lia)] at a;rw[Ax (by lia)] at c;have q:i-d.length=0:=by
    have:=(Al.mp a).1;simp at this
    lia
   rw[q] at a;rw[show i-s.length=0 by lia] at c;cases a;cases c;exact l
 exact n.move (λx o r hn _=>by rwa [Hf hn]) nt
end
def Zj(K:G5)(B C:Z){β:Type}(d:β->List V)(ok:List β->Prop)(rd:Nat->Bytes->Rd (List β)):Sp:=λvs H Q E=>∃(c a:Z) (t:Bytes) (p e:Nat),vs=[.ref c]/\bE K B H c a t p e/\(∀x,rd p (st t p e)=.error x->fG C E x) ∧
 ∀l q u,rd p (st t p e)=.ok (l,q,u)->∀(H':Hp) (b:Z),bE K B H' c a t q e->aL H H' c->H b=none->cP d H' b l->ok l->Q (.ref b) H'
def SR(P:GJ)(w:GQ)(K:G5)(mg:Str->Option O)(base:Heap)(B C:Z):Sp:=λvs H Q E=>∃(β:Type) (b:β->List V) (ok:List β->Prop) (rd:Nat->Bytes->Rd (List β)) (c g a:Z) (t:Bytes) (p:Nat),
 vs=[.ref c,.ref g]/\bE K B H c a t p t.length/\0<p/\(∀p t,aZ p t (rd p t))/\eT P w K mg base C 13 H g 1 (Zj K B C b ok rd)/\(∀x,la rd 0 0 p (st t p t.length)=.error x->fG C E x) ∧
 ∀s,la rd 0 0 p (st t p t.length)=.ok s->∀(H':Hp) (m:Z),aL H H' c->H m=none->aV b ok H' m s->Q (.ref m) H'
section
variable{P:GJ}{w:GQ}{K:G5}{mg:Str->Option O}{base:Heap}{B C:Z}
theorem aL.frz(k:aL H H' c)(a:H c=some (.ins B dx fs)):eE H H':=λb o u h=>k b _ h (λz=>by rw[z,a] at h;cases h)
theorem Yi:aH ["cursor","read_content","lines","length"] ["cursor","read_content"] (Hj Kj):=HZ
theorem Vg(F:bI K "read_lines" "read_lines" Kj f fd)(T:cS K mg B C)(M:fE P w K mg base B C)(MT:cW P w K mg base C B 3 "take" ["self","wanted"] (Jh K B C))
  (DL:bQ P w K mg base C 4 "read_length" ["cursor","before"] (Q8 K B C)):
  aN P w K mg base (aS P w C) 14 f fd ["cursor","read_content"] (SR P w K mg base B C):=by
 refine F.okX Yi (λvs H Q E h=>?_) (λaC A outer s H vs Q E hr h=>?_)
 ·obtain⟨β,W,ok,rd,c,g,a,t,p,rfl,_⟩:=h;rfl
 ·obtain⟨β,W,ok,rd,c,g,a,t,I,rfl,u2,ba,FR,CL,kE,kQ⟩:=h;have am:=hr.mono (show 1<=13 by decide);have ap:=hr.mono (show 2<=13 by decide);have a1:=hr.mono (show 3<=13 by decide);have ay:=hr.mono (show 4<=13 by decide);have nz:∀{i:Int} {j:Nat} {q:Pos} (v:GR) (p:Pos),GR.Constant (.int i) j q≠.Starred v p:=λv p h=>by cases h
  have y:∀{l:List GR} {q:Pos} (v:GR) (p:Pos),GR.List l q≠.Starred v p:=λv p h=>by cases h
  refine⟨_,(He (bG 2 Yi.nd (Iw Hg))
    (He (bG 3 Yi.nd Hm)
    (He (IJ Jn (Hs Ki (HB M.byte am (J 0)) (Hr T.cEND) (Hw _)) (He (HG (Hs Ip (HE HF (by rfl) T.len PySem.boot_len (G8 (J 2) Hg)) (Hr T.cML) (Hw _)) (Hh (HK T.xt ap rfl T.mC (Hy (J 0) rfl))) Hu)
    (He (HG (Hs Ip (HB M.byte am (J 0)) (Hr T.cBS) (Hw _)) (He (Hv (HB M.adv am (J 0)))
    (Hh (Hv (JS AO AV AU Iu (J 2) (G8 (Ss nz y Hm (Iw Hg)) Hg))))) (He (bG 3 Yi.nd (HL DL ay rfl (G8 (J 0) (G8 (J 3) Hg))))
    (Hh (Hv (JS AO AV AU Iu (J 2) (G8 (Ik (G8 (J 3) (G8 (Sf (P:=P) (w:=w) (K:=K) (mg:=mg) (base:=base) (i:=1) (C:=C) (k:=13) (E:=E) rfl (Or.inl rfl) hr OE (G8 (J 0) Hg)) Hg))) Hg))))))
    (Hh (Hv (IN MT a1 (J 0) (G8 (Hr T.cNL) Hg)))))))
    (He (HG (Hs Ip (J 3) Hm (Hw _)) (Hh (HK T.xt ap rfl T.mC (Hy (J 0) rfl))) Hu)
    (Hh (Hx (J 2))))))),?_⟩
  have ht:t≠[]:=λz=>by
   have:=u2.le;rw[z] at this;simp at this
   lia
  obtain⟨be,aq⟩:=u2.at_;refine⟨Az _,λm d7=>?_⟩;have sm:=aF (o:=.lst []) d7;have mc:m≠c:=λz=>by rw[z,aq] at d7;cases d7
  refine⟨λmm σ H'=>∃(aE:List (Ln β)) (last pos:Nat),mm=t.length-pos/\σ=[some (.ref c),some (.ref g),some (.ref m),some (.int (last:Int))]/\bE K B H' c a t pos t.length/\aV W ok H' m aE/\aL H H' c/\aE.length<=512/\la rd 0 0 I (st t I t.length)=Kb aE (la rd last aE.length pos (st t pos t.length)),zQ Y Y ⟨u2.same sm,⟨[],G9,Y,λi b v R=>by simp at R⟩,aL.of sm,by simp,(UE _).symm⟩,?_⟩
  rintro mm σ H3 ⟨aE,last,pos,rfl,rfl,u3,ag,al,bd,G⟩;obtain⟨d6,d9⟩:=u3.at_;refine zA Y (zC Y d9 (HC _ _ _) (zL Y u3 Y (zA Y ?_)));rw[ID];refine HN (λh=>?_) λh=>?_
  ·obtain⟨ch,r,d8⟩:=Kz (Lr h);have bc:=IG d8;have a9:=JF u3.len d8;obtain⟨bs,ac,bf⟩:=ag.len;refine⟨λas H'=>∃(aE:List (Ln β)) (last pos':Nat),pos<pos'/\as=[some (.ref c),some (.ref g),some (.ref m),some (.int (last:Int))]/\bE K B H' c a t pos' t.length/\aV W ok H' m aE/\aL H H' c/\aE.length<=512/\la rd 0 0 I (st t I t.length)=Kb aE (la rd last aE.length pos' (st t pos' t.length)),?_,?_⟩
   ·rintro as H' ⟨aE,last,pos',hp,rfl,b1,b2,b3,b4,b5⟩;have:=b1.le;exact zA (by lia) (zC Y Y b1 ⟨b2,b3,b4,b5⟩)
   ·-- 512 lines
    refine zA Y (zF Y (.inl (aP.of ac)) Y (zA Y ?_));rw[ID,Ab];refine HN (λh5=>?_) λh5=>?_
    ·have a7:(bs.length:Int)=512:=of_decide_eq_true h5;rw[d8,Mc FR,G7 (by lia)] at G;exact zA Y (zD Y d9 T.cl T.nP (HA _ _ _) ⟨_,Y,λd hd=>kE pos G _ d G9⟩)
    ·have a7:¬(bs.length:Int)=512:=λz=>h5 (decide_eq_true z);have af:¬512<=aE.length:=by lia
     have tail:∀(H':Hp) (ad:List (Ln β)) (ae pos':Nat),bE K B H' c a t pos' t.length->aV W ok H' m ad->aL H H' c->pos<pos'->ad.length=aE.length+1->la rd 0 0 I (st t I t.length)=Kb ad (match PX pos' (st t pos' t.length) with
        |.error e=>.error e
        |.ok (q,u)=>la rd ae (aE.length+1) q u)->
       Ol B "take" (Jh K B C) [] E (HW 0) (Ii (tC (.int 10)) JL) [some (.ref c),some (.ref g),some (.ref m),some (.int (ae:Int))] H' (λ_ H1=>∃(aE:List (Ln β)) (last pos':Nat),pos<pos'/\[some (V.ref c),some (.ref g),some (.ref m),some (.int (ae:Int))]=[some (.ref c),some (.ref g),some (.ref m),some (.int (last:Int))]/\bE K B H1 c a t pos' t.length/\aV W ok H1 m aE/\aL H H1 c/\aE.length<=512/\la rd 0 0 I (st t I t.length)=Kb aE (la rd last aE.length pos' (st t pos' t.length))):=by
      intro H' ad ae pos' u' az a8 hp a2 X;obtain⟨aw,ar⟩:=u'.at_;refine zI _ Y (zJ c aw _ Y ar (HC _ _ _) (zS c a t pos' t.length 10 Y ⟨u',λhB=>?_,λhB=>?_⟩))
      ·intro H4 S k4;obtain⟨r',U⟩:=HD hB;have ai:=IG U;rw[U] at X;unfold PX at X;dsimp only at X;rw[G7 rfl] at X;refine zC (by lia) Y S ⟨az.keep k4 ar,a8.trans k4,by lia,?_⟩
       rwa [ai,a2]
      ·refine kE pos' ?_;rw[X];cases U:st t pos' t.length with
       |nil=>rfl
       |cons d r'=>unfold PX;dsimp only;rw[G6 (IP hB d r' U)];rfl
     refine zA Y (zC Y d9 (HC _ _ _) (zL Y u3 Y (zA Y ?_)));rw[ID];refine HN (λR=>?_) λR=>?_
     ·have a0:Ht (st t pos t.length)=((124:UInt8).toNat:Int):=of_decide_eq_true R;obtain⟨r',U⟩:=HD a0;have ai:=IG U;refine zA Y (zC Y d9 (HC _ _ _) (zG Y d9 (λH4 h4 k4=>?_)));have S:=u3.move k4 ⟨d6,h4⟩ a9;have an:=ag.keep k4 d9;have N:H4 m=some (.lst (bs.map V.ref)):=k4 _ _ ac (Hq ac d9 aO);refine zE Y (.inl ⟨Y,_,aP.of N⟩) ?_;refine⟨Az _,λy aa=>⟨(by show 2<=GI;decide),λb R=>?_⟩⟩;have s5:=aF (o:=.lst []) aa;have L:=aF (o:=.tup [.int 0,.ref y]) R;have ab:=s5.trans L;have nm:y≠m:=λz=>by rw[z,N] at aa;cases aa
      refine zN Y Y (ab _ _ N) ?_ ?_
      ·rw[Ab];exact As (show bs.length<513 by lia) (by decide)
      ·have ao:aL H (aK (aK H4 y (.lst [])) b (.tup [.int 0,.ref y])) c:=(al.trans k4).trans (aL.of ab);refine tail _ (aE++[none]) last (pos+1) ((S.same ab).write (ab _ _ N) ht) ((an.same ab).snoc (ab _ _ N) (show cN W ok _ m b none from ⟨y,G9,nm,L _ _ G9⟩)) (λx o D aj=>?_) (by lia) (by rw[Ad];rfl) ?_
       ·rw[Hf (λz=>by rw[z,d7] at D;cases D)];exact ao x o D aj
       ·rw[ai,G,U,Y1 FR _ _ _ _ _ af]
        all_goals (cases PX (pos+1) r' <;> rfl)
     ·have a5:¬Ht (st t pos t.length)=((124:UInt8).toNat:Int):=λz=>R (decide_eq_true z);have ah:=IP a5 ch r d8;refine zA Y (zA Y (zP Y u3 (λx D=>?_) (λn q w hL H4 S k4=>?_)))
      ·rw[d8] at D;exact kE x (by rw[G,d8,WX FR _ af ah D])
      ·obtain⟨f1,f2,f3,f4⟩:=Lx last pos (st t pos t.length) _ _ _ hL;have hw:w=st t q t.length:=by
        rw[f3,Ig];congr 1
        lia
       obtain⟨bb,au⟩:=S.at_;have N:H4 m=some (.lst (bs.map V.ref)):=k4 _ _ ac (Hq ac d9 aO);have an:=ag.keep k4 d9;have av:=al.trans k4;refine zE Y (.inl ⟨Y,_,aP.of N⟩) ?_;refine zA Y (zA Y (zA Y (zK (CL.on (av.frz aq)) (zL Y S (λx D=>?_) (λl q2 w2 hM H5 y u5 k5 aa a4 a3=>?_)))))
       ·rw[d8,hw] at hL;exact kE x (by rw[G,d8,Yb FR _ af ah hL D])
       ·obtain⟨g1,g2,g3⟩:=aZ.at_ S.len S.le (FR q (st t q t.length)) hM;refine⟨(by show 2<=GI;decide),λb R=>?_⟩;have ak:H5 m=some (.lst (bs.map V.ref)):=k5 _ _ N (Hq N au aO);have nm:y≠m:=λz=>by rw[z,N] at aa;cases aa
        have L:=aF (o:=.tup [.int (n:Int),.ref y]) R;refine zN Y Y (L _ _ ak) ?_ ?_
        ·rw[Ab];exact As (show bs.length<513 by lia) (by decide)
        ·have ao:aL H (aK H5 b (.tup [.int (n:Int),.ref y])) c:=(av.trans k5).trans (aL.of L);refine tail _ (aE++[some (n,l)]) n q2 ((u5.same L).write (L _ _ ak) ht) (((an.keep k5 au).same L).snoc (L _ _ ak) (show cN W ok _ m b (some (n,l)) from ⟨y,G9,nm,a4.same L,a3⟩)) (λx o D aj=>?_) (by lia) (by rw[Ad];rfl) ?_
         ·rw[Hf (λz=>by rw[z,d7] at D;cases D)];exact ao x o D aj
         ·rw[d8,hw] at hL;rw[g3] at hM;rw[G,d8,Ua FR _ af ah hL hM]
          all_goals (cases PX q2 (st t q2 t.length) <;> rfl)
  ·have ax:=Kg (Lc h);rw[ax,mV] at G;refine zE Y Y (zA Y ?_);rw[ID];refine HN (λh0=>?_) λh0=>?_
   ·have a6:(last:Int)=0:=of_decide_eq_true h0;rw[G7 (by lia)] at G;exact zA Y (zD Y d9 T.cl T.nP (HA _ _ _) ⟨_,Y,λd hd=>kE pos G _ d G9⟩)
   ·have a6:¬(last:Int)=0:=λz=>h0 (decide_eq_true z);rw[G6 (by lia)] at G;have X:la rd 0 0 I (st t I t.length)=.ok aE:=by rw[G];show Except.ok (aE++[])=_;rw[AR]
    exact⟨_,Y,kQ aE X H3 m al d7 ag⟩
end
def dR(H:Hp)(m b:Z):Verse->Prop
 |.bar=>∃a,H b=some (.tup [.int 0,.ref a])/\a≠m/\H a=some (.lst [])
 |.moment n l=>∃a,H b=some (.tup [.int (n:Int),.ref a])/\a≠m/\aI H a l/\∀x∈l,x.ok=true
theorem dR.move(h:dR H m b v)(k:∀b o,H b=some o->b≠m->(∃xs,o=.lst xs)\/(∃xs,o=.tup xs)->H' b=some o)(nm:∀xs,H m≠some (.tup xs)):dR H' m b v:=by
 cases v with
 |bar=>obtain⟨a,h1,h2,f⟩:=h;exact⟨a,k _ _ h1 (λz=>by rw[z] at h1;exact nm _ h1) (.inr ⟨_,Y⟩),h2,k _ _ f h2 (.inl ⟨_,Y⟩)⟩
 |moment n l=>obtain⟨a,h1,h2,⟨bs,g1,g2,g3⟩,e⟩:=h;exact⟨a,k _ _ h1 (λz=>by rw[z] at h1;exact nm _ h1) (.inr ⟨_,Y⟩),h2,⟨bs,k _ _ g1 h2 (.inl ⟨_,Y⟩),g2,λi b x c d=>k _ _ (g3 i b x c d) (λz=>by have:=g3 i b x c d;rw[z] at this;exact nm _ this) (.inr ⟨_,Y⟩)⟩,e⟩
def bD(H:Hp)(m:Z)(s:Song):Prop:=∃bs:List Z,H m=some (.lst (bs.map V.ref))/\bs.length=s.length/\∀(i:Nat) (b:Z) (v:Verse),bs[i]?=some b->s[i]?=some v->dR H m b v
theorem bD.nt(h:bD H m s):∀xs,H m≠some (.tup xs):=λxs z=>by obtain⟨bs,h1,_⟩:=h;rw[h1] at z;cases z
theorem bD.move(h:bD H m s)(k:∀b o,H b=some o->(∃xs,o=.lst xs)\/(∃xs,o=.tup xs)->H' b=some o):bD H' m s:=by have nt:=h.nt;obtain⟨bs,h1,h2,e⟩:=h;exact⟨bs,k _ _ h1 (.inl ⟨_,Y⟩),h2,λi b v d a=>(e i b v d a).move (λb o c _ q=>k b o c q) nt⟩
theorem bD.same(h:bD H m s)(k:aG H H'):bD H' m s:=h.move λb o a _=>k b o a
def Qg(K:G5)(C:Z):Sp:=λvs H Q E=>∃(a:Z) (t:Bytes),vs=[.ref a]/\aP K H a (tx t) ∧
 (∀x,readSong t=.error x->fG C E x)/\∀s,readSong t=.ok s->∀(H':Hp) (m:Z),aG H H'->bD H' m s->Q (.ref m) H'
theorem Xf(h:aV cT (λl=>∀x∈l,x.ok=true) H m s):bD H m (s.map Qe):=by
 obtain⟨bs,h1,h2,e⟩:=h;refine⟨bs,h1,by rw[Ab,h2],λi b v d a=>?_⟩;rw[Ah] at a;cases q:s[i]? with
 |none=>rw[q] at a;cases a
 |some c=>
  rw[q] at a;cases a;have:=e i b c d q;cases c with
  |none=>exact this
  |some f=>exact this
variable{P:GJ}{w:GQ}{K:G5}{mg:Str->Option O}{base:Heap}{B C:Z}
theorem lH:aH ["text","cursor"] ["text"] (Hj KZ):=HZ
theorem Xe(F:bI K "read_song" "read_song" KZ f fd)(T:cS K mg B C)(d6:cW P w K mg base C B 3 "take" ["self","wanted"] (Jh K B C))(d8:cW P w K mg base C B 4 "take_word" ["self","word"] (NQ K B C))
  (DI:gD P w K mg base C B 1 "Cursor" ["self","text","place","end"] (NJ B)) (DR:bQ P w K mg base C 14 "read_lines" ["cursor","read_content"] (SR P w K mg base B C)) (DN:bQ P w K mg base C 9 "read_notes" ["cursor"] (SD K B C)):
  aN P w K mg base (aS P w C) 15 f fd ["text"] (Qg K C):=by
 refine F.okX lH (λvs H Q E h=>?_) (λaC A outer s H vs Q E e h=>?_)
 ·obtain⟨a,t,rfl,_⟩:=h;rfl
 ·obtain⟨a,t,rfl,v,n,kQ⟩:=h;obtain⟨g,V,W⟩:=DN.clb;have af:=e.mono (show 2<=14 by decide);have ae:=e.mono (show 3<=14 by decide);have X:=e.mono (show 4<=14 by decide);refine⟨_,(He (bG 1 lH.nd (Ra DI af rfl (G8 (J 0) (G8 Hm (G8 (HE HF (by rfl) T.len PySem.boot_len (G8 (J 0) Hg)) Hg)))))
    (He (Hv (IN d8 X (J 1) (G8 (Hr T.fst) Hg)))
    (He (Hv (IN d6 ae (J 1) (G8 (Hr T.cNL) Hg)))
    (Hh (Hx (HL DR e rfl (G8 (J 1) (G8 (RO V) Hg)))))))),?_⟩
  refine zA Y (zA Y (zB Y (.inl v) (λc dx G ac ai=>?_)));have ad:(tx t).length=t.length:=by unfold tx;rw[Ab]
  refine zW c dx a 0 t.length (by rw[ad];rfl) ⟨G9,λH1 L k1=>⟨Y,?_⟩⟩;have I:aG H H1:=aG.made G ac k1;have U:bE K B H1 c a t 0 t.length:=⟨⟨dx,L⟩,I.seq v,Az _,Ag _⟩;have S:∀{H':Hp},aL H1 H' c->aG H H':=λk b o i=>k _ _ (I _ _ i) (λz=>by rw[z,G] at i;cases i);have r:Lg=[115,111,110,103]++[10]:=rfl;refine zI _ Y (zJ c dx _ Y L (HC _ _ _) (zM c a t 0 t.length "song" [115,111,110,103] Y ⟨(by unfold Wd;decide),U,λy d9=>?_,λq u j H2 D k2 hu=>?_⟩))
  ·rw[LR,Dr] at d9;exact n y (by rw[MZ,r,Qr d9])
  ·obtain⟨d7,q2,q3⟩:=RF _ _ _ _ _ j;have R:q=4:=d7;subst R;subst hu;rw[LR,Dr] at j;have d:=MZ t;rw[r,SO j] at d;obtain⟨ab,N⟩:=D.at_;refine⟨_,Y,c,ab,_,Y,N,(HC _ _ _),c,a,t,4,t.length,10,Y,D,λp=>?_,λp=>?_⟩
   ·intro H3 M k3;rw[Ja,G7 p,Ig] at d;have d:readSong t=va 0 0 5 (st t 5 t.length):=d;rw[pG] at d;obtain⟨aj,ag⟩:=M.at_;refine⟨_,Y,Iv,cT,zM (λl=>∀x∈l,x.ok=true) J9 c g a t 5 Y ⟨M,by decide,TJ,(W H3).mono (by decide),λx hx=>n x (by rw[d,hx];rfl),λls aa H4 m k4 ah hL=>?_⟩⟩;exact kQ _ (by rw[d,aa];rfl) H4 m (S ((k2.trans k3).trans k4)) (Xf hL)
   ·rw[Ja,G6 p] at d;exact n 4 d
end Lu
section
namespace L2
open PySem.W (WData Codec OpenSpec Well WellAll ReadsW ReadsAllW)
mutual
inductive Dw(K:G5)(H:Hp):V->WData->Prop
 |non:Dw K H .non .none
 |bl (b:Bool):Dw K H (.bl b) (.bool b)
 |int (i:Int):Dw K H (.int i) (.int i)
 |str (x:Str):Dw K H (.str x) (.str x)
 |byt (b:Array UInt8):Dw K H (.byt b) (.bytes b.toList)
 |lst {a:Z} {xs:List V} {ds:List WData}:aP K H a xs->bM K H xs ds->Dw K H (.ref a) (.list ds)
 |tup {a:Z} {xs:List V} {ds:List WData}:aQ K H a xs->bM K H xs ds->Dw K H (.ref a) (.tuple ds)
inductive bM(K:G5)(H:Hp):List V->List WData->Prop
 |nil:bM K H [] []
 |cons {v:V} {vs:List V} {d:WData} {ds:List WData}:Dw K H v d->bM K H vs ds->bM K H (v::vs) (d::ds)
end
theorem fV{K:G5}{H:Hp}:∀ns:List Int,bM K H (ns.map V.int) (ns.map WData.int)
 |[]=>.nil
 |n::r=>.cons (.int n) (fV r)
theorem eI{K:G5}{H:Hp}:∀(ns:List Int) (xs:List V),bM K H xs (ns.map WData.int)->xs=ns.map V.int
 |[],xs,h=>by cases h;rfl
 |n::r,xs,h=>by
  cases h with
  |cons h1 h2=>cases h1;rw[eI r _ h2] <;> rfl
section
variable{P:GJ}{w:GQ}{K:G5}{H:Hp}{h:Heap}{R:PySem.W.WRecords}{cl:Str->Option Z}
theorem pF(c:bU P w H h)(d:K.In h)(q:aP K H a xs):∃(aD:List O) (o:Obj) (n:Nat),aJ xs aD/\h.get? a=some o/\o.cls=.type "list"/\o.data=.seq aD.toArray n:=by
 rcases q with q | ⟨o,aD,n,e,f,_,hd,_,b⟩
 ·obtain⟨_,aD,n,b,e⟩:=(show aT P w H h a (.lst xs) from q.ok c);exact⟨aD,_,n,b,e,Y,Y⟩
 ·exact⟨aD.toList,o,n,b,d _ _ e,f,by simp[hd]⟩
theorem YX(d:bU P w H h)(f:K.In h)(q:aQ K H a xs):∃(aD:List O) (o:Obj) (n:Nat),aJ xs aD/\h.get? a=some o/\o.cls=.type "tuple"/\o.data=.seq aD.toArray n:=by
 rcases q with q | ⟨o,aD,n,e,c,hd,_,b⟩
 ·obtain⟨_,aD,b,o,e,c,n,hd⟩:=(show aT P w H h a (.tup xs) from q.ok d);exact⟨aD,o,n,b,e,c,hd⟩
 ·exact⟨aD.toList,o,n,b,f _ _ e,c,by simp[hd]⟩
mutual
theorem Dw.reads(c:bU P w H h)(a:K.In h):∀(d:WData) (v:V) (u:O),Dw K H v d->RelV v u->∃as,ReadsW R cl h u d as
 |.none,_,_,x,r=>by cases x;cases r;exact⟨_,ReadsW.none⟩
 |.bool b,_,_,x,r=>by cases x;cases r;exact⟨_,ReadsW.bool b⟩
 |.int i,_,_,x,r=>by cases x;obtain⟨t,rfl⟩:=r;exact⟨_,ReadsW.int i t⟩
 |.str s,_,_,x,r=>by cases x;obtain⟨t,rfl⟩:=r;exact⟨_,ReadsW.str s t⟩
 |.bytes b,_,_,x,r=>by cases x;obtain⟨t,rfl⟩:=r;exact⟨_,ReadsW.bytes _ t⟩
 |.list ds,_,_,x,r=>by
  cases x with
  |lst hs e=>cases r;obtain⟨aD,o,n,f,j,g,hd⟩:=pF c a hs;obtain⟨as,k⟩:=Dw.readsAll c a ds _ aD e f;exact⟨_,ReadsW.list j g hd k⟩
 |.tuple ds,_,_,x,r=>by
  cases x with
  |tup hs e=>cases r;obtain⟨aD,o,n,f,j,g,hd⟩:=YX c a hs;obtain⟨as,k⟩:=Dw.readsAll c a ds _ aD e f;exact⟨_,ReadsW.tuple j g hd k⟩
 |.float _,_,_,x,_=>by cases x
 |.dict _,_,_,x,_=>by cases x
 |.bytearray _,_,_,x,_=>by cases x
 |.set _,_,_,x,_=>by cases x
 |.frozenset _,_,_,x,_=>by cases x
 |.obj _ _,_,_,x,_=>by cases x
theorem Dw.readsAll(b:bU P w H h)(a:K.In h):∀(ds:List WData) (vs:List V) (us:List O),bM K H vs ds->aJ vs us->∃as,ReadsAllW R cl h us ds as
 |[],_,_,x,r=>by cases x;cases r;exact⟨_,ReadsAllW.nil⟩
 |d::ds,_,_,x,r=>by
  cases x with
  |cons h1 h2=>
   cases r with
   |cons g c=>obtain⟨as,e⟩:=Dw.reads b a d _ _ h1 g;obtain⟨bs,f⟩:=Dw.readsAll b a ds _ _ h2 c;exact⟨_,ReadsAllW.cons e f⟩
end
end
mutual
def fS:WData->Bool
 |.none=>true
 |.bool _=>true
 |.int _=>true
 |.str _=>true
 |.bytes _=>true
 |.list xs=>M7 xs
 |.tuple xs=>M7 xs
 |_=>false
def M7:List WData->Bool
 |[]=>true
 |x::r=>fS x&&M7 r
end
theorem Qq{b:Type}{f:b->WData}(h:∀a,fS (f a)=true):∀l:List b,M7 (l.map f)=true
 |[]=>rfl
 |x::r=>by show(fS (f x)&&M7 (r.map f))=true;rw[h x,Qq h r] <;> rfl
theorem KP:∀(c:Codec) (a:c.denote),fS (c.enc a)=true
 |.unit,_=>rfl
 |.bool,_=>rfl
 |.int _ _,_=>rfl
 |.nat _ _,_=>rfl
 |.u8,_=>rfl
 |.bytes _ _,_=>rfl
 |.text _ _ _ _,_=>rfl
 |.list _ _ c,a=>Qq (λx=>KP c x) a
 |.pair c d,a=>by show(fS (c.enc a.1)&&(fS (d.enc a.2)&&true))=true;rw[KP c a.1,KP d a.2] <;> rfl
 |.triple c d e,a=>by show(fS (c.enc a.1)&&(fS (d.enc a.2.1)&&(fS (e.enc a.2.2)&&true)))=true;rw[KP c a.1,KP d a.2.1,KP e a.2.2] <;> rfl
 |.option c,none=>rfl
 |.option c,some x=>KP c x
theorem O5:∀(cs:List Codec) (a:Codec.denoteAll cs),M7 (Codec.encAll cs a)=true
 |[],_=>rfl
 |c::cs,a=>by show(fS (c.enc a.1)&&M7 (Codec.encAll cs a.2))=true;rw[KP c a.1,O5 cs a.2] <;> rfl
theorem Lw:∀{xs:List WData} {d:WData},d∈xs->d.weight<=WData.weightAll xs
 |[],d,h=>absurd h (by simp)
 |x::r,d,h=>by
  show d.weight<=x.weight+1+WData.weightAll r;rcases Aq.mp h with e | m
  ·rw[e]
   lia
  ·have z:=Lw m
   lia
def dZ:O->V
 |.none=>.non
 |.bool b=>.bl b
 |.int i _=>.int i
 |.str x _=>.str x
 |.bytes b _=>.byt b
 |.ref a=>.ref a
 |_=>.non
def gA(A:List Z):O->Prop
 |.none=>True
 |.bool _=>True
 |.int _ _=>True
 |.str _ _=>True
 |.bytes _ _=>True
 |.ref a=>a∈A
 |_=>False
theorem gA.mono(h:∀a∈A,a∈B):∀{u:O},gA A u->gA B u:=λ{u} x=>by
 cases u with
 |ref a=>exact h a x
 |none=>trivial
 |bool b=>trivial
 |int i t=>trivial
 |str s t=>trivial
 |bytes b t=>trivial
 |_=>exact False.elim x
theorem U1(x:gA A u):RelV (dZ u) u:=by
 cases u with
 |ref a=>rfl
 |none=>rfl
 |bool b=>rfl
 |int i t=>exact⟨t,Y⟩
 |str s t=>exact⟨t,Y⟩
 |bytes b t=>exact⟨t,Y⟩
 |_=>exact False.elim x
theorem Kf:∀{vs:List O},(∀u∈vs,gA A u)->aJ (vs.map dZ) vs
 |[],_=>.nil
 |u::r,h=>.cons (U1 (h u (AH ..))) (Kf λx a=>h x (Aw _ a))
def cJ(h:Heap)(A:List Z)(a:Z):Prop:=∃vs:List O,vs.length<=GI/\(∀u∈vs,gA A u) ∧
 (h.get? a=some { cls:=.type "list",data:=.seq vs.toArray }\/h.get? a=some { cls:=.type "tuple",data:=.seq vs.toArray })
theorem cJ.mono(k:∀a∈A,a∈B)(x:cJ h A a):cJ h B a:=by obtain⟨vs,h1,h2,c⟩:=x;exact⟨vs,h1,λu b=>(h2 u b).mono k,c⟩
theorem JO:∀{vs:List O} {ds:List WData},WellAll P h vs ds->vs.length=ds.length
 |_,_,.nil=>rfl
 |_,_,.cons _ b=>by show _+1=_+1;rw[JO b]
theorem OA(x:Well P h v (.list ds)):∃(a:Z) (vs:List O),v=.ref a/\h.get? a=some { cls:=.type "list",data:=.seq vs.toArray }/\WellAll P h vs ds:=by
 cases x with
 |list b c=>exact⟨_,_,Y,b,c⟩
theorem Om(x:Well P h v (.tuple ds)):∃(a:Z) (vs:List O),v=.ref a/\h.get? a=some { cls:=.type "tuple",data:=.seq vs.toArray }/\WellAll P h vs ds:=by
 cases x with
 |tuple b c=>exact⟨_,_,Y,b,c⟩
theorem OW(x:WellAll P h us (d::ds)):∃(v:O) (vs:List O),us=v::vs/\Well P h v d/\WellAll P h vs ds:=by
 cases x with
 |cons a b=>exact⟨_,_,Y,a,b⟩
theorem SG(h:n<=1048576):n<=GI:=AE h (by decide)
section
variable{P:Params}{h:Heap}
mutual
theorem UU:∀(d:WData) (v:O),Well P h v d->fS d=true->d.weight<=1048576->∃A:List Z,gA A v/\∀a∈A,cJ h A a
 |.none,_,x,_,_=>by cases x;exact⟨[],trivial,λa m=>absurd m (by simp)⟩
 |.bool b,_,x,_,_=>by cases x;exact⟨[],trivial,λa m=>absurd m (by simp)⟩
 |.int i,_,x,_,_=>by cases x;exact⟨[],trivial,λa m=>absurd m (by simp)⟩
 |.str s,_,x,_,_=>by cases x;exact⟨[],trivial,λa m=>absurd m (by simp)⟩
 |.bytes b,_,x,_,_=>by cases x;exact⟨[],trivial,λa m=>absurd m (by simp)⟩
 |.list ds,_,x,p,z=>by
  obtain⟨a,vs,rfl,l,f⟩:=OA x;have g:WData.weightAll ds<=1048576:=z;obtain⟨A,h1,h2⟩:=Mj ds _ f p λd hd=>AE (Lw hd) g;have k:∀b∈A,b∈a::A:=λb c=>Aw _ c;refine⟨a::A,AH ..,λb c=>?_⟩;rcases Aq.mp c with e | m
  ·rw[e];exact⟨vs,SG (by rw[JO f];exact AE (EH ds) g),λu j=>(h1 u j).mono k,.inl l⟩
  ·exact(h2 b m).mono k
 |.tuple ds,_,x,p,z=>by
  obtain⟨a,vs,rfl,l,f⟩:=Om x;have g:WData.weightAll ds<=1048576:=z;obtain⟨A,h1,h2⟩:=Mj ds _ f p λd hd=>AE (Lw hd) g;have k:∀b∈A,b∈a::A:=λb c=>Aw _ c;refine⟨a::A,AH ..,λb c=>?_⟩;rcases Aq.mp c with e | m
  ·rw[e];exact⟨vs,SG (by rw[JO f];exact AE (EH ds) g),λu j=>(h1 u j).mono k,.inr l⟩
  ·exact(h2 b m).mono k
 |.float _,_,_,p,_=>Bi (show false=true from p)
 |.dict _,_,_,p,_=>Bi (show false=true from p)
 |.bytearray _,_,_,p,_=>Bi (show false=true from p)
 |.set _,_,_,p,_=>Bi (show false=true from p)
 |.frozenset _,_,_,p,_=>Bi (show false=true from p)
 |.obj _ _,_,_,p,_=>Bi (show false=true from p)
theorem Mj:∀(ds:List WData) (vs:List O),WellAll P h vs ds->M7 ds=true->(∀d∈ds,d.weight<=1048576)->∃A:List Z,(∀u∈vs,gA A u)/\∀a∈A,cJ h A a
 |[],_,x,_,_=>by cases x;exact⟨[],λu m=>absurd m (by simp),λa m=>absurd m (by simp)⟩
 |d::ds,_,x,p,z=>by
  obtain⟨v,vs,rfl,r,k⟩:=OW x;have q:fS d=true/\M7 ds=true:=FL.mp p;obtain⟨A,l,i⟩:=UU d v r q.1 (z d (AH ..));obtain⟨B,s,j⟩:=Mj ds vs k q.2 λe n=>z e (Aw _ n);have g:∀b∈A,b∈A++B:=λb c=>AA.mpr (.inl c);have f:∀b∈B,b∈A++B:=λb c=>AA.mpr (.inr c);refine⟨A++B,λu o=>?_,λb c=>?_⟩
  ·rcases Aq.mp o with e | m
   ·rw[e];exact l.mono g
   ·exact(s u m).mono f
  ·rcases AA.mp c with m | m
   ·exact(i b m).mono g
   ·exact(j b m).mono f
end
end
def Yz(o:Obj):Option HO:=match o.data with
 |.seq vs _=>if (o.cls==O.type "list")=true then some (.frz o (.lst (vs.toList.map dZ))) else some (.frz o (.tup (vs.toList.map dZ)))
 |_=>none
def JZ(K:G5)(h:Heap)(A:List Z):Hp:=λb=>if b∈A then (if (K.lookup b).isNone=true then (h.get? b).bind Yz else none) else none
def mL(H:Hp):Prop:=∀b,H b=none\/∃o u,H b=some (.frz o u)
theorem Q6(vs:List O):Yz { cls:=.type "list",data:=.seq vs.toArray }=some (.frz { cls:=.type "list",data:=.seq vs.toArray } (.lst (vs.map dZ))):=by show(if (O.type "list"==O.type "list")=true then some (HO.frz { cls:=.type "list",data:=.seq vs.toArray } (.lst (vs.toArray.toList.map dZ))) else some (HO.frz { cls:=.type "list",data:=.seq vs.toArray } (.tup (vs.toArray.toList.map dZ))))=_;rw[G7 (beq_self_eq_true _)]
theorem QD(vs:List O):Yz { cls:=.type "tuple",data:=.seq vs.toArray }=some (.frz { cls:=.type "tuple",data:=.seq vs.toArray } (.tup (vs.map dZ))):=by show(if (O.type "tuple"==O.type "list")=true then some (HO.frz { cls:=.type "tuple",data:=.seq vs.toArray } (.lst (vs.toArray.toList.map dZ))) else some (HO.frz { cls:=.type "tuple",data:=.seq vs.toArray } (.tup (vs.toArray.toList.map dZ))))=_;rw[G6 (by decide)]
section
variable{P:GJ}{w:GQ}{K:G5}{h:Heap}{A:List Z}
theorem Nj(c:b∈A)(a:K.lookup b=none)(e:h.get? b=some o):JZ K h A b=Yz o:=by unfold JZ;rw[G7 c,a,G7 (show(none:Option Obj).isNone=true from rfl),e] <;> rfl
theorem WY(q:JZ K h A b=some u):b∈A/\K.lookup b=none:=by
 unfold JZ at q;by_cases a:b∈A
 ·rw[G7 a] at q;cases hk:K.lookup b with
  |none=>exact⟨a,Y⟩
  |some o=>rw[hk,G6 (by simp)] at q;cases q
 ·rw[G6 a] at q;cases q
theorem Mh(g:∀a∈A,cJ h A a)(q:JZ K h A b=some u):K.lookup b=none/\∃vs:List O,vs.length<=GI/\(∀u∈vs,gA A u) ∧
  ((h.get? b=some { cls:=.type "list",data:=.seq vs.toArray }/\u=.frz { cls:=.type "list",data:=.seq vs.toArray } (.lst (vs.map dZ))) ∨
   (h.get? b=some { cls:=.type "tuple",data:=.seq vs.toArray }/\u=.frz { cls:=.type "tuple",data:=.seq vs.toArray } (.tup (vs.map dZ)))):=by
 obtain⟨d,c⟩:=WY q;obtain⟨vs,h1,h2,f⟩:=g b d;refine⟨c,vs,h1,h2,?_⟩;rcases f with e | e
 ·rw[Nj d c e,Q6] at q;exact .inl ⟨e,(Option.some.inj q).symm⟩
 ·rw[Nj d c e,QD] at q;exact .inr ⟨e,(Option.some.inj q).symm⟩
theorem Us(c:∀a∈A,cJ h A a):mL (JZ K h A):=λb=>by
 cases q:JZ K h A b with
 |none=>exact .inl rfl
 |some u=>
  obtain⟨_,vs,_,_,⟨_,e⟩ | ⟨_,e⟩⟩:=Mh c q
  ·exact .inr ⟨_,_,by rw[e]⟩
  ·exact .inr ⟨_,_,by rw[e]⟩
theorem X8(c:∀a∈A,cJ h A a):bU P w (JZ K h A) h:=λb u q=>by
 obtain⟨_,vs,h1,h2,⟨e,rfl⟩ | ⟨e,rfl⟩⟩:=Mh c q
 ·exact⟨e,by rwa [Ab],vs,_,Kf h2,e⟩
 ·exact⟨e,⟨by rwa [Ab],Nq e rfl⟩,vs,Kf h2,_,e,Y,_,Y⟩
theorem Nc{c a:O}{vs us:List O}(e:(some { cls:=c,data:=.seq vs.toArray }:Option Obj)=some { cls:=a,data:=.seq us.toArray }):c=a/\vs=us:=by have e1:=Option.some.inj e;have g:c=a:=congrArg Obj.cls e1;have d:Data.seq vs.toArray=Data.seq us.toArray:=congrArg Obj.data e1;injection d with b;refine⟨g,?_⟩;have f:=congrArg Fm b;simpa using f
theorem oN(f:K.In h)(j:∀a∈A,cJ h A a){a:Z}{vs:List O}(b:a∈A)(e:h.get? a=some { cls:=.type "list",data:=.seq vs.toArray }):(∀u∈vs,gA A u)/\aP K (JZ K h A) a (vs.map dZ):=by
 obtain⟨c,h1,h2,i⟩:=j a b;have g:c=vs:=by
  rcases i with q | q
  ·rw[e] at q;exact(Nc q).2.symm
  ·rw[e] at q;exact absurd (O.type.inj (Nc q).1) (by decide)
 subst g;refine⟨h2,?_⟩;cases hk:K.lookup a with
 |none=>exact .inl (.inr ⟨_,by rw[Nj b hk e,Q6]⟩)
 |some o=>have d:=f a o hk;rw[e] at d;obtain rfl:=Option.some.inj d;exact .inr ⟨_,c.toArray,_,hk,Y,Y,Y,by rwa [Am],by simpa using Kf h2⟩
theorem pZ(f:K.In h)(j:∀a∈A,cJ h A a){a:Z}{vs:List O}(b:a∈A)(e:h.get? a=some { cls:=.type "tuple",data:=.seq vs.toArray }):(∀u∈vs,gA A u)/\aQ K (JZ K h A) a (vs.map dZ):=by
 obtain⟨c,h1,h2,i⟩:=j a b;have g:c=vs:=by
  rcases i with q | q
  ·rw[e] at q;exact absurd (O.type.inj (Nc q).1) (by decide)
  ·rw[e] at q;exact(Nc q).2.symm
 subst g;refine⟨h2,?_⟩;cases hk:K.lookup a with
 |none=>exact .inl (.inr ⟨_,by rw[Nj b hk e,QD]⟩)
 |some o=>have d:=f a o hk;rw[e] at d;obtain rfl:=Option.some.inj d;exact .inr ⟨_,c.toArray,_,hk,Y,Y,by rwa [Am],by simpa using Kf h2⟩
mutual
theorem Zd{j:Params}(c:K.In h)(e:∀a∈A,cJ h A a):∀(d:WData) (v:O),Well j h v d->fS d=true->gA A v->Dw K (JZ K h A) (dZ v) d
 |.none,_,x,_,_=>by cases x;exact .non
 |.bool b,_,x,_,_=>by cases x;exact .bl b
 |.int i,_,x,_,_=>by cases x;exact .int i
 |.str s,_,x,_,_=>by cases x;exact .str s
 |.bytes b,_,x,_,_=>by cases x;have z:=Dw.byt (K:=K) (H:=JZ K h A) b.toArray;exact z
 |.list ds,_,x,p,hu=>by obtain⟨a,vs,rfl,g,f⟩:=OA x;obtain⟨h2,hs⟩:=oN c e hu g;exact .lst hs (Pq c e ds _ f p h2)
 |.tuple ds,_,x,p,hu=>by obtain⟨a,vs,rfl,g,f⟩:=Om x;obtain⟨h2,hs⟩:=pZ c e hu g;exact .tup hs (Pq c e ds _ f p h2)
 |.float _,_,_,p,_=>Bi (show false=true from p)
 |.dict _,_,_,p,_=>Bi (show false=true from p)
 |.bytearray _,_,_,p,_=>Bi (show false=true from p)
 |.set _,_,_,p,_=>Bi (show false=true from p)
 |.frozenset _,_,_,p,_=>Bi (show false=true from p)
 |.obj _ _,_,_,p,_=>Bi (show false=true from p)
theorem Pq(b:K.In h)(c:∀a∈A,cJ h A a):∀(ds:List WData) (vs:List O),WellAll Pm h vs ds->M7 ds=true->(∀u∈vs,gA A u)->bM K (JZ K h A) (vs.map dZ) ds
 |[],_,x,_,_=>by cases x;exact .nil
 |d::ds,_,x,p,hu=>by obtain⟨v,vs,rfl,f,e⟩:=OW x;have q:fS d=true/\M7 ds=true:=FL.mp p;exact .cons (Zd b c d v f q.1 (hu _ (AH ..))) (Pq b c ds vs e q.2 λu m=>hu u (Aw _ m))
end
end
theorem Oa(h:WData.layableAll ds=true):∀d∈ds,d.weight<=1048576:=λd hd=>(PySem.W.layableW_iff.mp (Bb.mp h d hd)).2.2
theorem Oj:∀(cs:List Codec) (a:Codec.denoteAll cs),(Codec.encAll cs a).length=cs.length
 |[],_=>rfl
 |c::cs,a=>by show(Codec.encAll cs a.2).length+1=cs.length+1;rw[Oj cs a.2]
end L2
end
namespace L2
open PySem.W (WData Codec OpenSpec Well WellAll ReadsW ReadsAllW)
theorem aP.same'{K:G5}{H H':Hp}{a:Z}{xs:List V}(e:aG H H')(h:aP K H a xs):aP K H' a xs:=e.seq h
theorem aQ.same'{K:G5}{H H':Hp}{a:Z}{xs:List V}(e:aG H H')(h:aQ K H a xs):aQ K H' a xs:=by
 rcases h with (h | ⟨o,h⟩) | h
 ·exact .inl (.inl (e _ _ h))
 ·exact .inl (.inr ⟨o,e _ _ h⟩)
 ·exact .inr h
mutual
theorem Dw.same{K:G5}{H H':Hp}(e:aG H H'):∀(d:WData) (v:V),Dw K H v d->Dw K H' v d
 |_,_,.non=>.non
 |_,_,.bl b=>.bl b
 |_,_,.int i=>.int i
 |_,_,.str x=>.str x
 |_,_,.byt b=>.byt b
 |_,_,.lst h a=>.lst (aP.same' e h) (bM.same e _ _ a)
 |_,_,.tup h a=>.tup (aQ.same' e h) (bM.same e _ _ a)
theorem bM.same{K:G5}{H H':Hp}(e:aG H H'):∀(ds:List WData) (vs:List V),bM K H vs ds->bM K H' vs ds
 |_,_,.nil=>.nil
 |_,_,.cons h a=>.cons (Dw.same e _ _ h) (bM.same e _ _ a)
end
def KD(K:G5)(h:Heap)(A:List Z)(a:List (Z×Z)):Hp:=λb=>if b∈a.map (·.2) then some (.tbl #[]) else JZ K h A b
theorem RX{P:GJ}{w:GQ}{K:G5}{mg I:Str->Option O}{CX:fT}{k:Nat}{fa:Z}{fd:GP}{ps:List Str}{sp:Sp}{a:GF}{vals:List O}{ds:List WData}{R:PySem.W.WRecords}{cl:Str->Option Z}{d0:WData}{f:List (Z×Z)}
  (KX:K.In a.heap) (hns:a.heap.Ns GM mg) (c:a.heap.Ns builtinsNs I) (hbb:∀x:Str,x≠"__name__"->I x=G3 x) (hlim:a.heap.NoLimit) (hg:a.gens=#[])
  (hwl:WellAll w.params a.heap vals ds) (hpl:M7 ds=true) (hwt:∀d∈ds,d.weight<=1048576) (hr:aY k callerA)
  (hT:PySem.W.TabsAt f a.heap) (hnT:Ga K=true) (hbm:PR a.heap mg)
  (F:∀base:Heap,K.In base->base.Ns GM mg->PR base mg->aN P w K mg base CX k fa fd ps sp) (hbind:∀(s:GF) (us:List O),us.length=ps.length->BindsTo s fd ⟨us,[]⟩ (ps.zip us)) (hlen:ds.length=ps.length)
  (hsp:∀(H:Hp) (xs:List V),(∀q∈f,H q.2=some (.tbl #[]))->bM K H xs ds->sp xs H (λv H'=>Dw K H' v d0) λ_ _ _=>False)
  (hCX:∀H e s',CX [] H a (λ_ _ _=>False) e s'->False):
  codeAny (model P w) callerA (.call (.ref fa) ⟨vals,[]⟩) (λr s'=>∃u as,r=.ok (.ret u)/\ReadsW R cl s'.heap u d0 as/\OldK a.heap s'.heap/\s'.os=a.os/\AllBare s'.gens) a:=by
 obtain⟨A,S,i⟩:=Mj ds vals hwl hpl hwt;have ac:bU P w (JZ K a.heap A) a.heap:=X8 i;have U:=Kf S;have l:∀b,b∈f.map (·.2)->a.heap.get? b=some (Dh #[]):=λb c=>by obtain⟨q,j,rfl⟩:=Av.mp c;exact(hT q j).2
 have D:∀b,b∈f.map (·.2)->KD K a.heap A f b=some (.tbl #[]):=λb c=>by unfold KD;rw[G7 c]
 have p:∀b,b∉f.map (·.2)->KD K a.heap A f b=JZ K a.heap A b:=λb c=>by unfold KD;rw[G6 c]
 have af:∀b u,JZ K a.heap A b=some u->b∉f.map (·.2):=λb u q c=>by
  obtain⟨_,vs,_,_,⟨g,_⟩ | ⟨g,_⟩⟩:=Mh i q
  ·rw[l b c] at g;cases g
  ·rw[l b c] at g;cases g
 have E:aG (JZ K a.heap A) (KD K a.heap A f):=λb u q=>by rwa [p b (af b u q)]
 have X:=bM.same E _ _ (Pq KX i ds vals hwl hpl S);have d8:bU P w (KD K a.heap A f) a.heap:=λb u q=>by
  by_cases c:b∈f.map (·.2)
  ·rw[D b c] at q;cases q;exact l b c
  ·rw[p b c] at q;exact(ac b u q).stay (λ_ _ _ z=>z) (λd hd=>E _ _ hd) λd xs hd=>E _ _ hd
 have aa:∀b u,JZ K a.heap A b=some u->K.lookup b=none:=λb u q=>(Mh i q).1;have M:∀{b:Z} {o:Obj},a.heap.get? b=some o->(∀vs:List O,o≠{ cls:=.type "list",data:=.seq vs.toArray })->(∀vs:List O,o≠{ cls:=.type "tuple",data:=.seq vs.toArray })->o≠Dh #[]->KD K a.heap A f b=none:=λ{b o} e n1 n2 n3=>by
  by_cases c:b∈f.map (·.2)
  ·rw[l b c] at e;cases e;exact absurd rfl n3
  ·rw[p b c];cases q:JZ K a.heap A b with
   |none=>rfl
   |some u=>
    obtain⟨_,vs,_,_,⟨g,_⟩ | ⟨g,_⟩⟩:=Mh i q
    ·rw[g] at e;cases e;exact absurd rfl (n1 vs)
    ·rw[g] at e;cases e;exact absurd rfl (n2 vs)
 have ad:∀q∈f,KD K a.heap A f q.2=some (.tbl #[]):=λq j=>D _ (FQ j);have ae:∀b,b∉f.map (·.2)->KD K a.heap A f b=none\/∃o u,KD K a.heap A f b=some (.frz o u):=λb c=>by rw[p b c];exact Us i b
 have Q:∀b o,K.lookup b=some o->b∉f.map (·.2):=λb o e c=>by have g:=KX b o e;rw[l b c] at g;have h2:=Bb.mp hnT (b,o) (PySem.W.mem_of_lookupK e);cases g;exact absurd (show false=true from h2) Ak
 have nK:∀b o,K.lookup b=some o->KD K a.heap A f b=none:=λb o e=>by
  rw[p b (Q b o e)];cases q:JZ K a.heap A b with
  |none=>rfl
  |some u=>rw[aa b u q] at e;cases e
 generalize KD K a.heap A f=H at *;have y:∀{b:Z} {o:Obj},a.heap.get? b=some o->H b=none->(Ou a.heap H).get? b=some o:=λe n=>Vz e n;have G:∀{o:Obj} {es:Array GZ} {ep:Nat},o.data=.dict es ep->(∀vs:List O,o≠{ cls:=.type "list",data:=.seq vs.toArray })/\(∀vs:List O,o≠{ cls:=.type "tuple",data:=.seq vs.toArray })/\o≠Dh #[]:=λ{o es ep} d=>⟨λvs z=>absurd d (by rw[z];intro q;cases q),λvs z=>absurd d (by rw[z];intro q;cases q),λz=>absurd d (by rw[z];intro q;cases q)⟩
 have t:∀{b:Z} {m:Str->Option O},a.heap.Ns b m->(Ou a.heap H).Ns b m:=λ{b m} ⟨o,es,ep,e,d,r⟩=>⟨o,es,ep,y e (M e (G d).1 (G d).2.1 (G d).2.2),d,r⟩;have N:K.In (Ou a.heap H):=λb o e=>y (KX b o e) (nK b o e);have d6:Mod K mg (Ou a.heap H):=⟨N,t hns,⟨I,t c,hbb⟩,let ⟨mc,h1,h2⟩:=hlim;⟨mc,t h1,h2⟩⟩;have ah:PR (Ou a.heap H) mg:=by obtain⟨bm,C,b1,b2,L,b4,b5,h⟩:=hbm;refine⟨bm,C,b1,b2,y L (M L (λvs z=>by rw[z] at h;cases h) (λvs z=>by rw[z] at h;cases h) λz=>by rw[z] at h;cases h),b4,b5,h⟩
 have T:dE P w K mg (Ou a.heap H) callerA [] a H:=⟨Y,d6,λb o e=>Yh e,Dn (Uu _ _),trivial,λb c=>absurd (show b∈([]:List Z) from c) (by simp),d8,.of_eq hg⟩;have hl:vals.length=ps.length:=by rwa [JO hwl]
 refine codeAny_mono ((F _ N (t hns) ah).run callerA [] a H ⟨vals,[]⟩ vals (vals.map dZ) _ _ hr T (hbind a vals hl) U (hsp H _ ad X)) λr s' x=>?_;cases r with
 |error e=>exact(hCX H e s' x).elim
 |ok W=>
  cases W with
  |next=>exact False.elim x
  |brk=>exact False.elim x
  |cont=>exact False.elim x
  |ret u=>
   obtain⟨v,H',os,ab,un,B,r',q⟩:=x;have kept:∀b o,b∉f.map (·.2)->a.heap.get? b=some o->s'.heap.get? b=some o:=λb o nb e=>by
    rcases ae b nb with z | ⟨C,u3,z⟩
    ·exact un.keep b o e z (by intro z;exact absurd (show b∈([]:List Z) from z) (by simp)) (by simp)
    ·have z2:=un.frzs b C _ z;obtain⟨e1,_⟩:=d8 b _ z;obtain⟨g,_⟩:=B b _ z2;rw[e] at e1;cases e1;exact g
   have d9:∀b,b∈f.map (·.2)->∃more,s'.heap.get? b=some { cls:=.none,data:=.fields (#[]++more) }:=λb c=>by obtain⟨more,z⟩:=un.tbls b #[] (D b c);exact⟨more,B b _ z⟩
   have d7:K.In s'.heap:=λb o e=>kept b o (Q b o e) (KX b o e);obtain⟨as,ag⟩:=Dw.reads (R:=R) (cl:=cl) B d7 d0 v u q r';refine⟨u,as,Y,ag,⟨λb o e=>?_,λb o e=>?_⟩,os,ab⟩
   ·by_cases c:b∈f.map (·.2)
    ·obtain⟨more,z⟩:=d9 b c;rw[l b c] at e;cases e;obtain⟨q,j,rfl⟩:=Av.mp c;exact .inr (.inl ⟨((hT q j).1.tab (hT q j).2).isCodeTable,Y,#[],more,Y,z⟩)
    ·exact .inl (kept b o c e)
   ·by_cases c:b∈f.map (·.2)
    ·obtain⟨more,z⟩:=d9 b c;exact⟨_,z⟩
    ·exact⟨o,kept b o c e⟩
theorem fQ{r:OpenSpec}{k:Nat}{q:GJ}{S:List Str}{E:(Str->Option O)->Heap->Prop}{i:GQ->Heap->Prop}{d:DefRec}{K:Params->G5}{CX:fT}{ps:List Str}{sp:G5->Sp}(names:List Str)
  (hwell:r.wellSaid=true) (hdf:d.params.defaults=[]) (hlen:r.args.length=ps.length) (hr:aY k callerA)
  (hY:∀(w:GQ) (h:Heap),i w h->(K w.params).In h) (hnT:∀w:GQ,Ga (K w.params)=true) (hrec:names.all (λx=>((recsOf q).find? λe=>e.name==x).isSome)=true)
  (F:∀(w:GQ) (mg:Str->Option O) (fa:Z) (h:Heap),i w h->(K w.params).In h->h.Ns GM mg->mg d.name=some (.ref fa)->
   ∃fd:GP,(∀(s:GF) (us:List O),us.length=ps.length->BindsTo s fd ⟨us,[]⟩ (ps.zip us)) ∧
    ∀base:Heap,(K w.params).In base->base.Ns GM mg->PR base mg->aN r.prog w (K w.params) mg base CX k fa fd ps (sp (K w.params)))
  (hsp:∀(K:G5) (H:Hp) (xs:List V) (a:Codec.denoteAll r.args),(∀x c Pt,x∈names->BK K x=some (c,Pt)->H Pt=some (.tbl #[]))->Codec.withinAll r.args a=true->Codec.app r.args r.asked a=true->bM K H xs (Codec.encAll r.args a)->
   sp K xs H (λv H'=>Dw K H' v (r.ret.enc (Codec.app r.args r.f a))) λ_ _ _=>False)
  (hCX:∀(H:Hp) (s:GF) (e:O) (s':GF),CX [] H s (λ_ _ _=>False) e s'->False):
  PySem.W.WalkOS q S E i r d [] (λf vs=>PySem.call f vs):=by
 intro w m l mg mb G d6 fa o pm cd ad dV kV ho hd ab hD U B d9 vals as d8 D ac W aa;obtain⟨a,e1,I⟩:=PySem.W.os_pre_some d8;obtain⟨X,j⟩:=Codec.encAll_of_decAll r.args d9 a e1;subst X;have b:=hY w _ d6;obtain⟨fd,n,d7⟩:=F w mg fa _ d6 b G.T.g U;have T:PySem.W.TabsAt (names.filterMap λx=>BK (K w.params) x) l.heap:=λp y=>by obtain⟨x,g,ex⟩:=CV.mp y;obtain⟨dr,N⟩:=Dt.mp (Bb.mp hrec x g);exact PySem.W.tab_of (c:=p.1) (P:=p.2) G.T b N ex
 refine PySem.W.enter_call (codeAny_mono (RX (R:=[]) (cl:=classAt m.heap) (d0:=r.ret.enc (Codec.app r.args r.f a)) b G.T.g G.T.b G.T.builtins G.T.nolimit B W (O5 _ _) (Oa D) hr T (hnT w) G.T.bmain d7 n (by rwa [Oj])
  (λH xs C t=>hsp (K w.params) H xs a (λx c Pt g ex=>C (c,Pt) (CV.mpr ⟨x,g,ex⟩)) j I t) λH e s'=>hCX H l e s') λr' s' M=>?_)
 obtain⟨u,L,rfl,h1,h2,A,Q⟩:=M;exact⟨.inl (zN Y (λ_=>rfl) h1 ((OpenSpec.post_iff hwell j _ _).mpr rfl) (λz=>Bi (show false=true from z))),h2,A,Q⟩
end L2
namespace L2
def fK(P:GJ)(w:GQ)(K:G5)(mg:Str->Option O)(base:Heap)(k:Nat)(x:Str)(ps:List Str)(sp:Sp):Prop:=∃f fd,aN P w K mg base fY k f fd ps sp/\mg x=some (.ref f)/\AI K (.ref f)=true/\Binds K fd ps []
theorem fK.any{P:GJ}{w:GQ}{K:G5}{mg:Str->Option O}{base:Heap}{C:Z}{k:Nat}{x:Str}{ps:List Str}{sp:Sp}(D:fK P w K mg base k x ps sp):bQ P w K mg base C k x ps sp:=
 let ⟨f,fd,G,r⟩:=D
 ⟨f,fd,G.anyX,r⟩
theorem RB(D:fK X.prog X.w X.K X.mg X.base k x ps sp)(i:aY k X.A)(b:Gl X x)(a:PA X (e::es) t)(h:(x==("__debug__":Str))=false:=by decide)
  (he:GO (e::es) X.env=(false,eval e X.env)::GO es X.env:=by rfl) (hpl:(backTo pos (GO es X.env)).any (·.1)=false:=by rfl):PE X (.Call (.Name x p) (e::es) [] pos) (MS sp [] E0 t):=by
 obtain⟨g,fd,G,d,f,c⟩:=D;exact Ng G i b d f c .nil pS a h he hpl
end L2
namespace Lu
open L2 Lute LuR LuW LuteSong
structure iL(mg:Str->Option O):Prop where
 cTL:bY mg "TOO_LONG" (.int (-2))
 cNS:bY mg "NO_FIRST_TEXT" (.int (-6))
 cMB:bY mg "MOST_BYTES" (.int 65536)
theorem Qz(h:∀z∈ns,0<=z/\z<=255):tx (LuSongNeutral.bytes ns)=ns.map V.int:=by
 unfold tx LuSongNeutral.bytes;rw[A8];refine BG λz a=>?_;obtain⟨h1,h2⟩:=h z a;show V.int ((En z.toNat).toNat:Int)=V.int z;rw[UInt8.toNat_ofNat',Nat.mod_eq_of_lt (by lia)];congr 1
 lia
def YH(P:GJ)(w:GQ)(K:G5)(mg:Str->Option O)(base:Heap)(C:Z):Sp:=λvs H Q _=>∃(g a:Z) (n:Nat) (b:Sp),vs=[.ref g,.ref a]/\eT P w K mg base C 19 H g n b/\b [.ref a] H Q λ_ _ H'=>Q .non H'
section
variable{P:GJ}{w:GQ}{K:G5}{mg:Str->Option O}{base:Heap}{B C:Z}
theorem oB:aH ["read","text"] ["read","text"] (Hj Jy):=HZ
theorem pV(F:bI K "read_or_none" "read_or_none" Jy f fd)(T:cS K mg B C):aN P w K mg base fY 20 f fd ["read","text"] (YH P w K mg base C):=by
 refine F.ok oB (λvs H Q E h=>?_) (λl A outer s H vs Q E j h=>?_)
 ·obtain⟨g,a,n,b,rfl,_⟩:=h;rfl
 ·obtain⟨g,a,n,b,rfl,e,hs⟩:=h;refine⟨_,Hh (XS (C:=C) (E:=λ_ _ H'=>Q .non H') T.xt rfl rfl rfl rfl T.mC
    (λpn=>Hh (Hx (Sf (P:=P) (w:=w) (K:=K) (mg:=mg) (base:=base) (C:=C) (i:=0) (k:=19) (E:=λ_ _ H'=>Q .non H') rfl (Or.inl rfl) j (To rfl rfl rfl) (G8 (J 1) Hg))))
    (λpn ea d vs sl=>Hh (Hx RP))),?_⟩
  exact⟨⟨g,Y,_,Y,n,b,e,hs⟩,λd H' i hd c=>c⟩
end
def LD(l:List Int):Nat:=l.foldl (λc n=>CF (c:Int) n) 0
theorem Qm(l:List Int)(n:Int):LD (l++[n])=CF (LD l:Int) n:=by unfold LD;rw[EF];rfl
theorem UG(a b c e:Int)(d:Nat):LD [a,b,c,e,(d:Int)]=(⟨a,b,c,e,d⟩:Iv).common:=by
 unfold LD Iv.common;simp only[Dg,List.foldl_nil,CF,BN,Int.natAbs_zero,Nat.gcd_zero_left];have:∀p q r s t:Nat,A5 (A5 (A5 (A5 p q) r) s) t=A5 t (A5 p (A5 q (A5 r s))):=λp q r s t=>by rw[Nat.gcd_comm _ t,Nat.gcd_assoc,Nat.gcd_assoc]
 first | exact this _ _ _ _ _ | simpa using this a.natAbs b.natAbs c.natAbs e.natAbs d
def YG(K:G5):Sp:=λvs H Q _=>∃(a:Z) (ns:List Int),vs=[.ref a]/\aP K H a (ns.map V.int)/\Q (.int (LD ns:Int)) H
variable{P:GJ}{w:GQ}{K:G5}{mg:Str->Option O}{base:Heap}{B C:Z}
theorem P0:aH ["numbers","common","number"] ["numbers"] (Hj Iy):=HZ
theorem Zy(F:bI K "common_factor_of_all" "common_factor_of_all" Iy f fd)(d:bQ P w K mg base C 1 "common_factor" ["a","b"] Wg):aN P w K mg base (aS P w C) 2 f fd ["numbers"] (YG K):=by
 refine F.okX P0 (λvs H Q E h=>?_) (λj A outer s H vs Q E g h=>?_)
 ·obtain⟨a,ns,rfl,_⟩:=h;rfl
 ·obtain⟨a,ns,rfl,c,k⟩:=h;refine⟨_,He (bG 1 P0.nd Hm)
   (He (IX Jn rfl (Iz (J 0)) (cM 2 P0.nd) (Hh (bG 1 P0.nd (HL d g rfl (G8 (J 1) (G8 (J 2) Hg))))))
   (Hh (Hx (J 1)))),?_⟩
  refine zA Y (zE Y ⟨_,c⟩ (Jg (K:=K) (a:=a) (xs:=ns.map V.int) (λi σ H'=>∃v:Option V,σ=[some (.ref a),some (.int (LD (ns.take i):Int)),v]/\H'=H) ⟨none,Y,Y⟩ (λi σ H' _ ⟨_,_,e⟩=>by rwa [e]) ?_ ?_))
  ·rintro i x σ H' b ⟨v,rfl,rfl⟩;rw[Ah] at b;cases hn:ns[i]? with
   |none=>rw[hn] at b;cases b
   |some n=>
    rw[hn] at b;cases b;refine zA Y (zA Y (zK Y ?_));refine⟨some (.int n),?_,Y⟩;have e:ns.take (i+1)=ns.take i++[n]:=by rw[Bn,hn];rfl
    rw[e,Qm];rfl
  ·rintro σ H' ⟨v,rfl,rfl⟩;rw[Ab,AZ];exact⟨_,Y,k⟩
end Lu
namespace L2
open LZ (Src)
theorem bZ.same{K:G5}{H H':Hp}{r:Src}{xs:List V}(e:aG H H')(h:bZ K H r xs):bZ K H' r xs:=by
 cases r with
 |lst a=>exact e.seq h
 |tup a=>exact e.tup h
 |txt x t=>exact h
theorem Sv{K:G5}{a b:Src}{xs ys zs:List V}{g:TG}{te:TE}{σ:List (Option V)}{vs:List Nat}{s:Hp->Prop}{H1:Hp}{D:Z}(k:bZ K H1 a xs)(n:bZ K H1 b ys)(h1:ys.length=xs.length)(F:zs.length=xs.length)(hz:zs.length<=1000)(q:H1 D=none)
  (step:∀(i:Nat) (x y z:V) (j:Hp) (T:Z),xs[i]?=some x->ys[i]?=some y->zs[i]?=some z->aG H1 j->j T=some (.tup [x,y])->∀(R:VK) (d7:Hp->Prop),R z j->g (.ref T) (Ia σ vs) j λd H2=>Ia d vs=Ia σ vs/\R7 d H2 λb f=>if b=true then te d f R else d7 f)
  (hQ:∀H',aG H1 H'->H' D=some (.lst zs)->s H'):
  ∃W:Nat->Nat->Hp->Prop,(∃m,W 0 m (aK H1 D (.lst [])))/\∀i m H,W i m H->((NW K a b).stop i H/\s H)\/((NW K a b).go i H/\∃l:Hp->Prop,(∀H',l H'->∃w,w<m/\W (i+1) w H') ∧
   ∀x H',(NW K a b).yld i H x H'->g x (Ia σ vs) H' λd H2=>Ia d vs=Ia σ vs/\R7 d H2 λb f=>if b=true then te d f λy A=>∃aE,A D=some (.lst aE)/\aE.length<GI/\l (aK A D (.lst (aE++[y]))) else l f):=by
 refine zI (λi m H=>m=xs.length-i/\i<=xs.length/\aG H1 H/\H D=some (.lst (zs.take i))) ⟨xs.length,by simp,Az _,λb o h=>by rwa [Hf (Hk h q)],G9⟩ ?_;rintro i m H ⟨rfl,hi,c,hd⟩;by_cases r:i<xs.length
 ·have p:zs[i]?=some (zs[i]'(by lia)):=Aa _;refine .inr ⟨⟨xs,ys,xs[i],ys[i]'(by lia),k.same c,n.same c,by simp[r],Aa _⟩,zI (λH'=>aG H1 H'/\H' D=some (.lst (zs.take (i+1)))) (λH' ⟨h1,h2⟩=>⟨xs.length-(i+1),by lia,Y,r,h1,h2⟩) (λv H' C=>?_)⟩;obtain⟨T,x,y,rfl,t,rfl,G,E⟩:=C;have B:D≠T:=Hk hd t;have u:aG H1 (aK H T (.tup [x,y])):=λb o h=>by rw[Hf (Hk (c _ _ h) t)];exact c _ _ h
  refine step i x y _ _ T (G xs (k.same c)) (E ys (n.same c)) p u G9 _ _ ⟨_,by rwa [Hf B],?_,λb o h=>?_,?_⟩
  ·rw[AJ];exact AD (Dc _ _) (Kh hz)
  ·rw[Hf (Hk h q)];exact u _ _ h
  ·rw[G9,DE,p];rfl
 ·have e:i=xs.length:=by lia
  subst e;refine .inl ⟨⟨xs,ys,k.same c,n.same c,Ag _⟩,hQ H c ?_⟩;rw[hd,<-F,AZ]
def oU(K:G5)(ta:TA):TI:=S1 (λvs H1 R=>∃(a b:Z) (xs ys:List V),vs=[.ref a,.ref b]/\∃c d:Src,(c=.lst a\/c=.tup a)/\(d=.lst b\/d=.tup b)/\bZ K H1 c xs/\bZ K H1 d ys/\R (NW K c d) H1) ta
theorem Xp(f:Gl X "zip")(i:X.mg "zip"=none)(d:PA X [e,c] ta)
  (hs:GO [e,c] X.env=(false,eval e X.env)::GO [c] X.env:=by rfl) (hpl:(backTo pos (GO [c] X.env)).any (·.1)=false:=by rfl):
  PI X (.Tuple elts kk tpos) (.Call (.Name "zip" p) [e,c] [] pos) (oU X.K ta):=
 Qh (λvs H1 R ⟨a,b,xs,ys,e,k,g,h1,h2,j,h,q⟩=>zK e (λm l e1 c=>zH (by rcases h1 with rfl | rfl <;> exact e1.symm) (by rcases h2 with rfl | rfl <;> exact c.symm) j h q)) f i d hs hpl
end L2
namespace Lu
open L2 Lute LuR LuW LuteSong
def V3(K:G5):Sp:=λvs H Q _=>∃(a b:Z) (x y:Iv),vs=[.ref a,.ref b]/\(aP K H a (cT x)\/aQ K H a (cT x))/\aQ K H b (cT y)/\x.ok=true/\y.ok=true/\∀(H':Hp) (p:Z),aG H H'->H p=none->H' p=some (.tup (cT (y.plus x)))->Q (.ref p) H'
variable{P:GJ}{w:GQ}{K:G5}{mg:Str->Option O}{base:Heap}{B C:Z}
theorem mU(b:aP K H a (cT x)\/aQ K H a (cT x))(h:∀(p:Z) (H1:Hp) (c:LZ.Src),aG H H1->(c=.lst p\/c=.tup p)->bZ K H1 c [.int x.a,.int x.b,.int x.c,.int x.e]->Q (.ref p) H1):
  lM K (.ref a) none (some 4) H Q\/kR K (.ref a) none (some 4) H Q:=by
 rcases b with b | b
 ·refine .inl ⟨a,_,Y,b,λp d=>?_⟩;rw[V2];exact h p _ (.lst p) (aF d) (.inl rfl) (aP.of G9)
 ·refine .inr ⟨a,_,Y,b,M9 x,λp d=>?_⟩;rw[V2];exact h p _ (.tup p) (aF d) (.inr rfl) (aQ.of G9)
theorem lX(b:aP K H a (cT x)\/aQ K H a (cT x))(h:Q (.int (x.d:Int)) H):jX K (.ref a) (.int 4) H Q:=by
 rcases b with b | b
 ·exact .inl (zH Y Y b (Jo (j:=4) rfl rfl) h)
 ·exact .inr (.inl (zH Y Y b (Jo (j:=4) rfl rfl) h))
theorem M3(e:aG H H')(h:aP K H a xs\/aQ K H a xs):aP K H' a xs\/aQ K H' a xs:=h.imp (λq=>e.seq q) λq=>e.tup q
def Hz(x y:Iv):Iv:=⟨y.a*(x.d:Int)+x.a*(y.d:Int),y.b*(x.d:Int)+x.b*(y.d:Int),y.c*(x.d:Int)+x.c*(y.d:Int),y.e*(x.d:Int)+x.e*(y.d:Int),y.d*x.d⟩
theorem XR(x y:Iv):y.plus x=(Hz x y).low:=rfl
theorem rN(z:Iv):[z.a / (z.common:Int),z.b / (z.common:Int),z.c / (z.common:Int),z.e / (z.common:Int),(z.d:Int) / (z.common:Int)].map V.int=cT z.low:=by show[V.int _,.int _,.int _,.int _,.int _]=[V.int _,.int _,.int _,.int _,.int _];rw[<-CC];rfl
abbrev kO:List Str:=["x","y","numbers","common","a","b","number"]
theorem Oc:aH kO ["x","y"] (Hj Op):=HZ
theorem K3:G3 "tuple"=some (.type "tuple"):=by decide
theorem Yw{f:Z}{fd:GP}(F:bI K "upon" "upon" Op f fd)(T:cS K mg B C)(zt:mg "tuple"=none)(DC:bQ P w K mg base C 2 "common_factor_of_all" ["numbers"] (YG K)):
  aN P w K mg base (aS P w C) 3 f fd ["x","y"] (V3 K):=by
 refine F.okX Oc (λvs H Q E h=>?_) (λaC A outer s H vs Q E hr h=>?_)
 ·obtain⟨a,b,x,y,rfl,_⟩:=h;rfl
 ·obtain⟨a,b,x,y,rfl,W,hy,ah,ae,kQ⟩:=h;obtain⟨xa,xb,xc,xe,af,ai,_⟩:=IQ ah;obtain⟨ya,yb,yc,ye,aj,al,_⟩:=IQ ae;refine⟨_,He (NL (i:=2) (own:=[("a",4),("b",5)]) (g:=Tj K 2 (KH (IF 4) (KH (IF 5) T5))) (te:=dQ (fW λi j=>.int (i+j)) (dQ (rI eZ λi j=>.int (i*j)) (HW 4) (dQ (WU K) (HW 1) (tC (.int 4)))) (dQ (rI eZ λi j=>.int (i*j)) (HW 5) (dQ (jX K) (HW 0) (tC (.int 4))))) rfl Oc.nd rfl rfl rfl
     (Xp (by rfl) T.zip (G8 (L3 (YD.or Qi) (J 0) Nk (No Hm)) (G8 (L3 Qi (J 1) Nk (No Hm)) Hg)))
     (show bS kO (Hj Op) _ [("a",4),("b",5)] from PF)
     (λ_ _ _ _ _=>KO rfl (HU (cM 4 Oc.nd) (HU (cM 5 Oc.nd) JM))) (λ_ _ _ _ _=>Jr)
     (λ_ _ _ _ _=>HH IU (HH JC (J 4) (IL JB (J 1) Hm (λ_ _=>rfl))) (HH JC (J 5) (IL Wh (J 0) Hm (λ_ _=>rfl)))))
   (He (Hv (JS AO AV AU Iu (J 2) (G8 (HH JC (IL Wh (J 0) Hm (λ_ _=>rfl)) (IL JB (J 1) Hm (λ_ _=>rfl))) Hg)))
   (He (Ms (i:=3) Oc.nd rfl (Or.inr rfl) (HL DC hr rfl (G8 (J 2) Hg)))
   (Hh (Hx (Ll JT (by rfl) zt K3 (G8 (MV (own:=[("number",6)]) (g:=IF 6) (te:=dQ (rI Zr λi j=>.int (i / j)) (HW 6) (HW 3)) rfl Oc.nd (Iz (J 2))
     (show bS kO (Hj Op) _ [("number",6)] from PF)
     (λ_ _ _ _ _=>cM 6 Oc.nd) (λ_ _ _ _ _=>Jr)
     (λ_ _ _ _ _=>HH LN (J 6) (J 3))) Hg)))))),?_⟩
  have M:∀{H1:Hp},aG H H1->aQ K H1 b (cT y):=λsm=>sm.tup hy;refine zA Y (zA Y (mU W λp H1 r1 s1 ad ab=>?_));refine zA Y (zA Y (zF Y (M s1) (M9 y) (λp2 ak=>?_)));rw[V2];have U:=aF (o:=.tup [.int y.a,.int y.b,.int y.c,.int y.e]) ak;have d9:=s1.trans U;have ag:[x.a*(y.d:Int)+y.a*(x.d:Int),x.b*(y.d:Int)+y.b*(x.d:Int),x.c*(y.d:Int)+y.c*(x.d:Int),x.e*(y.d:Int)+y.e*(x.d:Int)]=[(Hz x y).a,(Hz x y).b,(Hz x y).c,(Hz x y).e]:=by unfold Hz;simp only[Int.add_comm]
  refine zU p p2 _ _ Y (zK ad ⟨.inr rfl,ab.same U,aQ.of G9,λD I=>Sv (K:=K) (xs:=[.int x.a,.int x.b,.int x.c,.int x.e]) (ys:=[.int y.a,.int y.b,.int y.c,.int y.e]) (zs:=[(Hz x y).a,(Hz x y).b,(Hz x y).c,(Hz x y).e].map V.int) (ab.same U) (aQ.of G9) rfl rfl (by show 4<=1000;decide) I ?_ ?_⟩)
  ·intro i u v z Hi TT e d k am hT R d7 hR;obtain⟨n,m,rfl,rfl,rfl,hn,hm⟩:∃n m:Int,u=.int n/\v=.int m/\z=.int (n*(y.d:Int)+m*(x.d:Int))/\(-99<=n/\n<=99)/\(-99<=m/\m<=99):=by
    rw[<-ag] at k
    match i,e,d,k with
    |0,e,d,k=>cases e;cases d;cases k;exact⟨_,_,Y,Y,Y,xa,ya⟩
    |1,e,d,k=>cases e;cases d;cases k;exact⟨_,_,Y,Y,Y,xb,yb⟩
    |2,e,d,k=>cases e;cases d;cases k;exact⟨_,_,Y,Y,Y,xc,yc⟩
    |3,e,d,k=>cases e;cases d;cases k;exact⟨_,_,Y,Y,Y,xe,ye⟩
    |i+4,e,_,_=>simp at e
   have sI:=d9.trans am;refine zF Y (aQ.of hT) Y (zK Y (zF Y Y Y ?_));refine⟨_,Y,_,Y,zH Y Y (M sI) (Jo (j:=4) rfl rfl) (zF Y Y (.inl ⟨by lia,by lia⟩) ?_)⟩;exact⟨_,Y,_,Y,lX (M3 sI W) (zF Y Y (.inl ⟨by lia,by lia⟩) ⟨_,_,Y,Y,hR⟩)⟩
  ·intro H2 ao hd;have d8:=d9.trans ao;have dD:H D=none:=by
    cases q:H D with
    |none=>rfl
    |some o=>rw[d9 _ _ q] at I;cases I
   refine zE Y (.inl ⟨Y,_,aP.of hd⟩) ?_;refine zA Y (lX (M3 d8 W) (zA Y (zH Y Y (M d8) (Jo (j:=4) rfl rfl) (zF Y Y (.inl ⟨by lia,by lia⟩) ?_))));refine zN Y Y hd (by show 4<GI;decide) ?_;have e5:([(Hz x y).a,(Hz x y).b,(Hz x y).c,(Hz x y).e].map V.int++[V.int ((x.d:Int)*(y.d:Int))])=[(Hz x y).a,(Hz x y).b,(Hz x y).c,(Hz x y).e,((Hz x y).d:Int)].map V.int:=by show _=[V.int _,.int _,.int _,.int _,.int ((y.d*x.d:Nat):Int)];rw[B7,Int.mul_comm (y.d:Int)];rfl
   rw[e5];generalize d6:aK H2 D (.lst ([(Hz x y).a,(Hz x y).b,(Hz x y).c,(Hz x y).e,((Hz x y).d:Int)].map V.int))=N;have G:N D=some (.lst ([(Hz x y).a,(Hz x y).b,(Hz x y).c,(Hz x y).e,((Hz x y).d:Int)].map V.int)):=by rw[<-d6];exact G9
   have an:aG H N:=λc o r=>by rw[<-d6,Hf (Hk r dD)];exact d8 _ _ r
   refine zA Y (zB Y (aP.of G) ?_);rw[UG];have eU:(⟨(Hz x y).a,(Hz x y).b,(Hz x y).c,(Hz x y).e,(Hz x y).d⟩:Iv)=Hz x y:=rfl;rw[eU];have X:=(LG (Hz x y)).1;have aa:0<(Hz x y).d:=FO aj af;have cpos:0<(Hz x y).common:=FG X aa;have ap:(Hz x y).common<=576:=AE (Nat.le_of_dvd aa X) (AE (C7 al ai) (by decide));refine zA Y (zE Y ⟨_,aP.of G⟩ (λD2 ac=>LJ (K:=K) (a:=D) (xs:=[(Hz x y).a,(Hz x y).b,(Hz x y).c,(Hz x y).e,((Hz x y).d:Int)].map V.int) (λi H'=>aG N H'/\H' D2=some (.lst ((([(Hz x y).a / ((Hz x y).common:Int),(Hz x y).b / ((Hz x y).common:Int),(Hz x y).c / ((Hz x y).common:Int),(Hz x y).e / ((Hz x y).common:Int),((Hz x y).d:Int) / ((Hz x y).common:Int)]).map V.int).take i))) ⟨aF ac,G9⟩ (λi H' _ q=>aP.of (q.1 _ _ G)) ?_ ?_))
   ·rintro i v H' d ⟨L,t⟩;obtain⟨n,rfl,hn⟩:∃n:Int,v=.int n/\(([(Hz x y).a / ((Hz x y).common:Int),(Hz x y).b / ((Hz x y).common:Int),(Hz x y).c / ((Hz x y).common:Int),(Hz x y).e / ((Hz x y).common:Int),((Hz x y).d:Int) / ((Hz x y).common:Int)]).map V.int)[i]?=some (.int (n / ((Hz x y).common:Int))):=by
     match i,d with
     |0,d=>cases d;exact⟨_,Y,Y⟩
     |1,d=>cases d;exact⟨_,Y,Y⟩
     |2,d=>cases d;exact⟨_,Y,Y⟩
     |3,d=>cases d;exact⟨_,Y,Y⟩
     |4,d=>cases d;exact⟨_,Y,Y⟩
     |i+5,d=>simp at d
    refine⟨Y,zA Y (zA Y (zF Y Y ⟨by lia,by lia⟩ ⟨_,t,?_,λc o r=>?_,?_⟩))⟩
    ·rw[AJ];exact AD (Dc _ _) (by show 5<GI;decide)
    ·rw[Hf (Hk r ac)];exact L _ _ r
    ·rw[G9,DE,hn];rfl
   ·rintro H' ⟨L,t⟩;have s5:=an.trans L;refine zK Y (.inl ⟨aP.of t,λl S=>?_⟩);have nl:H l=none:=by
     cases q:H l with
     |none=>rfl
     |some o=>rw[s5 _ _ q] at S;cases S
    refine kQ _ l (s5.trans (aF S)) nl ?_;rw[G9,XR,<-rN];rfl
end Lu
namespace Lu
open L2 Lute LuR LuW LuI
def Ov(C:Z)(E:XK):Prop:=∀x:Nat,fG C E x
structure iU(K:G5)(mg:Str->Option O):Prop where
 cMLD:bY mg "MOST_LENGTH_DIGITS" (.int 7)
 cLL:bY mg "LEAST_LENGTH" (.int 10000)
 cMLG:bY mg "MOST_LENGTH" (.int 200000)
 cMF:bY mg "MOST_FRETS" (.int 15)
 cMC:bY mg "MOST_COURSES" (.int 14)
 cSC:bY mg "STOPPED_COURSES" (.int 6)
 cLB:bY mg "LETTER_B" (.int 98)
 cLC:bY mg "LETTER_C" (.int 99)
 cLF:bY mg "LETTER_F" (.int 102)
 uni:∃a,bY mg "UNISON" (.ref a)/\∀H,aQ K H a (cT unison)
theorem U9(t:Bytes):t.take (cA t).length=cA t:=by unfold cA;have h:=congrArg (List.take (t.takeWhile λc:UInt8=>c != 10).length) (EN (p:=λc:UInt8=>c != 10) (l:=t));rw[Gx] at h;exact h.symm
theorem Vb(h:c≠10):cA (c::r)=c::cA r:=by unfold cA;rw[CH,G7 (bne_iff_ne.mpr h)]
theorem XI:cA (10::r)=[]:=by unfold cA;rw[CH,G6 (by decide)]
theorem pD(h:Int):iD (.int h) [.int 10,.int (-1)]=(decide (h=10) || decide (h=-1)):=by
 unfold iD;simp only[BD,List.any_nil,Fi,gU];rw[B6];simp only[Bh,beq_iff_eq,decide_eq_true_eq]
 lia
def Ya(K:G5)(B C:Z):Sp:=λvs H Q E=>∃(c a:Z) (t:Bytes) (p e:Nat),vs=[.ref c]/\bE K B H c a t p e ∧
 match HP p (cA (st t p e)) with
 |.error x=>fG C E x
 |.ok x=>∀(H':Hp) (b:Z),bE K B H' c a t (p+(cA (st t p e)).length) e->aL H H' c->H' b=some (.tup (cT x))->x.ok=true->Q (.ref b) H'
def XV(K:G5)(B C:Z):Sp:=λvs H Q E=>∃(c a:Z) (t:Bytes) (p e:Nat) (x:Str) (l:Bytes) (n k:Int),vs=[.ref c,.str x,.int n,.int k]/\Wd x l/\bE K B H c a t p e/\(n=k->Ov C E) ∧
 (∀y,Aj (l++[32]) p (st t p e)=.error y->Ov C E) ∧
 ∀q u,n≠k->Aj (l++[32]) p (st t p e)=.ok ((),q,u)->∀H':Hp,bE K B H' c a t q e->aL H H' c->u=st t q e->Q .non H'
def lV(K:G5)(B C:Z):Sp:=λvs H Q E=>∃(c a:Z) (t:Bytes),vs=[.ref c]/\bE K B H c a t 0 t.length ∧
 (∀y,Lp t=.error y->Ov C E)/\∀n q u,Lp t=.ok (n,q,u)->∀H':Hp,bE K B H' c a t q t.length->aL H H' c->u=st t q t.length->Q .non H'
def Pu(k n pos:Nat)(r:Bytes):Rd Nat:=if k=0 then longNumber pos r else moreDigits (7-k) n pos r
theorem TU(b1:48<=b.toNat)(b2:b.toNat<=57):Pu 7 n pos (b::r)=.error pos:=by unfold Pu;rw[G6 (by decide)];show moreDigits 0 n pos (b::r)=_;unfold moreDigits;rw[JH b1 b2]
theorem Uq(b1:48<=b.toNat)(b2:b.toNat<=57)(h:k<7)(a:k=0->n=0/\b≠48):Pu k n pos (b::r)=Pu (k+1) (n*10+(b.toNat-48)) (pos+1) r:=by
 unfold Pu;rw[G6 (Gm k)];by_cases k0:k=0
 ·obtain⟨d,c⟩:=a k0;rw[G7 k0,k0,d];unfold longNumber;dsimp only;rw[JH b1 b2];have:b.toNat≠48:=λz=>c (Ee.mp z);obtain⟨m,e⟩:∃m,b.toNat-48=m+1:=⟨b.toNat-49,by lia⟩;rw[e];show moreDigits 6 (m+1) (pos+1) r=moreDigits 6 (0*10+(m+1)) (pos+1) r;rw[show 0*10+(m+1)=m+1 by lia]
 ·rw[G6 k0];obtain⟨f,g⟩:∃f,7-k=f+1:=⟨6-k,by lia⟩;rw[g]
  conv=>lhs;unfold moreDigits
  rw[JH b1 b2];show moreDigits f (10*n+(b.toNat-48)) (pos+1) r=_;rw[Ci 10 n,show 7-(k+1)=f by lia]
theorem Vp(h:∀c u,r=c::u->¬(48<=c.toNat/\c.toNat<=57)):Pu k n pos r=if k=0 then .error pos else .ok (n,pos,r):=by
 unfold Pu;by_cases k0:k=0
 ·rw[G7 k0,G7 k0];cases r with
  |nil=>rfl
  |cons c u=>unfold longNumber;dsimp only;rw[KJ (h c u rfl)]
 ·rw[G6 k0,G6 k0];cases r with
  |nil=>unfold moreDigits;rfl
  |cons c u=>unfold moreDigits;rw[KJ (h c u rfl)]
section
variable{P:GJ}{w:GQ}{K:G5}{mg:Str->Option O}{base:Heap}{B C:Z}
theorem mF:aH ["cursor","start"] ["cursor"] (Hj II):=HZ
theorem mS(F:bI K "read_line_interval" "read_line_interval" II f fd)(T:cS K mg B C)(M:fE P w K mg base B C)(L:bQ P w K mg base C 7 "read_interval" ["text","start","end"] (Lv K C)):
  aN P w K mg base (aS P w C) 8 f fd ["cursor"] (Ya K B C):=by
 refine F.okX mF (λvs H Q E h=>?_) (λaC A outer s H vs Q E I h=>?_)
 ·obtain⟨c,a,t,p,e,rfl,_⟩:=h;rfl
 ·obtain⟨c,a,t,p,e,rfl,u,k⟩:=h;obtain⟨dx,hc⟩:=u.at_;have v:=I.mono (show 1<=7 by decide);refine⟨_,He (bG 1 mF.nd (Hy (J 0) rfl))
   (He (IJ Jn (Hs Mb (HB M.byte v (J 0)) (Ik (G8 (Hr T.cNL) (G8 (Hr T.cEND) Hg))) (by with_unfolding_all rfl)) (Hh (Hv (HB M.adv v (J 0)))))
   (Hh (Hx (HL L I rfl (G8 (Hy (J 0) rfl) (G8 (J 1) (G8 (Hy (J 0) rfl) Hg))))))),?_⟩
  refine zA Y (zD Y hc T.cl T.nP (HA _ _ _) ?_);refine⟨λm σ H'=>∃(pos:Nat),m=e-pos/\σ=[some (.ref c),some (.int (p:Int))]/\bE K B H' c a t pos e/\aL H H' c/\p<=pos/\(cA (st t p e)).length=pos-p+(cA (st t pos e)).length,⟨_,p,Y,Y,u,aL.refl _ _,Ag _,by lia⟩,?_⟩
  rintro m σ H1 ⟨pos,rfl,rfl,d,y,S,l⟩;obtain⟨g,G⟩:=d.at_;refine zA Y (zC Y G (HC _ _ _) (zL Y d (by show 2<=GI;decide) (λb d9=>?_)));have j:aG H1 (aK H1 b (.tup [.int 10,.int (-1)])):=aF d9;have n:=d.same j;have i:=j _ _ G;refine zK Y ⟨.inr (aQ.of G9),Y,Y,zA Y ?_⟩;show if (!iD (.int (Ht (st t pos e))) [.int 10,.int (-1)])=true then _ else _;rw[pD];refine HN (λh=>?_) λh=>?_
  ·rw[Cq,B8,decide_eq_false_iff_not,decide_eq_false_iff_not] at h;obtain⟨z,r,o⟩:=Kz h.2;have X:=IG o;have aa:=JF d.len o;rw[o] at h l;have N:z≠10:=λq=>h.1 (by rw[q];rfl);rw[Vb N,Af] at l;refine zI (λD H'=>D=[some (.ref c),some (.int (p:Int))]/\bE K B H' c a t (pos+1) e/\aL H H' c) ?_ ?_
   ·rintro D H' ⟨rfl,u',ab⟩;exact⟨_,by lia,pos+1,Y,Y,u',ab,by lia,by rw[X];lia⟩
   ·refine zA Y (zC Y i (HC _ _ _) (zG Y i (λH3 d8 k3=>?_)));exact⟨Y,n.move k3 ⟨g,d8⟩ aa,(y.trans (aL.of j)).trans k3⟩
  ·have h':Ht (st t pos e)=10\/Ht (st t pos e)=-1:=by
    by_cases q:Ht (st t pos e)=10\/Ht (st t pos e)=-1
    ·exact q
    ·refine absurd ?_ h;rw[Cq,B8,decide_eq_false_iff_not,decide_eq_false_iff_not];exact⟨λz=>q (.inl z),λz=>q (.inr z)⟩
   have U:cA (st t pos e)=[]:=by
    rcases h' with q | q
    ·obtain⟨r,V⟩:=HD (z:=10) q;rw[V];exact XI
    ·rw[Kg q];rfl
   rw[U] at l;have hl:(cA (st t p e)).length=pos-p:=by simpa using l
   have d6:st t p pos=cA (st t p e):=by rw[<-U9,hl,Td d.le]
   refine zA Y (zD Y i T.cl T.nT (Px _ _ _) (zA Y (zA Y (zD Y i T.cl T.nP (HA _ _ _) (zH Y n.txt S (AE d.le d.len) ?_)))));rw[d6];cases hR:HP p (cA (st t p e)) with
   |error x=>rwa [hR] at k
   |ok x=>rw[hR] at k;intro H' R s' W d7;refine k H' R ?_ ((y.trans (aL.of j)).trans (aL.of s')) W d7;rw[show p+(cA (st t p e)).length=pos by lia];exact n.same s'
theorem lE:aH ["cursor","word","lines_before","most","start"] ["cursor","word","lines_before","most"] (Hj Kx):=HZ
theorem rE(F:bI K "begin_line" "begin_line" Kx f fd)(T:cS K mg B C)(W:cW P w K mg base C B 3 "take" ["self","wanted"] (Jh K B C))(G:cW P w K mg base C B 4 "take_word" ["self","word"] (NQ K B C)):
  aN P w K mg base (aS P w C) 5 f fd ["cursor","word","lines_before","most"] (XV K B C):=by
 refine F.okX lE (λvs H Q E h=>?_) (λd6 A outer s H vs Q E i h=>?_)
 ·obtain⟨c,a,t,p,e,x,l,n,k,rfl,_⟩:=h;rfl
 ·obtain⟨c,a,t,p,e,x,l,n,k,rfl,d9,u,I,o,N⟩:=h;obtain⟨dx,r⟩:=u.at_;have X:=i.mono (show 2<=4 by decide);have U:=i.mono (show 3<=4 by decide);refine⟨_,He (bG 4 lE.nd (Hy (J 0) rfl))
   (He (Hv (IN G i (J 0) (G8 (J 1) Hg)))
   (He (HG (Hs Ip (J 2) (J 3) (Hw _)) (Hh (HK T.xt X rfl T.mC (J 4))) Hu)
   (Hh (Hv (IN W U (J 0) (G8 (Hr T.cBI) Hg)))))),?_⟩
  refine zA Y (zD Y r T.cl T.nP (HA _ _ _) ?_);refine zA Y (zC Y r (HC _ _ _) (zA Y (zM c a t p e x l Y ⟨d9,u,λy R=>o y (Qr R) y,λq v L H2 j k2 S=>?_⟩)));refine zA Y (zE Y Y (zA Y ?_));rw[ID];refine HN (λh=>?_) λh=>?_
  ·have h':n=k:=of_decide_eq_true h;exact⟨_,Y,_,Y,λd hd=>I h' p _ d G9⟩
  ·have h':¬n=k:=λz=>h (decide_eq_true z);obtain⟨d8,D⟩:=j.at_;have b:=SO (m:=[32]) L;rw[Ja] at b;subst S;refine⟨_,Y,zJ c d8 _ Y D (HC _ _ _) (zS c a t q e 32 Y ⟨j,λg=>?_,λg=>?_⟩)⟩
   ·intro M V k3;rw[G7 g,Ig] at b;exact N _ _ h' b M V (k2.trans k3) rfl
   ·rw[G6 g] at b;exact o _ b _
theorem Xi:aH ["cursor","start","number"] ["cursor"] (Hj IH):=HZ
theorem mY(F:bI K "read_string_length" "read_string_length" IH f fd)(T:cS K mg B C)(TI:iU K mg)(M:fE P w K mg base B C)(MT:cW P w K mg base C B 3 "take" ["self","wanted"] (Jh K B C))(MW:cW P w K mg base C B 4 "take_word" ["self","word"] (NQ K B C)):
  aN P w K mg base (aS P w C) 5 f fd ["cursor"] (lV K B C):=by
 refine F.okX Xi (λvs H Q E h=>?_) (λaC A outer s H vs Q E U h=>?_)
 ·obtain⟨c,a,t,rfl,_⟩:=h;rfl
 ·obtain⟨c,a,t,rfl,u,i,p⟩:=h;obtain⟨dx,hc⟩:=u.at_;have L:=U.mono (show 1<=4 by decide);have ab:=U.mono (show 2<=4 by decide);have ak:=U.mono (show 3<=4 by decide);refine⟨_,He (Hv (IN MW U (J 0) (G8 PZ Hg)))
   (He (bG 1 Xi.nd (Hy (J 0) rfl))
   (He (HG (Hs Ip (HB M.byte L (J 0)) (Hr T.cZERO) (Hw _)) (Hh (HK T.xt ab rfl T.mC (J 1))) Hu)
   (He (bG 2 Xi.nd Hm)
   (He (IJ Jn (NA Mg Mg (Hr T.cZERO) (HB M.byte L (J 0)) (Hr T.cNINE))
    (He (HG (Hs Ip (HH JX (Hy (J 0) rfl) (J 1)) (Hr TI.cMLD) (Hw _)) (Hh (HK T.xt ab rfl T.mC (Hy (J 0) rfl))) Hu)
    (He (bG 2 Xi.nd (HH JX (HH IU (HH JC (J 2) Hm) (HB M.byte L (J 0))) (Hr T.cZERO)))
    (Hh (Hv (HB M.adv L (J 0)))))))
   (He (HG (MF (NA Mg Mg (Hr TI.cLL) (J 2) (Hr TI.cMLG))) (Hh (HK T.xt ab rfl T.mC (J 1))) Hu)
   (Hh (Hv (IN MT ak (J 0) (G8 (Hr T.cNL) Hg))))))))),?_⟩
  refine zI _ Y (zJ c dx _ Y hc (HC _ _ _) (zM c a t 0 t.length "length " wL Y ⟨(by unfold Wd;decide),u,λy hy=>?_,λq v hq H2 d6 k2 hv=>?_⟩))
  ·rw[LR,Dr] at hy;refine i y ?_ y;unfold Lp;rw[hy]
  ·rw[LR,Dr] at hq;subst hv;have eR:Lp t=QO q (st t q t.length):=by unfold Lp;rw[hq]
   rw[eR] at i p;clear eR;obtain⟨af,ac⟩:=d6.at_;refine zA Y (zD Y ac T.cl T.nP (HA _ _ _) ?_);refine zA Y (zC Y ac (HC _ _ _) (zL Y d6 Y (zA Y ?_)));rw[ID];refine HN (λh=>?_) λh=>?_
   ·have h':Ht (st t q t.length)=((48:UInt8).toNat:Int):=of_decide_eq_true h;obtain⟨r,o⟩:=HD h';refine⟨_,Y,_,Y,λd hd=>i q ?_ q _ d G9⟩;rw[o];rfl
   ·have ad:¬Ht (st t q t.length)=((48:UInt8).toNat:Int):=λz=>h (decide_eq_true z);refine⟨λm σ H'=>∃(pos n:Nat),m=t.length-pos/\σ=[some (.ref c),some (.int (q:Int)),some (.int (n:Int))]/\bE K B H' c a t pos t.length/\aL H H' c/\q<=pos/\pos-q<=7/\(pos-q=0->n=0)/\longNumber q (st t q t.length)=Pu (pos-q) n pos (st t pos t.length),zC Y Y d6 ⟨k2,Ag _,by lia,λ_=>rfl,by rw[EJ];rfl⟩,?_⟩
    rintro m σ H3 ⟨pos,n,rfl,rfl,D,k3,an,h7,W,N⟩;obtain⟨k,l⟩:=D.at_;refine zA Y (zC Y l (HC _ _ _) (zG Y D (zB Y Y (zA Y ?_))));by_cases I:48<=Ht (st t pos t.length)/\Ht (st t pos t.length)<=57
    ·refine HN (λ_=>?_) λz=>absurd (decide_eq_true I.1) z;refine zB Y Y (zA Y (HN (λ_=>?_) λz=>absurd (decide_eq_true I.2) z));obtain⟨b,r,o,b1,b2⟩:=OX I.1 I.2;have ah:=IG o;have ai:=JF D.len o;refine⟨λae H'=>∃(R:Nat),ae=[some (.ref c),some (.int (q:Int)),some (.int (R:Int))]/\bE K B H' c a t (pos+1) t.length/\aL H H' c/\pos+1-q<=7/\longNumber q (st t q t.length)=Pu (pos+1-q) R (pos+1) (st t (pos+1) t.length),?_,?_⟩
     ·rintro ae H' ⟨R,rfl,u',am,aj,al⟩;exact zA (by lia) (zB Y Y ⟨u',am,by lia,aj,by lia,al⟩)
     ·refine zA Y (zD Y l T.cl T.nP (HA _ _ _) (zA Y (zF Y Y Y (zA Y ?_))));rw[ID];refine HN (λh=>?_) λh=>?_
      ·have h':(pos:Int)-(q:Int)=7:=of_decide_eq_true h;rw[o,show pos-q=7 by lia,TU b1 b2] at N;refine zA Y (zD Y l T.cl T.nP (HA _ _ _) ⟨_,Y,λd hd=>i pos ?_ pos _ d G9⟩);unfold QO;rw[N]
      ·have h':¬(pos:Int)-(q:Int)=7:=λz=>h (decide_eq_true z);have k0:pos-q=0->n=0/\b≠48:=λz=>⟨W z,λzz=>by
        have e1:pos=q:=by lia
        rw[<-e1,o,zz] at ad;exact ad rfl⟩
       rw[o,Uq b1 b2 (by lia) k0] at N;refine zA Y (zF Y Y (.inr ⟨by decide,by decide⟩) (zA Y (zC Y l (HC _ _ _) (zG Y D (zB Y Y (zB Y Y ?_))))));refine zA Y (zC Y l (HC _ _ _) (zG Y l (λS h4 k4=>?_)));refine⟨n*10+(b.toNat-48),?_,D.move k4 ⟨k,h4⟩ ai,k3.trans k4,by lia,?_⟩
       ·rw[o];show _=[some (V.ref c),some (V.int (q:Int)),some (V.int ((n*10+(b.toNat-48):Nat):Int))];have:(n:Int)*10+(b.toNat:Int)-48=((n*10+(b.toNat-48):Nat):Int):=by lia
        rw[<-this];rfl
       ·rwa [ah,show pos+1-q=pos-q+1 by lia]
    ·have aa:=N.trans (Vp (MQ I));have d8:(pos-q=0\/n<10000\/200000<n)->∃x,QO q (st t q t.length)=.error x:=λz=>by
      unfold QO;by_cases k0:pos-q=0
      ·rw[aa,G7 k0];exact⟨_,Y⟩
      ·rw[aa,G6 k0];dsimp only;rw[G7 (z.resolve_left k0)];exact⟨_,Y⟩
     have ag:∀(hh:¬(n<10000\/200000<n)) (kk:¬pos-q=0),QO q (st t q t.length)=match Aj [10] pos (st t pos t.length) with
       |.error e=>.error e
       |.ok (_,q,v)=>.ok (n,q,v):=λhh kk=>by
      unfold QO;rw[aa,G6 kk];dsimp only;rw[G6 hh]
      all_goals (cases Aj [10] pos (st t pos t.length) <;> rfl)
     refine HN (λ_=>?_) λ_=>?_
     ·refine zB Y Y (zA Y (HN (λz=>?_) λ_=>?_))
      ·rename_i j;exact absurd ⟨of_decide_eq_true j,of_decide_eq_true z⟩ I
      ·refine zA Y (zB Y Y (zA Y ?_));refine HN (λj=>?_) λj=>?_
       ·refine zB Y Y (zA Y ?_);refine HN (λg=>?_) λg=>?_
        ·have d7:¬(n:Int)<=200000:=λz=>by rw[decide_eq_true z] at g;cases g
         obtain⟨x,G⟩:=d8 (.inr (.inr (by lia)));exact⟨_,Y,_,Y,λd hd=>i x G q _ d G9⟩
        ·have X:(10000:Int)<=(n:Int):=of_decide_eq_true j;have d7:(n:Int)<=200000:=by
          by_cases z:(n:Int)<=200000
          ·exact z
          ·refine absurd ?_ g;rw[decide_eq_false z];rfl
         have k0:¬pos-q=0:=λz=>by
          have:=W z
          lia
         have d9:=ag (by lia) k0;rw[Ja] at d9;rw[d9] at i p;refine⟨_,Y,zJ c k _ Y l (HC _ _ _) (zS c a t pos t.length 10 Y ⟨D,λg=>?_,λg=>?_⟩)⟩
         ·intro S u4 k4;rw[G7 g,Ig] at p;exact p n (pos+1) _ rfl S u4 (k3.trans k4) rfl
         ·rw[G6 g] at i;exact i _ rfl _
       ·have X:¬(10000:Int)<=(n:Int):=λz=>j (decide_eq_true z);obtain⟨x,G⟩:=d8 (.inr (.inl (by lia)));refine⟨_,Y,HN (λ_=>?_) λz=>absurd (by rfl) z⟩;exact⟨_,Y,_,Y,λd hd=>i x G q _ d G9⟩
     ·refine zA Y (HN (λz=>by cases z) λ_=>?_);refine zA Y (zB Y Y (zA Y ?_));refine HN (λj=>?_) λj=>?_
      ·refine zB Y Y (zA Y ?_);refine HN (λg=>?_) λg=>?_
       ·have d7:¬(n:Int)<=200000:=λz=>by rw[decide_eq_true z] at g;cases g
        obtain⟨x,G⟩:=d8 (.inr (.inr (by lia)));exact⟨_,Y,_,Y,λd hd=>i x G q _ d G9⟩
       ·have X:(10000:Int)<=(n:Int):=of_decide_eq_true j;have d7:(n:Int)<=200000:=by
         by_cases z:(n:Int)<=200000
         ·exact z
         ·refine absurd ?_ g;rw[decide_eq_false z];rfl
        have k0:¬pos-q=0:=λz=>by
         have:=W z
         lia
        have d9:=ag (by lia) k0;rw[Ja] at d9;rw[d9] at i p;refine⟨_,Y,zJ c k _ Y l (HC _ _ _) (zS c a t pos t.length 10 Y ⟨D,λg=>?_,λg=>?_⟩)⟩
        ·intro S u4 k4;rw[G7 g,Ig] at p;exact p n (pos+1) _ rfl S u4 (k3.trans k4) rfl
        ·rw[G6 g] at i;exact i _ rfl _
      ·have X:¬(10000:Int)<=(n:Int):=λz=>j (decide_eq_true z);obtain⟨x,G⟩:=d8 (.inr (.inl (by lia)));refine⟨_,Y,HN (λ_=>?_) λz=>absurd (by rfl) z⟩;exact⟨_,Y,_,Y,λd hd=>i x G q _ d G9⟩
end
def OD(fs:List Iv)(p:Nat)(u:Bytes):Rd Iv:=eY wF (decide (15<=fs.length)) (λx=>(fs.getLastD unison).lt x) p u
def Jt(fs:List Iv)(n p:Nat)(u:Bytes):Rd Iv:=eY wC (decide (14<=n)) (soundsAll fs) p u
def ND(n p:Nat)(u:Bytes):Rd Iv:=eY wB (decide (14<=n)) (λ_=>true) p u
def fF(fs:List Iv)(n:Nat)(x:Iv):List Iv:=if n<6 then x::fs.map x.plus else [x]
def Vo(K:G5)(B C:Z):Sp:=λvs H Q E=>∃(c a m:Z) (t:Bytes) (p e:Nat) (fs:List Iv),vs=[.ref c,.ref m]/\bE K B H c a t p e/\aI H m fs/\(∀x∈fs,x.ok=true)/\fs.length<=15 ∧
 (∀y,OD fs p (st t p e)=.error y->Ov C E) ∧
 ∀x q u,OD fs p (st t p e)=.ok (x,q,u)->∀(H':Hp) (b:Z),bE K B H' c a t q e->aL H H' c->u=st t q e->H' b=some (.tup (cT x))->x.ok=true->Q (.ref b) H'
def Q9(K:G5)(B C:Z):Sp:=λvs H Q E=>∃(c a m:Z) (t:Bytes) (p e n:Nat) (fs:List Iv),vs=[.ref c,.ref m,.int (n:Int)]/\bE K B H c a t p e/\aI H m fs/\(∀x∈fs,x.ok=true)/\fs.length<=15/\n<=14 ∧
 (∀y,Jt fs n p (st t p e)=.error y->Ov C E) ∧
 ∀x q u,Jt fs n p (st t p e)=.ok (x,q,u)->∀(H':Hp) (b:Z),bE K B H' c a t q e->aL H H' c->u=st t q e->H b=none->aI H' b (fF fs n x)->x.ok=true->Q (.ref b) H'
def UL(K:G5)(B C:Z):Sp:=λvs H Q E=>∃(c a:Z) (t:Bytes) (p e n:Nat),vs=[.ref c,.int (n:Int)]/\bE K B H c a t p e/\n<=14 ∧
 (∀y,ND n p (st t p e)=.error y->Ov C E) ∧
 ∀x q u,ND n p (st t p e)=.ok (x,q,u)->∀(H':Hp) (b:Z),bE K B H' c a t q e->aL H H' c->u=st t q e->H b=none->aI H' b [x]->x.ok=true->Q (.ref b) H'
theorem Py(h:HP q (cA u)=.error x):gQ fine q u=.error x:=by unfold gQ;rw[h]
theorem Tb(h:HP q (cA u)=.ok x)(a:fine x=false):gQ fine q u=.error q:=by unfold gQ;rw[h];dsimp only;rw[a,G7 rfl]
theorem PU(h:HP q (cA u)=.ok x)(a:fine x=true):gQ fine q u=if Ht (u.drop (cA u).length)=((10:UInt8).toNat:Int) then .ok (x,q+(cA u).length+1,(u.drop (cA u).length).drop 1) else .error (q+(cA u).length):=by
 unfold gQ;rw[h];dsimp only;rw[a,G6 (by decide),Ja];by_cases z:Ht (u.drop (cA u).length)=((10:UInt8).toNat:Int)
 ·rw[G7 z,G7 z];rfl
 ·rw[G6 z,G6 z]
theorem aI.one(e:H m=some (.lst [.ref b]))(d:H b=some (.tup (cT x))):aI H m [x]:=
 ⟨[b],e,Y,λi g f a c=>match i,a,c with
  |0,a,c=>by cases a;cases c;exact d
  |i+1,a,_=>by simp at a⟩
section
variable{P:GJ}{w:GQ}{K:G5}{mg:Str->Option O}{base:Heap}{B C:Z}
theorem X3:aH ["cursor","frets","start","fret","before"] ["cursor","frets"] (Hj KM):=HZ
theorem Xj(F:bI K "read_fret" "read_fret" KM f fd)(T:cS K mg B C)(TI:iU K mg)(MT:cW P w K mg base C B 3 "take" ["self","wanted"] (Jh K B C))
  (DB:bQ P w K mg base C 5 "begin_line" ["cursor","word","lines_before","most"] (XV K B C)) (DL:bQ P w K mg base C 8 "read_line_interval" ["cursor"] (Ya K B C)) (DW:bQ P w K mg base C 1 "width" ["interval"] (Ml K)):
  aN P w K mg base (aS P w C) 9 f fd ["cursor","frets"] (Vo K B C):=by
 refine F.okX X3 (λvs H Q E h=>?_) (λaC A outer s H vs Q E D h=>?_)
 ·obtain⟨c,a,m,t,p,e,fs,rfl,_⟩:=h;rfl
 ·obtain⟨c,a,m,t,p,e,fs,rfl,u,d7,as,az,o,kQ⟩:=h;obtain⟨dx,hc⟩:=u.at_;obtain⟨au,aj,hU⟩:=TI.uni;have d6:=D.mono (show 1<=8 by decide);have ay:=D.mono (show 2<=8 by decide);have aw:=D.mono (show 3<=8 by decide);have aq:=D.mono (show 5<=8 by decide);refine⟨_,He (Hv (HL DB aq rfl (G8 (J 0) (G8 PZ (G8 (HE HF (by rfl) T.len PySem.boot_len (G8 (J 1) Hg)) (G8 (Hr TI.cMF) Hg))))))
   (He (bG 2 X3.nd (Hy (J 0) rfl))
   (He (bG 3 X3.nd (HL DL D rfl (G8 (J 0) Hg)))
   (He (bG 4 X3.nd (QX (Md (J 1) (λ_=>rfl)) (IL IR (J 1) (QA Oo Hm) (λ_ _=>rfl)) (Hr aj)))
   (He (HG (Hs Mg (HL DW d6 rfl (G8 (J 3) Hg)) (HL DW d6 rfl (G8 (J 4) Hg)) (Hw _)) (Hh (HK T.xt ay rfl T.mC (J 2))) Hu)
   (He (Hv (IN MT aw (J 0) (G8 (Hr T.cNL) Hg)))
   (Hh (Hx (J 3)))))))),?_⟩
  obtain⟨xs,ai,al⟩:=d7.len;have ab:fs.length=15->Ov C E:=λz=>by obtain⟨y,R⟩:=Nt wF (λx=>(fs.getLastD unison).lt x) p (st t p e);refine o y ?_;unfold OD;rw[decide_eq_true (by lia),R]
  have less:fs.length≠15->OD fs p (st t p e)=match Aj (wF++[32]) p (st t p e) with
    |.error e=>.error e
    |.ok (_,q,u)=>gQ (λx=>(fs.getLastD unison).lt x) q u:=λz=>by
   unfold OD;rw[decide_eq_false (by lia)];exact Sc _ _ _ _
  refine⟨_,Y,_,Y,m,xs,Y,.inl (aP.of ai),c,a,t,p,e,"fret",wF,(xs.length:Int),15,Y,(by unfold Wd;decide),u,λh=>ab (by lia),λy R=>?_,λq v hn hq H1 u1 k1 hv=>?_⟩
  ·by_cases z:fs.length=15
   ·exact ab z
   ·exact o y (by rw[less z,R])
  ·have av:fs.length≠15:=λz=>hn (by rw[al,z];rfl);have g:=less av;rw[hq] at g;dsimp only at g;subst hv;obtain⟨ar,ad⟩:=u1.at_;have ak:=d7.keep k1 hc;refine zA Y (zD Y ad T.cl T.nP (HA _ _ _) ?_);refine zA Y (zG Y u1 ?_);cases hR:HP q (cA (st t q e)) with
   |error x=>exact o x (by rw[g,Py hR]) x
   |ok x=>
    intro H2 b u2 k2 L N;have ao:=ak.keep k2 ad;obtain⟨ae,U,ap⟩:=ao.len;have go:∀G:Z,aQ K H2 G (cT (fs.getLastD unison))->(fs.getLastD unison).ok=true->∀X:List V,H2 m=some (.lst X)->Q4 (Wb (N4 (dQ (fW λi j=>.bl (decide (i<=j))) (MS (Ml K) [] E (Ii (HW 3) JL)) (MS (Ml K) [] E (Ii (HW 4) JL)))) (N3 C E (HW 2)) Qx)
      (Q4 (YN (Ol B "take" (Jh K B C) [] E (HW 0) (Ii (tC (.int 10)) JL))) (Tl (HW 3))) { nx:=λ_ H'=>Q .non H',rt:=Q } [some (.ref c),some (.ref m),some (.int (q:Int)),some (.ref b),some (.ref G)] H2:=by
     intro G an af X _;refine zA Y (zF Y (aQ.of L) N (λH3 n=>?_));refine zA Y (zF Y (n.tup an) af (λH4 I=>?_));have ac:=Q3 af N;refine zB Y Y (zA Y ?_);refine HN (λh=>?_) λh=>?_
     ·have h':width x<=width (fs.getLastD unison):=of_decide_eq_true h;have M:(fs.getLastD unison).lt x=false:=by rw[ac];exact decide_eq_false (by lia)
      exact⟨_,Y,_,Y,λd hd=>o q (by rw[g,Tb hR M]) _ _ d G9⟩
     ·have h':¬width x<=width (fs.getLastD unison):=λz=>h (decide_eq_true z);have M:(fs.getLastD unison).lt x=true:=by rw[ac];exact decide_eq_true (by lia)
      rw[PU (fine:=λx=>(fs.getLastD unison).lt x) hR M,Ig] at g;have u4:=(u2.same n).same I;obtain⟨am,ag⟩:=u4.at_;refine zI _ Y (zJ c am _ Y ag (HC _ _ _) (zS c a t _ e 10 Y ⟨u4,λS=>?_,λS=>?_⟩))
      ·intro H5 u5 k5;rw[G7 S,Ig] at g;exact⟨_,Y,kQ x _ _ g H5 b u5 (((k1.trans k2).trans (aL.of (n.trans I))).trans k5) rfl (k5 _ _ (I _ _ (n _ _ L)) (Hq (I _ _ (n _ _ L)) ag aO)) N⟩
      ·rw[G6 S] at g;exact o _ g _
    rcases Ek fs with k | ⟨l,y,k⟩
    ·have ex:ae=[]:=BQ.mp (by rw[ap,k];rfl);refine zA Y (zA (.inl ⟨_,aP.of U,Y⟩) ?_);rw[ex];refine L6 ?_;exact go au (by rw[k];exact hU H2) (by rw[k];decide) ae U
    ·rw[El] at k;obtain⟨d9,b3,d8,aa,ax⟩:=aI.last (l:=l) (y:=y) (by rwa [<-k]);have ah:(!d9.isEmpty)=true:=by
      cases d9 with
      |nil=>cases aa
      |cons z r=>rfl
     refine zA Y (zA (.inl ⟨_,aP.of d8,Y⟩) ?_);rw[ah];refine Mo ?_;refine zA Y (zA Y (zH Y Y (aP.of d8) aa ?_));have W:fs.getLastD unison=y:=by rw[k];simp
     exact go b3 (by rw[W];exact aQ.of ax) (by rw[W];exact as y (by rw[k];simp)) d9 d8
theorem kT:aH ["cursor","courses_before","string"] ["cursor","courses_before"] (Hj K6):=HZ
theorem XF(F:bI K "read_bass" "read_bass" K6 f fd)(T:cS K mg B C)(TI:iU K mg)(d6:cW P w K mg base C B 3 "take" ["self","wanted"] (Jh K B C))
  (DB:bQ P w K mg base C 5 "begin_line" ["cursor","word","lines_before","most"] (XV K B C)) (DL:bQ P w K mg base C 8 "read_line_interval" ["cursor"] (Ya K B C)):
  aN P w K mg base (aS P w C) 9 f fd ["cursor","courses_before"] (UL K B C):=by
 refine F.okX kT (λvs H Q E h=>?_) (λd7 A outer s H vs Q E l h=>?_)
 ·obtain⟨c,a,t,p,e,n,rfl,_⟩:=h;rfl
 ·obtain⟨c,a,t,p,e,n,rfl,u,aa,g,S⟩:=h;obtain⟨dx,hc⟩:=u.at_;have W:=l.mono (show 3<=8 by decide);have R:=l.mono (show 5<=8 by decide);refine⟨_,He (Hv (HL DB R rfl (G8 (J 0) (G8 PZ (G8 (J 1) (G8 (Hr TI.cMC) Hg))))))
   (He (bG 2 kT.nd (HL DL l rfl (G8 (J 0) Hg)))
   (He (Hv (IN d6 W (J 0) (G8 (Hr T.cNL) Hg)))
   (Hh (Hx (Iw (G8 (J 2) Hg)))))),?_⟩
  have d9:n=14->Ov C E:=λz=>by obtain⟨y,j⟩:=Nt wB (λ_=>true) p (st t p e);refine g y ?_;unfold ND;rw[decide_eq_true (by lia),j]
  have less:n≠14->ND n p (st t p e)=match Aj (wB++[32]) p (st t p e) with
    |.error e=>.error e
    |.ok (_,q,u)=>gQ (λ_=>true) q u:=λz=>by
   unfold ND;rw[decide_eq_false (by lia)];exact Sc _ _ _ _
  refine⟨_,Y,_,Y,c,a,t,p,e,"bass",wB,(n:Int),14,Y,(by unfold Wd;decide),u,λh=>d9 (by lia),λy j=>?_,λq v hn N H1 M k1 V=>?_⟩
  ·by_cases z:n=14
   ·exact d9 z
   ·exact g y (by rw[less z,j])
  ·have d:=less (λz=>hn (by rw[z];rfl));rw[N] at d;dsimp only at d;subst V;refine zA Y (zG Y M ?_);cases hR:HP q (cA (st t q e)) with
   |error x=>exact g x (by rw[d,Py hR]) x
   |ok x=>
    intro H2 b G k2 D d8;rw[PU (fine:=λ_=>true) hR rfl,Ig] at d;obtain⟨U,r⟩:=G.at_;refine⟨_,Y,zJ c U _ Y r (HC _ _ _) (zS c a t _ e 10 Y ⟨G,λk=>?_,λk=>?_⟩)⟩
    ·intro H3 L k3;rw[G7 k,Ig] at d;have X:=k3 _ _ D (Hq D r aO);refine⟨_,Y,(by show 1<=GI;decide),λm I=>?_⟩;have i:=aF (o:=.lst [.ref b]) I;exact S x _ _ d _ m (L.same i) (((k1.trans k2).trans k3).trans (aL.of i)) rfl (Ke ((k1.trans k2).trans k3) (let ⟨_,z⟩:=L.at_;⟨_,z⟩) I) (aI.one G9 (i _ _ X)) d8
    ·rw[G6 k] at d;exact g _ d _
theorem TF:aH ["cursor","frets","courses_before","start","string","sounds","fret","sound"] ["cursor","frets","courses_before"] (Hj J5):=HZ
theorem TR(F:bI K "read_course" "read_course" J5 f fd)(T:cS K mg B C)(TI:iU K mg)(MT:cW P w K mg base C B 3 "take" ["self","wanted"] (Jh K B C))
  (DB:bQ P w K mg base C 5 "begin_line" ["cursor","word","lines_before","most"] (XV K B C)) (DL:bQ P w K mg base C 8 "read_line_interval" ["cursor"] (Ya K B C))
  (DU:bQ P w K mg base C 3 "upon" ["x","y"] (V3 K)) (DI:bQ P w K mg base C 1 "is_within_bounds" ["numbers"] (L8 K)):
  aN P w K mg base (aS P w C) 9 f fd ["cursor","frets","courses_before"] (Q9 K B C):=by
 refine F.okX TF (λvs H Q E h=>?_) (λaC A outer s H vs Q E I h=>?_)
 ·obtain⟨c,a,m,t,p,e,n,fs,rfl,_⟩:=h;rfl
 ·obtain⟨c,a,m,t,p,e,n,fs,rfl,u,hN,a5,a9,a7,L,kQ⟩:=h;obtain⟨dx,hc⟩:=u.at_;have ay:=I.mono (show 1<=8 by decide);have au:=I.mono (show 2<=8 by decide);have ae:=I.mono (show 3<=8 by decide);have a2:=I.mono (show 5<=8 by decide);refine⟨_,He (Hv (HL DB a2 rfl (G8 (J 0) (G8 PZ (G8 (J 2) (G8 (Hr TI.cMC) Hg))))))
   (He (bG 3 TF.nd (Hy (J 0) rfl))
   (He (bG 4 TF.nd (HL DL I rfl (G8 (J 0) Hg)))
   (He (bG 5 TF.nd (Iw (G8 (J 4) Hg)))
   (He (IX Jn rfl (Iz (J 1)) (cM 6 TF.nd)
    (He (bG 7 TF.nd (HL DU ae rfl (G8 (J 6) (G8 (J 4) Hg))))
    (He (HG (MF (N1 (HL DI ay rfl (G8 (J 7) Hg)))) (Hh (HK T.xt au rfl T.mC (J 3))) Hu)
    (Hh (Hv (JS AO AV AU Iu (J 5) (G8 (J 7) Hg)))))))
   (He (Hv (IN MT ae (J 0) (G8 (Hr T.cNL) Hg)))
   (He (HG (Hs S5 (J 2) (Hr TI.cSC) (Hw _)) (Hh (Hx (J 5))) Hu)
   (Hh (Hx (Iw (G8 (J 4) Hg)))))))))),?_⟩
  have al:n=14->Ov C E:=λz=>by obtain⟨y,k⟩:=Nt wC (soundsAll fs) p (st t p e);refine L y ?_;unfold Jt;rw[decide_eq_true (by lia),k]
  have less:n≠14->Jt fs n p (st t p e)=match Aj (wC++[32]) p (st t p e) with
    |.error e=>.error e
    |.ok (_,q,u)=>gQ (soundsAll fs) q u:=λz=>by
   unfold Jt;rw[decide_eq_false (by lia)];exact Sc _ _ _ _
  refine⟨_,Y,_,Y,c,a,t,p,e,"course",wC,(n:Int),14,Y,(by unfold Wd;decide),u,λh=>al (by lia),λy k=>?_,λq v hn N H1 u1 k1 hv=>?_⟩
  ·by_cases z:n=14
   ·exact al z
   ·exact L y (by rw[less z,k])
  ·have l:=less (λz=>hn (by rw[z];rfl));rw[N] at l;dsimp only at l;subst hv;obtain⟨as,ad⟩:=u1.at_;have av:=hN.keep k1 hc;refine zA Y (zD Y ad T.cl T.nP (HA _ _ _) ?_);refine zA Y (zG Y u1 ?_);cases hR:HP q (cA (st t q e)) with
   |error x=>exact L x (by rw[l,Py hR]) x
   |ok x=>
    intro H2 b W k2 M d6;have aj:=av.keep k2 ad;refine zE Y (by show 1<=GI;decide) (λg R=>?_);have sm:=aF (o:=.lst [.ref b]) R;have ab:H g=Option.none:=Ke (k1.trans k2) (let ⟨_,z⟩:=W.at_;⟨_,z⟩) R;have aw:aI (aK H2 g (.lst [.ref b])) g [x]:=aI.one G9 (sm _ _ M);obtain⟨bs,g1,g2,g3⟩:=aj.same sm;have aq:m≠g:=λz=>by have:=aj.len;obtain⟨_,w1,_⟩:=this;rw[z,R] at w1;cases w1
    have pc:∀y:Iv,y.ok=true->gL (x.plus y)=(x.plus y).ok:=λy k=>by obtain⟨_,_,_,_,a1,_,_⟩:=IQ d6;obtain⟨_,_,_,_,ar,_,_⟩:=IQ k;obtain⟨c1,c2⟩:=Rh x y a1 ar;exact V4 c1 c2
    refine zA Y (zE Y ⟨_,aP.of g1⟩ (Jg (K:=K) (a:=m) (xs:=bs.map V.ref) (λi σ H'=>∃X v7:Option V,σ=[some (.ref c),some (.ref m),some (.int (n:Int)),some (.int (q:Int)),some (.ref b),some (.ref g),X,v7] ∧
      (∀z o,z≠g->(aK H2 g (.lst [.ref b])) z=some o->H' z=some o)/\aI H' g (x::(fs.take i).map x.plus)/\(fs.take i).all (λf=>(x.plus f).ok)=true)
     (zF Y (λz o _ h=>h) aw Y) (λi σ H' _ qQ=>by obtain⟨X,v7,_,hk,_⟩:=qQ;exact aP.of (hk _ _ aq g1)) ?_ ?_))
    ·rintro i y σ H3 k ⟨X,v7,rfl,D,U,G⟩;rw[Ah] at k;cases hcb:bs[i]? with
     |none=>rw[hcb] at k;cases k
     |some bi=>
      rw[hcb] at k;cases k;have hi:i<fs.length:=by rw[<-g2];exact(Al.mp hcb).1
      have ac:fs[i]?=some fs[i]:=Aa hi;have ak:=g3 i bi _ hcb ac;have a3:bi≠g:=Hq ak G9 aO;have a4:=D _ _ a3 ak;have d9:b≠g:=λz=>by rw[z,R] at M;cases M
      have d7:=D _ _ d9 (by rwa [Hf d9]);have tk:fs.take (i+1)=fs.take i++[fs[i]]:=by rw[Bn,ac];rfl
      have an:fs[i].ok=true:=a5 _ (AG hi);generalize fs[i]=y at *;refine zA Y (zA Y (zO Y (.inr (aQ.of a4)) (aQ.of d7) an d6 (λH4 b4 s4 ai af=>?_)));refine zA Y (zB Y (aQ.of af) (λH5 r=>?_));refine zA Y ?_;rw[pc y an];refine HN (λh=>?_) λh=>?_
      ·have h':(x.plus y).ok=false:=by
        cases N:(x.plus y).ok with
        |false=>rfl
        |true=>rw[N] at h;cases h
       have hf:soundsAll fs x=false:=by unfold soundsAll;rw[<-Bool.not_eq_true,Bb];intro G;rw[G y (AX ac)] at h';cases h'
       exact zA Y ⟨_,Y,λd hd=>L q (by rw[l,Tb hR hf]) _ _ d G9⟩
      ·have h':(x.plus y).ok=true:=by
        cases N:(x.plus y).ok with
        |true=>rfl
        |false=>rw[N] at h;exact absurd rfl h
       have am:=(U.same s4).same r;obtain⟨a6,aa,a0⟩:=am.len;refine zE Y (.inl ⟨Y,_,aP.of aa⟩) (zA Y (zN Y Y aa ?_ ?_))
       ·rw[a0,Af,Ab,AJ];exact AD (show min i fs.length+1<=16 by lia) (by show 16<GI;decide)
       ·refine zF Y (λz o j h=>?_) ?_ ?_
        ·rw[Hf j];exact r _ _ (s4 _ _ (D z o j h))
        ·have:=am.snoc aa (r _ _ af)
         rwa [tk,AM]
        ·rw[tk,List.all_append,G];simp[h']
    ·rintro σ H3 ⟨X,v7,rfl,D,U,G⟩;rw[Ab,g2,AZ] at U G;have hf:soundsAll fs x=true:=G;rw[PU (fine:=soundsAll fs) hR hf,Ig] at l;have az:=W.same sm;obtain⟨ao,ag⟩:=az.at_;have ax:c≠g:=Hq ag G9 aO;have S:=D _ _ ax ag;have d9:b≠g:=λz=>by rw[z,R] at M;cases M
     have d7:=D _ _ d9 (by rwa [Hf d9]);have d8:aL H H3 c:=λz o j ap=>by
      have nz:z≠g:=λw=>by rw[w,ab] at j;cases j
      exact D _ _ nz (by rw[Hf nz];exact k2 _ _ (k1 _ _ j ap) ap)
     have u3:bE K B H3 c a t (q+(cA (st t q e)).length) e:=by
      refine⟨⟨ao,S⟩,?_,W.le,W.len⟩;have na:∀o,H a=some o->a≠g:=λo h z=>by rw[z,ab] at h;cases h
      rcases u.txt with (j | ⟨o,j⟩) | j
      ·exact .inl (.inl (d8 _ _ j (Hq j hc aO)))
      ·exact .inl (.inr ⟨o,d8 _ _ j (Hq j hc aO)⟩)
      ·exact .inr j
     refine zI _ Y (zJ c ao _ Y S (HC _ _ _) (zS c a t _ e 10 Y ⟨u3,λhB=>?_,λhB=>?_⟩))
     ·intro H4 u4 k4;rw[G7 hB,Ig] at l;have a8:=U.keep k4 S;have ai:=k4 _ _ d7 (Hq d7 S aO);refine zA Y (zB Y Y ⟨_,Y,?_⟩);refine HN (λh=>?_) λh=>?_
      ·have h':(n:Int)<6:=of_decide_eq_true h;refine⟨_,Y,kQ x _ _ l H4 g u4 (d8.trans k4) rfl ab ?_ d6⟩;unfold fF
       rwa [G7 (by lia)]
      ·have h':¬(n:Int)<6:=λz=>h (decide_eq_true z);refine zE Y (by show 1<=GI;decide) (λm5 ah=>?_);have r:=aF (o:=.lst [.ref b]) ah;refine kQ x _ _ l _ m5 (u4.same r) ((d8.trans k4).trans (aL.of r)) rfl (Ke (d8.trans k4) (let ⟨_,z⟩:=u4.at_;⟨_,z⟩) ah) ?_ d6;unfold fF;rw[G6 (by lia)];exact aI.one G9 (r _ _ ai)
     ·rw[G6 hB] at l;exact L _ l _
end
def TabAt(H:Hp)(m:Z)(a:List (List Iv)):Prop:=∃bs:List Z,H m=some (.lst (bs.map V.ref))/\bs.length=a.length/\∀(i:Nat) (b:Z) (l:List Iv),bs[i]?=some b->a[i]?=some l->b≠m/\aI H b l
theorem TabAt.move(h:TabAt H m l)(k:∀b o,H b=some o->(∃xs,o=.lst xs)\/(∃xs,o=.tup xs)->H' b=some o):TabAt H' m l:=by obtain⟨bs,h1,h2,d⟩:=h;exact⟨bs,k _ _ h1 (.inl ⟨_,Y⟩),h2,λi b x c a=>⟨(d i b x c a).1,(d i b x c a).2.move k⟩⟩
theorem TabAt.same(h:TabAt H m l)(k:aG H H'):TabAt H' m l:=h.move λb o a _=>k b o a
theorem TabAt.keep(h:TabAt H m l)(k:aL H H' c)(e:H c=some (.ins B dx fs)):TabAt H' m l:=h.move λb o a d=>k b o a (Hq a e (by rintro rfl;rcases d with ⟨_,z⟩ | ⟨_,z⟩ <;> cases z))
theorem aI.upd(h:aI H b l)(g:H m=some (.lst xs))(f:b≠m):aI (aK H m o) b l:=by obtain⟨bs,h1,h2,d⟩:=h;exact⟨bs,by rwa [Hf f],h2,λi e x a c=>by rw[Hf (Hq (d i e x a c) g aO)];exact d i e x a c⟩
theorem TabAt.snoc(h:TabAt H m ls)(f:H m=some (.lst xs))(j:aI H b l)(k:b≠m):TabAt (aK H m (.lst (xs++[.ref b]))) m (ls++[l]):=by
 obtain⟨bs,h1,h2,n⟩:=h;rw[h1] at f;cases f;refine⟨bs++[b],by rw[G9,AM];rfl,by rw[Ad,Ad,h2];rfl,λi e g a c=>?_⟩;have d:e≠m/\aI H e g:=by
  by_cases hi:i<bs.length
  ·rw[AC hi] at a;rw[AC (by lia)] at c;exact n i e g a c
  ·rw[Ax (by lia)] at a;rw[Ax (by lia)] at c;have o:i-bs.length=0:=by
    have:=(Al.mp a).1;simp at this
    lia
   rw[o] at a;rw[show i-ls.length=0 by lia] at c;cases a;cases c;exact⟨k,j⟩
 exact⟨d.1,d.2.upd h1 d.1⟩
theorem TabAt.len(h:TabAt H m l):∃xs,H m=some (.lst xs)/\xs.length=l.length:=by obtain⟨bs,h1,h2,_⟩:=h;exact⟨_,h1,by rw[Ab,h2]⟩
def tab(t:Inst):List (List Iv):=t.courses.mapIdx (fF t.frets)++t.basses.map λx=>[x]
structure eB(t:Inst):Prop where
 fr:∀x∈t.frets,x.ok=true
 f15:t.frets.length<=15
 co:∀x∈t.courses,x.ok=true
 ba:∀x∈t.basses,x.ok=true
 n14:t.courses.length+t.basses.length<=14
 so:∀x∈t.courses,∀f∈t.frets,(x.plus f).ok=true
def P7(K:G5)(C:Z):Sp:=λvs H Q E=>∃(a:Z) (t:Bytes),vs=[.ref a]/\aP K H a (tx t) ∧
 (∀x,readInst t=.error x->Ov C E)/\∀i,readInst t=.ok i->eB i->∀(H':Hp) (m:Z),aG H H'->TabAt H' m (tab i)->Q (.ref m) H'
theorem WG(h:¬Ht u=(z.toNat:Int)):∃y,eY (z::l) full fine p u=.error y:=by unfold eY;rw[Ja,G6 h];exact⟨_,Y⟩
theorem Na(h:R=.error y):gM R T=.error y:=by rw[h];rfl
theorem Pb(h:R=.ok (x,q,u)):gM R T=li (T x) q u:=by rw[h];rfl
theorem Xc(h:Ht u=102):li ⟨n,fs,[],[]⟩ p u=gM (OD fs p u) λx=>⟨n,fs++[x],[],[]⟩:=by obtain⟨r,rfl⟩:=HD (z:=102) h;rw[Lf,G7 ⟨Y,Y⟩];rfl
theorem Vi(h:¬Ht u=102):(∃y,Jt fs 0 p u=.error y/\∃z,li ⟨n,fs,[],[]⟩ p u=.error z)\/li ⟨n,fs,[],[]⟩ p u=gM (Jt fs 0 p u) λx=>⟨n,fs,[x],[]⟩:=by
 by_cases h2:Ht u=99
 ·obtain⟨r,rfl⟩:=HD (z:=99) h2;rw[Lf,G6 (λq=>absurd q.1 (by decide)),G7 ⟨Y,Y⟩];exact .inr rfl
 ·obtain⟨y,a⟩:=WG (z:=99) (l:=[111,117,114,115,101]) (full:=decide (14<=0)) (fine:=soundsAll fs) (p:=p) (u:=u) h2;refine .inl ⟨y,a,?_⟩;cases u with
  |nil=>exact⟨p,UQ _ _⟩
  |cons c r=>rw[Lf,G6 (λq=>h (by rw[q.1];rfl)),G6 (λq=>h2 (by rw[q.1];rfl)),G6 (λq=>by cases q.2)];exact⟨_,Y⟩
theorem Ux(a:cs≠[])(h:Ht u=99):li ⟨n,fs,cs,[]⟩ p u=gM (Jt fs cs.length p u) λx=>⟨n,fs,cs++[x],[]⟩:=by obtain⟨r,rfl⟩:=HD (z:=99) h;rw[Lf,G6 (λq=>absurd q.1 (by decide)),G7 ⟨Y,Y⟩];unfold Lb Jt Inst.opens;rw[AR]
theorem Yq(b:cs≠[])(h:Ht u=98):li ⟨n,fs,cs,bs⟩ p u=gM (ND (cs.length+bs.length) p u) λx=>⟨n,fs,cs,bs++[x]⟩:=by
 obtain⟨r,rfl⟩:=HD (z:=98) h;have a:cs.isEmpty=false:=by cases cs with | nil=>exact absurd rfl b | cons=>rfl
 rw[Lf,G6 (λq=>absurd q.1 (by decide)),G6 (λq=>absurd q.1 (by decide)),G7 ⟨Y,a⟩];unfold ON ND Inst.opens;rw[Ad]
theorem pQ(e:cs≠[])(d:bs=[]->¬Ht u=99)(h:¬Ht u=98):(Ht u=-1->li ⟨n,fs,cs,bs⟩ p u=.ok ⟨n,fs,cs,bs⟩)/\(¬Ht u=-1->∃y,li ⟨n,fs,cs,bs⟩ p u=.error y):=by
 have b:cs.isEmpty=false:=by cases cs with | nil=>exact absurd rfl e | cons=>rfl
 refine⟨λq=>?_,λq=>?_⟩
 ·rw[Kg q,UQ,G6 (by show ¬cs.isEmpty=true;rw[b];exact Ak)]
 ·cases u with
  |nil=>exact absurd rfl q
  |cons c r=>refine⟨p,?_⟩;rw[Lf,G6 (λz=>by have a:cs.isEmpty=true:=z.2;rw[b] at a;cases a),G6 (λz=>d (Gj.mp z.2) (by rw[z.1];rfl)),G6 (λz=>h (by rw[z.1];rfl))]
theorem RQ{K:G5}{B:Z}{H H':Hp}{c a dx:Z}{t:Bytes}{p e:Nat}(g:H' c=some (.ins B dx (cf a p e)))(s:aG H H')(d:aP K H a (tx t))(f:p<=e)(b:e<=t.length):bE K B H' c a t p e:=⟨⟨dx,g⟩,s.seq d,f,b⟩
variable{P:GJ}{w:GQ}{K:G5}{mg:Str->Option O}{base:Heap}{B C:Z}
theorem XN:aH ["text","cursor","frets","courses"] ["text"] (Hj Je):=HZ
theorem Yg(F:bI K "read_instrument" "read_instrument" Je f fd)(T:cS K mg B C)(TI:iU K mg)(M:fE P w K mg base B C)
  (DI:gD P w K mg base C B 1 "Cursor" ["self","text","place","end"] (NJ B)) (DS:bQ P w K mg base C 5 "read_string_length" ["cursor"] (lV K B C)) (DF:bQ P w K mg base C 9 "read_fret" ["cursor","frets"] (Vo K B C))
  (DC:bQ P w K mg base C 9 "read_course" ["cursor","frets","courses_before"] (Q9 K B C)) (DB:bQ P w K mg base C 9 "read_bass" ["cursor","courses_before"] (UL K B C)):
  aN P w K mg base (aS P w C) 10 f fd ["text"] (P7 K C):=by
 refine F.okX XN (λvs H Q E h=>?_) (λaC A outer s H vs Q E S h=>?_)
 ·obtain⟨a,t,rfl,_⟩:=h;rfl
 ·obtain⟨a,t,rfl,hS,U,kQ⟩:=h;have ao:=S.mono (show 1<=9 by decide);have bd:=S.mono (show 2<=9 by decide);have ca:=S.mono (show 5<=9 by decide);refine⟨_,(He (bG 1 XN.nd (Ra DI bd rfl (G8 (J 0) (G8 Hm (G8 (HE HF (by rfl) T.len PySem.boot_len (G8 (J 0) Hg)) Hg)))))
    (He (Hv (HL DS ca rfl (G8 (J 1) Hg)))
    (He (bG 2 XN.nd (Iw Hg))
    (He (IJ Jn (Hs Ip (HB M.byte ao (J 1)) (Hr TI.cLF) (Hw _)) (Hh (Hv (JS AO AV AU Iu (J 2) (G8 (HL DF S rfl (G8 (J 1) (G8 (J 2) Hg))) Hg)))))
    (He (bG 3 XN.nd (Iw (G8 (HL DC S rfl (G8 (J 1) (G8 (J 2) (G8 Hm Hg)))) Hg)))
    (He (IJ Jn (Hs Ip (HB M.byte ao (J 1)) (Hr TI.cLC) (Hw _)) (Hh (Hv (JS AO AV AU Iu (J 3) (G8 (HL DC S rfl (G8 (J 1) (G8 (J 2) (G8 (HE HF (by rfl) T.len PySem.boot_len (G8 (J 3) Hg)) Hg)))) Hg)))))
    (He (IJ Jn (Hs Ip (HB M.byte ao (J 1)) (Hr TI.cLB) (Hw _)) (Hh (Hv (JS AO AV AU Iu (J 3) (G8 (HL DB S rfl (G8 (J 1) (G8 (HE HF (by rfl) T.len PySem.boot_len (G8 (J 3) Hg)) Hg))) Hg)))))
    (He (HG (Hs Ki (HB M.byte ao (J 1)) (Hr T.cEND) (Hw _)) (Hh (HK T.xt bd rfl T.mC (Hy (J 1) rfl))) Hu)
    (Hh (Hx (J 3))))))))))),?_⟩
  refine zA Y (zA Y (zB Y (.inl hS) (λc dx bp cb bg=>?_)));have ci:(tx t).length=t.length:=by unfold tx;rw[Ab]
  refine zG (by rw[ci];rfl) G9 (λH1 b2 k1=>⟨Y,?_⟩);have s1:aG H H1:=aG.made bp cb k1;have u1:bE K B H1 c a t 0 t.length:=⟨⟨dx,b2⟩,s1.seq hS,Az _,Ag _⟩;have ae:∀{Ha Hb:Hp},aG H Ha->aL Ha Hb c->aG H Hb:=λs k b o X=>k _ _ (s _ _ X) (λz=>by rw[z,bp] at X;cases X);have eR:=QJ t;refine zA Y (zC Y u1 (λy g=>U y (by rw[eR,g])) (λn q0 v0 cd H2 u2 k2 b6=>?_));rw[cd] at eR;dsimp only at eR;subst b6;have s2:=ae s1 k2;refine⟨Az _,λl a0=>?_⟩;have bi:=aF (o:=.lst []) a0;have cf:H l=Option.none:=by
   cases q:H l with
   |none=>rfl
   |some o=>rw[s2 _ _ q] at a0;cases a0
  refine⟨λG σ H'=>∃(fs:List Iv) (pos:Nat),G=t.length-pos/\σ=[some (.ref a),some (.ref c),some (.ref l),Option.none]/\bE K B H' c a t pos t.length/\aG H H'/\aI H' l fs/\(∀x∈fs,x.ok=true)/\fs.length<=15/\readInst t=li ⟨n,fs,[],[]⟩ pos (st t pos t.length),
   ⟨_,[],q0,Y,Y,u2.same bi,s2.trans bi,⟨[],G9,Y,λi b x X=>by simp at X⟩,(λx hx=>nomatch hx),Az _,eR⟩,?_⟩
  rintro G σ H3 ⟨fs,pos,rfl,rfl,u3,s3,ah,an,am,j⟩;obtain⟨ck,ar⟩:=u3.at_;refine zA Y (zC Y ar (HC _ _ _) (zL Y u3 Y (zA Y ?_)));rw[ID];obtain⟨cn,b1,co⟩:=ah.len;refine HN (λh=>?_) λh=>?_
  ·have h':Ht (st t pos t.length)=102:=of_decide_eq_true h;rw[Xc h'] at j;refine⟨λd9 H'=>∃(fs:List Iv) (q:Nat),pos<q/\d9=[some (.ref a),some (.ref c),some (.ref l),Option.none]/\bE K B H' c a t q t.length/\aG H H'/\aI H' l fs/\(∀x∈fs,x.ok=true)/\fs.length<=15/\readInst t=li ⟨n,fs,[],[]⟩ q (st t q t.length),?_,?_⟩
   ·rintro d9 H' ⟨fs,q,hq,rfl,L,a2,a3,a4,a5,a6⟩;have:=L.le;exact zI (t.length-q) (by lia) (zB Y Y ⟨L,a2,a3,a4,a5,a6⟩)
   ·refine zE Y (.inl ⟨Y,_,aP.of b1⟩) (zA Y (zA Y (zM c a l t pos t.length fs Y ⟨u3,ah,an,am,λy g=>U y (by rw[j,Na g]),λx q v m H4 b u4 k4 R X ax=>?_⟩)));subst R;rw[Pb m] at j;have b7:=(Pj m).1;have cl:¬15<=fs.length:=of_decide_eq_false b7;have af:=Jq m;rw[Ka u3.len,Ka u3.len] at af;have ad:=ah.keep k4 ar;obtain⟨ch,az,cj⟩:=ad.len;have s4:=ae s3 k4;obtain⟨b9,b8⟩:=u4.at_;have ak:c≠l:=Hq b8 az aO;have s5:aG H (aK H4 l (.lst (ch++[.ref b]))):=λz o r=>by rw[Hf (λw=>by rw[w,cf] at r;cases r)];exact s4 _ _ r
    refine zN Y Y az (by rw[cj];exact AD am (by show 15<GI;decide)) ?_;refine zB (by lia) Y ⟨RQ (dx:=b9) (by rwa [Hf ak]) s5 hS u4.le u4.len,s5,ad.snoc az X,?_,?_,j⟩
    ·intro y g;rcases AA.mp g with z | z
     ·exact an y z
     ·rwa [Ai.mp z]
    ·rw[Ad,BJ]
     lia
  ·have cg:¬Ht (st t pos t.length)=102:=λz=>h (decide_eq_true z);clear h;have W:=Vi (n:=n) (p:=pos) (fs:=fs) cg;refine zA Y (zA Y ⟨c,zM a l t pos t.length 0 fs Y ⟨u3,ah,an,am,Az _,λy g=>?_,λx q v m H4 b u4 k4 R d8 N ax=>?_⟩⟩)
   ·rcases W with ⟨_,_,z,r⟩ | W
    ·exact U z (by rw[j,r])
    ·exact U y (by rw[j,W,Na g])
   ·subst R;have br:li ⟨n,fs,[],[]⟩ pos (st t pos t.length)=li ⟨n,fs,[x],[]⟩ q (st t q t.length):=by
     rcases W with ⟨y,g,_⟩ | W
     ·rw[g] at m;cases m
     ·rw[W,Pb m]
    rw[br] at j;have b5:=(Pj m).2.2;have ad:=ah.keep k4 ar;have s4:=ae s3 k4;refine⟨(by show 1<=GI;decide),λe ab=>?_⟩;have ai:=aF (o:=.lst [.ref b]) ab;have bq:H e=Option.none:=by
     cases q:H e with
     |none=>rfl
     |some o=>rw[s4 _ _ q] at ab;cases ab
    have d7:b≠e:=λz=>by obtain⟨_,z1,_⟩:=N;rw[z,ab] at z1;cases z1
    have bw:l≠e:=λz=>by obtain⟨_,z1,_⟩:=ad.len;rw[z,ab] at z1;cases z1
    have ba:TabAt (aK H4 e (.lst [.ref b])) e ([x].mapIdx (fF fs)):=by
     refine⟨[b],G9,Y,λi b' l' ag as=>?_⟩
     match i,ag,as with
     |0,ag,as=>cases ag;cases as;exact⟨d7,N.same ai⟩
     |i+1,ag,_=>simp at ag
    have be:∀y∈([x]:List Iv),∀f∈fs,(y.plus f).ok=true:=λy g f hf=>by rw[Ai.mp g];exact Bb.mp b5 f hf
    refine⟨λG σ H'=>∃(cs:List Iv) (pos:Nat),G=t.length-pos/\σ=[some (.ref a),some (.ref c),some (.ref l),some (.ref e)]/\bE K B H' c a t pos t.length/\aG H H'/\aI H' l fs/\TabAt H' e (cs.mapIdx (fF fs))/\cs≠[]/\(∀x∈cs,x.ok=true)/\cs.length<=14/\(∀y∈cs,∀f∈fs,(y.plus f).ok=true)/\readInst t=li ⟨n,fs,cs,[]⟩ pos (st t pos t.length),zC Y Y (u4.same ai) ⟨s4.trans ai,ad.same ai,ba,by simp,λy g=>by rwa [Ai.mp g],by show 1<=14;decide,be,j⟩,?_⟩
    clear j W br ba be u4 k4 m ad s4 N ai ab d7 d8;rintro G σ H5 ⟨cs,d6,rfl,rfl,u5,s5,bo,bn,av,bj,aw,bl,j⟩;obtain⟨ce,ap⟩:=u5.at_;obtain⟨cm,aq,bk⟩:=bn.len;rw[CW] at bk;refine zA Y (zC Y ap (HC _ _ _) (zL Y u5 Y (zA Y ?_)));rw[ID];refine HN (λh=>?_) λh=>?_
    ·have h':Ht (st t d6 t.length)=99:=of_decide_eq_true h;rw[Ux av h'] at j;refine⟨λd9 H'=>∃(cs:List Iv) (q:Nat),d6<q/\d9=[some (.ref a),some (.ref c),some (.ref l),some (.ref e)]/\bE K B H' c a t q t.length/\aG H H'/\aI H' l fs/\TabAt H' e (cs.mapIdx (fF fs))/\cs≠[]/\(∀x∈cs,x.ok=true)/\cs.length<=14/\(∀y∈cs,∀f∈fs,(y.plus f).ok=true)/\readInst t=li ⟨n,fs,cs,[]⟩ q (st t q t.length),?_,?_⟩
     ·rintro d9 H' ⟨cs,q,hq,rfl,L,a2,a3,a4,a5,a6,a7,a8,a9⟩;have:=L.le;exact zA (by lia) (zB Y Y ⟨L,a2,a3,a4,a5,a6,a7,a8,a9⟩)
     ·refine zE Y (.inl ⟨Y,_,aP.of aq⟩) (zA Y (zA Y (zA Y (zB Y (.inl (aP.of aq)) ⟨c,zM a l t d6 t.length cs.length fs (by rw[bk];rfl) ⟨u5,bo,an,am,aw,λy g=>U y (by rw[j,Na g]),λx q v m H6 b D k6 R d8 N ax=>?_⟩⟩))));subst R;rw[Pb m] at j;have bf:=Pj m;have bt:¬14<=cs.length:=of_decide_eq_false bf.1;have af:=Jq m;rw[Ka u5.len,Ka u5.len] at af;have bu:=bo.keep k6 ap;have aa:=bn.keep k6 ap;obtain⟨bc,I,al⟩:=aa.len;rw[CW] at al;have s6:=ae s5 k6;obtain⟨aj,ac⟩:=D.at_;have ak:c≠e:=Hq ac I aO;have d7:b≠e:=λz=>by rw[z,aq] at d8;cases d8
      have s7:aG H (aK H6 e (.lst (bc++[.ref b]))):=λz o r=>by rw[Hf (λw=>by rw[w,bq] at r;cases r)];exact s6 _ _ r
      refine zN Y Y I (by rw[al];exact AD aw (by show 14<GI;decide)) ?_;refine zB (by lia) Y ⟨RQ (dx:=aj) (by rwa [Hf ak]) s7 hS D.le D.len,s7,bu.upd I bw,?_,by simp,?_,?_,?_,j⟩
      ·rw[List.mapIdx_concat];exact aa.snoc I N d7
      ·intro y g;rcases AA.mp g with z | z
       ·exact bj y z
       ·rwa [Ai.mp z]
      ·rw[Ad,BJ]
       lia
      ·intro y g f hf;rcases AA.mp g with z | z
       ·exact bl y z f hf
       ·rw[Ai.mp z];exact Bb.mp bf.2.2 f hf
    ·have bz:¬Ht (st t d6 t.length)=99:=λz=>h (decide_eq_true z);clear h;refine⟨λG σ H'=>∃(bs:List Iv) (pos:Nat),G=t.length-pos/\σ=[some (.ref a),some (.ref c),some (.ref l),some (.ref e)]/\bE K B H' c a t pos t.length/\aG H H'/\TabAt H' e (cs.mapIdx (fF fs)++bs.map λx=>[x])/\(bs=[]->¬Ht (st t pos t.length)=99)/\(∀x∈bs,x.ok=true)/\cs.length+bs.length<=14/\readInst t=li ⟨n,fs,cs,bs⟩ pos (st t pos t.length),
      ⟨_,[],d6,Y,Y,u5,s5,by rwa [Dj,AR],λ_=>bz,(λx hx=>nomatch hx),aw,j⟩,?_⟩
     clear j;rintro G σ H6 ⟨bs,u,rfl,rfl,D,s6,aa,bx,bm,ay,j⟩;obtain⟨aj,ac⟩:=D.at_;obtain⟨bc,I,al⟩:=aa.len;rw[Ad,CW,Ab] at al;refine zA Y (zC Y ac (HC _ _ _) (zL Y D Y (zA Y ?_)));rw[ID];refine HN (λh=>?_) λh=>?_
     ·have h':Ht (st t u t.length)=98:=of_decide_eq_true h;rw[Yq av h'] at j;refine⟨λd9 H'=>∃(bs:List Iv) (q:Nat),u<q/\d9=[some (.ref a),some (.ref c),some (.ref l),some (.ref e)]/\bE K B H' c a t q t.length/\aG H H'/\TabAt H' e (cs.mapIdx (fF fs)++bs.map λx=>[x])/\(bs=[]->¬Ht (st t q t.length)=99)/\(∀x∈bs,x.ok=true)/\cs.length+bs.length<=14/\readInst t=li ⟨n,fs,cs,bs⟩ q (st t q t.length),?_,?_⟩
      ·rintro d9 H' ⟨bs,q,hq,rfl,L,a2,a3,a4,a5,a6,a7⟩;have:=L.le;exact zA (by lia) (zB Y Y ⟨L,a2,a3,a4,a5,a6,a7⟩)
      ·refine zE Y (.inl ⟨Y,_,aP.of I⟩) (zA Y (zA Y (zB Y (.inl (aP.of I)) (zP (by rw[al];rfl) D ay ⟨λy g=>U y (by rw[j,Na g]),λx q v m H7 b u7 k7 R d8 N ax=>?_⟩))));subst R;rw[Pb m] at j;have bt:¬14<=cs.length+bs.length:=of_decide_eq_false (Pj m).1;have af:=Jq m;rw[Ka D.len,Ka D.len] at af;have bb:=aa.keep k7 ac;obtain⟨b3,au,bh⟩:=bb.len;rw[Ad,CW,Ab] at bh;have s7:=ae s6 k7;obtain⟨bv,cc⟩:=u7.at_;have ak:c≠e:=Hq cc au aO;have d7:b≠e:=λz=>by rw[z,I] at d8;cases d8
       have s8:aG H (aK H7 e (.lst (b3++[.ref b]))):=λz o r=>by rw[Hf (λw=>by rw[w,bq] at r;cases r)];exact s7 _ _ r
       refine zN Y Y au (by rw[bh];exact AD ay (by show 14<GI;decide)) ?_;refine zB (by lia) Y ⟨RQ (dx:=bv) (by rwa [Hf ak]) s8 hS u7.le u7.len,s8,?_,λz=>by simp at z,?_,?_,j⟩
       ·rw[AM,<-Bq];exact bb.snoc au N d7
       ·intro y g;rcases AA.mp g with z | z
        ·exact bm y z
        ·rwa [Ai.mp z]
       ·rw[Ad,BJ]
        lia
     ·have b4:¬Ht (st t u t.length)=98:=λz=>h (decide_eq_true z);have hE:=pQ (n:=n) (p:=u) (fs:=fs) av bx b4;refine zA Y (zC Y ac (HC _ _ _) (zL Y D Y (zA Y ?_)));refine HN (λh=>?_) λh=>?_
      ·have bg:¬Ht (st t u t.length)=-1:=λz=>by rw[z] at h;exact absurd h (by decide)
       obtain⟨y,g⟩:=hE.2 bg;exact zA Y (zD Y ac T.cl T.nP (HA _ _ _) ⟨_,Y,λd hd=>U y (by rw[j,g]) _ _ d G9⟩)
      ·have b0:Ht (st t u t.length)=-1:=by
        by_cases z:Ht (st t u t.length)=-1
        ·exact z
        ·refine absurd ?_ h;show(!decide (V.int (Ht (st t u t.length))=V.int (-1)))=true;rw[ID,decide_eq_false z];rfl
       rw[hE.1 b0] at j;exact⟨_,Y,kQ _ j ⟨an,am,bj,bm,ay,bl⟩ H6 e s6 aa⟩
end Lu
namespace Lu
open L2 Lute LuR LuW LuteSong
theorem aP.kb{K:G5}{H H':Hp}{a Pt:Z}{xs:List V}{ps:Array O}(h:aP K H a xs)(k:aR Pt H H')(b:H Pt=some (.tbl ps)):aP K H' a xs:=by
 rcases h with (h | ⟨o,h⟩) | h
 ·exact .inl (.inl (k _ _ h (Hq h b aO)))
 ·exact .inl (.inr ⟨o,k _ _ h (Hq h b aO)⟩)
 ·exact .inr h
theorem aP.ovl{K:G5}{H:Hp}{a:Z}{xs:List V}{cs:List (Z×Obj)}(h:aP K H a xs)(n:∀c o,cs.lookup c=some o->H c=none):aP K (L2.dF H cs) a xs:=by
 rcases h with (h | ⟨o,h⟩) | h
 ·exact .inl (.inl (Ie n h))
 ·exact .inl (.inr ⟨o,Ie n h⟩)
 ·exact .inr h
theorem bD.unt(h:bD H m so)(f:∀c o,cs.lookup c=some o->H c=some (fz o)):bD (L2.dO H cs) m so:=h.move λb o d a=>Ix f d λz e=>by rcases a with ⟨xs,q⟩ | ⟨xs,q⟩ <;> (rw[q] at e;cases e)
def Ta(s:GU):GR:=match (HM s).getLast? with
 |some (.Return (some (.Call _ es _ _)) _)=>es.getLast?.getD (.Constant .none 0 ⟨0,0,0,0⟩)
 |_=>.Constant .none 0 ⟨0,0,0,0⟩
def M0(e:GR):Scope:=match e with
 |.Lambda _ _ sc _=>sc
 |_=>default
open L2 Lute LuR LuW LuteSong LuI
def jL(sp:Sp)(a:Z)(H:Hp)(ok:V->Hp->Prop)(b:Prop):Prop:=∀(Q:VK) (E:XK),(∀v H1,ok v H1->Q v H1)->(b->∀c d H',E c d H')->sp [.ref a] H Q E
def VH(Q:VK)(z:Int):Prop:=∀(H':Hp) (p:Z),H' p=some (.lst [.int z])->Q (.ref p) H'
section
variable(P:GJ)(w:GQ)(K:G5)(mg:Str->Option O)(base:Heap)(C:Z)(k:Nat)
def mG:Sp:=λvs H Q _=>∃(j g1 a g2 d:Z) (q:Nat) (h:Sp) (c:V->Hp->Prop) (b:Prop),vs=[.ref j,.ref g1,.ref a,.ref g2,.ref d]/\eT P w K mg base C 19 H g1 q h/\jL h j H c b/\(b->VH Q (-6)) ∧
 ∀e H1,c e H1->∃(f:Z) (n2:Nat) (m:Sp) (l:V->Hp->Prop) (i:Prop),e=.ref f/\eT P w K mg base C 19 H1 g2 n2 m/\jL m a H1 l i/\(i->VH Q (-8)) ∧
 ∀g H2,l g H2->∃(p:Z) (n:Nat) (o:Sp),g=.ref p/\eT P w K mg base C k H2 d n o/\o [.ref f,.ref p] H2 Q E0
end
structure iJ(mg:Str->Option O):Prop where
 cN2:bY mg "NO_SECOND_TEXT" (.int (-8))
 cMI:bY mg "MOST_INSTRUMENT_BYTES" (.int 4096)
theorem VQ{K:G5}{C a:Z}{H:Hp}{t:Bytes}(g:aP K H a (tx t)):jL (P7 K C) a H (λv H1=>∃m i,v=.ref m/\readInst t=.ok i/\eB i/\aG H H1/\TabAt H1 m (tab i)) (∃x,readInst t=.error x):=λQ E c b=>⟨a,t,Y,g,λx j y H' d _=>b ⟨x,j⟩ _ _ _,λi hi f H' m e h=>c _ _ ⟨m,i,Y,hi,f,e,h⟩⟩
section
variable{P:GJ}{w:GQ}{K:G5}{mg:Str->Option O}{base:Heap}{B C:Z}
theorem jT:aH ["first","read_first","second","read_second","answer","told_first","told_second"] ["first","read_first","second","read_second","answer"] (Hj Jk):=HZ
theorem TW(l:20<=k)(F:bI K "asked_of_texts" "asked_of_texts" Jk f fd)(u:iL mg)(v:iJ mg)(m:fK P w K mg base 20 "read_or_none" ["read","text"] (YH P w K mg base C)):
  aN P w K mg base fY (k+1) f fd ["first","read_first","second","read_second","answer"] (mG P w K mg base C k):=by
 refine F.ok jT (λvs H Q E h=>?_) (λaC A outer s H vs Q E e h=>?_)
 ·obtain⟨r,g1,g,g2,j,o,q,d8,U,rfl,_⟩:=h;rfl
 ·obtain⟨r,g1,g,g2,j,o,q,d8,U,rfl,M,S,t,B⟩:=h;refine⟨_,He (bG 5 jT.nd (RB m (e.mono l) rfl (G8 (J 1) (G8 (J 0) Hg))))
   (He (HG (Hs UY (J 5) RP (Hw _)) (Hh (Hx (Iw (G8 (Hr u.cNS) Hg)))) Hu)
   (He (bG 6 jT.nd (RB m (e.mono l) rfl (G8 (J 3) (G8 (J 2) Hg))))
   (He (HG (Hs UY (J 6) RP (Hw _)) (Hh (Hx (Iw (G8 (Hr v.cN2) Hg)))) Hu)
   (Hh (Hx (Sf (P:=P) (w:=w) (K:=K) (mg:=mg) (base:=base) (C:=C) (i:=4) (k:=k) (E:=E0) rfl (Or.inl rfl) e V8 (G8 (J 5) (G8 (J 6) Hg)))))))),?_⟩
  refine zA Y (zA Y (zQ Y M (S _ _ (λR H1 W=>?_) λa c d H'=>?_)))
  ·obtain⟨I,n2,d9,aa,ab,rfl,T,R2,D,d6⟩:=B R H1 W;refine zE Y Y (zA Y (HN (λz=>?_) λ_=>?_))
   ·have b:V.ref I=V.non:=of_decide_eq_true z;cases b
   ·refine zA Y (zA Y (zQ Y T (R2 _ _ (λd7 H2 X=>?_) λa c d H'=>?_)))
    ·obtain⟨y,n,L,rfl,N,G⟩:=d6 d7 H2 X;refine zE Y Y (zA Y (HN (λz=>?_) λ_=>?_))
     ·have b:V.ref y=V.non:=of_decide_eq_true z;cases b
     ·exact⟨j,Y,zA Y (zA Y ⟨n,L,N,G⟩)⟩
    ·refine zE Y Y (zA Y (HN (λ_=>?_) λz=>absurd (decide_eq_true rfl) z));exact⟨(by show 1<=GI;decide),λp x=>D a _ p G9⟩
  ·refine zE Y Y (zA Y (HN (λ_=>?_) λz=>absurd (decide_eq_true rfl) z));exact⟨(by show 1<=GI;decide),λp x=>t a _ p G9⟩
end
section
variable(P:GJ)(w:GQ)(K:G5)(mg:Str->Option O)(base:Heap)(C:Z)(k:Nat)
def YO:Sp:=λvs H Q _=>∃(a h d:Z) (t b:Bytes),vs=[.ref a,.ref h,.ref d]/\aP K H a (tx t)/\aP K H h (tx b)/\(65536<t.length\/4096<b.length->VH Q (-2)) ∧
 (¬(65536<t.length\/4096<b.length)->(∀x,readSong t=.error x->VH Q (-6))/\∀e,readSong t=.ok e->(∀x,readInst b=.error x->VH Q (-8)) ∧
  ∀c,readInst b=.ok c->eB c->∃n g,eT P w K mg base C k H d n g/\∀(H':Hp) (m f:Z),aG H H'->bD H' m e->TabAt H' f (tab c)->g [.ref m,.ref f] H' Q E0)
end
theorem VO{K:G5}{C a:Z}{H:Hp}{t:Bytes}(h:aP K H a (tx t)):jL (Qg K C) a H (λv H1=>∃m b,v=.ref m/\readSong t=.ok b/\aG H H1/\bD H1 m b) (∃x,readSong t=.error x):=λQ E e c=>⟨a,t,Y,h,λx j H' d _=>c ⟨x,j⟩ _ _ _,λb g H' m f i=>e _ _ ⟨m,b,Y,g,f,i⟩⟩
variable{P:GJ}{w:GQ}{K:G5}{mg:Str->Option O}{base:Heap}{B C:Z}
theorem oQ:aH ["s","i","answer"] ["s","i","answer"] (Hj HV):=HZ
theorem Sk{k:Nat}(hk:20<=k){f:Z}{fd:GP}(F:bI K "asked_of_song_and_instrument" "asked_of_song_and_instrument" HV f fd)(T:cS K mg B C)(j:iL mg)(y:iJ mg)
  (DA:fK P w K mg base (k+1) "asked_of_texts" ["first","read_first","second","read_second","answer"] (mG P w K mg base C k)) (DS:bQ P w K mg base C 15 "read_song" ["text"] (Qg K C)) (DN:bQ P w K mg base C 10 "read_instrument" ["text"] (P7 K C)):
  aN P w K mg base fY (k+2) f fd ["s","i","answer"] (YO P w K mg base C k):=by
 refine F.ok oQ (λvs H Q E h=>?_) (λaC A outer s H vs Q E hr h=>?_)
 ·obtain⟨a,d,i,t,r,rfl,_⟩:=h;rfl
 ·obtain⟨a,d,i,t,r,rfl,l,g,kL,kS⟩:=h;obtain⟨gs,d7,aa⟩:=DS.clb;obtain⟨d9,d8,W⟩:=DN.clb;have u:∀t:Bytes,(tx t).length=t.length:=λt=>by unfold tx;rw[Ab]
  refine⟨_,He (HG (PW.pt (OP (Hs LP (HE HF (by rfl) T.len PySem.boot_len (G8 (J 0) Hg)) (Hr j.cMB) (Hw _)) (Mu (Hs LP (HE HF (by rfl) T.len PySem.boot_len (G8 (J 1) Hg)) (Hr y.cMI) (Hw _))))) (Hh (Hx (Iw (G8 (Hr j.cTL) Hg)))) Hu)
   (Hh (Hx (RB DA hr rfl (G8 (J 0) (G8 (RO d7) (G8 (J 1) (G8 (RO d8) (G8 (J 2) Hg)))))))),?_⟩
  refine zA Y (zB Y (.inl l) (zB Y Y (zA Y ?_)));rw[u];refine LK (b2:=decide ((4096:Int)<(r.length:Int))) (λQ' q=>zA Y (zB Y (.inl g) (zB Y Y ⟨_,Y,by rwa [u]⟩))) ?_;refine HN (λh=>?_) λh=>?_
  ·rw[Bh,decide_eq_true_eq,decide_eq_true_eq] at h;exact⟨(by show 1<=GI;decide),λp hp=>kL (by lia) _ p G9⟩
  ·rw[Bh,decide_eq_true_eq,decide_eq_true_eq] at h;obtain⟨G,S⟩:=kS (by lia);refine⟨_,Y,zA Y (zA Y ⟨a,gs,zM d d9 i 1 (Qg K C) _ _ Y ⟨(aa H).mono (by decide),VO l,λ⟨x,e⟩=>G x e,?_⟩⟩)⟩;rintro v1 H1 ⟨m,z,rfl,D,c,X⟩;obtain⟨U,I⟩:=S z D;refine zG Y ((W H1).mono (by decide)) ⟨VQ (c.seq g),λ⟨x,e⟩=>U x e,?_⟩;rintro v2 H2 ⟨o,R,rfl,v,V,b,d6⟩;obtain⟨n,N,L,M⟩:=I R v V;exact⟨o,n,N,Y,L.on (eE.of (c.trans b)),M H2 m o (c.trans b) (X.same b) d6⟩
end Lu
namespace Lu
open Lute LuteSong LuteTab LuW LuC
theorem Ql{x:Iv}(h:x.ok=true):x.plus unison=x:=by
 obtain⟨_,_,_,_,h1,_,a⟩:=IQ h;have e:x.plus unison=Iv.low x:=by unfold Iv.plus;congr 1;cases x;simp[unison]
 rw[e];unfold Iv.low;rw[a];cases x;simp
theorem Xt(c f:Nat)(g:1<=c)(d:c<=14)(e:f<=15):(⟨c,f⟩:Stop).ok=decide (c<=6\/f=0):=by
 unfold Stop.ok;dsimp only;rw[decide_eq_true g,D4];by_cases a:c<=6
 ·rw[G7 a,decide_eq_true e,decide_eq_true (.inl a)]
 ·rw[G6 a,decide_eq_true d,D4];by_cases b:f=0
  ·rw[b,decide_eq_true (.inr rfl)];rfl
  ·rw[decide_eq_false (λz=>z.elim a b)];exact beq_eq_false_iff_ne.mpr b
theorem QE(h:eB t)(hi:i<t.opens.length):stopsOn t (i+1)=(((Ay (t.many (i+1)+1)).filter λf=>decide (i+1<=6\/f=0)).map λf=>(⟨i+1,f⟩:Stop)):=by
 unfold stopsOn;rw[Gu];congr 1;refine Ge λf c=>?_;have b:f<=t.many (i+1):=by have:=AW.mp c;lia
 have d:t.many (i+1)<=15:=by
  unfold Inst.many;split
  ·exact h.f15
  ·exact Az _
 have a:i+1<=14:=by
  have:=h.n14;unfold Inst.opens at hi;rw[Ad] at hi
  lia
 show((⟨i+1,f⟩:Stop).ok&&t.place (i+1) f)=_;rw[Xt _ _ (by lia) a (by lia)];unfold Inst.place;rw[decide_eq_true (show 1<=i+1 by lia),decide_eq_true (show i+1<=t.opens.length by lia),decide_eq_true b];simp
theorem Ny(fs:List Iv)(x:Iv):((Ay fs.length).map λf=>x.plus (fs.getD f unison))=fs.map x.plus:=by refine Gk (by simp) λi h1 h2=>?_;simp only[Cy,EA];rw[Ae,Aa (by simpa using h2)];rfl
theorem Sh(h:eB t)(hi:i<t.opens.length):((stopsOn t (i+1)).map λs=>t.sounds s.course s.fret)=if i<t.courses.length then fF t.frets i t.opens[i] else [t.opens[i]]:=by
 have l:t.opens[i].ok=true:=by
  have c:t.opens[i]∈t.opens:=AG hi;unfold Inst.opens at c;rcases AA.mp c with z | z
  ·exact h.co _ z
  ·exact h.ba _ z
 have k:t.opens.getD i unison=t.opens[i]:=by rw[Ae,Aa hi];rfl
 rw[QE h hi,A8];have e:((λs:Stop=>t.sounds s.course s.fret) ∘ λf=>(⟨i+1,f⟩:Stop))=λf=>t.opens[i].plus (t.fret f):=by funext f;show(t.opens.getD (i+1-1) unison).plus (t.fret f)=_;rw[Nat.add_sub_cancel,k]
 rw[e];have a:t.opens[i].plus (t.fret 0)=t.opens[i]:=Ql l;have one:((Ay (t.many (i+1)+1)).filter λf=>decide (f=0))=[0]:=by rw[CZ,BL,G7 (by rfl),C5.mpr];intro f n;obtain⟨g,_,rfl⟩:=Av.mp n;simp
 by_cases d:i<t.courses.length
 ·rw[G7 d];unfold fF;by_cases j:i<6
  ·rw[G7 j,FU.mpr (λf _=>decide_eq_true (.inl (by lia)))];have b:t.many (i+1)=t.frets.length:=by unfold Inst.many;rw[G7 (by lia)]
   rw[b,CZ,An,A8,a,<-Ny];congr 1
  ·rw[G6 j];have m:(λf=>decide (i+1<=6\/f=0))=λf:Nat=>decide (f=0):=by
    funext f;by_cases z:f=0
    ·rw[decide_eq_true (.inr z),decide_eq_true z]
    ·rw[decide_eq_false (λq=>q.elim (by lia) z),decide_eq_false z]
   rw[m,one,An,a]
   all_goals rfl
 ·rw[G6 d];have b:t.many (i+1)=0:=by unfold Inst.many;rw[G6 (by lia)]
  rw[b];have:((Ay (0+1)).filter λf=>decide (i+1<=6\/f=0))=[0]:=by show([0]:List Nat).filter (λf=>decide (i+1<=6\/f=0))=[0];rw[BL,G7 (decide_eq_true (.inr rfl))];rfl
  rw[this,An,a]
  all_goals rfl
theorem R4{t:Inst}{i:Nat}(hi:i<t.opens.length)(a:i<t.courses.length):t.opens[i]=t.courses[i]:=D3 (bs:=t.basses) a
theorem Qp{t:Inst}{i:Nat}(hi:i<t.opens.length)(a:t.courses.length<=i)(b:i-t.courses.length<t.basses.length):t.opens[i]=t.basses[i-t.courses.length]:=Dv (as:=t.courses) (bs:=t.basses) a
theorem qB{t:Inst}(h:eB t):tab t=((Ay t.opens.length).map λi=>i+1).map λc=>(stopsOn t c).map λs=>t.sounds s.course s.fret:=by
 have b:t.opens.length=t.courses.length+t.basses.length:=by unfold Inst.opens;rw[Ad]
 show t.courses.mapIdx (fF t.frets)++t.basses.map (λx=>[x])=_;refine Gk ?_ λi h1 h2=>?_
 ·simp[b]
 ·have hi:i<t.opens.length:=by simpa using h2
  rw[Cy,Cy,EA,Sh h hi];by_cases a:i<t.courses.length
  ·rw[G7 a,D3 (by simpa using a),FT,R4 hi a]
  ·rw[G6 a,Dv (by simpa using a),Cy,Qp hi (by lia) (by lia)];simp
theorem YW(h:eB t):∀r∈tab t,(∀x∈r,x.ok=true)/\r.length<=16:=by
 intro r c;unfold tab at c;rcases AA.mp c with z | z
 ·obtain⟨i,hi,rfl⟩:=Gr.mp z;have b:=AG hi;unfold fF;split
  ·refine⟨λx a=>?_,by simp only[Af,Ab];have:=h.f15;lia⟩;rcases Aq.mp a with q | q
   ·rw[q];exact h.co _ b
   ·obtain⟨f,e,rfl⟩:=Av.mp q;exact h.so _ b f e
  ·refine⟨λx a=>?_,by simp⟩;rw[Ai.mp a];exact h.co _ b
 ·obtain⟨x,a,rfl⟩:=Av.mp z;refine⟨λy d=>?_,by simp⟩;rw[Ai.mp d];exact h.ba _ a
end Lu
namespace L2
section
variable{prog:GJ}{w:GQ}{A:GS}{E:O->GF->Prop}{s:GF}
theorem Rt(hd:(d==G1)=false):MeetsIn prog w (Builtin.«dict.__len__» ⟨[.ref d],[]⟩) (λ_ R s=>∃xs,s.heap.DictOfH (tupleKind (HJ prog w)) d xs/\R (.ok (.ret (.int xs.length s.toks))) { s with toks:=s.toks+1 }):=
 .of_wp λA R s ⟨xs,⟨o,es,ep,a,e,b,c,_,_⟩,h⟩=>by
  have n:es.size=xs.length:=by rw[<-Be,c,Ab]
  show GL _ _ (dictSize d >>= _) _ _ s;unfold dictSize;refine GE (GE (wpAny_dictEntries a b (GK ?_)));show GL _ _ (Builtin.Dict.pendingCount d >>= _) _ _ s;exact GE (wpAny_pendingCount_other hd (wpAny_ret_mkInt (by rwa [Fz,n])))
theorem Ud{Q:O->GF->Prop}(hd:(d==G1)=false)(a:s.heap.DictOfH (tupleKind (HJ prog w)) d xs)(b:(xs.length:Int)<2 ^ 63)
  (h:Q (.int xs.length (s.toks+1)) { s with toks:=s.toks+1+1 }):GL (model prog w) A (call (.builtin "len") [.ref d]) Q E s:=by
 refine Fc kind_len plain_len entry_len (args_len1 _) ?_;unfold Builtin.«len»;refine GE (m:=oneArg "len" _) (GK (GE (m:=callSpecial? (.ref d) (Str.ofString "__len__")) (wpAny_callSpecial?_slot (name:=Str.ofString "__len__") a.typeIs F.slot_dict_len
  (call_meetsIn F.slot_dict_len a.typeIs F.entry_dict_len (F.args_dict_len_1 _) (Rt hd) ⟨xs,a,?_⟩))))
 show GL _ _ _ _ _ { s with toks:=s.toks+1 };refine GE (wpAny_holding (GK (GE (wpAny_letGo ?_))));show GL _ _ (if ((xs.length:Nat):Int)<0 then _ else _) _ _ _;rw[G6 (by lia)];show GL _ _ (if ((xs.length:Nat):Int) ≥ 2 ^ 63 then _ else _) _ _ _;rw[G6 (by lia)];exact GE (wpAny_mkInt (GK ⟨_,Y,h⟩))
end
theorem Tr:JD X (.builtin "len") (λxs H Q=>∃a aB,xs=[V.ref a]/\H a=some (.dT aB)/\Q (.int aB.length) H):=by intro aA s σ H xs f Q I r h;obtain⟨a,aB,rfl,b,q⟩:=h;obtain⟨u,rfl,d⟩:=OT r;cases d;obtain⟨z,hd,ys,c,dd⟩:=YI I.hok b;have e:aB.length=ys.length:=Paired.length c;refine Ud hd dd (by rw[<-e];rw[sizeLine_eq] at z;lia) ?_;rw[<-e];exact⟨.int aB.length,H,I.tok _,⟨_,Y⟩,q⟩
theorem Xr{K:G5}{a:Z}{xs:List V}{g:TG}{tt:TT}{te:TE}{σ:List (Option V)}{vs:List Nat}{o:Hp->Prop}{H1:Hp}{D:Z}(c:Nat->Hp->Prop)(k:∀i H,i<=xs.length->c i H->aP K H a xs)(q:c 0 (aK H1 D (.lst [])))
  (step:∀(i:Nat) (x:V) (H:Hp) (T:Z),xs[i]?=some x->c i H->H T=none->g (.ref T) (Ia σ vs) (aK H T (.tup [.int (i:Int),x])) λd H2=>Ia d vs=Ia σ vs/\tt d H2 λb f=>if b=true then te d f λy h=>∃aE,h D=some (.lst aE)/\aE.length<GI/\c (i+1) (aK h D (.lst (aE++[y]))) else c (i+1) f)
  (hQ:∀H',c xs.length H'->o H'):
  ∃W:Nat->Nat->Hp->Prop,(∃m,W 0 m (aK H1 D (.lst [])))/\∀i m H,W i m H->((iW K a).stop i H/\o H)\/((iW K a).go i H/\∃j:Hp->Prop,(∀H',j H'->∃l,l<m/\W (i+1) l H') ∧
   ∀x H',(iW K a).yld i H x H'->g x (Ia σ vs) H' λd H2=>Ia d vs=Ia σ vs/\tt d H2 λb f=>if b=true then te d f λy h=>∃aE,h D=some (.lst aE)/\aE.length<GI/\j (aK h D (.lst (aE++[y]))) else j f):=by
 refine zI (λi m H=>m=xs.length-i/\i<=xs.length/\c i H) ⟨xs.length,by simp,Az _,q⟩ ?_;rintro i m H ⟨rfl,hi,p⟩;by_cases n:i<xs.length
 ·refine .inr ⟨⟨xs,xs[i],k i H hi p,by simp[n]⟩,c (i+1),λH' h1=>⟨xs.length-(i+1),by lia,Y,n,h1⟩,λv H' s=>?_⟩;obtain⟨T,x,rfl,r,rfl,t⟩:=s;exact step i x H T (t xs (k i H hi p)) p r
 ·have e:i=xs.length:=by lia
  subst e;exact .inl ⟨⟨xs,k _ H hi p,Ag _⟩,hQ H p⟩
end L2
namespace Lu
open L2 Lute LuR LuW LuC
def bR(x:Iv):List bF:=[.inl x.a,.inl x.b,.inl x.c,.inl x.e,.inl (x.d:Int)]
theorem Nr(h:bR x=bR y):x=y:=by unfold bR at h;injection h with h1 h;injection h with h2 h;injection h with b h;injection h with a h;injection h with c _;injection h1 with h1;injection h2 with h2;injection b with b;injection a with a;injection c with c;cases x;cases y;dsimp only at h1 h2 b a c;rw[h1,h2,b,a,D8.mp c]
def eO:Nat->List Iv->List (List bF×V)
 |_,[]=>[]
 |o,x::r=>(bR x,.int ((1+16 ^ (o+1):Nat):Int))::eO (o+1) r
theorem Qc:∀(o:Nat) (D:List Iv),(eO o D).length=D.length
 |_,[]=>rfl
 |o,x::r=>by unfold eO;rw[Af,Af,Qc]
theorem Rb:∀(o:Nat) (D:List Iv) (x:Iv),eO o (D++[x])=eO o D++[(bR x,.int ((1+16 ^ (o+D.length+1):Nat):Int))]
 |o,[],x=>rfl
 |o,y::r,x=>by show _::eO (o+1) (r++[x])=_;rw[Rb (o+1) r x,Af,show o+1+r.length=o+(r.length+1) by lia];rfl
theorem Lj:∀(o:Nat) (D:List Iv) (x:Iv),Ij (eO o D) (bR x)=if x∈D then some (.int ((1+16 ^ (o+D.idxOf x+1):Nat):Int)) else none
 |o,[],x=>by rw[G6 (by simp)];rfl
 |o,y::r,x=>by
  show Ij ((bR y,_)::eO (o+1) r) (bR x)=_;by_cases e:y=x
  ·subst e;rw[Io rfl,G7 AH,FI]
   all_goals rfl
  ·rw[Iq (λz=>e (Nr z)),Lj (o+1) r x];by_cases a:x∈r
   ·rw[G7 a,G7 (Aw _ a),Gs,show(y==x)=false from beq_eq_false_iff_ne.mpr e,show o+1+r.idxOf x=o+(r.idxOf x+1) by lia]
    all_goals rfl
   ·rw[G6 a,G6 (λz=>(Aq.mp z).elim (λq=>e q.symm) a)]
theorem Xv(h:x∉D):IM (eO 0 D) (bR x) (.int ((1+16 ^ (D.length+1):Nat):Int))=eO 0 (D++[x]):=by unfold IM;rw[G6,Rb,Cz];intro z;obtain⟨p,c,b⟩:=ER.mp z;have a:=Lj 0 D x;rw[G6 h] at a;unfold Ij at a;have:=Option.map_eq_none_iff.mp a;rw[List.find?_eq_none] at this;exact this p c b
def iS(c:Ch):List V:=[.int (c.1:Int),.int (c.2.1:Int),.int (c.2.2:Int)]
def lS:Sp:=λvs H Q _=>∃(m:Z) (l:List Iv),vs=[.ref m]/\aI H m l/\l.length<=14/\∀(H':Hp) (u:Z),aG H H'->H u=none->H' u=some (.dT (eO 0 (dd l)))->Q (.ref u) H'
def cK(H:Hp)(m:Z)(l:List Ch):Prop:=∃bs:List Z,H m=some (.lst (bs.map V.ref))/\bs.length=l.length/\∀(i:Nat) (b:Z) (x:Ch),bs[i]?=some b->l[i]?=some x->H b=some (.tup (iS x))
theorem cK.same(h:cK H m l)(k:aG H H'):cK H' m l:=by obtain⟨bs,h1,h2,d⟩:=h;exact⟨bs,k _ _ h1,h2,λi b x c a=>k _ _ (d i b x c a)⟩
theorem cK.snoc(h:cK H m l)(d:H m=some (.lst xs))(g:H b=some (.tup (iS x))):cK (aK H m (.lst (xs++[.ref b]))) m (l++[x]):=by
 obtain⟨bs,h1,h2,n⟩:=h;rw[h1] at d;cases d;refine⟨bs++[b],by rw[G9,AM];rfl,by rw[Ad,Ad,h2];rfl,λi f e a c=>?_⟩;have k:H f=some (.tup (iS e)):=by
  by_cases hi:i<bs.length
  ·rw[AC hi] at a;rw[AC (by lia)] at c;exact n i f e a c
  ·rw[Ax (by lia)] at a;rw[Ax (by lia)] at c;have j:i-bs.length=0:=by
    have:=(Al.mp a).1;simp at this
    lia
   rw[j] at a;rw[show i-l.length=0 by lia] at c;cases a;cases c;exact g
 rwa [Hf (Hq k h1 aO)]
def Zh:Sp:=λvs H Q _=>∃(a u:Z) (r D:List Iv),vs=[.ref a,.ref u]/\aI H a r/\r.length<=16/\H u=some (.dT (eO 0 D))/\D.length<=14/\∀(H':Hp) (p:Z),aG H H'->H p=none->cK H' p (HR D r)->Q (.ref p) H'
structure jJ(mg:Str->Option O):Prop where
 cPB:bY mg "PART_BITS" (.int 4)
 cPM:bY mg "PART_MASK" (.int 15)
 enu:mg "enumerate"=none
section
variable{P:GJ}{w:GQ}{K:G5}{mg:Str->Option O}{base:Heap}{B C:Z}
theorem ZK:aH ["notes","units","note"] ["notes"] (Hj Ko):=HZ
theorem rQ(F:bI K "note_units" "note_units" Ko f fd)(len:mg "len"=none)(TP:jJ mg):aN P w K mg base (aS P w C) 1 f fd ["notes"] lS:=by
 refine F.okX ZK (λvs H Q E h=>?_) (λN A outer s H vs Q E t h=>?_)
 ·obtain⟨m,l,rfl,_⟩:=h;rfl
 ·obtain⟨m,l,rfl,B,d8,k⟩:=h;refine⟨_,He (bG 1 ZK.nd Oh)
   (He (IX Jn rfl (Iz (J 0)) (cM 2 ZK.nd)
    (Hh (HG (KI (Mt (JI t) (J 2) (J 1)))
     (Hh (Pn (JI t) (J 1) (J 2) (HH IU Hm (HH YY Hm (HH JC (Hr TP.cPB) (HH IU (HE Tr (by rfl) len PySem.boot_len (G8 (J 1) Hg)) Hm)))) (by rfl))) Hu)))
   (Hh (Hx (J 1)))),?_⟩
  intro u j;have r:=aF (o:=.dT []) j;obtain⟨bs,h1,h2,G⟩:=B;refine zA Y (zE Y ⟨_,aP.of (r _ _ h1)⟩ (Jg (K:=K) (a:=m) (xs:=bs.map V.ref) (λi σ H'=>∃v:Option V,σ=[some (.ref m),some (.ref u),v]/\aG H H'/\H' u=some (.dT (eO 0 (dd (l.take i)))))
   ⟨Option.none,Y,r,G9⟩ (λi σ H' _ qQ=>by obtain⟨v,_,z,_⟩:=qQ;exact aP.of (z _ _ h1)) ?_ ?_))
  ·rintro i x σ H' g ⟨v,rfl,d,c⟩;rw[Ah] at g;cases hb:bs[i]? with
   |none=>rw[hb] at g;cases g
   |some b=>
    rw[hb] at g;cases g;have hi:i<l.length:=by rw[<-h2];exact(Al.mp hb).1
    have n:l[i]?=some l[i]:=Aa hi;have q:=d _ _ (G i b _ hb n);have tk:l.take (i+1)=l.take i++[l[i]]:=by rw[Bn,n];rfl
    have d9:(dd (l.take i)).length<=14:=AE (NS _).2.2 (by rw[AJ];lia);rw[tk,SU];generalize l[i]=y at *;generalize dd (l.take i)=D at *;refine zA Y (zA Y (zB Y (cI.t c (k:=bR y) q) (zA Y ?_)));rw[Lj];by_cases e:y∈D
    ·rw[G7 e,G7 e];exact L6 ⟨_,Y,d,c⟩
    ·rw[G6 e,G6 e];refine Mo ?_;refine zA Y (zB Y c (zB Y Y (zF Y Y (.inl ⟨by decide,by decide⟩) ?_)));rw[Qc];refine zF Y Y ⟨by lia,by lia,by decide⟩ (zB Y Y ?_);refine zA Y (zA Y (zB Y (fN.t c (k:=bR y) q (by rw[Qc];exact AD d9 (by decide))) ?_));have L:(1:Int)+1*2 ^ (4*((D.length:Int)+1)).toNat=((1+16 ^ (D.length+1):Nat):Int):=by
      have:(4*((D.length:Int)+1)).toNat=4*(D.length+1):=by lia
      rw[this,Int.pow_mul];simp
     show ∃M:Option V,[some (V.ref m),some (V.ref u),some (V.ref b)]=[some (V.ref m),some (V.ref u),M]/\aG H (aK H' u (.dT (IM (eO 0 D) (bR y) (.int (1+1*2 ^ (4*((D.length:Int)+1)).toNat)))))/\(aK H' u (.dT (IM (eO 0 D) (bR y) (.int (1+1*2 ^ (4*((D.length:Int)+1)).toNat))))) u=some (.dT (eO 0 (D++[y])));rw[L,Xv e];refine⟨_,Y,λI o p=>?_,G9⟩;rw[Hf (Hk p j)];exact d I o p
  ·rintro σ H' ⟨v,rfl,d,c⟩;rw[Ab,h2,AZ] at c;exact⟨_,Y,k H' u d j c⟩
end
theorem Wr(D r:List Iv):(HR D r).length<=r.length:=by unfold HR;rw[Ab];exact AE (Ej _ _) (by rw[List.length_zipIdx];exact Ag _)
section
variable{P:GJ}{w:GQ}{K:G5}{mg:Str->Option O}{base:Heap}{B C:Z}
def lR:List Str:=["course","units","fret","sound"]
theorem Xw:aH lR ["course","units"] (Hj Il):=HZ
theorem qT(F:bI K "choices_on_course" "choices_on_course" Il f fd)(TP:jJ mg):aN P w K mg base (aS P w C) 1 f fd ["course","units"] Zh:=by
 refine F.okX Xw (λvs H Q E h=>?_) (λaC A outer s H vs Q E G h=>?_)
 ·obtain⟨B,u,r,D,rfl,_⟩:=h;rfl
 ·obtain⟨B,u,r,D,rfl,S,ab,d7,aa,k⟩:=h;refine⟨_,Hh (Hx (MV (own:=[("fret",2),("sound",3)]) (g:=Tj K 2 (KH (IF 2) (KH (IF 3) T5))) (tt:=tB (mJ (HW 3) (HW 1)))
    (te:=Qk (Ii (HW 2) (Ii (OZ (HW 1) (HW 3)) (Ii (dQ (rI eZ λi j=>.int (i*j)) (tC (.int 15)) (dQ (fW λi j=>.int (i-j)) (OZ (HW 1) (HW 3)) (tC (.int 1)))) JL)))) rfl Xw.nd (XZ (by rfl) TP.enu (G8 (J 0) Hg))
     (show bS lR (Hj Il) _ [("fret",2),("sound",3)] from PF)
     (λ_ _ _ _ _=>KO rfl (HU (cM 2 Xw.nd) (HU (cM 3 Xw.nd) JM))) (λ_ _ _ _ _=>So (KI (Zk (JI G) (J 3) (J 1))))
     (λ_ _ _ _ _=>Ik (G8 (J 2) (G8 (Mf (JI G) (J 1) (J 3) (λ_ _=>rfl)) (G8 (HH JC (Hr TP.cPM) (HH JX (Mf (JI G) (J 1) (J 3) (λ_ _=>rfl)) Hm)) Hg)))))),?_⟩
  obtain⟨bs,h1,h2,U⟩:=S;refine zA Y (zB Y (aP.of h1) (λp z=>?_));refine Xr (K:=K) (a:=B) (xs:=bs.map V.ref) (λi H'=>aG H H'/\cK H' p (HR D (r.take i))) (λi H' _ q=>aP.of (q.1 _ _ h1)) ⟨aF z,[],G9,Y,λi b x c=>by simp at c⟩ ?_ ?_
  ·rintro i x H' T t ⟨d,e⟩ hT;rw[Ah] at t;cases c:bs[i]? with
   |none=>rw[c] at t;cases t
   |some b=>
    rw[c] at t;cases t;have hi:i<r.length:=by rw[<-h2];exact(Al.mp c).1
    have I:r[i]?=some r[i]:=Aa hi;have d6:=d _ _ (U i b _ c I);have tk:r.take (i+1)=r.take i++[r[i]]:=by rw[Bn,I];rfl
    rw[tk,UD,AJ,Gw (Cj hi)];generalize r[i]=y at *;have n:=aF (o:=.tup [.int (i:Int),.ref b]) hT;have d8:=n _ _ (d _ _ d7);have N:=n _ _ d6;refine zF Y (aQ.of G9) Y (zK Y (zB Y Y ?_));refine⟨Y,?_⟩;refine zA Y (zA Y (zB Y (cI.t d8 (k:=bR y) N) (zA Y ?_)));rw[Lj,Cz];by_cases l:y∈D
    ·rw[G7 l,G7 l];refine Mo ?_;have hv:Ij (eO 0 D) (bR y)=some (.int ((1+16 ^ (D.idxOf y+1):Nat):Int)):=by rw[Lj,Cz,G7 l]
     have d9:cI (aK H' T (.tup [.int (i:Int),.ref b])) u (.ref b) (some (.int ((1+16 ^ (D.idxOf y+1):Nat):Int))):=by rw[<-hv];exact cI.t d8 (k:=bR y) N
     refine zA Y (zA Y (zA Y (zB Y d9 (zA Y (zA Y (zB Y d9 (zB Y Y (zF Y Y (.inl ⟨by decide,by decide⟩) ?_))))))));refine⟨(by show 3<=GI;decide),λq X=>?_⟩;obtain⟨xs,L,W⟩:∃xs,H' p=some (.lst xs)/\xs.length=(HR D (r.take i)).length:=by obtain⟨cs,R,c2,_⟩:=e;exact⟨_,R,by rw[Ab,c2]⟩
     have sq:=aF (o:=.tup (iS (i,unit D y,mask D y))) X;have v:aG H' (aK (aK H' T (.tup [.int (i:Int),.ref b])) q (.tup (iS (i,unit D y,mask D y)))):=n.trans sq;have ev:(15:Int)*(((1+16 ^ (D.idxOf y+1):Nat):Int)-1)=((mask D y:Nat):Int):=by
      unfold mask;rw[B7,Em];have:((1:Nat):Int)+((16 ^ (D.idxOf y+1):Nat):Int)-1=((16 ^ (D.idxOf y+1):Nat):Int):=by lia
      rw[this];rfl
     have eo:(HO.tup [.int (i:Int),.int ((1+16 ^ (D.idxOf y+1):Nat):Int),.int (15*(((1+16 ^ (D.idxOf y+1):Nat):Int)-1))])=.tup (iS (i,unit D y,mask D y)):=by rw[ev];rfl
     show ∃aE,(aK (aK H' T (.tup [.int (i:Int),.ref b])) q (HO.tup [.int (i:Int),.int ((1+16 ^ (D.idxOf y+1):Nat):Int),.int (15*(((1+16 ^ (D.idxOf y+1):Nat):Int)-1))])) p=some (.lst aE)/\aE.length<GI/\aG H (aK (aK (aK H' T (.tup [.int (i:Int),.ref b])) q (HO.tup [.int (i:Int),.int ((1+16 ^ (D.idxOf y+1):Nat):Int),.int (15*(((1+16 ^ (D.idxOf y+1):Nat):Int)-1))])) p (.lst (aE++[.ref q])))/\cK (aK (aK (aK H' T (.tup [.int (i:Int),.ref b])) q (HO.tup [.int (i:Int),.int ((1+16 ^ (D.idxOf y+1):Nat):Int),.int (15*(((1+16 ^ (D.idxOf y+1):Nat):Int)-1))])) p (.lst (aE++[.ref q]))) p (HR D (r.take i)++[(i,unit D y,mask D y)]);rw[eo];refine⟨xs,v _ _ L,?_,λb' o M=>?_,(e.same v).snoc (v _ _ L) G9⟩
     ·rw[W];refine AD (Wr _ _) (AD (m:=16) ?_ (by decide));rw[AJ]
      lia
     ·rw[Hf (Hk M z)];exact v _ _ (d _ _ M)
    ·rw[G6 l,G6 l];exact L6 ⟨d.trans n,e.same n⟩
  ·rintro H' ⟨d,e⟩;rw[Ab,h2,AZ] at e;exact k H' p d z e
end
def pf(m:Z)(wh:Int)(d:Z):List (Str×V):=H0 "counted" (.ref d) (H0 "whole" (.int wh) (H0 "choices" (.ref m) []))
theorem Vc(m:Z)(wh:Int)(d:Z):(pf m wh d).lookup ("choices":Str)=some (.ref m):=by unfold pf;rw[Hl,G6 (by decide),Hl,G6 (by decide),Hl,G7 rfl]
theorem qA(m:Z)(wh:Int)(d:Z):(pf m wh d).lookup ("whole":Str)=some (.int wh):=by unfold pf;rw[Hl,G6 (by decide),Hl,G7 rfl]
theorem WJ(m:Z)(wh:Int)(d:Z):(pf m wh d).lookup ("counted":Str)=some (.ref d):=by unfold pf;rw[Hl,G7 rfl]
theorem UT(m:Z)(wh:Int)(d:Z):(pf m wh d).lookup ("count_from":Str)=none:=by unfold pf;rw[Hl,G6 (by decide),Hl,G6 (by decide),Hl,G6 (by decide)];rfl
def bV(H:Hp)(m:Z)(a:List (List Ch)):Prop:=∃bs:List Z,H m=some (.lst (bs.map V.ref))/\bs.length=a.length/\∀(i:Nat) (b:Z) (l:List Ch),bs[i]?=some b->a[i]?=some l->b≠m/\cK H b l
theorem bV.same(h:bV H m l)(k:aG H H'):bV H' m l:=by obtain⟨bs,h1,h2,d⟩:=h;exact⟨bs,k _ _ h1,h2,λi b x c a=>⟨(d i b x c a).1,(d i b x c a).2.same k⟩⟩
theorem cK.keep(h:cK H m l)(k:aL H H' d)(hd:H d=some o)(f:∀xs,o≠.lst xs)(n2:∀xs,o≠.tup xs):cK H' m l:=by obtain⟨bs,h1,h2,e⟩:=h;exact⟨bs,k _ _ h1 (Hq h1 hd (λz=>f _ z.symm)),h2,λi b x c a=>k _ _ (e i b x c a) (Hq (e i b x c a) hd (λz=>n2 _ z.symm))⟩
theorem bV.keep(h:bV H m l)(k:aL H H' d)(hd:H d=some o)(c:∀xs,o≠.lst xs)(n2:∀xs,o≠.tup xs):bV H' m l:=by obtain⟨bs,h1,h2,f⟩:=h;exact⟨bs,k _ _ h1 (Hq h1 hd (λz=>c _ z.symm)),h2,λi b x e a=>⟨(f i b x e a).1,(f i b x e a).2.keep k hd c n2⟩⟩
theorem cK.upd(h:cK H b l)(g:H m=some (.lst xs))(f:b≠m):cK (aK H m o) b l:=by obtain⟨bs,h1,h2,d⟩:=h;exact⟨bs,by rwa [Hf f],h2,λi e x a c=>by rw[Hf (Hq (d i e x a c) g aO)];exact d i e x a c⟩
theorem bV.snoc(h:bV H m ls)(f:H m=some (.lst xs))(j:cK H b l)(k:b≠m):bV (aK H m (.lst (xs++[.ref b]))) m (ls++[l]):=by
 obtain⟨bs,h1,h2,n⟩:=h;rw[h1] at f;cases f;refine⟨bs++[b],by rw[G9,AM];rfl,by rw[Ad,Ad,h2];rfl,λi e g a c=>?_⟩;have d:e≠m/\cK H e g:=by
  by_cases hi:i<bs.length
  ·rw[AC hi] at a;rw[AC (by lia)] at c;exact n i e g a c
  ·rw[Ax (by lia)] at a;rw[Ax (by lia)] at c;have o:i-bs.length=0:=by
    have:=(Al.mp a).1;simp at this
    lia
   rw[o] at a;rw[show i-ls.length=0 by lia] at c;cases a;cases c;exact⟨k,j⟩
 exact⟨d.1,d.2.upd h1 d.1⟩
structure iP(K:G5)(B:Z):Prop where
 cl:eP K B
 nC:bC K B "choices"
 nW:bC K B "whole"
 nD:bC K B "counted"
def Zc(B:Z):Sp:=λvs H Q _=>∃(x dx b a:Z) (rs:List (List Iv)) (l:List Iv),vs=[.ref x,.ref b,.ref a]/\H x=some (.ins B dx [])/\TabAt H b rs/\rs.length<=14/\(∀r∈rs,r.length<=16)/\aI H a l/\l.length<=14 ∧
 ∀(H':Hp) (m d:Z),H' x=some (.ins B dx (pf m ((bA (dd l) l:Nat):Int) d))->bV H' m (rs.map (HR (dd l)))->H' d=some (.dT [])->H d=none->aL H H' x->Q .non H'
variable{P:GJ}{w:GQ}{K:G5}{mg:Str->Option O}{base:Heap}{B C:Z}
def kK:List Str:=["self","courses","notes","units","course","note"]
theorem TY:aH kK ["self","courses","notes"] (Hj IB):=HZ
theorem Vh(F:bI K "__init__" "Placings.__init__" IB f fd)(T:iP K B)(zs:mg "sum"=none)(DU:bQ P w K mg base C 1 "note_units" ["notes"] lS)(DC:bQ P w K mg base C 1 "choices_on_course" ["course","units"] Zh):
  aN P w K mg base (aS P w C) 2 f fd ["self","courses","notes"] (Zc B):=by
 refine F.okX TY (λvs H Q E h=>?_) (λaC A outer s H vs Q E hr h=>?_)
 ·obtain⟨x,dx,X,M,rs,l,rfl,_⟩:=h;rfl
 ·obtain⟨x,dx,X,M,rs,l,rfl,hx,hT,az,aw,hN,af,k⟩:=h;obtain⟨gc,ay,GC,ak,ai,av⟩:=DC;refine⟨_,He (Ms (i:=3) TY.nd rfl (Or.inr rfl) (HL DU hr rfl (G8 (J 2) Hg)))
   (He (JE (J 0) (MV (own:=[("course",4)]) (g:=IF 4) (te:=MS Zh [] E0 (Ii (HW 4) (Ii (HW 3) JL))) rfl TY.nd (Iz (J 1))
     (show bS kK (Hj IB) _ [("course",4)] from PF)
     (λ_ _ _ _ _=>cM 4 TY.nd) (λ_ _ _ _ _=>Jr)
     (λ_ _ _ _ _=>Ng GC hr rfl ak ai av .nil V8 (G8 (J 4) (G8 (J 3) Hg)))) rfl)
   (He (JE (J 0) (HE (V1 rfl) (by rfl) zs OF (G8 (MV (own:=[("note",5)]) (g:=IF 5) (te:=OZ (HW 3) (HW 5)) rfl TY.nd (Iz (J 2))
     (show bS kK (Hj IB) _ [("note",5)] from PF)
     (λ_ _ _ _ _=>cM 5 TY.nd) (λ_ _ _ _ _=>Jr)
     (λ_ _ _ _ _=>Mf (JI hr) (J 3) (J 5) (λ_ _=>rfl))) Hg)) rfl)
   (Hh (JE (J 0) Oh rfl)))),?_⟩
  refine zA Y (zF Y hN af (λH1 u n a1 hu=>?_));obtain⟨dn,dm,au⟩:=NS l;obtain⟨bs,t1,t2,t3⟩:=hT;refine zA Y (zE Y ⟨_,aP.of (n _ _ t1)⟩ (λp L=>?_));have a0:H p=Option.none:=by
   cases q:H p with
   |none=>rfl
   |some o=>rw[n _ _ q] at L;cases L
  refine LJ (K:=K) (a:=X) (xs:=bs.map V.ref) (λi H'=>aG H1 H'/\bV H' p ((rs.take i).map (HR (dd l)))) ⟨aF L,[],G9,Y,λi b x c=>by simp at c⟩ (λi H' _ q=>aP.of (q.1 _ _ (n _ _ t1))) ?_ ?_
  ·rintro i y H2 e ⟨j,v⟩;rw[Ah] at e;cases c:bs[i]? with
   |none=>rw[c] at e;cases e
   |some b=>
    rw[c] at e;cases e;have hi:i<rs.length:=by rw[<-t2];exact(Al.mp c).1
    have ab:rs[i]?=some rs[i]:=Aa hi;have al:=((t3 i b _ c ab).2.same n).same j;have tk:rs.take (i+1)=rs.take i++[rs[i]]:=by rw[Bn,ab];rfl
    have an:=aw _ (AG hi);rw[tk,AM];generalize rs[i]=r at *;refine⟨Y,zA Y (zA Y (zO Y al an (j _ _ hu) (AE au af) (λI q d8 G ah=>?_)))⟩;obtain⟨ys,d6,as⟩:∃ys,H2 p=some (.lst ys)/\ys.length=((rs.take i).map (HR (dd l))).length:=by obtain⟨cs,c1,c2,_⟩:=v;exact⟨_,c1,by rw[Ab,c2]⟩
    have nq:q≠p:=λz=>by rw[z,d6] at G;cases G
    refine⟨ys,d8 _ _ d6,?_,λb' o D=>?_,(v.same d8).snoc (d8 _ _ d6) ah nq⟩
    ·rw[as,Ab,AJ];exact AD (m:=14) (by lia) (by decide)
    ·rw[Hf (Hk D L)];exact d8 _ _ (j _ _ D)
  ·rintro H2 ⟨j,v⟩;rw[Ab,t2,AZ] at v;have d9:=j _ _ (n _ _ hx);refine zA Y (zO Y d9 T.cl T.nC (by show 0<1000;decide) ?_);have kx:∀{W:Hp} {o:HO},aL W (aK W x o) x:=λ{W o} b o' h c=>by rwa [Hf c]
   generalize ac:L2.aK H2 x (.ins B dx (H0 "choices" (.ref p) []))=I;have k3:aL H2 I x:=by rw[<-ac];exact kx
   have ar:I x=some (.ins B dx (H0 "choices" (.ref p) [])):=by rw[<-ac];exact G9
   have aj:=v.keep k3 d9 (λ_=>aO) (λ_=>aO);have ax:=((hN.same n).same j).keep k3 d9;have am:I u=some (.dT (eO 0 (dd l))):=k3 _ _ (j _ _ hu) (Hq (j _ _ hu) d9 aO);obtain⟨ns,n1,n2,n3⟩:=ax;refine zA Y (zE Y ⟨_,aP.of n1⟩ (λq G=>?_));refine LJ (K:=K) (a:=M) (xs:=ns.map V.ref) (λi H'=>aG I H'/\H' q=some (.lst ((l.take i).map λy=>V.int ((unit (dd l) y:Nat):Int)))) ⟨aF G,G9⟩ (λi H' _ z=>aP.of (z.1 _ _ n1)) ?_ ?_
   ·rintro i y R e ⟨t,d7⟩;rw[Ah] at e;cases c:ns[i]? with
    |none=>rw[c] at e;cases e
    |some b=>
     rw[c] at e;cases e;have hi:i<l.length:=by rw[<-n2];exact(Al.mp c).1
     have ad:l[i]?=some l[i]:=Aa hi;have ap:=t _ _ (n3 i b _ c ad);have tk:l.take (i+1)=l.take i++[l[i]]:=by rw[Bn,ad];rfl
     have aq:l[i]∈dd l:=(dm _).mpr (AG hi);rw[tk,AM];generalize l[i]=y at *;have hv:Ij (eO 0 (dd l)) (bR y)=some (.int ((unit (dd l) y:Nat):Int)):=by rw[Lj,Cz,G7 aq];rfl
     have hg:cI R u (.ref b) (some (.int ((unit (dd l) y:Nat):Int))):=by rw[<-hv];exact cI.t (t _ _ am) (k:=bR y) ap
     refine⟨Y,zA Y (zA Y (zB Y hg ⟨_,d7,?_,λb' o D=>?_,G9⟩))⟩
     ·rw[Ab,AJ];exact AD (m:=14) (by lia) (by decide)
     ·rw[Hf (Hk D G)];exact t _ _ D
   ·rintro R ⟨t,d7⟩;rw[Ab,n2,AZ] at d7;have ag:=t _ _ ar;refine zR q (l.map λy=>((unit (dd l) y:Nat):Int)) Y (aP.of (by rwa [A8])) ?_;have es:∀m:List Iv,(m.map λy=>((unit (dd l) y:Nat):Int)).sum=((bA (dd l) m:Nat):Int):=λm=>by
     unfold bA
     induction m with
     |nil=>rfl
     |cons y r ih=>rw[An,BC,ih,An,BC,Em]
    rw[es];refine zA Y (zO Y ag T.cl T.nW (by show 1<1000;decide) ?_);generalize ae:L2.aK R x (.ins B dx (H0 "whole" (.int ((bA (dd l) l:Nat):Int)) (H0 "choices" (.ref p) [])))=H5;have k5:aL R H5 x:=by rw[<-ae];exact kx
    have U:H5 x=some (.ins B dx (H0 "whole" (.int ((bA (dd l) l:Nat):Int)) (H0 "choices" (.ref p) []))):=by rw[<-ae];exact G9
    have ao:=(aj.same t).keep k5 ag (λ_=>aO) (λ_=>aO);intro d hd;have N:=aF (o:=.dT []) hd;have S:x≠d:=λz=>by rw[<-z,U] at hd;cases hd
    refine zA Y (zO Y (N _ _ U) T.cl T.nD (by show 2<1000;decide) ?_);refine k _ p d G9 ((ao.same N).keep kx (N _ _ U) (λ_=>aO) (λ_=>aO)) (by rw[Hf S.symm];exact G9) ?_ ?_
    ·cases qd:H d with
     |none=>rfl
     |some o=>rw[k5 _ _ (t _ _ (k3 _ _ (j _ _ (n _ _ qd)) S.symm)) S.symm] at hd;cases hd
    intro b o c aa;rw[Hf aa];exact N _ _ (k5 _ _ (t _ _ (k3 _ _ (j _ _ (n _ _ c)) aa)) aa)
end Lu
namespace LuC
open Lute
def Mw:List Iv->List (List Iv)
 |[]=>[[]]
 |x::r=>Mw r++(Mw r).map λs=>x::s
theorem QZ:∀l:List Iv,(Mw l).length=2 ^ l.length
 |[]=>rfl
 |x::r=>by
  unfold Mw;rw[Ad,Ab,QZ r,Af,BW]
  lia
theorem O7:∀l:List Iv,l∈Mw l
 |[]=>Ai.mpr rfl
 |x::r=>AQ _ (Av.mpr ⟨r,O7 r,Y⟩)
theorem Kq:∀{l s:List Iv} {x:Iv},s∈Mw l->s.erase x∈Mw l
 |[],s,x,h=>by rw[Ai.mp h];exact Ai.mpr rfl
 |y::r,s,x,h=>by
  rcases AA.mp h with h | h
  ·exact A6 _ (Kq h)
  ·obtain⟨s',hs,rfl⟩:=Av.mp h;by_cases e:y=x
   ·subst e;rw[Es];exact A6 _ hs
   ·rw[Er (by simpa using e)];exact AQ _ (Av.mpr ⟨_,Kq hs,Y⟩)
theorem Me:∀{l s:List Iv},s∈Mw l->s.length<=l.length/\∀y∈s,y∈l
 |[],s,h=>by rw[Ai.mp h];exact⟨Ag _,λy b=>b⟩
 |y::r,s,h=>by
  rcases AA.mp h with h | h
  ·obtain⟨h1,h2⟩:=Me h;exact⟨EL h1,λz a=>Aw _ (h2 z a)⟩
  ·obtain⟨s',hs,rfl⟩:=Av.mp h;obtain⟨h1,h2⟩:=Me hs;refine⟨Db h1,λz a=>?_⟩;rcases Aq.mp a with q | q
   ·exact q ▸ AH
   ·exact Aw _ (h2 z q)
theorem MI{c:Type}[DecidableEq c]:∀{l m:List c},l.Nodup->(∀x∈l,x∈m)->l.length<=m.length
 |[],m,_,_=>Az _
 |x::r,m,h,hs=>by
  have a:=hs x AH;obtain⟨h1,h2⟩:=Cm.mp h;have:=MI (m:=m.erase x) h2 λy b=>(Cu (λe:y=x=>h1 (e ▸ b))).mpr (hs y (Aw _ b));rw[D1 a] at this;have:0<m.length:=List.length_pos_of_mem a;simp only[Af]
  lia
theorem Tp:∀a:List (List Ch),Ji a 0=1
 |[]=>rfl
 |ch::r=>by unfold Ji;rw[G7 rfl]
theorem VN(a:n≠0)(h:chs.length<n % 16):Ji chs n=0:=by
 cases chs with
 |nil=>unfold Ji;rw[G6 a]
 |cons b r=>unfold Ji;rw[G6 a,G7 (show r.length+1<n % 16 from h)]
theorem Ui(a:n≠0)(h:¬r.length+1<n % 16):Ji (ch::r) n=Ji r n+(ch.map λc=>if (n &&& c.2.2)≠0 then Ji r (n-c.2.1) else 0).sum:=by
 conv=>lhs;unfold Ji
 rw[G6 a,G6 h]
theorem U2(h:c∈HR D r):∃y∈D,c.2.1=unit D y/\c.2.2=mask D y:=by unfold HR at h;obtain⟨p,a,rfl⟩:=Av.mp h;exact⟨p.1,by simpa using (Bg.mp a).2,Y,Y⟩
end LuC
namespace Lu
open L2 Lute LuR LuW LuC
def JW(i n:Nat):List bF:=[.inl (i:Int),.inl (n:Int)]
theorem WF(h:JW i n=JW j k):i=j/\n=k:=by unfold JW at h;injection h with h1 h;injection h with h2 _;injection h1 with h1;injection h2 with h2;exact⟨D8.mp h1,D8.mp h2⟩
def eA(b:List (List Ch))(D l:List Iv)(a:List (List bF×V)):Prop:=(a.map (·.1)).Nodup/\∀p∈a,∃i s,i<=14/\s∈Mw l/\p=(JW i (bA D s),V.int ((Ji (b.drop i) (bA D s):Nat):Int))
theorem eA.len(h:eA chs D l memo)(a:l.length<=14):memo.length<GI:=by
 have h1:=MI (m:=(Ay 15).flatMap λi=>(Mw l).map λs=>JW i (bA D s)) h.1 λk c=>by obtain⟨p,b,rfl⟩:=Av.mp c;obtain⟨i,s,hi,hs,rfl⟩:=h.2 p b;exact Bu.mpr ⟨i,AW.mpr (by lia),Av.mpr ⟨s,hs,Y⟩⟩
 rw[Ab,CJ] at h1;simp only[Ab,QZ] at h1;rw[EZ,Ef,BO] at h1;have h2:2 ^ l.length<=2 ^ 14:=Df (by decide) a;rw[sizeLine_eq]
 lia
theorem eA.val(h:eA chs D l memo)(a:Ij memo (JW i n)=some v):v=.int ((Ji (chs.drop i) n:Nat):Int):=by unfold Ij at a;obtain⟨p,b,rfl⟩:=Ba.mp a;have d:p.1=JW i n:=of_decide_eq_true (E4 (p:=λc:List bF×V=>decide (c.1=JW i n)) b);obtain⟨j,s,_,_,rfl⟩:=h.2 p (Du b);obtain⟨e1,e⟩:=WF d;rw[e1,e]
theorem eA.put{f:List (List Ch)}{D l:List Iv}{g:List (List bF×V)}(h:eA f D l g){i:Nat}{s:List Iv}(hi:i<=14)(hs:s∈Mw l):eA f D l (IM g (JW i (bA D s)) (.int ((Ji (f.drop i) (bA D s):Nat):Int))):=by
 unfold IM;by_cases q:(g.any λc=>decide (c.1=JW i (bA D s)))=true
 ·rw[G7 q];refine⟨?_,λp d=>?_⟩
  ·rw[A8];have e:((λc:List bF×V=>c.1) ∘ λc=>if c.1=JW i (bA D s) then (c.1,V.int ((Ji (f.drop i) (bA D s):Nat):Int)) else c)=λc=>c.1:=by funext c;show(if c.1=JW i (bA D s) then (c.1,V.int ((Ji (f.drop i) (bA D s):Nat):Int)) else c).1=c.1;split <;> rfl
   rw[e];exact h.1
  ·obtain⟨c,n,rfl⟩:=Av.mp d;by_cases z:c.1=JW i (bA D s)
   ·rw[G7 z,z];exact⟨i,s,hi,hs,Y⟩
   ·rw[G6 z];exact h.2 c n
 ·rw[G6 q];refine⟨?_,λp d=>?_⟩
  ·rw[AM];refine EE.mpr ⟨h.1,by simp,λa j b k e=>?_⟩;have m:b=JW i (bA D s):=Ai.mp k;obtain⟨p,d,rfl⟩:=Av.mp j;exact q (ER.mpr ⟨p,d,decide_eq_true (e.trans m)⟩)
  ·rcases AA.mp d with z | z
   ·exact h.2 p z
   ·rw[Ai.mp z];exact⟨i,s,hi,hs,Y⟩
theorem S2(a:List (List bF×V))(k:List bF)(v:V):Ij (IM a k v) k=some v:=by rw[Rp,G7 rfl]
theorem UZ(a:List (List Ch))(D l:List Iv):eA a D l []:=⟨Dq,λp b=>nomatch b⟩
structure eX(H:Hp)(B x dx m d:Z)(wh:Int)(chs:List (List Ch))(D l:List Iv):Prop where
 at_:H x=some (.ins B dx (pf m wh d))
 ch:bV H m chs
 memo:∃memo,H d=some (.dT memo)/\eA chs D l memo
def WK(B:Z):Nat->Sp
 |0=>λ_ _ _ _=>False
 |n+1=>λvs H Q _=>∃(x dx m d:Z) (wh:Int) (rs:List (List Iv)) (D l s:List Iv) (i:Nat),vs=[.ref x,.int (i:Int),.int ((bA D s:Nat):Int)]/\eX H B x dx m d wh (rs.map (HR D)) D l/\rs.length<=14/\l.length<=14/\(∀y∈l,y∈D)/\i<=rs.length/\rs.length-i<=n/\s∈Mw l ∧
  ∀H',eX H' B x dx m d wh (rs.map (HR D)) D l->aL H H' d->Q (.int ((Ji ((rs.map (HR D)).drop i) (bA D s):Nat):Int)) H'
section
variable{P:GJ}{w:GQ}{K:G5}{mg:Str->Option O}{base:Heap}{B C:Z}
theorem eX.keep(h:eX H B x dx m d wh chs D l)(s:aG H H'):eX H' B x dx m d wh chs D l:=by obtain⟨h1,h2,b,c,a⟩:=h;exact⟨s _ _ h1,h2.same s,b,s _ _ c,a⟩
theorem SQ(a b:Nat):Builtin.bitAnd (a:Int) (b:Int)=((a &&& b:Nat):Int):=rfl
theorem RU:aH ["self","course","left","key","count","fret","unit","mask"] ["self","course","left"] (Hj IC):=HZ
theorem nF(n:Nat)(F:bI K "count_from" "Placings.count_from" IC f fd)(T:iP K B)(TP:jJ mg)(zl:mg "len"=none)(MR:cW P w K mg base C B n "count_from" ["self","course","left"] (WK B n)):
  aN P w K mg base (aS P w C) (n+1) f fd ["self","course","left"] (WK B (n+1)):=by
 refine F.okX RU (λvs H Q E h=>?_) (λaC A outer s0 H vs Q E d9 h=>?_)
 ·obtain⟨x,dx,m,d,wh,rs,D,l,s,i,rfl,_⟩:=h;rfl
 ·obtain⟨x,dx,m,d,wh,rs,D,l,s,i,rfl,hP,aq,ag,hD,hi,hn,hs,k⟩:=h;obtain⟨hx,G,L,ae,d6⟩:=hP;refine⟨_,He (HG (Hs Ip (J 2) Hm (Hw _)) (Hh (Hx Hm)) Hu)
   (He (HG (Hs LP (HH Si (J 2) (Hr TP.cPM)) (HH JX (HE HF (by rfl) zl PySem.boot_len (G8 (Hy (J 0) rfl) Hg)) (J 1)) (Hw _)) (Hh (Hx Hm)) Hu)
   (He (bG 3 RU.nd (Ik (G8 (J 1) (G8 (J 2) Hg))))
   (He (HG (KI (Mt (JI d9) (J 3) (Hy (J 0) rfl)))
    (He (bG 4 RU.nd (IN MR d9 (J 0) (G8 (HH IU (J 1) Hm) (G8 (J 2) Hg))))
    (He (IX Jn rfl (Iz (IL IR (Hy (J 0) rfl) (J 1) (λ_ _=>rfl))) (KO rfl (HU (cM 5 RU.nd) (HU (cM 6 RU.nd) (HU (cM 7 RU.nd) JM))))
     (Hh (HG (Hs Ki (HH Si (J 2) (J 7)) Hm (Hw _))
      (Hh (UK (i:=4) RU.nd rfl (Or.inl rfl) (IN MR d9 (J 0) (G8 (HH IU (J 1) Hm) (G8 (HH JX (J 2) (J 6)) Hg))) Vx)) Hu)))
    (Hh (Pn (JI d9) (Hy (J 0) rfl) (J 3) (J 4) (by rfl))))) Hu)
   (Hh (Hx (Mf (JI d9) (Hy (J 0) rfl) (J 3) (λ_ _=>rfl))))))),?_⟩
  refine zE Y Y (zA Y ?_);rw[ID];have bc:=Me hs;refine HN (λh=>?_) λh=>?_
  ·have h':((bA D s:Nat):Int)=0:=of_decide_eq_true h;have e0:bA D s=0:=by lia
   have:=k H ⟨hx,G,L,ae,d6⟩ (aL.refl _ _)
   rwa [e0,Tp] at this
  ·have h0:bA D s≠0:=λz=>h (decide_eq_true (by rw[z];rfl));clear h;obtain⟨bs,c1,c2,c3⟩:=G;have G:bV H m (rs.map (HR D)):=⟨bs,c1,c2,c3⟩;rw[Ab] at c2;refine zA Y (zB Y Y (zA Y (zD Y hx T.cl T.nC (Vc _ _ _) (zB Y (.inl (aP.of c1)) (zA Y (zB Y Y (zB Y Y (zA Y ?_))))))));have em:Builtin.bitAnd ((bA D s:Nat):Int) 15=(s.length:Int):=by
    rw[bitAnd_m4];have:=Nd (D:=D) (l:=s) (by lia)
    lia
   rw[em,Ab,c2];refine HN (λh=>?_) λh=>?_
   ·have h':(rs.length:Int)-(i:Int)<(s.length:Int):=of_decide_eq_true h;have:=k H ⟨hx,G,L,ae,d6⟩ (aL.refl _ _)
    rwa [VN h0 (by rw[AK,Ab,Nd (by lia)];lia)] at this
   ·have h':¬(rs.length:Int)-(i:Int)<(s.length:Int):=λz=>h (decide_eq_true z);clear h;refine zA Y (zE Y (by show 2<=GI;decide) (λkb be=>?_));have R:=aF (o:=.tup [.int (i:Int),.int ((bA D s:Nat):Int)]) be;have ab:(aK H kb (.tup [.int (i:Int),.int ((bA D s:Nat):Int)])) kb=some (.tup ((JW i (bA D s)).map kV)):=G9;have d7:=R _ _ hx;have ac:=R _ _ ae;have ao:=G.same R;generalize aK H kb (.tup [.int (i:Int),.int ((bA D s:Nat):Int)])=H1 at *;have ar:∀(H':Hp) (v4 e g p:Option V) (M:List (List bF×V)) (v:V),H' x=some (.ins B dx (pf m wh d))->H' kb=some (.tup ((JW i (bA D s)).map kV))->H' d=some (.dT M)->eA (rs.map (HR D)) D l M->bV H' m (rs.map (HR D))->Ij M (JW i (bA D s))=some v->aL H H' d->
      Tl (OZ (VP K (HW 0) "counted") (HW 3)) { nx:=λ_ H'=>Q .non H',rt:=Q } [some (.ref x),some (.int (i:Int)),some (.int ((bA D s:Nat):Int)),some (.ref kb),v4,e,g,p] H':=by
     intro H' v4 e g p M v an a7 aj ap a3 X hK;refine zA Y (zD Y an T.cl T.nD (WJ _ _ _) ⟨_,Y,d,v,Y,?_,?_⟩)
     ·rw[<-X];exact cI.t aj a7
     ·rw[ap.val X];exact k H' ⟨an,a3,M,aj,ap⟩ hK
    refine zA Y (zA Y (zD Y d7 T.cl T.nD (WJ _ _ _) (zB Y (cI.t ac ab) (zA Y ?_))));cases X:Ij L (JW i (bA D s)) with
    |some v=>exact L6 (ar H1 _ _ _ _ L v d7 ab ac d6 ao X (aL.of R))
    |none=>
     refine Mo ?_;have a8:s≠[]:=λz=>h0 ((KL D s).mpr z);have bi:1<=s.length:=Nat.one_le_iff_ne_zero.mpr λz=>a8 (BQ.mp z);have ad:i<rs.length:=by lia
     have bb:(rs.map (HR D)).drop i=HR D rs[i]::(rs.map (HR D)).drop (i+1):=by rw[CB (by rwa [Ab]),Cy]
     obtain⟨n',rfl⟩:∃n',n=n'+1:=⟨n-1,by lia⟩;have bd:¬((rs.map (HR D)).drop (i+1)).length+1<bA D s % 16:=by
      rw[AK,Ab,Nd (by lia)]
      lia
     have am:=Ui (ch:=HR D rs[i]) h0 bd;rw[<-bb] at am;have a2:(rs.map (HR D))[i]?=some (HR D rs[i]):=by rw[Ah,Aa ad];rfl
     generalize rs[i]=r at *;refine zA Y (zC Y d7 (UT _ _ _) (zA Y (zB Y Y (zA Y ⟨x,dx,m,zM d wh rs D l s (i+1) Y ⟨⟨d7,ao,L,ac,d6⟩,aq,ag,hD,ad,by lia,hs,λH2 bf k2=>?_⟩⟩))));obtain⟨al,ai,ba,aa,a4⟩:=bf;obtain⟨d8,d1,d2,d3⟩:=ai;have ai:bV H2 m (rs.map (HR D)):=⟨d8,d1,d2,d3⟩;have ax:i<d8.length:=by rwa [d2,Ab]
     have au:d8[i]?=some d8[i]:=Aa ax;obtain⟨_,es,e1,e2,e3⟩:=d3 i _ _ au a2;generalize d8[i]=ak at *;have av:H2 kb=some (.tup ((JW i (bA D s)).map kV)):=k2 _ _ ab (Hq ab ac aO);refine zA Y (zD Y al T.cl T.nC (Vc _ _ _) (zA Y (zH Y Y (aP.of d1) (Mm (by rw[Ah,au];rfl)) (zE Y ⟨_,aP.of e1⟩ (Jg (K:=K) (a:=ak) (xs:=es.map V.ref) (λj σ H'=>∃(e g p:Option V),σ=[some (.ref x),some (.int (i:Int)),some (.int ((bA D s:Nat):Int)),some (.ref kb),some (.int ((Ji ((rs.map (HR D)).drop (i+1)) (bA D s)+(((HR D r).take j).map λc=>if (bA D s &&& c.2.2)≠0 then Ji ((rs.map (HR D)).drop (i+1)) (bA D s-c.2.1) else 0).sum:Nat):Int)),e,g,p]/\eX H' B x dx m d wh (rs.map (HR D)) D l/\aL H2 H' d)
       ⟨Option.none,zB Y ⟨al,ai,ba,aa,a4⟩ (aL.refl _ _)⟩ (λj σ H' _ qQ=>by obtain⟨e,g,p,_,_,kk⟩:=qQ;exact aP.of (kk _ _ e1 (Hq e1 aa aO))) ?_ ?_)))))
     ·rintro j y σ H3 U ⟨e,g,p,rfl,N,k3⟩;rw[Ah] at U;cases u:es[j]? with
      |none=>rw[u] at U;cases U
      |some b=>
       rw[u] at U;cases U;have hj:j<(HR D r).length:=by rw[<-e2];exact(Al.mp u).1
       have af:(HR D r)[j]?=some (HR D r)[j]:=Aa hj;have a6:=k3 _ _ (e3 j b _ u af) (Hq (e3 j b _ u af) aa aO);have tk:(HR D r).take (j+1)=(HR D r).take j++[(HR D r)[j]]:=by rw[Bn,af];rfl
       obtain⟨y,a5,hu,a1⟩:=U2 (AG hj);rw[tk,AM,List.sum_append];generalize (HR D r)[j]=c at *;refine zF Y (aQ.of a6) Y (zK Y (zK Y (zB Y Y ?_)));refine zA Y (zA Y (zF Y Y Y (zA Y ?_)));show if (!decide (V.int (Builtin.bitAnd ((bA D s:Nat):Int) ((c.2.2:Nat):Int))=V.int 0))=true then _ else _;rw[ID,SQ];by_cases t:(bA D s &&& c.2.2)=0
       ·rw[decide_eq_true (by rw[t];rfl)];refine L6 ⟨some (.int (c.1:Int)),zR (some (.int (c.2.1:Int))) (some (.int (c.2.2:Int))) ?_ N k3⟩;rw[An,G6 (λq=>q t)];rfl
       ·rw[decide_eq_false (λq=>t (by lia))];refine Mo ?_;have az:y∈s:=(Nh (by lia) a5 (λz t=>hD z (bc.2 z t))).mp (by rwa [<-a1]);obtain⟨as,bj⟩:=La (D:=D) az;have bg:((bA D s:Nat):Int)-((c.2.1:Nat):Int)=((bA D (s.erase y):Nat):Int):=by
         rw[as,hu]
         lia
        have I:=N.at_;refine zA Y (zA Y (zC Y I (UT _ _ _) (zA Y (zB Y Y (zA Y (zA Y (zB Y Y ⟨x,dx,m,zM d wh rs D l (s.erase y) (i+1) ?_ ⟨N,aq,ag,hD,ad,by lia,Kq hs,λH4 a0 k4=>?_⟩⟩)))))))
        ·show[V.ref x,V.int ((i:Int)+1),V.int (((bA D s:Nat):Int)-((c.2.1:Nat):Int))]=_;rw[bg];rfl
        ·refine⟨_,_,Y,Y,some (.int (c.1:Int)),some (.int (c.2.1:Int)),some (.int (c.2.2:Int)),?_,a0,k3.trans k4⟩;have ea:∀A S:Nat,((A+S:Nat):Int)+((Ji ((rs.map (HR D)).drop (i+1)) (bA D (s.erase y)):Nat):Int)=((A+(S+(([c]:List Ch).map λc=>if (bA D s &&& c.2.2)≠0 then Ji ((rs.map (HR D)).drop (i+1)) (bA D s-c.2.1) else 0).sum):Nat):Int):=λA S=>by
          rw[An,G7 t,Dj,BC,List.sum_nil,Fz,as,<-hu,<-Em,D7]
          all_goals rfl
         exact congrArg (λz=>[some (V.ref x),some (.int (i:Int)),some (.int ((bA D s:Nat):Int)),some (.ref kb),some (V.int z),some (.int (c.1:Int)),some (.int (c.2.1:Int)),some (.int (c.2.2:Int))]) (ea _ _)
     ·rintro σ H3 ⟨e,g,p,rfl,N,k3⟩;rw[Ab,e2,AZ,<-am];obtain⟨I,a9,ay,W,aw⟩:=N;have ah:H3 kb=some (.tup ((JW i (bA D s)).map kV)):=k3 _ _ av (Hq av aa aO);refine zA Y (zA Y (zD Y I T.cl T.nD (WJ _ _ _) (zA Y (zB Y (fN.t W ah (aw.len ag)) ?_))));have kd:aL H3 (aK H3 d (.dT (IM ay (JW i (bA D s)) (.int ((Ji ((rs.map (HR D)).drop i) (bA D s):Nat):Int))))) d:=λb o u bh=>by rwa [Hf bh]
      exact ar _ _ _ _ _ _ _ (kd _ _ I (Hq I W aO)) (kd _ _ ah (Hq ah W aO)) G9 (aw.put (by lia) hs) (a9.keep kd W (λ_=>aO) (λ_=>aO)) (S2 _ _ _) (((aL.of R).trans k2).trans (k3.trans kd))
end
open L2 Lute LuR LuW LuC LuteSong
def lP:Sp:=λvs H Q _=>∃(m:Z) (a:Song),vs=[.ref m]/\bD H m a/\a.length<=512/\(∀v∈a,Verse.ok v=true)/\∀(H':Hp) (p:Z),aG H H'->H p=none->TabAt H' p (notesOf a)->Q (.ref p) H'
theorem R9(s:Song)(v:Verse):notesOf (s++[v])=notesOf s++(match v with
  |.bar=>[]
  |.moment _ l=>[l]):=by
 unfold notesOf;rw[List.filterMap_append];cases v <;> rfl
theorem Uj(h:∀v∈b,Verse.ok v=true):∀l∈notesOf b,l.length<=14:=λl c=>by
 obtain⟨v,a,e⟩:=CV.mp c;cases v with
 |bar=>cases e
 |moment n d=>cases e;exact(OR (h _ a)).2.2.2
theorem MU(a:Song):(notesOf a).length<=a.length:=List.length_filterMap_le _ _
variable{P:GJ}{w:GQ}{K:G5}{mg:Str->Option O}{base:Heap}{B C:Z}
def kX:List Str:=["lines","length","notes"]
theorem XE:aH kX ["lines"] (Hj Ju):=HZ
theorem pA(F:bI K "moments_of" "moments_of" Ju f fd):aN P w K mg base (aS P w C) 1 f fd ["lines"] lP:=by
 refine F.okX XE (λvs H Q E h=>?_) (λd6 A outer s H vs Q E hr h=>?_)
 ·obtain⟨m,c,rfl,_⟩:=h;rfl
 ·obtain⟨m,c,rfl,I,aa,W,k⟩:=h;refine⟨_,Hh (Hx (MV (own:=[("length",1),("notes",2)]) (g:=Tj K 2 (KH (IF 1) (KH (IF 2) T5))) (tt:=N4 (dQ (fW λi j=>.bl (decide (j<i))) (HW 1) (tC (.int 0)))) (te:=HW 2) rfl XE.nd (Iz (J 0))
     (show bS kX (Hj Ju) _ [("length",1),("notes",2)] from PF)
     (λ_ _ _ _ _=>KO rfl (HU (cM 1 XE.nd) (HU (cM 2 XE.nd) JM))) (λ_ _ _ _ _=>So (Hs LP (J 1) Hm (Hw _)))
     (λ_ _ _ _ _=>J 2))),?_⟩
  have nt:=I.nt;obtain⟨bs,h1,h2,R⟩:=I;refine zA Y (zE Y ⟨_,aP.of h1⟩ (λp u=>?_));refine LJ (K:=K) (a:=m) (xs:=bs.map V.ref) (λi H'=>aG H H'/\TabAt H' p (notesOf (c.take i))) ⟨aF u,[],G9,Y,λi b x e=>by simp at e⟩ (λi H' _ q=>aP.of (q.1 _ _ h1)) ?_ ?_
  ·rintro i y H1 r ⟨d,t⟩;rw[Ah] at r;cases e:bs[i]? with
   |none=>rw[e] at r;cases r
   |some b=>
    rw[e] at r;cases r;have hi:i<c.length:=by rw[<-h2];exact(Al.mp e).1
    have M:c[i]?=some c[i]:=Aa hi;have tk:c.take (i+1)=c.take i++[c[i]]:=by rw[Bn,M];rfl
    have N:=R i b _ e M;have U:=W _ (AG hi);rw[tk,R9];generalize c[i]=v at *;cases v with
    |bar=>obtain⟨G,D,T,B⟩:=N;refine zF Y (aQ.of (d _ _ D)) Y (zK Y (zF Y Y Y (zA Y (zB Y Y (zA Y ?_)))));exact L6 ⟨d,by rwa [AR]⟩
    |moment n l=>
     obtain⟨G,D,T,B,d7⟩:=N;have hn:=QW (OR U).1;refine zF Y (aQ.of (d _ _ D)) Y (zK Y (zF Y Y Y (zA Y (zB Y Y (zA Y ?_)))));rw[decide_eq_true (show(0:Int)<(n:Int) by lia)];refine Mo ?_;obtain⟨xs,d8,S⟩:=t.len;have nn:G≠p:=λz=>by obtain⟨_,L,_⟩:=B;rw[z,u] at L;cases L
     refine⟨_,Y,xs,d8,?_,λX o d9=>?_,t.snoc d8 (B.same d) nn⟩
     ·rw[S];refine AD (MU _) (AD (m:=512) ?_ (by decide));rw[AJ]
      lia
     ·rw[Hf (Hk d9 u)];exact d _ _ d9
  ·rintro H1 ⟨d,t⟩;rw[Ab,h2,AZ] at t;exact k H1 p d u t
theorem TabAt.unt(h:TabAt H m rs)(f:∀c o,cs.lookup c=some o->H c=some (fz o)):TabAt (L2.dO H cs) m rs:=h.move λb o d a=>Ix f d λz e=>by rcases a with ⟨xs,q⟩ | ⟨xs,q⟩ <;> (rw[q] at e;cases e)
end Lu
namespace LuG
theorem jU{k i:Nat}{od:List Nat}(h:k≠i):(k::od).idxOf i=od.idxOf i+1:=by rw[Gs,beq_eq_false_iff_ne.mpr h];rfl
theorem VY:∀(od F g:List Nat),od.Nodup->od.length=F.length->(∀k∈od,k<g.length)->∀i:Nat,((od.zip F).foldl (λg p=>g.set p.1 p.2) g)[i]?=if i∈od then F[od.idxOf i]? else g[i]?
 |[],F,g,_,_,_,i=>by simp
 |k::od,[],g,_,h,_,i=>by simp at h
 |k::od,f::F,g,hn,hl,hk,i=>by
  have b:=Cm.mp hn;rw[Do,Dg,VY od F (g.set k f) b.2 (by simpa using hl) (λj c=>by rw[Eh];exact hk j (.tail _ c)) i];have d:=hk k (.head _);by_cases e:i=k
  ·subst e;rw[G6 b.1,G7 (.head _),FI,C0 d];rfl
  ·have e1:(i∈k::od)↔i∈od:=by simp[e]
   rw[De (λz=>e z.symm),jU (λz=>e z.symm),Cb];by_cases a:i∈od
   ·rw[G7 a,G7 (e1.mpr a)]
   ·rw[G6 a,G6 (λz=>a (e1.mp z))]
theorem gZ(a:od.Perm (Ay od.length))(c:od.length=F.length):(od.zip F).foldl (λg p=>g.set p.1 p.2) (Ar od.length 0)=fR od F od.length:=by
 have nd:od.Nodup:=a.nodup_iff.mpr EQ;have mem:∀{k:Nat},k∈od↔k<od.length:=λ{k}=>by rw[a.mem_iff,AW]
 refine C6 λi=>?_;rw[VY od F _ nd c (λk b=>by rw[AS];exact mem.mp b) i];unfold fR;rw[Ah];by_cases hi:i<od.length
 ·have ix:=Cp (mem.mpr hi);rw[G7 (mem.mpr hi),BU hi];show _=some (F.getD (od.idxOf i) 0);rw[Ae,Aa (by lia)];rfl
 ·rw[G6 (λz=>hi (mem.mp z)),AT (by simp;lia),AT (by simp;lia)];rfl
end LuG
namespace L2
open LZ (Src)
theorem Vq{K:G5}{a b:Src}{xs ys:List V}{g:TG}{tb:TS}{D:eG}{σ:St}{H:Hp}(c:Nat->St->Hp->Prop)(l:c 0 σ H)(q:∀i σ H,i<=xs.length->c i σ H->bZ K H a xs/\bZ K H b ys)(u:ys.length=xs.length)
  (hs:∀i x y T σ H,xs[i]?=some x->ys[i]?=some y->c i σ H->H T=none->g (.ref T) σ (aK H T (.tup [x,y])) λh H2=>tb { D with nx:=c (i+1),ct:=c (i+1),bk:=D.nx } h H2) (hd:∀σ H,c xs.length σ H->D.nx σ H):
  ∃W:Nat->Nat->St->Hp->Prop,(∃m,W 0 m σ H)/\∀i m σ H,W i m σ H->
   ((NW K a b).stop i H/\D.nx σ H)\/((NW K a b).go i H/\∃N:St->Hp->Prop,(∀σ' H',N σ' H'->∃j,j<m/\W (i+1) j σ' H')/\∀x H',(NW K a b).yld i H x H'->g x σ H' λh H2=>tb { D with nx:=N,ct:=N,bk:=D.nx } h H2):=by
 refine⟨λi m σ H=>m=xs.length-i/\i<=xs.length/\c i σ H,⟨xs.length,by simp,Az _,l⟩,?_⟩;rintro i m σ H ⟨rfl,hi,p⟩;obtain⟨d,f⟩:=q i σ H hi p;by_cases k:i<xs.length
 ·refine .inr ⟨⟨xs,ys,xs[i],ys[i]'(by lia),d,f,by simp[k],Aa _⟩,c (i+1),λσ' H' r=>⟨xs.length-(i+1),by lia,Y,k,r⟩,λv H' o=>?_⟩;obtain⟨T,x,y,rfl,n,rfl,t,s⟩:=o;exact hs i x y T σ H (t xs d) (s ys f) p n
 ·have e:i=xs.length:=by lia
  subst e;exact .inl ⟨⟨xs,ys,d,f,Ag _⟩,hd σ H p⟩
end L2
namespace Lu
open L2 Lute LuR LuW
abbrev nV(l:List Nat):List V:=l.map λ(n:Nat)=>V.int (n:Int)
theorem lQ:∀n:Nat,(Ar n [V.int 0]).flatten=nV (Ar n 0)
 |0=>rfl
 |n+1=>by rw[Bf,C4,lQ n];rfl
def mB(K:G5):Sp:=λvs H Q _=>∃(a pf:Z) (od F:List Nat),vs=[.ref a,.ref pf]/\H a=some (.lst (nV od))/\aQ K H pf (nV F)/\od.Perm (Ay od.length)/\od.length=F.length/\od.length<=20 ∧
 ∀(H':Hp) (q:Z),aG H H'->H q=none->H' q=some (.tup (nV (LuG.fR od F od.length)))->Q (.ref q) H'
variable{P:GJ}{w:GQ}{K:G5}{mg:Str->Option O}{base:Heap}{C:Z}
theorem Yu:aH ["order","fingers","given","k","finger"] ["order","fingers"] (Hj Kv):=HZ
theorem Y5{f:Z}{fd:GP}(F:bI K "by_courses" "by_courses" Kv f fd)(X:mg "len"=none)(W:mg "zip"=none)(S:mg "tuple"=none):aN P w K mg base (aS P w C) 1 f fd ["order","fingers"] (mB K):=by
 refine F.okX Yu (λvs H Q E h=>?_) (λaC A outer s H vs Q E hr h=>?_)
 ·obtain⟨_,_,_,_,rfl,_⟩:=h;rfl
 ·obtain⟨B,pf,od,G,rfl,L,N,M,d8,ac,k⟩:=h;refine⟨_,He (bG 2 Yu.nd (HH ZD (Iw (G8 Hm Hg)) (HE HF (by rfl) X PySem.boot_len (G8 (J 0) Hg))))
   (He (IX Jn rfl (VS (by rfl) W (G8 (J 0) (G8 (J 1) Hg))) (KO rfl (HU (cM 3 Yu.nd) (HU (cM 4 Yu.nd) JM)))
    (Hh (Vk (J 4) (Wt (J 2) (J 3) QT))))
   (Hh (Hx (Ll JT (by rfl) S K3 (G8 (J 2) Hg))))),?_⟩
  have t:(nV od).length=od.length:=Ab ..;refine⟨by show 1<=GI;decide,λz d7=>?_⟩;have sz:=aF (o:=.lst [.int 0]) d7;refine zA Y (zB Y (.inl (aP.of (sz _ _ L))) (zC Y Y G9 ⟨?_,?_,?_,λm d=>?_⟩))
  ·rw[t];lia
  ·rw[t];lia
  ·rw[t];show 1*od.length<=GI;exact AE (show 1*od.length<=20 by lia) (by decide)
  rw[t,C8,lQ];have d6:=aF (o:=.lst (nV (Ar od.length 0))) d;have ab:m≠z:=λe=>by rw[e,G9] at d;cases d
  have I:=sz.trans d6;have aa:H m=Option.none:=by
   cases q:H m with
   |none=>rfl
   |some o=>rw[sz _ _ q] at d;cases d
  refine zA Y (zA Y (zV Y (aP.of (I _ _ L)) (I.tup N) (Vq (K:=K) (a:=.lst B) (b:=.tup pf) (xs:=nV od) (ys:=nV G) (λi σ H'=>∃(v w:Option V),σ=[some (.ref B),some (.ref pf),some (.ref m),v,w]/\aG H H'/\H' m=some (.lst (nV (((od.zip G).take i).foldl (λg p=>g.set p.1 p.2) (Ar od.length 0)))))
   (zB Y I G9) (λi σ H' _ qQ=>by obtain⟨_,_,_,c,_⟩:=qQ;exact ⟨aP.of (c _ _ L),c.tup N⟩) (by rw[Ab,Ab];exact d8.symm) ?_ ?_)))
  ·rintro i x y T σ H' r j ⟨v,w,rfl,c,u⟩ hT;rw[Ah] at r j;cases ha:od[i]? with
   |none=>rw[ha] at r;cases r
   |some a=>
    cases hb:G[i]? with
    |none=>rw[hb] at j;cases j
    |some b=>
     rw[ha] at r;rw[hb] at j;cases r;cases j;have R:=aF (o:=.tup [.int (a:Int),.int (b:Int)]) hT;have ad:a<od.length:=by have:=M.mem_iff.mp (AX ha);exact AW.mp this
     have tk:(od.zip G).take (i+1)=(od.zip G).take i++[(a,b)]:=by rw[Bn,CA (z:=(a,b)) |>.mpr ⟨ha,hb⟩];rfl
     have U:∀(l:List (Nat×Nat)) (g:List Nat),(l.foldl (λg p=>g.set p.1 p.2) g).length=g.length:=λl=>by
      induction l with
      |nil=>intro g;rfl
      |cons p l ih=>intro g;rw[Dg,ih,Eh]
     refine zR T _ Y (aQ.of G9) ⟨Y,_,zI _ Y (zR _ _ Y Y ?_)⟩;refine zI _ Y (zI _ Y (zI _ Y (zX m _ (a:Int) a Y Y (R _ _ u) ?_ (zR _ _ Y (λb' o D=>?_) ?_))))
     ·unfold gF;rw[G7 (by lia),Ab,U,AS,G7 (by lia)];rfl
     ·rw[Hf (λe=>by rw[e,aa] at D;cases D)];exact R _ _ (c _ _ D)
     ·rw[G9,tk,EF];exact congrArg (λz=>some (HO.lst z)) (List.map_set (f:=λn:Nat=>V.int (n:Int))).symm
  ·rintro σ H' ⟨v,w,rfl,c,u⟩;rw[Ab,Ft (by rw[CU];lia),LuG.gZ M d8] at u;refine zA Y (zK Y (.inl ⟨aP.of u,λq d9=>?_⟩));refine k _ q (c.trans (aF d9)) ?_ G9;cases z:H q with
   |none=>rfl
   |some o=>rw[c _ _ z] at d9;cases d9
end Lu
namespace L2
open PySem.W PySem.Calls
section
variable{prog:GJ}{w:GQ}{A:GS}{E:O->GF->Prop}{s:GF}{a kS:Z}{vs:List O}{kz:List Int}{keys:Array O}{e e1:Nat}{P:PySem.Fin->GF->Prop}
end
section
variable{X:Cx}{aA:List (Z×Obj)}{σ:St}{H:Hp}{s:GF}
end
open PySem.W PySem.Calls PyProof.Rows.G
section
variable{X:Cx}{aA:List (Z×Obj)}{σ:St}{H:Hp}{s:GF}
def kJ(H:Hp)(b:Z)(n:Int):Prop:=∃r:List Int,H b=some (.tup (V.int n::r.map V.int))
theorem LC:∀(r:List Int) (us:List O) (i:Nat),aJ (r.map V.int) us->tupItems (λ_=>false) i us=some (r.map Sum.inl)
 |[],us,i,h=>by rw[aJ.zero h];rfl
 |n::r,us,i,h=>by
  cases h with
  |cons h1 h2=>obtain⟨t,rfl⟩:=h1;show(if (false:Bool)=true then none else (tupItems (λ_=>false) (i+1) _).map (Sum.inl n::·))=_;rw[LC r _ _ h2];rfl
theorem Y7(I:Inv X aA σ H s)(h:kJ H b n):∃(r:List Int) (f:O),TupOf s.heap (λ_=>false) (.ref b) f/\tupKeyC s.heap (λ_=>false) (.ref b)=some (Sum.inl n::r.map Sum.inl):=by
 obtain⟨r,g⟩:=h;obtain⟨_,aD,i,o,a,c,m,hd⟩:=I.hok b _ g;cases i with
 |cons h1 h2=>rename_i u j;have d:=h1;obtain⟨t,rfl⟩:=d;refine⟨r,_,zH Y a c hd ⟨Y,λ_=>⟨_,_,Y⟩,λz=>nomatch z⟩,?_⟩;unfold tupKeyC;rw[G7 (by simp[isTupObj,a,c])];simp only[tupKey,a,hd];have e:=LC (n::r) _ 0 (.cons h1 h2);simpa using e
theorem Sx(I:Inv X aA σ H s):∀{bs:List Z},(∀b∈bs,∃n,kJ H b n)->∃fs,TupsOf s.heap (λ_=>false) (bs.map O.ref) fs
 |[],_=>⟨[],.nil⟩
 |b::bs,h=>by obtain⟨n,hn⟩:=h b (.head _);obtain⟨_,f,d,_⟩:=Y7 I hn;obtain⟨fs,a⟩:=Sx I λc e=>h c (.tail _ e);exact⟨f::fs,.cons d a⟩
def kU:O->Z
 |.ref a=>a
 |_=>0
theorem Pw:∀{bs:List Z} {us:List O},aJ (bs.map V.ref) us->us=bs.map O.ref
 |[],_,h=>aJ.zero h
 |b::bs,_,.cons h r=>by rw[Pw r];cases h;rfl
theorem SS:∀(us:List O),(∀u∈us,∃a,u=.ref a)->aJ ((us.map kU).map V.ref) us
 |[],_=>.nil
 |u::us,h=>by obtain⟨a,rfl⟩:=h u (.head _);exact .cons rfl (SS us λv b=>h v (.tail _ b))
end
section
variable{prog:GJ}{w:GQ}{A:GS}{E:O->GF->Prop}{s:GF}
theorem QK{r:Z}{n:Nat}{t u v:Tok}{Q:List O->GF->Prop}(e:A.handled=none)(j:IsRange s.heap r 0 n 1 t u v)(hn:n<=2 ^ 24)
  (h:∀h' tk aE,(∀b o,s.heap.get? b=some o->h'.get? b=some o)->ItemsOf (λi v=>∃t,v=.int (0+i*1) t) aE n->Q aE.toList { s with heap:=h',toks:=tk }):
  GL (model prog w) A (collect (.ref r)) Q E s:=by
 have e1:Builtin.Range.rangeSize 0 (n:Int) 1=n:=by rw[rangeSize_one];split <;> lia
 have f:∀(a:GF) (S:Z) (R:Result->GF->Prop),IsRange a.heap r 0 n 1 t u v->a.heap.get? S=some { cls:=.type "list",data:=.seq #[] }->
   (∀h' tk d c,(∀b o,b≠S->a.heap.get? b=some o->h'.get? b=some o)->h'.get? S=some { cls:=.type "list",dict:=none,data:=.seq d c,slots:=#[] }->ItemsOf (λi v=>∃t,v=.int (0+i*1) t) d n->R (.ok (.ret (.ref S))) { a with heap:=h',toks:=tk })->
   codeAny (model prog w) A (.builtin "list.__iadd__" ⟨[.ref S,.ref r],[]⟩) R a:=λa S R h1 h2 g=>by
  refine codeAny_builtin F.entry_list_iadd ?_;rw[GS.under_plainId F.plain_list_iadd _];exact wpAny_extend_range e h1 (small_one (by lia) (by lia) (by lia) (by lia)) e1 hn S _ 0 h2 g
 unfold collect;refine GE (wpAny_runValue (codeAny_builtin F.entry_proto_collect ?_));rw[GS.under_plainId F.plain_proto_collect _];show GL _ A.in1 (newList [] >>= λl=>again (.builtin "list.__iadd__" ⟨[l,.ref r],[]⟩)) _ _ s;refine GE (G2 ?_);refine GK ⟨plainId_quiet F.plain_list_iadd _,f _ _ _ (Ac _ j) (Ap _ rfl) λh' tk aE c k1 k2 k3=>?_⟩;show GL _ A (load s.heap.objs.size >>= _) _ _ { s with heap:=h',toks:=tk };refine GE (wpAny_load k2 ?_);exact GK (h h' tk aE (λb o q=>k1 b o (AL (Ao q)) (Ac _ q)) k3)
variable{a kS:Z}{vs:List O}{keys:Array O}{e e1:Nat}{P:PySem.Fin->GF->Prop}{fs:List O}
theorem S9{st:SortSt}(d:s.heap.get? kS=some (seqObj "list" keys e))(c:s.heap.get? a=some (seqObj "list" #[] e1))(f:kS≠a)(k:keys.size=vs.length)(i:vs.length<=GI)
  (hp:(arrOf st).Perm (keys.zip vs.toArray)) (hfl:failedOf st=none)
  (h:P (.done (.ret .none)) { s with heap:=(s.heap.update kS (Obj.mapSeq λ_=>#[])).update a (Obj.mapSeq λ_=>(arrOf st).map (·.2)) }):GL (model prog w) A (ksk_tail a false e1 (.ref kS) st) P E s:=by
 have g:vs.toArray.size=vs.length:=Am ..;have j:((arrOf st).map (·.2)).size=vs.length:=by rw[Fa,hp.size_eq,Gv];lia
 have b:(s.heap.update kS (Obj.mapSeq λ_=>(#[]:Array O))).get? a=some (seqObj "list" #[] e1):=((Heap.SameBut.update s.heap kS _).2 a f.symm).trans c;unfold ksk_tail;dsimp only;refine GE (listUpdate_at d rfl ?_ (by lia) (Az _));refine GE (wpAny_letGo (GE (seqEpoch_at b rfl (GE (listUpdate_at b rfl ?_ (Az _) (by rw[G6 Ak];lia))))));rw[hfl];simp only[bne_self_eq_false,Bz,if_false];exact GK h
theorem Y0{sh:Nat->Bool}(p:s.heap.get? kS=some (seqObj "list" keys e))(d:s.heap.get? a=some (seqObj "list" #[] e1))(n:kS≠a)(m:keys.size=vs.length)(l:vs.length<=GI)
  (hk:KeysOf (tupKindC s.heap sh) (keys.zip vs.toArray)) (ht:TupsOf s.heap sh keys.toList fs)
  (h:∀c:Array Keyed,c.Perm (keys.zip vs.toArray)->SortedToK (tupKindC s.heap sh) c vs.length->P (.done (.ret .none)) { s with heap:=(s.heap.update kS (Obj.mapSeq λ_=>#[])).update a (Obj.mapSeq λ_=>c.map (·.2)) }):
  GL (model prog w) A (ksk_end a false vs.toArray e1 (.ref kS) keys) P E s:=by
 have D:vs.toArray.size=vs.length:=Am ..;have y:(keys.zip vs.toArray).size=vs.length:=by rw[Gv];lia
 unfold ksk_end;dsimp only;rw[G6 Ak,G6 Ak];by_cases h2:vs.toArray.size<2
 ·rw[G7 h2,G7 h2];refine GE (GK ?_);rw[StateT.run_pure];refine GE (GK (S9 (st:=SortSt.mk' general' (keys.zip vs.toArray) #[] 7 none) p d n m l (Array.Perm.refl _) rfl (h _ (Array.Perm.refl _) λi j B C=>?_)));have r:i=j:=by lia
  rw[r];exact KeyOrd.kle_refl _
 ·rw[G6 h2,G6 h2];have t:0<fs.length:=by rw[TupsOf.length ht,Be];lia
  have o:=tup_kind (M:=model prog w) (A:=A) (E:=E) (Q:=λf s'=>f=tuples' true/\s'=s) t ht ⟨Y,Y⟩;rw[FC] at o;refine GE (GX o ?_ λ_ _ z=>z);rintro f s' ⟨rfl,rfl⟩;refine GE (GX (PyProof.Rows.G.wpS_sortRunsSt (κ:=tupKindC s'.heap sh) (kd:=tuples' true) (a₀:=keys.zip vs.toArray) (st:=SortSt.mk' (tuples' true) (keys.zip vs.toArray) #[] 7 none)
   (Q:=λ_ b=>(arrOf b).Perm (keys.zip vs.toArray)/\failedOf b=none/\SortedToK (tupKindC s'.heap sh) (arrOf b) (keys.zip vs.toArray).size)
   (tupC_ltAt (s:=s') true (KeepsTups.refl _)) hk ⟨Array.Perm.refl _,Y,Y⟩ rfl (Stable.refl _) (by lia) λb x q u _=>⟨x,q,u⟩) ?_ λ_ _ z=>z)
  rintro⟨⟨⟩,b⟩ F ⟨rfl,g,v,k⟩;rw[y] at k;exact S9 p d n m l g v (h _ g k)
end
theorem UN{b β:Type}{f:b->β}{l d:List β}(h:l.Perm d):∀m:List b,d=m.map f->∃a:List b,a.Perm m/\l=a.map f:=by
 induction h with
 |nil=>intro m e;cases m with
  |nil=>exact⟨[],.refl _,Y⟩
  |cons x m=>cases e
 |cons x h n=>intro m e;cases m with
  |nil=>cases e
  |cons y m=>rw[An] at e;obtain⟨e1,c⟩:=List.cons.inj e;obtain⟨a,p,q⟩:=n m c;exact⟨y::a,p.cons y,by rw[e1,q];rfl⟩
 |swap x y l=>intro m e;match m,e with
  |x'::y'::m,e=>rw[An,An] at e;obtain⟨e1,c⟩:=List.cons.inj e;obtain⟨r,g⟩:=List.cons.inj c;exact⟨y'::x'::m,List.Perm.swap ..,by rw[e1,r,g];rfl⟩
 |trans _ _ i t=>intro m e;obtain⟨u,p2,s⟩:=t m e;obtain⟨k,j,o⟩:=i u s;exact⟨k,j.trans p2,o⟩
theorem N7:∀(aD:List O) (g:Nat->V),(∀i x,aD[i]?=some x->RelV (g i) x)->aJ ((Ay aD.length).map g) aD
 |[],g,_=>.nil
 |x::aD,g,h=>by rw[Af,CZ,An,A8];exact .cons (h 0 x rfl) (N7 aD (λi=>g (i+1)) λi y a=>h (i+1) y (by rwa [Cb]))
variable{X:Cx}{aA:List (Z×Obj)}{σ:St}{H:Hp}{s:GF}
theorem X7(I:Inv X aA σ H s)(d:H b=some (.tup [V.int x,V.int y])):tupKeyC s.heap (λ_=>false) (.ref b)=some [Sum.inl x,Sum.inl y]:=by obtain⟨_,aD,c,o,a,f,m,hd⟩:=I.hok b _ d;unfold tupKeyC;rw[G7 (by simp[isTupObj,a,f])];simp only[tupKey,a,hd];have e:=LC [x,y] _ 0 c;simpa using e
def SK(X:Cx)(σ:St)(L:List (Str×Nat)):Prop:=∀y i,(y,i)∈L->X.N[i]?=some y/\X.env.scope.names.lookup y=some .cell/\X.fn y=true/\∃v,σ[i]?=some (some v)
theorem Tz(a:Inv X aA σ H s)(V:aY k X.A.in1.in1)(P:SK X σ L)(r:aJ vs us)
  (h:∀cs,dS X.env σ L H cs->∃sp,eT X.prog X.w X.K X.mg X.base C k (dF H cs) f n sp/\sp vs (dF H cs) (λv H'=>(∀c o,cs.lookup c=some o->H' c=some (fz o))->Q v (dO H' cs)) E0):
  GL (model X.prog X.w) X.A.in1.in1 (call (.ref f) us) (EP X aA σ Q) (λ_ _=>False) s:=by
 obtain⟨cs,j,S⟩:=NY a L P;have t:∀c o,cs.lookup c=some o->H c=none:=λc o z=>by obtain⟨_,_,y,m,_⟩:=j c o z;exact a.freeC y c m
 have A:∀c o,cs.lookup c=some o->X.s_0.heap.objs.size<=c:=λc o z=>by obtain⟨_,_,y,m,d9⟩:=j c o z;exact a.ok.cab y c d9 m
 have x:∀c o,cs.lookup c=some o->c∉cG X.stack:=λc o z p=>by
  rcases Aq.mp (a.stkSub c p) with w | w
  ·obtain⟨_,_,y,m,_⟩:=j c o z;exact a.cne y c m w
  ·obtain⟨_,o',K,_⟩:=a.ok.funs.mem w;exact absurd (As (Ao K) (A c o z)) (Bc _)
 obtain⟨sp,F,q⟩:=h cs ⟨λc o z=>⟨t c o z,(j c o z).2.1⟩,a.ok.inj,S⟩;have B:dE X.prog X.w X.K X.mg X.base X.A X.stack s (dF H cs):=by
  have e1:=a.env0;refine⟨e1.frames,e1.mod,λb o z=>⟨(e1.bs b o z).1,?_⟩,e1.bsz,e1.funs,λb p=>?_,Sy (λc o z=>⟨t c o z,(j c o z).1⟩) e1.hok,e1.bare⟩
  ·cases g:cs.lookup b with
   |none=>rw[HX g];exact(e1.bs b o z).2
   |some o'=>exact absurd (As (As (Ao z) a.ok.bsz) (A b o' g)) (Bc _)
  ·cases g:cs.lookup b with
   |none=>rw[HX g];exact e1.frf b p
   |some o'=>exact absurd p (x b o' g)
 have d8:∀c o,cs.lookup c=some o->s.heap.get? c=some o/\H c=none/\c∉cG X.stack:=λc o z=>⟨(j c o z).1,t c o z,x c o z⟩;refine wpAny_call (codeAny_mono (F.run X.A.in1.in1 X.stack s (dF H cs) us vs _ _ (eE.refl _) V B.in1.in1 r q) λr s' l=>?_);cases r with
 |error e=>obtain⟨ea,d,T,H2,i,_,_,_,_,_,_,_,_,_,_,_,I⟩:=l;exact I.elim
 |ok E=>
  cases E with
  |ret u=>obtain⟨v,H',os,G,un,N,R,g⟩:=l;obtain⟨U,D,M⟩:=RN d8 un N;exact a.after ⟨v,_,os,G,D,M,R,g U⟩
  |next=>exact False.elim l
  |brk=>exact False.elim l
  |cont=>exact False.elim l
def jF(p q:Int×Int):Prop:=p.1<q.1\/(p.1=q.1/\p.2<=q.2)
def V7(X:Cx)(C:Z)(k:Nat)(L:List (Str×Nat))(f:Z)(σ:St):V->Hp->VK->Prop:=λv H Q=>∃(p:Z) (n:Nat) (ks:Nat->Int×Int),v=.ref p/\H p=some (.rng 0 n)/\n<=2 ^ 24/\SK X σ L ∧
 (∀i,i<n->∀H1,aG H H1->∀cs,dS X.env σ L H1 cs->∃sp,eT X.prog X.w X.K X.mg X.base C k (dF H1 cs) f 1 sp ∧
  sp [.int i] (dF H1 cs) (λv H'=>(∀c o,cs.lookup c=some o->H' c=some (fz o))->(∃q,v=.ref q/\dO H' cs q=some (.tup [.int (ks i).1,.int (ks i).2]))/\aG H1 (dO H' cs)) E0) ∧
 ∀(q:Z) (od:List Nat) (H':Hp),od.Perm (Ay n)->od.Pairwise (λi j=>jF (ks i) (ks j))->aG H H'->H q=none->H' q=some (.lst (od.map λi=>V.int (i:Nat)))->Q (.ref q) H'
theorem Rv{C f:Z}{k:Nat}{L:List (Str×Nat)}{v:V}{u:O}{Q:VK}(hr:aY k X.A.in1.in1)(hd:X.A.handled=none)(I:Inv X aA σ H s)(rv:RelV v u)(h:V7 X C k L f σ v H Q):
  GL (model X.prog X.w) X.A (call (.builtin "sorted") [u] [(Str.ofString "key",.ref f)]) (EP X aA σ Q) X.xe s:=by
 obtain⟨p,n,ks,rfl,hs,hn,hL,ar,hQ⟩:=h;cases rv;obtain⟨t,u,v,A⟩:=I.hok p _ hs;refine call_function_entry_kw kind_sorted plain_sorted entry_sorted (by unfold argsOk;kernel_rfl) ?_;unfold Builtin.«sorted»;refine GE (m:=checkCount "sorted" 1 1 _) (GK ?_);refine GE (QK hd A hn λw tk aE kk am=>?_);have I0:Inv X aA σ H { s with heap:=w,toks:=tk }:=I.kept (t':=tk) kk;obtain⟨aD,rfl⟩:∃aD:List O,aE=aD.toArray:=⟨aE.toList,by simp⟩;have W:aD.length=n:=by have:=am.1;simpa using this
 have af:∀i x,aD[i]?=some x->∃t,x=O.int (i:Nat) t:=λi x hi=>by obtain⟨t,e⟩:=am.2 i x (by rwa [List.getElem?_toArray]);exact⟨t,by rw[e,E7,Int.zero_add]⟩
 have ag:aJ ((Ay n).map λi=>V.int (i:Nat)) aD:=by rw[<-W];exact N7 aD _ λi x hi=>by obtain⟨t,rfl⟩:=af i x hi;exact⟨t,Y⟩
 have ac:aD.length<=GI:=by rw[sizeLine_eq];lia
 rw[Ca];refine GE (wpAny_newList ?_ ac);have I1:=I0.lnew (t':=tk) ag (by rwa [ag.length]);have F:=Ap (h:=w) (o:=seqObj "list" aD.toArray 0) rfl;dsimp only at I1 F ⊢;have aa:H w.objs.size=none:=I0.fresh;generalize w.objs.size=a at *;refine GE (wpAny_holding (wpAny_call_entry_kw slot_list_sort ⟨_,F,Y⟩ entry_list_sort ?body (ksk_l1 _ _)))
 case body=>
  show GL (model X.prog X.w) X.A.in1.in1 (Builtin.«list.sort» ⟨[.ref a],[(Str.ofString "key",.ref f)]⟩) _ _ _;rw[ksk_t1];unfold ksk_tree;refine GE (listItems_at F rfl (GE (listUpdate_at F rfl ?_ (by rwa [Am]) (Az _))));obtain⟨e1,ai⟩:∃e1,((w.push (seqObj "list" aD.toArray 0)).update a (Obj.mapSeq λ_=>#[])).get? a=some (seqObj "list" #[] e1):=⟨_,get?_update_seq F λ_=>#[]⟩;have I2:=I1.lset (t':=tk) (ys:=[]) (its':=[]) (f:=λ_=>#[]) G9 F rfl .nil (Az _);have nf:=I2.nofrz G9 trivial;obtain⟨od,I3⟩:=I2.lock G9 trivial;have M:od=seqObj "list" #[] e1:=by have q:=(I3.hok a _ G9).1;exact Option.some.inj (q.symm.trans ai)
  subst M;refine GE (seqEpoch_at ai rfl (GE (wpAny_newTuple ?_ (by simpa using ac))));have I4:=I3.kept (t':=tk) (h':=((w.push (seqObj "list" aD.toArray 0)).update a (Obj.mapSeq λ_=>#[])).push (seqObj "tuple" aD.toArray 0)) λb o q=>Ac _ q;refine GE (wpAny_newList ?_ (Az _));have I5:=I4.lnew (t':=tk) (ys:=[]) (aD:=[]) .nil (Az _);have S:=I4.fresh;refine wpAny_holding ?_;dsimp only at I5 S ⊢;generalize ax:((Ay n).map λi=>V.int (i:Nat))=xs at *;have S3:aG H (aK (aK (aK H a (.lst xs)) a (.lst [])) a (.frz (seqObj "list" #[] e1) (.lst []))):=λb o q=>by
   have d:b≠a:=λz=>by rw[z,aa] at q;cases q
   rwa [Hf d,Hf d,Hf d]
  have a3:(aK (aK (aK H a (.lst xs)) a (.lst [])) a (.frz (seqObj "list" #[] e1) (.lst []))) a=some (.frz (seqObj "list" #[] e1) (.lst [])):=G9;generalize (aK (aK (aK H a (.lst xs)) a (.lst [])) a (.frz (seqObj "list" #[] e1) (.lst [])))=H3 at *;generalize (((w.push (seqObj "list" aD.toArray 0)).update a (Obj.mapSeq λ_=>#[])).push (seqObj "tuple" aD.toArray 0))=h4 at *;generalize h4.objs.size=kS at *;unfold ksk_rest;refine GE (wpAny_rule ?_);rw[List.forIn_toArray];have D:kS≠a:=λz=>by rw[z,a3] at S;cases S
  have d7:∀{b o},H b=some o->b≠kS:=λ{b o} q z=>by rw[z] at q;exact nomatch (S3 _ _ q).symm.trans S
  refine GE (ksk_fold (λi s'=>∃H' c,Inv X aA σ H' s'/\aG H H'/\H' a=some (.frz (seqObj "list" #[] e1) (.lst []))/\H' kS=some (.lst (c.map V.ref))/\c.length=i/\∀j q,c[j]?=some q->H' q=some (.tup [.int (ks j).1,.int (ks j).2])) aD 0 _
   ⟨_,[],I5,λb o q=>by rw[Hf (d7 q)];exact S3 _ _ q,by rwa [Hf (Ne.symm D)],G9,Y,λj q r=>by cases r⟩ (λj x s' hx r=>?_) λs' hd=>?_)
  ·obtain⟨H',c,y,N,U,ab,G,d8⟩:=r;rw[Cz] at G ⊢;have ay:j<aD.length:=(Al.mp hx).1;obtain⟨tx,rfl⟩:=af j x hx;refine GE (wpAny_attempt (GX (Tz (vs:=[.int j]) (Q:=λv H2=>(∃q,v=.ref q/\H2 q=some (.tup [.int (ks j).1,.int (ks j).2]))/\aG H' H2) y hr hL (.cons ⟨tx,Y⟩ .nil) λcs aw=>ar j (by lia) H' N cs aw) (λkv s2 E=>?_) λ_ _ z=>z.elim));obtain⟨_,H2,d9,ao,⟨q,rfl,az⟩,R⟩:=E;cases ao;have ad:=R _ _ ab;obtain⟨_,ae,kn,T,_,B⟩:=d9.lstM ad;have kl:ae.length=j:=by rwa [<-T.length,Ab]
   dsimp only;refine GE (listUpdate_at B rfl (GK ⟨Y,aK H2 kS (.lst ((c++[q]).map V.ref)),c++[q],?_,?_,?_,G9,?_,λi q' hi=>?_⟩) (by rw[Am];lia) (by rw[Array.size_push,Am];lia))
   ·rw[AM];exact d9.lset (t':=s2.toks) (its':=ae++[.ref q]) ad B (by simp) (T.append (.cons (show RelV (.ref q) (.ref q) from rfl) .nil)) (by rw[Ad,Ab];simp only[Ab,BJ];lia)
   ·intro b o q;rw[Hf (d7 q)];exact R _ _ (N _ _ q)
   ·rw[Hf (Ne.symm D)];exact R _ _ U
   ·rw[Ad,G,BJ]
   ·have nk:∀{q l},H2 q=some (.tup l)->q≠kS:=λ{q l} z e=>by rw[e,ad] at z;cases z
    have h3:H2 q'=some (.tup [.int (ks i).1,.int (ks i).2]):=by
     rcases Nat.lt_or_ge i c.length with z | z
     ·rw[AC z] at hi;exact R _ _ (d8 i q' hi)
     ·rw[Ax z] at hi;cases e:i-c.length with
      |zero=>
       rw[e] at hi;cases hi;have:i=j:=by lia
       rwa [this]
      |succ m=>rw[e] at hi;cases hi
    rwa [Hf (nk h3)]
  ·obtain⟨H',c,y,N,U,ab,G,d8⟩:=hd;rw[Cz,W] at G;obtain⟨_,ae,kn,T,_,B⟩:=y.lstM ab;have ek:=Pw T;subst ek;have ah:=(y.hok a _ U).1;have an:∀b∈c,∃m,kJ H' b m:=λb d=>by obtain⟨i,hi⟩:=FK d;exact⟨_,[(ks i).2],d8 i b hi⟩
   have al:∀i q,c[i]?=some q->tupKeyC s'.heap (λ_=>false) (.ref q)=some [Sum.inl (ks i).1,Sum.inl (ks i).2]:=λi q hi=>X7 y (d8 i q hi);obtain⟨fs,as⟩:=Sx y an;refine GE (listItems_at B rfl ?_);refine Y0 (sh:=λ_=>false) (fs:=fs) B ah D (by rw[Am,Ab];lia) ac ?_ (by simpa using as) λg A ap=>⟨_,Y,GK ⟨_,Y,?_⟩⟩
   ·intro p A;rw[Gf] at A;obtain⟨b,d,e⟩:=Av.mp (CQ (a:=p.1) (b:=p.2) (by simpa using A)).1;obtain⟨i,hi⟩:=FK d;exact⟨_,by rw[<-e];exact al i b hi⟩
   ·have ez:((c.map O.ref).toArray.zip aD.toArray).toList=(Ay n).map λi=>(O.ref (c.getD i 0),aD.getD i .none):=by
     rw[Gf];refine C6 λi=>?_;rw[Ah];by_cases hi:i<n
     ·have E:(c.map O.ref).toArray.toList[i]?=some (O.ref (c.getD i 0)):=by rw[Ca,Ah,Ae,Aa (by lia)];rfl
      have iV:aD.toArray.toList[i]?=some (aD.getD i .none):=by rw[Ca,Ae,Aa (by lia)];rfl
      rw[BU hi,CA (z:=(O.ref (c.getD i 0),aD.getD i .none)) |>.mpr ⟨E,iV⟩];rfl
     ·rw[AT (by simp;lia),AT (by simp;lia)];rfl
    have aj:g.toList.Perm ((Ay n).map λi=>(O.ref (c.getD i 0),aD.getD i .none)):=by rw[<-ez];exact Cr.mp A
    obtain⟨od,P,M⟩:=UN aj _ rfl;have d6:∀i∈od,i<n:=λi hi=>AW.mp (P.mem_iff.mp hi);have ak:od.length=n:=by rw[P.length_eq,BO]
    have eo:(g.map (·.2)).toList=od.map λi=>aD.getD i .none:=by rw[Gg,M,A8];rfl
    have ry:aJ (od.map λi=>V.int (i:Nat)) (g.map (·.2)).toList:=by
     rw[eo];clear M eo P aj ak
     induction od with
     |nil=>exact .nil
     |cons i od ih=>refine .cons ?_ (ih λj r=>d6 j (.tail _ r));have hi:=d6 i (.head _);obtain⟨t,e⟩:=af i _ (Aa (by lia));show RelV (V.int (i:Nat)) (aD.getD i .none);rw[Ae,Aa (by lia)];exact⟨t,e⟩
    have aq:od.Pairwise λi j=>jF (ks i) (ks j):=by
     rw[Bk];intro i j hi r av;have K:∀{i:Nat} (hi:i<od.length),KK (tupKindC s'.heap λ_=>false) g i=[Sum.inl (ks od[i]).1,Sum.inl (ks od[i]).2]:=λ{i} hi=>by
      have e1:g.toList[i]?=some (O.ref (c.getD od[i] 0),aD.getD od[i] .none):=by rw[M,Ah,Aa hi];rfl
      have e2:g[i]?=some (O.ref (c.getD od[i] 0),aD.getD od[i] .none):=by rwa [<-Array.getElem?_toList]
      have E:od[i]<c.length:=by rw[G];exact d6 _ (AG hi)
      unfold KK;rw[e2];show(tupKeyC _ _ _).getD _=_;rw[Ae,Aa E];show(tupKeyC _ _ (.ref c[od[i]])).getD _=_;rw[al od[i] _ (Aa E)];rfl
     have k:=ap i j (Cj av) (by lia);rw[K hi,K r] at k;have k':Fb itemOrd [Sum.inl (ks od[j]).1,Sum.inl (ks od[j]).2] [Sum.inl (ks od[i]).1,Sum.inl (ks od[i]).2]=false:=k;simp[Fb,itemLt] at k';unfold jF
     lia
    have J1:=y.unlock U nf;have J2:=J1.lset (t':=s'.toks) (ys:=[]) (its':=[]) (f:=λ_=>#[]) (by rwa [Hf D]) B rfl .nil (Az _);have au:(s'.heap.update kS (Obj.mapSeq λ_=>(#[]:Array O))).get? a=some (seqObj "list" #[] e1):=((Heap.SameBut.update s'.heap kS _).2 a D.symm).trans ah;have J3:=J2.lset (t':=s'.toks) (ys:=od.map λi=>V.int (i:Nat)) (its':=(g.map (·.2)).toList) (f:=λ_=>g.map (·.2)) (l:=a) (xs:=[]) (by rw[Hf (Ne.symm D)];exact G9) (aD:=[]) au (by rw[FC]) ry (by rwa [Ab,ak,<-W]);refine⟨.ref a,_,J3,Y,hQ a od _ P aq (λb o q=>?_) aa G9⟩;have d:b≠a:=λz=>by rw[z,aa] at q;cases q
    rw[Hf d,Hf (d7 q),Hf d];exact N _ _ q
end L2
namespace L2
open PySem.W PySem.Calls
variable{X:Cx}{aA:List (Z×Obj)}{σ:St}{H:Hp}{s:GF}
def rY(ta:TA):TE:=λσ H Q=>ta σ H λvs H1=>∃n:Nat,vs=[.int n]/\∀p,H1 p=none->Q (.ref p) (aK H1 p (.rng 0 n))
theorem qZ(f:Gl X "range")(g:X.mg "range"=none)(d:PA X [a] ta)(hs:GO [a] X.env=[(false,eval a X.env)]:=by rfl):PE X (.Call (.Name "range" p) [a] [] pos) (rY ta):=by
 intro aA s σ H R I h;refine Call_ (KW I f g boot_range (Bw (aW (d pos aA s σ H _ I h) λn m qQ=>?_) hs rfl));obtain⟨vs,H1,c,l,i⟩:=qQ;obtain⟨j,e,q⟩:=i;subst e;cases l with
 |cons r k=>cases k;obtain⟨t,rfl⟩:=r;refine call_range_1 ?_;exact⟨.ref _,aK H1 _ (.rng 0 j),c.laid (λb u q=>Ac _ q) (Ag _) ⟨_,_,_,Ap _ rfl⟩,Y,q _ (c.hok.fresh (Ag _))⟩
def Z7(X:Cx)(C:Z)(k:Nat)(L:List (Str×Nat))(t:TA)(tl:TE):TE:=λσ H Q=>t σ H λvs H1=>∃v,vs=[v]/\tl σ H1 λa H2=>∃f,a=.ref f/\V7 X C k L f σ v H2 Q
theorem VU(x:aY k X.A.in1.in1)(hd:X.A.handled=none)(i:X.mg "sorted"=none)(l:PA X [e] t)(m:PE X el tl)(b:Gl X "sorted":=by rfl)
  (hst:backTo pos (GO [e] X.env)=(false,eval e X.env)::backTo pos (GO [] X.env):=by rfl) (hpl:(backTo pos (GO [e] X.env)).any (·.1)=false:=by rfl):PE X (.Call (.Name "sorted" p) [e] [⟨some "key",el,kp⟩] pos) (Z7 X C k L t tl):=by
 intro aA s σ H Q I h;refine G0 (KW I b i (show G3 "sorted"=some (.builtin "sorted") by decide) ?_ (by decide) (by decide));refine callWith_kw (aW (l pos aA s σ H _ I h) λA o qQ=>?_) hst hpl;obtain⟨vs,H1,r,w,n⟩:=qQ
 ·obtain⟨v,rfl,q⟩:=n;obtain⟨u,rfl,d⟩:=w.one;refine evalAll_cons (GE (aW (m aA o σ H1 _ r q) λz y qQ=>?_));obtain⟨B,H2,j,g,f,c,a⟩:=qQ;cases c;cases g;exact GE (wpAny_standAt (GK (evalAll_nil (Rv x hd j d a))))
end L2
namespace L2
open PySem.W
def cR{c:Type}(n:Nat)(R:c->Prop):KasT c->Prop
 |.ret a=>R a
 |.ask i j k=>i<n/\j<n/\∀b,cR n R (k b)
theorem cR.bind{c β:Type}{R:c->Prop}{S:β->Prop}{f:c->KasT β}:∀{t:KasT c},cR n R t->(∀a,R a->cR n S (f a))->cR n S (t.bind f)
 |.ret a,h,g=>g a h
 |.ask i j k,⟨h1,h2,h3⟩,g=>⟨h1,h2,λb=>cR.bind (h3 b) g⟩
theorem cR.imp{c:Type}{R S:c->Prop}(g:∀a,R a->S a):∀{t:KasT c},cR n R t->cR n S t
 |.ret a,h=>g a h
 |.ask i j k,⟨h1,h2,h3⟩=>⟨h1,h2,λb=>cR.imp g (h3 b)⟩
theorem cR.wp{c:Type}{R:c->Prop}{Q:c->GF->Prop}{d:Nat->Nat->(Bool->GF->Prop)->GF->Prop}(f:∀i j (C:Bool->GF->Prop),i<n->j<n->(∀b,C b s)->d i j C s)(e:∀a,R a->Q a s):
  ∀{t:KasT c},cR n R t->t.kasWp d Q s
 |.ret a,h=>e a h
 |.ask i j k,⟨h1,h2,h3⟩=>f i j _ h1 h2 λb=>cR.wp f e (h3 b)
def Bl(n:Nat)(p:Array Nat):Prop:=∀x∈p.toList,x<n
theorem Bl.get(h:Bl n p)(hn:0<n)(i:Nat):p.getD i 0<n:=by
 by_cases hi:i<p.size
 ·have e:p.getD i 0=p[i]:=by simp[Array.getD,hi]
  rw[e];exact h _ (by simp)
 ·have e:p.getD i 0=0:=by simp[Array.getD,hi]
  rwa [e]
theorem Bl.perm(h:Bl n p)(b:q.Perm p):Bl n q:=λx a=>h x ((Cr.mp b).mem_iff.mp a)
section
variable{n:Nat}(hn:0<n)
include hn
theorem RH(a:Bl n p):∀f m,cR n (λ_=>True) (kas_asc p f m)
 |0,m=>trivial
 |f+1,m=>⟨a.get hn _,a.get hn _,λb=>by
  cases b
  ·exact RH a f (m+1)
  ·exact trivial⟩
theorem Nl:∀f (p:Array Nat) m q,Bl n p->cR n (λr=>r.1.Perm p) (kas_desc f p m q)
 |0,p,m,q,_=>Array.Perm.refl _
 |f+1,p,m,q,hp=>⟨hp.get hn _,hp.get hn _,λb=>by
  cases b
  ·refine⟨hp.get hn _,hp.get hn _,λb=>?_⟩;cases b
   ·exact Nl f p (m+1) (q+1) hp
   ·exact Array.Perm.refl _
  ·show cR n _ (if q > 0 then kas_desc f (kas_rev p (m-(q+1)) m) (m+1) 0 else kas_desc f p (m+1) 0);split
   ·have a:(kas_rev p (m-(q+1)) m).Perm p:=mirror_perm _ _ _ _;exact cR.imp (λr h=>h.trans a) (Nl f _ (m+1) 0 (hp.perm a))
   ·exact Nl f p (m+1) 0 hp⟩
theorem Rg(a:Bl n p)(m r:Nat):cR n (λz=>z.2.Perm p) (kas_tail3 m r p):=cR.bind (RH hn (a.perm (mirror_perm _ _ _ _)) _ _) λ_ _=>(mirror_perm _ _ _ _:(kas_rev p 0 m).Perm p)
theorem QP(b:Bl n p)(m r:Nat):cR n (λz=>z.2.Perm p) (kas_descPart m r p):=by
 refine cR.bind (Nl hn _ p _ _ b) λz a=>?_;split
 ·have c:(kas_rev z.1 (z.2.1-(z.2.2+1)) z.2.1).Perm z.1:=mirror_perm _ _ _ _;exact cR.imp (λr h=>h.trans (c.trans a)) (Rg hn ((b.perm a).perm c) _ _)
 ·exact cR.imp (λr h=>h.trans a) (Rg hn (b.perm a) _ _)
theorem Wy(a:Bl n p)(r:Nat):cR n (λz=>z.2.Perm p) (kas_count r p):=by
 refine cR.bind (RH hn a _ _) λm _=>?_;split
 ·exact Array.Perm.refl _
 ·split
  ·refine⟨a.get hn _,a.get hn _,λb=>?_⟩;cases b
   ·have c:(kas_rev p 0 m).Perm p:=mirror_perm _ _ _ _;exact cR.imp (λr h=>h.trans c) (QP hn (a.perm c) _ _)
   ·exact Array.Perm.refl _
  ·exact QP hn a _ _
theorem NB(a:Bl n p)(k:Nat):∀f l r,cR n (λ_=>True) (kas_place p k f l r)
 |0,l,r=>trivial
 |f+1,l,r=>by
  unfold kas_place;split
  ·exact trivial
  ·refine⟨a.get hn _,a.get hn _,λb=>?_⟩;cases b
   ·exact NB a k f _ _
   ·exact NB a k f _ _
theorem UW:∀f (p:Array Nat) k,Bl n p->cR n (λz=>z.Perm p) (kas_bin f p k)
 |0,p,k,_=>Array.Perm.refl _
 |f+1,p,k,hp=>cR.bind (NB hn hp k _ _ _) λl _=>by have a:(bubble p k (k-l)).Perm p:=bubble_perm _ _ _;exact cR.imp (λr h=>h.trans a) (UW f _ (k+1) (hp.perm a))
theorem W6:cR n (λz=>z.Perm (Ay n).toArray) (kas_sort n):=by
 have b:Bl n (Ay n).toArray:=λx c=>AW.mp (by simpa using c);refine cR.bind (Wy hn b n) λz a=>?_;split
 ·exact cR.imp (λr h=>h.trans a) (UW hn _ _ _ (b.perm a))
 ·exact a
end
open PySem.W PySem.Calls PyProof.Rows.G
section
variable{prog:GJ}{w:GQ}{A:GS}{E:O->GF->Prop}{s:GF}
def cH(h:Heap)(x:Z):Prop:=∃(o:Obj) (n:Nat) (p:Int) (tk:Tok) (t:Z) (aD:List O) (ns:List Int),h.get? x=some o/\o.cls=.type "tuple"/\o.data=.seq #[.int p tk,.ref t] n/\IsTup h t aD.toArray/\aJ (ns.map V.int) aD
theorem cH.keeps(p:cH h x)(k:∀b o,h.get? b=some o->o.cls=.type "tuple"->h'.get? b=some o):cH h' x:=by obtain⟨o,n,p,tk,t,aD,ns,h1,h2,g,⟨f,e,a,d⟩,c⟩:=p;exact⟨o,zP (k _ _ h1 h2) h2 g ⟨⟨f,k _ _ e a,a,d⟩,c⟩⟩
theorem Yd{Q:Bool->GF->Prop}(D:cH s.heap x)(z:cH s.heap y)(j:A.units<cLine)(h:∀b,Q b s):GL (model prog w) A (keyLt' (tuples' true) (.ref x) (.ref y)) Q E s:=by obtain⟨o,n,p,tk,t,aD,ns,h1,h2,l,u,r⟩:=D;obtain⟨o',K,H,d9,I,G,B,C,F,q,v,k⟩:=z;refine kat_lt h1 l C q ?_;refine kat_cons (wpAny_eqBool_int (kat_go (λe=>kat_yes ?_) λe=>kat_no (oneLt_any_int (h _))));obtain⟨i,g1,g2,m,g3⟩:=u;obtain⟨c,d,g,f,a⟩:=v;refine kat_cons (wpAny_eqBool_tuple (knd:=HJ prog w) j (zJ i _ m g1 g2 g3 (by rw[Ca];exact Jw (ks:=ns.map Sum.inl) (by rwa [A8]))) (zJ c _ f d g a (by rw[Ca];exact Jw (ks:=B.map Sum.inl) (by rwa [A8]))) ?_);refine kat_go (λe=>kat_yes (kat_nil (h _))) λe=>kat_no (kat_one _ _ ?_);exact HT.fP ⟨i,g1,g2,m,g3⟩ ⟨c,d,g,f,a⟩ (by simpa using Nv r) (by simpa using Nv k) j (h _)
end
variable{X:Cx}{aA:List (Z×Obj)}{σ:St}{H:Hp}{s:GF}
def fH(K:G5)(H:Hp)(b:Z):Prop:=∃(p:Int) (t:Z) (ns:List Int),H b=some (.tup [.int p,.ref t])/\aQ K H t (ns.map V.int)
theorem fH.at(I:Inv X aA σ H s)(h:fH X.K H b):cH s.heap b:=by
 obtain⟨p,t,ns,a,e⟩:=h;obtain⟨_,aD,f,o,i,k,m,hd⟩:=I.hok b _ a;obtain⟨d,c,p2,_⟩:=I.tuple e;cases f with
 |cons h1 h2=>
  cases h2 with
  |cons j g=>rw[aJ.zero g] at hd;obtain⟨tk,rfl⟩:=h1;cases j;exact⟨o,zP i k hd ⟨p2,c⟩⟩
def ZM(K:G5):List V->Hp->VK->Prop:=λvs H Q=>∃(a:Z) (bs:List Z),vs=[V.ref a]/\aP K H a (bs.map V.ref)/\bs.length<64/\(∀b∈bs,fH K H b) ∧
 ∀(cs:List Z) (p:Z),cs.Perm bs->H p=none->Q (.ref p) (aK H p (.lst (cs.map V.ref)))
theorem SY:∀{bs:List Z},(∀b∈bs,cH h b)->∃fs,KatTups h (bs.map O.ref) fs/\fs.length=bs.length/\∀v∈fs,∃p tk,v=O.int p tk
 |[],_=>⟨[],.nil,Y,λ_ z=>by cases z⟩
 |b::bs,hb=>by
  obtain⟨fs,h1,h2,d⟩:=SY λc e=>hb c (.tail _ e);obtain⟨o,n,p,tk,t,aD,ns,g1,g2,g3,_⟩:=hb b (.head _);refine⟨.int p tk::fs,.cons g1 g2 g3 rfl h1,by rw[Af,Af,h2],λv a=>?_⟩;rcases Aq.mp a with rfl | a
  ·exact⟨p,tk,Y⟩
  ·exact d v a
theorem Vm(B:X.A.in1.in1.units<cLine):JD X (.builtin "sorted") (ZM X.K):=by
 intro aA s σ H vs us Q I r h;obtain⟨a,bs,rfl,hs,S,hP,q⟩:=h;obtain⟨aD,rv,hl,hz⟩:=I.list hs;rw[aJ.ref1 r];cases Pw rv;have U:∀b∈bs,cH s.heap b:=λb g=>(hP b g).at I;have A:(bs.map O.ref).length<=GI:=by rw[Ab,sizeLine_eq];lia
 have d8:∀(p:Array Nat) (out:Array O),p.Perm (Ay bs.length).toArray->out.toList=(p.toList.map λi=>bs.getD i 0).map O.ref->EP X aA σ Q (.ref (s.heap.objs.size+1)) { s with heap:=sortedAll s.heap (bs.map O.ref) out }:=λp out f e1=>by
  have ae:p.toList.Perm (Ay bs.length):=by simpa using Cr.mp f
  have M:(p.toList.map λi=>bs.getD i 0).Perm bs:=by
   have:=ae.map λi=>bs.getD i 0;have e2:(Ay bs.length).map (λi=>bs.getD i 0)=bs:=by
    refine C6 λi=>?_;rw[Ah];by_cases hi:i<bs.length
    ·rw[BU hi,Aa hi];show some (bs.getD i 0)=_;rw[Ae,Aa hi];rfl
    ·rw[AT (by simp;lia),AT (by lia)];rfl
   rwa [e2] at this
  obtain⟨ep,ab⟩:=PyProof.Rows.sortedAll_at s.heap (bs.map O.ref) out;refine⟨.ref _,aK H (s.heap.objs.size+1) (.lst ((p.toList.map λi=>bs.getD i 0).map V.ref)),I.laid (t':=s.toks) (λ_ _=>PyProof.Rows.sortedAll_old) (EU _) ⟨by rw[Ab,M.length_eq,sizeLine_eq];lia,_,ep,?_,ab⟩,Y,q _ _ M (I.hok.fresh (EU _))⟩;rw[e1];have:=SS ((p.toList.map λi=>bs.getD i 0).map O.ref) λu B=>by obtain⟨c,_,rfl⟩:=Av.mp B;exact⟨c,Y⟩
  rw[A8] at this;simpa [kU,Function.comp_def] using this
 refine Fc kind_sorted plain_sorted entry_sorted (args_sorted1 _) ?_;unfold Builtin.«sorted»;refine GE (m:=checkCount "sorted" 1 1 _) (GK ?_);refine GE (collect_list hl.isList ?_ A);refine GE (wpAny_newList ?_ A);have K:((s.heap.push (seqObj "list" #[] 0)).update s.heap.objs.size (Obj.mapSeq (·++(bs.map O.ref).toArray))).objs.size=s.heap.objs.size+1:=by rw[Heap.size_update,size_push']
 have o:(((s.heap.push (seqObj "list" #[] 0)).update s.heap.objs.size (Obj.mapSeq (·++(bs.map O.ref).toArray))).push (seqObj "list" (bs.map O.ref).toArray 0)).get? (s.heap.objs.size+1)=some (seqObj "list" (bs.map O.ref).toArray 0):=by rw[<-K];exact Ap _ rfl
 have ac:(s.heap.push (seqObj "list" #[] 0)).get? s.heap.objs.size=some (seqObj "list" #[] 0):=Ap _ rfl;have k0:KeepsTups s.heap (((s.heap.push (seqObj "list" #[] 0)).update s.heap.objs.size (Obj.mapSeq (·++(bs.map O.ref).toArray))).push (seqObj "list" (bs.map O.ref).toArray 0)):=((KeepsTups.push _ _).trans (KeepsTups.update _ ac not_tuple_list)).trans (KeepsTups.push _ _)
 show GL _ _ _ _ _ { s with heap:=((s.heap.push (seqObj "list" #[] 0)).update s.heap.objs.size (Obj.mapSeq (·++(bs.map O.ref).toArray))).push (seqObj "list" (bs.map O.ref).toArray 0) };have W:=k0.trans (keeps_sort6 (vs:=bs.map O.ref) o);rw[K];have d9:∀(p:Array Nat) (out:Array O),p.Perm (Ay bs.length).toArray->out.toList=(p.toList.map λi=>bs.getD i 0).map O.ref->
   EP X aA σ Q (.ref (s.heap.objs.size+1)) { s with heap:=(sortHeap6 (((s.heap.push (seqObj "list" #[] 0)).update s.heap.objs.size (Obj.mapSeq (·++(bs.map O.ref).toArray))).push (seqObj "list" (bs.map O.ref).toArray 0)) (s.heap.objs.size+1) (bs.map O.ref)).update (s.heap.objs.size+1) (Obj.mapSeq λ_=>out) }:=d8
 clear d8;generalize ((s.heap.push (seqObj "list" #[] 0)).update s.heap.objs.size (Obj.mapSeq (·++(bs.map O.ref).toArray))).push (seqObj "list" (bs.map O.ref).toArray 0)=h2 at *;generalize s.heap.objs.size+1=d at *;refine GE (wpAny_holding (wpAny_call_entry slot_list_sort ⟨_,o,Y⟩ entry_list_sort ?body (args_list_sort _)))
 case body=>
  show GL (model X.prog X.w) X.A.in1.in1 (Builtin.«list.sort» ⟨[.ref d],[]⟩) _ _ _;rw[list_sort_plain];refine GE (listItems_at o rfl (GE (listUpdate_at o rfl ?_ (by rwa [Am]) (Az _))));obtain⟨e1,N⟩:∃e1,(h2.update d (Obj.mapSeq λ_=>#[])).get? d=some (seqObj "list" #[] e1):=⟨_,get?_update_seq o λ_=>#[]⟩;refine GE (seqEpoch_at N rfl (GE (wpAny_newTuple ?_ (by simpa using A))));refine GE (wpAny_newList ?_ (Az _));refine wpAny_holding ?_;have E:(sortHeap6 h2 d (bs.map O.ref)).get? d=some (seqObj "list" #[] e1):=Ac _ (Ac _ N);show GL (model X.prog X.w) X.A.in1.in1 _ _ _ { s with heap:=sortHeap6 h2 d (bs.map O.ref) };dsimp only;have x:∀b∈bs,cH (sortHeap6 h2 d (bs.map O.ref)) b:=λb g=>(U b g).keeps W;have af:(bs.map O.ref).toArray.size=bs.length:=by rw[Am,Ab]
  generalize sortHeap6 h2 d (bs.map O.ref)=n at *;have tl:∀(p:Array Nat) (st:SortSt) (F:PySem.Fin->GF->Prop) (L:O->GF->Prop),p.Perm (Ay bs.length).toArray->arrOf st=p.map (kas_item (pairsOf (bs.map O.ref)))->failedOf st=none->
    F (.done (.ret .none)) { s with heap:=n.update d (Obj.mapSeq λ_=>(arrOf st).map (·.2)) }->GL (model X.prog X.w) X.A.in1.in1 (do
     let sorted:=(arrOf st).map (·.2)
     let aa:=(← seqEpoch d) != e1
     Builtin.List.listUpdate (.ref d) λ_=>sorted
     if let some e:=failedOf st then rule "list.sort.comparison-raised";throw e
     if aa then rule "list.sort.modified";raiseError "ValueError" "list modified during sort"
     ret .none) F L { s with heap:=n }:=λp st F L f y hf q=>by
   dsimp only;refine GE (seqEpoch_at E rfl ?_);refine GE (listUpdate_at E rfl ?_ (Az _) (by rw[Fa,y,Fa,f.size_eq,Am,BO,sizeLine_eq];lia));rw[hf];simp only[bne_self_eq_false,Bz,if_false];exact GK q
  have out:∀(p:Array Nat) (st:SortSt),arrOf st=p.map (kas_item (pairsOf (bs.map O.ref)))->p.Perm (Ay bs.length).toArray->((arrOf st).map (·.2)).toList=(p.toList.map λi=>bs.getD i 0).map O.ref:=λp st y f=>by rw[y,Array.map_map,Gg,A8];refine BG λi hi=>?_;have ad:i<bs.length:=AW.mp (by have:=(Cr.mp f).mem_iff.mp hi;simpa using this);show(kas_item (pairsOf (bs.map O.ref)) i).2=O.ref (bs.getD i 0);rw[kas_item_eq];show(bs.map O.ref).getD i .none=_;rw[Ae,Ah,Ae,Aa ad];rfl
  have w:(bs.map O.ref).toArray.zip (bs.map O.ref).toArray=(Ay bs.length).toArray.map (kas_item (pairsOf (bs.map O.ref))):=by have e:=kas_range (pairsOf (bs.map O.ref));rw[pairsOf_size,Ab] at e;exact e.symm
  by_cases h2:(bs.map O.ref).toArray.size<2
  ·rw[G7 h2,G7 h2];refine GE (GK ?_);rw[StateT.run_pure];refine GE (GK (tl (Ay bs.length).toArray (SortSt.mk' general' _ #[] 7 none) _ _ (Array.Perm.refl _) w rfl ⟨_,Y,GK ⟨_,Y,d9 _ _ (Array.Perm.refl _) (out _ (SortSt.mk' general' _ #[] 7 none) w (Array.Perm.refl _))⟩⟩))
  ·rw[G6 h2,G6 h2];have R:2<=bs.length:=by lia
   obtain⟨fs,P,f2,f3⟩:=SY x;have d7:(O.type "int" != O.type "tuple")=true:=by first | rfl | decide
   refine GE (kat_kind (T:=O.type "int") P (by lia) (λv hv=>?_) rfl ?_)
   ·obtain⟨p,tk,rfl⟩:=f3 v hv;exact Looks.of_pure rfl
   rw[d7,w];refine GE (GX (kas_runs (κ:=tuples' true) (it:=pairsOf (bs.map O.ref)) (G:=λp s'=>p.Perm (Ay bs.length).toArray/\s'={ s with heap:=n })
    (Q:=λ_ k s'=>∃p:Array Nat,p.Perm (Ay bs.length).toArray/\arrOf k=p.map (kas_item (pairsOf (bs.map O.ref)))/\failedOf k=none/\s'={ s with heap:=n }) R S
    (λp k s' _ d a3 D=>⟨p,D.1,d,a3,D.2⟩) (cR.wp (λi j C hi hj g=>?_) (λp f=>⟨f,Y⟩) (W6 (by lia)))) ?_ λ_ _ z=>z)
   ·unfold kas_cmp;rw[kas_item_eq,kas_item_eq];have ix:∀{i:Nat},i<bs.length->∃b,b∈bs/\(bs.map O.ref).getD i .none=.ref b:=λ{i} hi=>⟨bs[i],AG hi,by rw[Ae,Ah,Aa hi];rfl⟩;obtain⟨l,m1,q1⟩:=ix hi;obtain⟨t,d6,q2⟩:=ix hj;rw[q1,q2];exact Yd (s:={ s with heap:=n }) (x l m1) (x t d6) B g
   ·rintro⟨⟨⟩,k⟩ s' ⟨p,l,t,b3,rfl⟩;exact tl p k _ _ l t b3 ⟨_,Y,GK ⟨_,Y,d9 _ _ l (out _ _ t l)⟩⟩
end L2
namespace L2
section
variable{X:Cx}
def rL(K:G5):R2:=λx y H Q=>∃a b xs ys,x=.ref a/\y=.ref b/\aQ K H a xs/\aQ K H b ys/\ys≠[]/\xs.length+ys.length<=GI ∧
 (xs=[]->Q (.ref b) H)/\(xs≠[]->∀p,H p=none->Q (.ref p) (aK H p (.tup (xs++ys))))
theorem SZ:dC X (binaryOp .Add) (rL X.K):=by
 intro aA s σ H x y v u Q I g i h;obtain⟨a,b,xs,ys,rfl,rfl,f,e,w,t,o,q⟩:=h;by_cases c:xs=[]
 ·cases g;cases i;obtain⟨aD,B,⟨⟨cls,dd,D,sl⟩,l,m,n,hd⟩,_⟩:=I.tuple f;obtain⟨A,C,⟨⟨E,r,data2,p⟩,j,d,n2,k⟩,_⟩:=I.tuple e;simp only at m hd d k;subst m hd d k;exact concat_meets ⟨_,l,Y⟩ ⟨_,j,Y⟩ noFill_tuple_add seq_tuple_add D6 Dz (Ds _ _)
   (tuple_addW0 a b aD.toArray A.toArray n n2 dd r sl p (by have:=B.nil_iff.mpr c;simp[this])) ⟨l,j,.ref b,H,I,Y,o c⟩
 ·exact PJ aA s σ H _ _ v u Q I g i (zH Y Y f e ⟨c,t,λz=>absurd z w,λ_=>q c⟩)
end
open PySem.AutoSeq1 (wpAny_loadPart')
theorem NM(a:Int)(t:Tok)(l:Z)(items:Array O)(n:Nat)(dd:Option Z)(sl:Array (Option O)):
  Meets (Builtin.«int.__rmul__» ⟨[.int a t,.ref l],[]⟩) (λ_ R s=>s.heap.get? l=some { cls:=.type "tuple",dict:=dd,data:=.seq items n,slots:=sl }/\R (.ok (.ret O.notImplemented)) s):=
 .of_wp λprog w A R s h=>by obtain⟨b,g,d,tk,os⟩:=s;obtain⟨c,h⟩:=h;wp_walk;exact⟨_,Y,h⟩
theorem Mx:fillsNumberSlot (.type "tuple") "mul"=pure false:=PySem.fillsNumberSlot_seq (id:="tuple.__mul__") (r:=some (.builtin "tuple.__rmul__")) F.slot_tuple_mul.lookup (by decide) F.slot_tuple_rmul.lookup (by decide)
theorem P5:seqRepeat? (.type "tuple")=pure (some (.builtin "tuple.__mul__")):=by unfold seqRepeat?;rw[PySem.seqSlot_of (T:="tuple") (name:="__mul__") (id:="tuple.__mul__") F.slot_tuple_mul.lookup (by decide),PySem.seqSlot_of (T:="tuple") (name:="__rmul__") (id:="tuple.__rmul__") F.slot_tuple_rmul.lookup (by decide)];rfl
theorem RK(l:Z)(x:O)(n:Nat)(t:Tok)(dd:Option Z)(sl:Array (Option O)):
  Meets (Builtin.«tuple.__mul__» ⟨[.ref l,.int 1 t],[]⟩) (λ_ R s=>s.heap.get? l=some { cls:=.type "tuple",dict:=dd,data:=.seq #[x] n,slots:=sl }/\R (.ok (.ret (O.ref l))) s):=
 .of_wp λprog w A R s h=>by obtain⟨c,g,d,tk,os⟩:=s;obtain⟨a,h⟩:=h;have b:=AutoSeq1.idx_int;wp_walk using wpAny_loadPart' a;exact⟨_,Y,h⟩
theorem Sm(l:Z)(x:O)(n:Nat)(t:Tok)(dd:Option Z)(sl:Array (Option O)):
  Meets (Builtin.«tuple.__mul__» ⟨[.ref l,.int 0 t],[]⟩) (λ_ R s=>s.heap.get? l=some { cls:=.type "tuple",dict:=dd,data:=.seq #[x] n,slots:=sl }/\R (.ok (.ret (O.ref s.heap.objs.size))) { s with heap:=s.heap.push { cls:=O.type "tuple",data:=Data.seq #[] } }):=
 .of_wp λprog w A R s h=>by obtain⟨c,g,d,tk,os⟩:=s;obtain⟨a,h⟩:=h;have b:=AutoSeq1.idx_int;wp_walk using wpAny_loadPart' a;exact⟨_,Y,h⟩
theorem Rx(l:Z)(x:O)(n:Nat)(k:Int)(t:Tok)(dd:Option Z)(sl:Array (Option O))(e:¬(decide (k < -(2 ^ 63)) || decide (k ≥ 2 ^ 63))=true)(c:¬((#[x]:Array O).isEmpty || k==1)=true)(b:¬(decide (k<=0) || (#[x]:Array O).isEmpty)=true)
  (hc3:¬(((#[x]:Array O).size:Int)*k > (2 ^ 63-1) / 8)) (hc4:¬Builtin.Tuple.tupleTooMany (((#[x]:Array O).size:Int)*k)=true) (hz:(EC (λx1 x2=>x1++x2) (#[]:Array O) (Ar k.toNat #[x])).size<=GI):
  Meets (Builtin.«tuple.__mul__» ⟨[.ref l,.int k t],[]⟩) (λ_ R s=>s.heap.get? l=some { cls:=.type "tuple",dict:=dd,data:=.seq #[x] n,slots:=sl }/\R (.ok (.ret (O.ref s.heap.objs.size))) { s with heap:=s.heap.push { cls:=O.type "tuple",data:=Data.seq (EC (λx1 x2=>x1++x2) #[] (Ar k.toNat #[x])) } }):=
 .of_wp λprog w A R s h=>by
  obtain⟨i,g,d,tk,os⟩:=s;obtain⟨a,h⟩:=h;have f:=AutoSeq1.idx_int
  wp_walk using wpAny_loadPart' a
  refine wpAny_ite_split (λz=>absurd z e) λ_=>?_
  wp_walk using wpAny_loadPart' a
  refine wpAny_ite_split (λz=>absurd z c) λ_=>?_
  wp_walk using wpAny_loadPart' a
  refine wpAny_ite_split (λz=>absurd z b) λ_=>?_
  wp_walk using wpAny_loadPart' a
  refine wpAny_ite_split (λz=>absurd z hc3) λ_=>?_
  wp_walk using wpAny_loadPart' a
  refine wpAny_ite_split (λz=>absurd z hc4) λ_=>?_
  wp_walk using wpAny_loadPart' a
  exact⟨_,Y,h⟩
variable{X:Cx}
def nU:R2:=λx y H Q=>∃(a:Z) (n:Nat) (v:V),x=.ref a/\y=.int (n:Int)/\H a=some (.tup [v])/\n<=100/\∀(p:Z) (H':Hp),aG H H'->H' p=some (.tup (Ar n v))->Q (.ref p) H'
theorem PL(c:O):∀(n:Nat) (aE:Array O),(Ar n (#[c]:Array O)).foldl (λx1 x2=>x1++x2) aE=aE++(Ar n c).toArray
 |0,aE=>by simp
 |n+1,aE=>by rw[Bf,Dg,PL c n,FY];apply Array.toList_inj.mp;simp[Bf]
theorem Qt(h:RelV v u):∀n,aJ (Ar n v) (Ar n u)
 |0=>.nil
 |n+1=>.cons h (Qt h n)
theorem Ym:dC X (binaryOp .Mult) nU:=by
 intro aA s σ H x y v u Q I k p h;obtain⟨a,n,c,rfl,rfl,f,hn,q⟩:=h;cases k;obtain⟨t,rfl⟩:=p;obtain⟨_,aD,l,⟨cls,dd,A,sl⟩,e,d,m,hd⟩:=I.hok a _ f;simp only at d hd;subst d hd;cases l with
 |cons r j=>
  rename_i z zs;cases aJ.zero j;have run:∀{R:O->GF->Prop},GL (model X.prog X.w) X.A (call (.builtin "tuple.__mul__") [.ref a,.int (n:Int) t]) R X.xe s->GL (model X.prog X.w) X.A (binaryOp .Mult (.ref a) (.int (n:Int) t)) R X.xe s:=λ{R} d=>
   wpAny_binaryOp_repeat_ref (T:="tuple") (U:="int") (by decide) ⟨_,e,Y⟩ (λs'=>typeIs_int s' n t) Mx F.fills_int_mul F.slot_int_rmul P5 F.slot_int_index.lookup
    (call_meets F.slot_int_rmul (typeIs_int s n t) F.entry_int_rmul (F.args_int_rmul_2 _ _) (NM n t a _ m dd sl) ⟨e,Y,⟨_,e,Y⟩,d⟩)
  refine run ?_;have g:∀(w:HO),aG H (aK H s.heap.objs.size w):=λw b o z=>by rwa [Hf (λy=>by rw[y,I.fresh] at z;cases z)]
  by_cases h1:n=1
  ·subst h1;exact call_meets F.slot_tuple_mul ⟨_,e,Y⟩ F.entry_tuple_mul (F.args_tuple_mul_2 _ _) (RK a z m t dd sl) ⟨e,.ref a,H,I,Y,q a H (aG.refl _) f⟩
  ·by_cases i:n=0
   ·subst i;exact call_meets F.slot_tuple_mul ⟨_,e,Y⟩ F.entry_tuple_mul (F.args_tuple_mul_2 _ _) (Sm a z m t dd sl)
     ⟨e,.ref _,aK H s.heap.objs.size (.tup []),I.laid (t':=s.toks) (λb o z=>Ac _ z) (Ag _) ⟨⟨Az _,Jx rfl⟩,[],.nil,IsTup.new _ _⟩,Y,q _ _ (g _) G9⟩
   ·have e1:((#[z]:Array O).size:Int)*(n:Int)=n:=by simp
    refine call_meets F.slot_tuple_mul ⟨_,e,Y⟩ F.entry_tuple_mul (F.args_tuple_mul_2 _ _) (Rx a z m n t dd sl (by simp;lia) (by simp;lia) (by simp;lia) (by rw[e1];lia) (by rw[e1];unfold Builtin.Tuple.tupleTooMany;rw[sizeLine_eq];simp;lia) ?_)
     ⟨e,.ref _,aK H s.heap.objs.size (.tup (Ar n c)),I.laid (t':=s.toks) (λb o z=>Ac _ z) (Ag _) ⟨⟨by rw[AS,sizeLine_eq];lia,Jx rfl⟩,Ar n z,Qt r n,?_⟩,Y,q _ _ (g _) G9⟩
    ·rw[PL,sizeLine_eq];simp;lia
    ·rw[PL,C8,FX];exact IsTup.new _ _
end L2
namespace L2
variable{X:Cx}
def pR(K:G5):List V->Hp->VK->Prop:=λvs H Q=>∃(a:Z) (ns:List Int),vs=[V.ref a]/\aQ K H a (ns.map V.int)/\0<ns.length/\∀m,m∈ns->(∀y,y∈ns->m<=y)->Q (.int m) H
theorem X5(B:X.calm=true):JD X (.builtin "min") (pR X.K):=by
 intro aA s σ H vs C Q I r h;obtain⟨a,ns,rfl,hs,x,q⟩:=h;obtain⟨aD,l,p,_⟩:=I.tuple hs;rw[aJ.ref1 r];have hi:IntsAre aD ns:=l.ints;obtain⟨xs,e⟩:=hi.allInts.items;have hn:numsOf (intItems xs).toList=ns:=by rw[<-e];exact hi.numsOf
 rw[nums_intItems] at hn;subst hn;have f:s.heap.IsTuple a (intItems xs):=by rwa [<-e]
 have z:0<xs.size:=by simpa using x
 have g:a<s.heap.objs.size:=by obtain⟨_,e,_⟩:=p;exact Ao e
 refine call_min_walk (wpAny_pyIter_tuple f (zM _ _ _ _ _ _ _ Y ⟨Walks.tuple (A:=X.A.in1) (I.ok.hd B) _ a (AL g) (intItems xs),⟨⟨_,Ap _ rfl,Y,Y⟩,f.push _⟩,λb c=>?_,by simpa [intItems] using z,CmpOf.ints_lt (numAt xs) (λ_ _=>intItems_at),λv h' tk k n=>?_⟩))
 ·show b<(s.heap.push _).objs.size;rw[AY];rcases Aq.mp c with rfl | c
  ·exact Ec _
  ·rcases Aq.mp c with rfl | c
   ·exact DQ g
   ·cases c
 ·have u:(intItems xs)[argBest (λi j=>decide (numAt xs i<numAt xs j)) (xs.size-1)]?=some v:=by simpa [intItems] using k
  obtain⟨t,rfl⟩:=intItems_at u;obtain⟨h1,h2⟩:=argBest_lt (numAt xs) (xs.size-1);refine zR (.int _) H (I.kept (t':=tk) λb o e=>n b o (λd=>?_) (Ac _ e)) ⟨_,Y⟩ (q _ ?_ λy w=>?_)
  ·rcases Aq.mp d with e1 | d
   ·exact absurd (e1 ▸ Ao e) (Bc _)
   ·cases d
  ·rw[numAt_eq];exact PySem.getD_mem (by rw[Ab,Be];lia)
  ·obtain⟨j,m,rfl⟩:=mem_getD w;rw[Ab,Be] at m;rw[<-numAt_eq];exact h2 j (by lia)
def qR(K:G5):V->List V->Hp->VK->Prop:=λx xs H Q=>∃(a:Z) (ns:List Int) (m:Int),x=V.ref a/\xs=[.int m]/\aQ K H a (ns.map V.int)/\Q (.int (ns.count m:Nat)) H
theorem Yy:lN X "tuple.count" (qR X.K):=by
 intro aA s σ H x xs v C Q I l w h;obtain⟨a,ns,m,rfl,rfl,hs,q⟩:=h;cases l;cases w with
 |cons p i=>
  rename_i r D;cases i;obtain⟨aD,c,⟨⟨cls,dd,B,sl⟩,d,e,n,hd⟩,j⟩:=I.tuple hs;simp only at e hd;subst e hd;have g:(ns.map V.int).all Mi=true:=by rw[Bb];intro z b;obtain⟨k,_,rfl⟩:=Av.mp b;rfl
  refine call_meets E8 ⟨_,d,Y⟩ PySem.F.entry_tuple_count (PySem.F.args_tuple_count_2 _ _)
   (SeqAt.tuple_countAt a aD.toArray n dd sl r (gK (.int m))) ⟨d,λu o=>LS p rfl c g u (by simpa using o),?_⟩
  have t:aD.countP (gK (.int m))=ns.count m:=by
   clear j d hs q
   induction ns generalizing aD with
   |nil=>cases aJ.zero c;rfl
   |cons k ns y=>
    cases c with
    |cons A f=>rw[List.countP_cons,E6,y _ f (by rw[Bb];intro z b;obtain⟨k,_,rfl⟩:=Av.mp b;rfl),Ru A rfl];rfl
  rw[Ca,t];exact⟨.int _,H,I.tok _,⟨_,Y⟩,q⟩
end L2
namespace PySem
section
variable{prog:GJ}{w:GQ}{K:Type}[DecidableEq K](knd:KeyKind prog w K)
inductive bB(h:Heap):List (List K)->List O->Prop
 |nil:bB h [] []
 |cons {k:List K} {a:Z} {ks:List (List K)} {vs:List O}:IsTupleKey knd h k a->bB h ks vs->bB h (k::ks) (.ref a::vs)
def bK(h:Heap)(ks:List (List K))(a:Z):Prop:=∃o items n,h.get? a=some o/\o.cls=.type "tuple"/\o.data=.seq items n/\bB knd h ks items.toList
variable{knd}
theorem bB.inj(b:bB knd h x vs)(a:bB knd h y vs):x=y:=by
 induction b generalizing y with
 |nil=>cases a;rfl
 |cons h1 _ d=>
  cases a with
  |cons h2 c=>rw[h1.inj h2,d c]
theorem bK.typeIs{s:GF}{ks:List (List K)}{a:Z}(x:bK knd s.heap ks a):s.TypeIs (.ref a) "tuple":=let ⟨o,_,_,ho,hc,_⟩:=x;⟨o,ho,hc⟩
theorem bK.inj(f:bK knd h x a)(e:bK knd h y a):x=y:=by obtain⟨o,aD,n,d,_,hd,hi⟩:=f;obtain⟨i,g,n2,c,_,b,iV⟩:=e;cases Option.some.inj (d.symm.trans c);rw[hd] at b;injection b with h1 _;subst h1;exact hi.inj iV
theorem bB.keeps{es ep}(b:h.get? d=some o)(hd:o.data=.dict es ep)(hs:Heap.SameBut d h h')(a:bB knd h x vs):bB knd h' x vs:=by
 induction a with
 |nil=>exact .nil
 |cons h1 _ c=>exact .cons (h1.keeps b hd hs) c
theorem bK.keeps{es ep}(x:bK knd h ks a)(f:h.get? d=some o)(hd:o.data=.dict es ep)(hs:Heap.SameBut d h h'):bK knd h' ks a:=by
 obtain⟨g,aD,n,b,j,c,hi⟩:=x;have i:a≠d:=λe=>by rw[e,f] at b;cases b;rw[hd] at c;cases c
 exact zJ g aD n ((hs.2 a i).trans b) j c (hi.keeps f hd hs)
def NP(knd:KeyKind prog w K)(ks:List (List K)):Int:=reduceHash (Builtin.Tuple.tupleHashOf (ks.map (tupleKeyHash knd)))
def MO(ks:List (List K)):Nat:=(ks.map λk=>k.length+1).sum+1
variable{A:GS}{E:O->GF->Prop}{s:GF}
theorem L9{ks:List (List K)}{a:Z}{Q:Int->GF->Prop}(l:A.units+1<cLine)(j:bK knd s.heap ks a)(h:Q (NP knd ks) { s with toks:=s.toks+MO ks }):
  GL (model prog w) A (pyHash (.ref a)) Q E s:=by
 have d:=j.typeIs;obtain⟨o,items,n,p,_,hd,hi⟩:=j;have m:A.units<cLine:=EK l;unfold pyHash
 first | unfold pyHashByItsType | skip
 first | refine GE (wpAny_cRoomFor_or (.inr m) ?_) | skip
 refine GE (wpAny_specialOf d F.slot_tuple_hash.lookup ?_);show GL _ _ (if (some (O.builtin "tuple.__hash__")==some O.none)=true then _ else _) Q E s;rw[G6 (by rw[beq_builtin_none];exact Ak)];refine GE (wpAny_specialOf d F.slot_tuple_hash.lookup ?_);show GL _ _ (callSpecialIfBoundUnlessNone? (.ref a) "__hash__" _ >>= _) Q E s;refine GE (wpAny_callSpecialIfBoundUnlessNone?_slot d F.slot_tuple_hash (wpAny_call_entry F.slot_tuple_hash d F.entry_tuple_hash ?_ (F.args_tuple_hash_1 _)));show GL _ _ (Builtin.Tuple.tupleItemsOf (.ref a) >>= _) _ _ s;refine GE (wpAny_tupleItemsOf p hd ?_);refine GE ?_;rw[<-Ey];refine wpAny_forIn_list _
  (λrest (b:Array Int) s'=>∃done left,ks=done++left/\bB knd s.heap left rest/\b.toList=done.map (tupleKeyHash knd)/\s'={ s with toks:=s.toks+(done.map λk=>k.length+1).sum })
  _ ?_ ?_ _ _ ⟨[],ks,Y,hi,Y,Y⟩
 ·rintro x rest b s' ⟨done,left,rfl,f,c,rfl⟩;cases f with
  |@cons k q i _ h1 g=>
   refine GE (wpAny_pyHash_tuple (knd:=knd) (s:={ s with toks:=s.toks+(done.map λk=>k.length+1).sum }) l h1 ?_)
   first
    |exact GK (zF (by simp) g (by simp[c]) (by simp[D7]))
    |exact GE (GK (GK ⟨done++[k],i,by simp,g,by simp[c],by simp[D7]⟩))
 ·rintro b s' ⟨done,left,rfl,f,c,rfl⟩;cases f;rw[AR] at h;show GL _ _ (retInt (Builtin.Tuple.tupleHashOf b.toList)) _ _ _;rw[c];refine wpAny_ret_mkInt ?_;show GL _ _ (if (decide (-(2:Int) ^ 63<=Builtin.Tuple.tupleHashOf (done.map (tupleKeyHash knd)))&&decide (Builtin.Tuple.tupleHashOf (done.map (tupleKeyHash knd))<2 ^ 63))=true then _ else _) Q E _;unfold NP reduceHash MO at h;by_cases e:(decide (-(2:Int) ^ 63<=Builtin.Tuple.tupleHashOf (done.map (tupleKeyHash knd)))&&decide (Builtin.Tuple.tupleHashOf (done.map (tupleKeyHash knd))<2 ^ 63))=true
  ·rw[G7 e];rw[G7 e] at h;exact GK (by simpa [D7] using h)
  ·rw[G6 e];rw[G6 e] at h;exact GE (wpAny_rule (GK (by simpa [D7] using h)))
theorem Pe{x y:List (List K)}{a b:Z}{P:Fin->GF->Prop}(Q:A.units<cLine)(R:bK knd s.heap x a)(q:bK knd s.heap y b)(h:P (.done (.ret (.bool (decide (x=y))))) s):
  GL (model prog w) A (Builtin.«tuple.__eq__» ⟨[.ref a,.ref b],[]⟩) P E s:=by
 have B:=q.typeIs;obtain⟨W,xs,S,C,_,z,G⟩:=R;obtain⟨U,ys,V,D,_,N,F⟩:=q;show GL _ _ (isInstance (.ref b) (.type "tuple") >>= _) _ _ s;refine GE (wpAny_isInstance B isSubtype_tuple_tuple ?_);simp only[Dd,Bz,if_false];refine GE (wpAny_tupleItemsOf C z ?_);refine GE (wpAny_tupleItemsOf D N ?_);refine GE ?_;refine wpAny_forIn_list _
  (λrest r s'=>r.1=none/\s'=s/\∃g f e d,rest=List.zip e d/\bB knd s.heap g e/\bB knd s.heap f d/\decide (g=f)=decide (x=y)/\(e.length==d.length)=(xs.size==ys.size))
  _ ?_ ?_ _ _ ⟨Y,Y,zH Y G F Y (by simp)⟩
 ·rintro⟨u,v⟩ rest r s' ⟨n,rfl,g,f,e,d,c,l,i,j,m⟩;cases l with
  |nil=>simp at c
  |@cons k1 d6 o d8 h1 L=>
   cases i with
   |nil=>simp at c
   |@cons k2 X p I h2 H=>
    simp only[Do,List.cons.injEq,Prod.mk.injEq] at c;obtain⟨⟨rfl,rfl⟩,rfl⟩:=c;refine GE (wpAny_eqBool_tuple (knd:=knd) (x:=k1) (y:=k2) Q h1 h2 ?_);by_cases k:k1=k2
    ·subst k;rw[decide_eq_true rfl];simp only[Dd,Bz,if_false];refine GK ⟨Y,Y,zH Y L H ?_ (by simpa using m)⟩;rw[<-j];by_cases t:o=p
     ·simp[t]
     ·simp[t]
    ·rw[decide_eq_false k];simp only[Bool.not_false,if_true];have d9:decide (x=y)=false:=by rw[<-j];simp[k]
     rw[d9] at h;exact GE (GK (GK (GK h)))
 ·rintro⟨d7,T⟩ s' ⟨n,rfl,g,f,e,d,c,l,i,j,m⟩;simp only at n;subst n;refine GK ?_;have M:(xs.size==ys.size)=decide (x=y):=by
   rw[<-j,<-m];cases l with
   |nil=>
    cases i with
    |nil=>simp
    |cons _ _=>simp
   |cons _ _=>
    cases i with
    |nil=>simp
    |cons _ _=>simp at c
  show P (.done (.ret (.bool (xs.size==ys.size)))) s'
  rwa [M]
theorem LV{x y:List (List K)}{a b:Z}{Q:Bool->GF->Prop}(g:A.units+1<cLine)(c:bK knd s.heap x a)(d:bK knd s.heap y b)(h:Q (decide (x=y)) s):
  GL (model prog w) A (eqBool (.ref a) (.ref b)) Q E s:=by
 unfold eqBool
 try with_reducible refine wpAny_holding ?_
 show GL _ _ (if (O.ref a==O.ref b)=true then _ else _) Q E s;by_cases f:(O.ref a==O.ref b)=true
 ·rw[G7 f];have e:a=b:=by have:=eq_of_beq f;injection this
  subst e;obtain rfl:=c.inj d;exact GE (wpAny_rule (GK (by simpa using h)))
 ·rw[G6 f];exact GE (wpAny_richCompare_same_room (op:=.Eq) c.typeIs d.typeIs F.slot_tuple_eq
   (wpAny_call_entry F.slot_tuple_eq c.typeIs F.entry_tuple_eq (Pe g c d ⟨_,Y,(λe=>nomatch e),G4 h⟩) (F.args_tuple_eq_2 _ _)) (EK g))
theorem Kt(m:Nat){Q:Bool->GF->Prop}(d:IsTupleKey knd s.heap ks a)(h:Q true s):GL (model prog w) A (eqIsQuiet (m+1) (.ref a)) Q E s:=by
 have c:=d.typeIs;obtain⟨o,items,n,g,_,hd,hi⟩:=d;unfold eqIsQuiet;refine GE (wpAny_specialOf c F.slot_tuple_eq.lookup ?_);show GL _ _ (isInstance (.ref a) (.type "tuple") >>= _) _ _ s;refine GE (wpAny_isInstance c isSubtype_tuple_tuple ?_);simp only[Dd,Bz,if_false];refine GE (wpAny_seqItems g hd ?_);refine GE ?_;show GL _ _ (forIn items _ _) _ _ s;rw[<-Ey];refine wpAny_forIn_list _ (λrest r s'=>r.1=none/\s'=s/\∀v∈rest,carriedByValue v=true) _ ?_ ?_ _ _ ⟨Y,Y,hi.byValue⟩
 ·rintro v rest r s' ⟨b,rfl,e⟩;rw[eqIsQuiet_byValue _ (e v AH)];refine GE (GK ?_);simp only[Dd,Bz,if_false];exact GK ⟨Y,Y,λu f=>e u (Aw _ f)⟩
 ·rintro⟨j,i⟩ s' ⟨b,rfl,_⟩;simp only at b;subst b;exact GK h
theorem K0{ks:List (List K)}{a:Z}{Q:Bool->GF->Prop}(e:bK knd s.heap ks a)(h:Q true s):GL (model prog w) A (eqIsQuiet 8 (.ref a)) Q E s:=by
 have c:=e.typeIs;obtain⟨o,items,n,g,_,hd,hi⟩:=e;unfold eqIsQuiet;refine GE (wpAny_specialOf c F.slot_tuple_eq.lookup ?_);show GL _ _ (isInstance (.ref a) (.type "tuple") >>= _) _ _ s;refine GE (wpAny_isInstance c isSubtype_tuple_tuple ?_);simp only[Dd,Bz,if_false];refine GE (wpAny_seqItems g hd ?_);refine GE ?_;show GL _ _ (forIn items _ _) _ _ s;rw[<-Ey];refine wpAny_forIn_list _ (λrest r s'=>r.1=none/\s'=s/\∃d,bB knd s.heap d rest) _ ?_ ?_ _ _ ⟨Y,Y,ks,hi⟩
 ·rintro v rest r s' ⟨b,rfl,d,f⟩;cases f with
  |cons h1 h2=>refine GE (Kt (knd:=knd) 6 h1 ?_);simp only[Dd,Bz,if_false];exact GK ⟨Y,Y,_,h2⟩
 ·rintro⟨j,i⟩ s' ⟨b,rfl,_⟩;simp only at b;subst b;exact GK h
end
def KS{K:Type}[DecidableEq K](knd:KeyKind prog w K):HeapKind prog w (List (List K)) where
 is:=bK knd
 hash:=NP knd
 draws:=MO
 room:=λA=>A.units+1<cLine
 inj:=λhx hy=>hx.inj hy
 keeps:=λx ho hd hs=>x.keeps ho hd hs
 pyHash:=λhu hk h=>L9 hu hk h
 eqBool:=λhu hx hy h=>LV hu hx hy h
 quiet:=λhk h=>K0 hk h
end PySem
namespace L2
def dP(H:Hp)(b:Z)(ks:List (List bF)):Prop:=∃bs:List Z,H b=some (.tup (bs.map V.ref))/\Paired (λ(c:Z) (k:List bF)=>H c=some (.tup (k.map kV))) bs ks
theorem dP.keeps(h:dP H b ks)(a:∀c ys,H c=some (.tup ys)->H' c=some (.tup ys)):dP H' b ks:=by obtain⟨bs,h1,h2⟩:=h;exact⟨bs,a _ _ h1,Paired.mapP h2 λ_ _ z=>a _ _ z⟩
abbrev VC:=List (List bF)×Z×O
def sE(P:GJ)(w:GQ)(a:Z)(xs:List VC)(h:Heap):Prop:=∃o es ep,h.get? a=some o/\o.ExactDict/\o.data=.dict es ep/\es.toList=xs.map (entryOfKey (KS (HJ P w)))
def Rs(P:GJ)(w:GQ)(a:Z)(xs:List VC):HO:=.ext (sE P w a xs)
abbrev KN(H:Hp):List (List (List bF)×V)->List VC->Prop:=Paired λp q=>p.1=q.1/\dP H q.2.1 p.1/\RelV p.2 q.2.2
structure DN(P:GJ)(w:GQ)(H:Hp)(a:Z)(aB:List (List (List bF)×V)):Prop where
 sz:aB.length<=GI
 ns:(a==G1)=false
 ex:∃xs,H a=some (Rs P w a xs)/\(xs.map (·.1)).Nodup/\KN H aB xs
section
variable{P:GJ}{w:GQ}{H H':Hp}{h:Heap}{a b:Z}{aB:List (List (List bF)×V)}{xs:List VC}
theorem DN.keep(d:DN P w H a aB)(b:∀φ,H a=some (.ext φ)->H' a=some (.ext φ))(e:∀c ys,H c=some (.tup ys)->H' c=some (.tup ys)):DN P w H' a aB:=by obtain⟨h1,h2,xs,g,f,h⟩:=d;exact⟨h1,h2,xs,b _ g,f,Paired.mapP h λ_ _ z=>⟨z.1,z.2.1.keeps e,z.2.2⟩⟩
theorem DN.is(d:DN P w H a aB):∃φ,H a=some (.ext φ):=let ⟨_,_,xs,h,_⟩:=d;⟨_,h⟩
theorem M8(ok:bU P w H h)(e:dP H b ks):(KS (HJ P w)).is h ks b:=by
 obtain⟨bs,e1,g⟩:=e;obtain⟨_,aD,r,o,h1,h2,n,l⟩:=(show aT P w H h b (.tup (bs.map V.ref)) from ok b _ e1);refine zJ o aD.toArray n h1 h2 l ?_;have j:∀{bs:List Z} {ks:List (List bF)} {aD:List O},Paired (λ(c:Z) (k:List bF)=>H c=some (.tup (k.map kV))) bs ks->aJ (bs.map V.ref) aD->bB (HJ P w) h ks aD:=by
  intro bs ks aD q
  induction q generalizing aD with
  |nil=>intro r;cases r;exact .nil
  |@cons c k cs ks a t i=>
   intro r;rw[An] at r;cases r with
   |cons f d=>cases f;exact .cons (Mq ok a) (i d)
 simpa using j g r
theorem Vv(ok:bU P w H h)(g:H a=some (Rs P w a xs))(f:(xs.map (·.1)).Nodup)(n:KN H aB xs):h.DictOfH (KS (HJ P w)) a xs:=by
 obtain⟨⟨o,es,ep,e1,j,i,d⟩,_⟩:=(show aT P w H h a (Rs P w a xs) from ok a _ g);refine zC e1 j i ⟨d,λx b=>?_,f⟩;have all:∀{l:List (List (List bF)×V)} {m:List VC},KN H l m->∀x∈m,(KS (HJ P w)).is h x.1 x.2.1:=by
  intro l m q
  induction q with
  |nil=>intro x b;exact nomatch b
  |@cons p q ps r c t k=>
   intro x b;rcases Aq.mp b with e | b
   ·subst e;exact M8 ok (by rw[<-c.1];exact c.2.1)
   ·exact k x b
 exact all n x b
theorem KN.val(r:KN H aB xs)(k:List (List bF)):cE (Ij aB k) ((atKey xs k).map (·.2)):=by
 induction r with
 |nil=>exact True.intro
 |@cons p q ps a h t d=>
  obtain⟨h1,_,h2⟩:=h;by_cases e:p.1=k
  ·have c:q.1=k:=h1.symm.trans e;have b:atKey (q::a) k=some q.2:=by simp[atKey,BR,c]
   rwa [Io e,b]
  ·have c:¬q.1=k:=λz=>e (h1.trans z);have b:atKey (q::a) k=atKey a k:=by simp[atKey,BR,c]
   rwa [Iq e,b]
theorem KN.repl(r:KN H aB xs)(k:List (List bF))(b:RelV y u):KN H (aB.map λa=>if a.1=k then (a.1,y) else a) (xs.map (putAt k u)):=by
 induction r with
 |nil=>exact .nil
 |@cons p q ps f h t c=>
  rw[An,An];refine .cons ?_ c;obtain⟨h1,h2,d⟩:=h;unfold putAt;by_cases e:p.1=k
  ·rw[G7 e,G7 (h1.symm.trans e)];exact⟨h1,h2,b⟩
  ·rw[G6 e,G6 (λz=>e (h1.trans z))];exact⟨h1,h2,d⟩
theorem KN.put(r:KN H aB xs)(k:List (List bF)){y:V}{u:O}(c:dP H b k)(a:RelV y u):KN H (IM aB k y) (storedH xs k b u):=by
 have e:(aB.any λd=>decide (d.1=k))=(atKey xs k).isSome:=by rw[KY,(r.val k).isSome_eq,Co]
 unfold IM storedH;rw[e];by_cases q:(atKey xs k).isSome=true
 ·rw[G7 q,G7 q];exact r.repl k a
 ·rw[G6 q,G6 q];exact Paired.snoc r ⟨Y,c,a⟩
theorem S7(e1:h.get? a=some o)(g:o.ExactDict)(e:o.data=.dict es ep)(b:es.toList=xs.map (entryOfKey (KS (HJ P w)))):aT P w H h a (Rs P w a xs):=⟨zJ o es ep e1 g e b,⟨o,e1⟩,λh1 h2 ⟨o,es,ep,d,f,c,i⟩ k=>zJ o es ep (k _ d) f c i⟩
end
variable{X:Cx}{o i value:GR}{pos pos':Pos}{td ty tv:TE}
def Zf(P:GJ)(w:GQ):TE:=λ_ H Q=>∀p o,H p=none->DN P w (aK H p o) p []->Q (.ref p) (aK H p o)
theorem WO:PE X (.Dict [] [] pos) (Zf X.prog X.w):=λaA s σ H Q I h=>by
 have b:aT X.prog X.w (aK H s.heap.objs.size (Rs X.prog X.w s.heap.objs.size [])) (s.heap.push { cls:=.type "dict",data:=.dict #[] }) s.heap.objs.size (Rs X.prog X.w s.heap.objs.size []):=S7 (Ap _ rfl) ⟨Y,Y,Y⟩ rfl rfl;exact wpAny_Dict_empty ⟨.ref s.heap.objs.size,_,I.laid (a:=s.heap.objs.size) (o:=Rs X.prog X.w s.heap.objs.size []) (t':=s.toks) (λ_ _ q=>Ac _ q) (Ag _) b,Y,h _ _ (I.hok.fresh (Ag _)) ⟨Az _,beq_eq_false_iff_ne.mpr (Ne.symm (AL I.big)),[],G9,Dq,.nil⟩⟩
def Zz(P:GJ)(w:GQ)(td ty:TE):TE:=λσ H Q=>td σ H λx H1=>ty σ H1 λy H2=>∃a b aB k v,x=.ref a/\y=.ref b/\DN P w H2 a aB/\dP H2 b k/\Ij aB k=some v/\Q v H2
theorem WW(F:X.A.units+2<cLine)(G:PE X o td)(hi:PE X i ty)(hs:Yp i):PE X (.Subscript o i pos) (Zz X.prog X.w td ty):=by intro aA s σ H Q I h;refine PM Dk.lookup hs (aW (G aA s σ H _ I h) λu n ⟨x,H1,D,t,m⟩=>aW (hi aA n σ H1 _ D m) λj d9 qQ=>?_);obtain⟨y,H2,c,B,a,b,aB,k,v,ex,C,g,E,w,q⟩:=qQ;subst ex C;obtain rfl:u=O.ref a:=t;obtain rfl:j=O.ref b:=B;obtain⟨z,hd,xs,e1,r,d⟩:=g;have dd:=Vv c.hok e1 r d;obtain⟨K,l,f⟩:=cE.some_of (v:=v) (o:=(atKey xs k).map (·.2)) (by rw[<-w];exact d.val k);obtain⟨p,e,A⟩:=Ba.mp l;refine⟨dd.typeIs,wpAny_getItem_heap F (M8 c.hok E) dd e ?_⟩;rw[A];exact⟨v,H2,c.tok _,f,q⟩
def WR(P:GJ)(w:GQ)(ty td:TE):TE:=λσ H Q=>ty σ H λy H1=>td σ H1 λx H2=>∃a b aB k,x=.ref a/\y=.ref b/\DN P w H2 a aB/\dP H2 b k/\Q (.bl (!(Ij aB k).isSome)) H2
theorem RD(p:X.A.units+2<cLine)(hi:PE X i ty)(j:PE X o td):PC X .NotIn i o (WR X.prog X.w ty td):=by intro aA s σ H Q I h;refine aW (hi aA s σ H _ I h) λe r ⟨y,H1,A,m,n⟩=>aW (j aA r σ H1 _ A n) λu B qQ=>?_;obtain⟨x,H2,c,l,a,b,aB,k,ex,v,g,f,t⟩:=qQ;subst ex v;obtain rfl:u=O.ref a:=l;obtain rfl:e=O.ref b:=m;obtain⟨z,hd,xs,e1,w,d⟩:=g;have dd:=Vv c.hok e1 w d;refine wpAny_notIn_heap p (M8 c.hok f) hd dd ?_;have q:=(d.val k).isSome_eq;rw[Co] at q;rw[<-q];exact⟨.bl _,H2,c.tok _,Y,t⟩
def mP(P:GJ)(w:GQ)(td ty tv:TE):TS:=λD σ H=>tv σ H λv H1=>td σ H1 λx H2=>ty σ H2 λy c=>∃a b aB k,x=.ref a/\y=.ref b/\DN P w c a aB/\dP c b k/\aB.length<GI ∧
 ∀o,DN P w (aK c a o) a (IM aB k v)->D.nx σ (aK c a o)
theorem WV(V:X.A.units+2<cLine)(W:PE X o td)(hi:PE X i ty)(T:PE X value tv)(hs:swapsWith value (some (.Subscript o i pos')) pos.line X.env=pure false):
  PS X (.Assign [.Subscript o i pos'] value pos) (mP X.prog X.w td ty tv):=by
 intro aA s σ H D I h;refine wpAny_Assign_Subscript (aW (T aA s σ H _ I h) λr E ⟨v,H1,R,S,C⟩=>aW (W aA E σ H1 _ R C) λu A ⟨x,H2,U,K,F⟩=>aW (hi aA A σ H2 _ U F) λw d6 qQ=>?_) hs;obtain⟨y,j,e,M,a,b,aB,k,ex,d8,g,m,l,B⟩:=qQ;subst ex d8;obtain rfl:u=O.ref a:=K;obtain rfl:w=O.ref b:=M;obtain⟨z,hd,xs,e1,G,d⟩:=g;have dd:=Vv e.hok e1 G d;have L:xs.length<=GI:=by rwa [<-Paired.length d]
 have P:(IM aB k v).length<=GI:=by have:=JQ aB k v;lia
 refine wpAny_setItem_heap (hsz:=L) V (M8 e.hok m) dd λh' t n=>?_;obtain⟨q,es,ep,f,h2,p,N,_,d9⟩:=t;have keep:∀c ys,j c=some (.tup ys)->(aK j a (Rs X.prog X.w a (storedH xs k b r))) c=some (.tup ys):=λc ys Q=>by rwa [Hf (Hq Q e1 (λz=>nomatch z))]
 exact⟨σ,_,Pi e (by rw[e1];exact True.intro) n ⟨q,f⟩ (S7 f h2 p N),B _ ⟨P,hd,_,G9,d9,Paired.mapP (d.put k m S) λ_ _ z=>⟨z.1,z.2.1.keeps keep,z.2.2⟩⟩⟩
end L2
namespace PySem.SeqAt
open PySem.AutoSeq1 (wpAny_loadPart')
open MeetsSeq MeetsSeq2 MeetsSeq3 SeqRoads2
theorem Pp(l:Z)(items:Array O)(n:Nat)(x:O)(e:O->Bool)(j:Nat)(o:j<items.size)(r:e items[j]=true)(k:Nat)(q:items.size<=GI):
  ∀i:Nat,j-i=k->i<=j->(∀m (p:m<items.size),i<=m->m<j->e items[m]=false)->Meets (Builtin.«list.remove.loop» ⟨[.ref l,x,rawInt i],[]⟩)
   (λA R s=>s.heap.get? l=some { cls:=.type "list",dict:=none,data:=.seq items n,slots:=#[] }/\(∀y,y∈items->EqAt A.in1 s y x (e y))/\R (.ok (.ret .none)) { s with heap:=s.heap.update l (Obj.mapSeq λxs=>xs.eraseIdxIfInBounds j) }):=by
 induction k with
 |zero=>
  intro i u B f prog w A R s h;obtain⟨z,g,d,tk,os⟩:=s;obtain⟨a,b,h⟩:=h;have t:i=j:=by lia
  subst t
  wp_walk using wpAny_loadPart' a
  have hi:items[((i:Nat):Int).toNat]?=some items[i]:=by simp[o]
  rw[hi];refine GE (b _ (F9 o) prog w _ _ ?_);rw[r];have v:(items.eraseIdxIfInBounds i).size<=GI+1:=AE (size_erased items _) (EL q)
  wp_walk using (wpAny_updateSeq a rfl (hz:=q) (_hz':=v)),wpAny_loadPart' a
  simpa using h
 |succ k C=>
  intro i u B f prog w A R s h;obtain⟨z,g,d,tk,os⟩:=s;obtain⟨a,b,h⟩:=h;have c:i<items.size:=by lia
  wp_walk using wpAny_loadPart' a
  have hi:items[((i:Nat):Int).toNat]?=some items[i]:=by simp[c]
  have D:((i:Int)+1)=((i+1:Nat):Int):=by push_cast;rfl
  rw[hi];refine GE (b _ (F9 c) prog w _ _ ?_);rw[f i c (Ag _) (by lia)]
  wp_walk
  rw[D];exact⟨plainId_quiet plain_remove_loop _,codeAny_builtin entry_remove_loop (by rw[GS.under_plainId plain_remove_loop _];exact C (i+1) (by lia) (by lia) (λm p h1 h2=>f m p (by lia) h2) prog w A R _ ⟨a,b,h⟩)⟩
theorem list_removeT(l:Z)(items:Array O)(n:Nat)(x:O)(e:O->Bool)(j:Nat)(c:j<items.size)
  (hit:e items[j]=true) (hno:∀m (a:m<items.size),m<j->e items[m]=false) (hs1:items.size<=GI):
  Meets (Builtin.«list.remove» ⟨[.ref l,x],[]⟩)
   (λA R s=>s.heap.get? l=some { cls:=.type "list",dict:=none,data:=.seq items n,slots:=#[] }/\(∀y,y∈items->EqAt A.in1 s y x (e y))/\R (.ok (.ret .none)) { s with heap:=s.heap.update l (Obj.mapSeq λxs=>xs.eraseIdxIfInBounds j) }):=by
 intro prog w A R s h;obtain⟨i,g,d,tk,os⟩:=s;obtain⟨b,f,h⟩:=h
 wp_walk using wpAny_loadPart' b
 exact⟨plainId_quiet plain_remove_loop _,codeAny_builtin entry_remove_loop (by rw[GS.under_plainId plain_remove_loop _];exact Pp l items n x e j c hit _ hs1 0 rfl (Az _) (λm a _ h2=>hno m a h2) prog w A R _ ⟨b,f,h⟩)⟩
end PySem.SeqAt
namespace L2
abbrev fU(H:Hp):List Z->List (List bF)->Prop:=Paired λ(c:Z) (k:List bF)=>H c=some (.tup (k.map kV))
noncomputable def Pc (H:Hp) (k:List bF) (u:O):Bool:=@decide (∃c,u=.ref c/\H c=some (.tup (k.map kV))) (Classical.propDecidable _)
theorem LO(h:H c=some (.tup (kc.map kV))):Pc H k (.ref c)=decide (kc=k):=by
 unfold Pc;by_cases e:kc=k
 ·rw[decide_eq_true e];exact @decide_eq_true _ (Classical.propDecidable _) ⟨c,Y,e ▸ h⟩
 ·rw[decide_eq_false e];refine @decide_eq_false _ (Classical.propDecidable _) λqQ=>?_;obtain⟨b,e1,a⟩:=qQ;cases e1;rw[h] at a;injection a with a;injection a with a;exact e (Th a)
section
variable{X:Cx}{aA:List (Z×Obj)}{σ:St}{H:Hp}{s:GF}
theorem OC{A:GS}{c d:Z}{k1 k2:List bF}(I:Inv X aA σ H s)(k:A.units<cLine)(h1:H c=some (.tup (k1.map kV)))(h2:H d=some (.tup (k2.map kV))):SeqAt.EqAt A s (.ref c) (.ref d) (decide (k1=k2)):=by intro prog w E Q a;obtain⟨_,aD,r,o,e1,l,n,j⟩:=(show aT X.prog X.w H s.heap c (.tup (k1.map kV)) from I.hok c _ h1);obtain⟨_,f,b,i,e,h,n2,g⟩:=(show aT X.prog X.w H s.heap d (.tup (k2.map kV)) from I.hok d _ h2);exact wpAny_eqBool_tuple (knd:=HJ prog w) k (zJ o aD.toArray n e1 l j (by simpa using Jw r)) (zJ i f.toArray n2 e h g (by simpa using Jw b)) a
theorem fU.vals(q:fU H cs ks):∀{aD:List O},aJ (cs.map V.ref) aD->∀u∈aD,∃c b,u=.ref c/\b∈ks/\H c=some (.tup (b.map kV)):=by
 induction q with
 |nil=>intro aD r;cases r;exact λu a=>nomatch a
 |@cons c k cs ks d t i=>
  intro aD r u a;rw[An] at r;cases r with
  |cons j e=>
   cases j;rcases Aq.mp a with rfl | a
   ·exact⟨c,k,Y,.head _,d⟩
   ·obtain⟨f,b,e1,h,g⟩:=i e u a;exact⟨f,b,e1,.tail _ h,g⟩
theorem fU.any(q:fU H cs ks):∀{aD:List O},aJ (cs.map V.ref) aD->aD.any (Pc H k)=ks.any λx=>decide (x=k):=by
 induction q with
 |nil=>intro aD r;cases r;rfl
 |@cons c k2 cs ks b t d=>
  intro aD r;rw[An] at r;cases r with
  |cons a e=>cases a;rw[BD,d e,LO b,BD]
theorem fU.first(q:fU H cs ks):∀{aD:List O},aJ (cs.map V.ref) aD->(ks.any λx=>decide (x=k))=true->∃(j:Nat) (f:j<aD.length),Pc H k aD[j]=true/\(∀m (d:m<aD.length),m<j->Pc H k aD[m]=false)/\fU H (cs.eraseIdx j) (ks.eraseP λx=>decide (x=k)):=by
 induction q with
 |nil=>intro aD r h;cases h
 |@cons c k2 cs ks b t n=>
  intro aD r h;rw[An] at r;cases r with
  |@cons _ _ s p o g=>
   cases o;by_cases e:k2=k
   ·subst e;refine⟨0,Nat.succ_pos _,by rw[Fu,LO b,decide_eq_true rfl],λm d a=>absurd a (Bo _),?_⟩
    rwa [Fj (by simp)]
   ·obtain⟨j,f,e1,l,i⟩:=n g (by rwa [BD,decide_eq_false e,Gz] at h);refine⟨j+1,Nat.succ_lt_succ f,by rwa [Fv],λm d a=>?_,?_⟩
    ·cases m with
     |zero=>rw[Fu,LO b,decide_eq_false e]
     |succ m=>rw[Fv];exact l m (Fy d) (Fy a)
    ·rw[Fk (by simpa using e)];exact .cons b i
end
theorem LU{a β:Type}(f:a->β):∀(l:List a) (i:Nat),(l.eraseIdx i).map f=(l.map f).eraseIdx i
 |[],_=>rfl
 |_::_,0=>rfl
 |x::l,i+1=>by show f x::(l.eraseIdx i).map f=f x::(l.map f).eraseIdx i;rw[LU f l i]
section
variable{X:Cx}{a b:GR}{ta tb:TE}
def pO(ta tb:TE):TE:=λσ H Q=>ta σ H λx H1=>tb σ H1 λy H2=>∃d l cs k ks,x=.ref d/\y=.ref l/\H2 d=some (.tup (k.map kV))/\H2 l=some (.lst (cs.map V.ref))/\fU H2 cs ks/\Q (.bl (ks.any λx=>decide (x=k))) H2
theorem ZF(E:X.A.units+1<cLine)(m:PE X a ta)(j:PE X b tb):PC X .In a b (pO ta tb):=by
 intro aA s σ H Q I h;refine aW (m aA s σ H _ I h) λo t ⟨y,H1,D,A,q⟩=>aW (j aA t σ H1 _ D q) λu G qQ=>?_;obtain⟨x,H2,f,w,d,l,cs,k,ks,ex,C,p,gl,g,v⟩:=qQ;subst ex C;obtain rfl:o=O.ref d:=A;obtain rfl:u=O.ref l:=w;obtain⟨z,aD,n,r,d9,e⟩:=f.lstM gl;refine SeqAt.in_listAt (Pc H2 k) ⟨_,e,Y,n,Y⟩ (λy B=>?_) ?_
 ·obtain⟨c,F,rfl,_,i⟩:=g.vals r y (by simpa using B);rw[LO i];exact OC f E i p
 ·rw[show aD.toArray.any (Pc H2 k)=aD.any (Pc H2 k) by simp,g.any r];exact⟨.bl _,H2,f,Y,v⟩
def pJ:V->List V->Hp->VK->Prop:=λx vs H Q=>∃l d cs k ks,x=.ref l/\vs=[.ref d]/\H l=some (.lst (cs.map V.ref))/\H d=some (.tup (k.map kV))/\fU H cs ks/\(ks.any λx=>decide (x=k))=true/\∀a,fU H a (ks.eraseP λx=>decide (x=k))->Q .non (aK H l (.lst (a.map V.ref)))
theorem W2(C:X.A.units+1<cLine):kN X "list.remove" pJ:=by
 intro aA s σ H x vs v F Q I w o h;obtain⟨l,d,cs,k,ks,rfl,rfl,f,hd,b,a,q⟩:=h;cases w;obtain⟨u,rfl,p⟩:=o.one;cases p;obtain⟨z,aD,n,r,E,e⟩:=I.lstM f;obtain⟨j,t,e1,D,B⟩:=b.first r a
 refine call_meets E9 ⟨_,e,Y⟩ PySem.F.entry_list_remove (PySem.F.args_list_remove_2 _ _)
  (SeqAt.list_removeT l aD.toArray n (.ref d) (Pc H k) j (by simpa using t) (by simpa using e1) (λm a i=>by simpa using D m (by simpa using a) i) (by rw[Am];lia)) ⟨e,λy A=>?_,?_⟩
 ·obtain⟨c,G,rfl,_,g⟩:=b.vals r y (by simpa using A);rw[LO g];exact OC I C g hd
 ·refine⟨.non,_,I.lset (its':=aD.eraseIdx j) f e ?_ (r.eraseIdx j) ?_,Y,?_⟩
  ·show aD.toArray.eraseIdxIfInBounds j=(aD.eraseIdx j).toArray;rw[List.eraseIdxIfInBounds_toArray]
  ·have:=O8 (cs.map V.ref) j
   lia
  ·have:=q (cs.eraseIdx j) B
   rwa [LU] at this
def qF:R2:=λx y H Q=>∃a b xs,x=.ref a/\y=.ref b/\H a=some (.lst xs)/\H b=some (.lst [])/\Q (.bl (!xs.isEmpty)) H
theorem Zn(g:X.A.units<cLine):dC X (compareOp .NotEq) qF:=by
 intro aA s σ H x y v u Q I l m h;obtain⟨a,b,xs,rfl,rfl,i,k,q⟩:=h;cases l;cases m;obtain⟨_,aD,n,r,w,e⟩:=I.lstM i;obtain⟨_,p,n2,c,t,o⟩:=I.lstM k;cases c;have f:s.heap.IsList a aD.toArray:=⟨_,e,Y,n,Y⟩;have d:s.heap.IsList b ([]:List O).toArray:=⟨_,o,Y,n2,Y⟩;cases r with
 |nil=>refine SeqAt.RcNeAt.lists (e:=λ_=>true) f d rfl g (λj h1=>absurd h1 (Bo _)) X.prog X.w X.xe _ ?_;exact⟨.bl false,H,I,Y,q⟩
 |cons z c=>refine SeqAt.RcNeAt.lists_lengths f d rfl g X.prog X.w X.xe _ ?_;exact⟨.bl true,H,I,Y,q⟩
end
variable{X:Cx}
def sL(K:G5):R2:=λx y H Q=>∃a b xs ys,x=.ref a/\y=.ref b/\aQ K H a xs/\aQ K H b ys/\(xs≠[]\/ys≠[])/\xs.length+ys.length<=GI/\∀(p:Z) (H':Hp),aG H H'->aQ K H' p (xs++ys)->Q (.ref p) H'
theorem Yk:dC X (binaryOp .Add) (sL X.K):=by
 intro aA s σ H x y v u Q I f i h;obtain⟨a,b,xs,ys,rfl,rfl,d,e,hn,g,q⟩:=h;by_cases c:xs=[]
 ·have k:ys≠[]:=hn.resolve_left λz=>z c;exact SZ aA s σ H _ _ v u Q I f i (zH Y Y d e ⟨k,g,λ_=>q b H (aG.refl _) (by rwa [c,EX]),λz=>absurd c z⟩)
 ·exact PJ aA s σ H _ _ v u Q I f i (zH Y Y d e ⟨c,g,λz=>q a H (aG.refl _) (by rwa [z,AR]),λ_ p j=>q p _ (Lu.aF j) (aQ.of G9)⟩)
end L2
namespace Lu
open L2 Lute LuR LuW LuG
theorem QG(m:Nat):∀fs:List Nat,(fs.map λn:Nat=>(n:Int)).count (m:Int)=fs.count m
 |[]=>rfl
 |x::fs=>by
  rw[An,E6,E6,QG m fs];congr 1;by_cases e:x=m
  ·subst e;simp
  ·have:¬(x:Int)=(m:Int):=λz=>e (D8.mp z);simp[e,this]
def Ox(fs od:List Nat)(n:Nat):List (List Nat):=(Ay n).flatMap λa=>if fs.length-a<4 then (UP.getD (fs.length-a) []).map λu=>fR od (Ar a 1++u) fs.length else []
theorem Tt(fs od:List Nat)(n:Nat):Ox fs od (n+1)=Ox fs od n++(if fs.length-n<4 then (UP.getD (fs.length-n) []).map λu=>fR od (Ar n 1++u) fs.length else []):=by unfold Ox;rw[Gq,List.flatMap_append,List.flatMap_singleton]
theorem Xg(fs od:List Nat)(m:Nat):iE fs od m=Ox fs od (fs.count m+1):=rfl
theorem VA(h:fs.length<=14)(hn:n<=fs.length+1):(Ox fs od n).length<=8:=by
 have e:(Ox fs od n).length=((Ay n).map λa=>if fs.length-a<4 then (UP.getD (fs.length-a) []).length else 0).sum:=by
  unfold Ox;rw[CJ];congr 1;refine BG λa _=>?_;split
  ·rw[Ab]
  ·rfl
 rw[e];have b:∀n,n<15->∀c,c<n+2->((Ay c).map λa=>if n-a<4 then (UP.getD (n-a) []).length else 0).sum<=8:=by decide
 exact b _ (by lia) _ (by lia)
theorem rH(o:Nat):(UP.getD o []).length<=3:=by
 match o with
 |0=>decide
 |1=>decide
 |2=>decide
 |3=>decide
 |o+4=>simp[UP]
theorem WA(a b:List Nat):nV (a++b)=nV a++nV b:=AM
theorem WE:∀a:Nat,Ar a (V.int 1)=nV (Ar a 1)
 |0=>rfl
 |a+1=>by rw[Bf,Bf,WE a];rfl
def ZN(s:GU):GR:=match HM s with
 |.Assign _ (.Call _ _ [⟨_,e,_⟩] _) _::_=>e
 |_=>.Constant .none 0 ⟨0,0,0,0⟩
def Z8(e:GR):Pos:=match e with
 |.Lambda _ _ _ p=>p
 |_=>⟨0,0,0,0⟩
def cV(H:Hp)(q:Z)(l:List (List Nat)):Prop:=∃bs:List Z,H q=some (.lst (bs.map V.ref))/\bs.length=l.length/\∀(i:Nat) (b:Z) (g:List Nat),bs[i]?=some b->l[i]?=some g->H b=some (.tup (nV g))
theorem cV.same(h:cV H q l)(s:aG H H'):cV H' q l:=by obtain⟨bs,h1,h2,d⟩:=h;exact⟨bs,s _ _ h1,h2,λi b g c a=>s _ _ (d i b g c a)⟩
theorem cV.snoc(h:cV H q l)(e:H q=some (.lst xs))(f:H b=some (.tup (nV g))):cV (aK H q (.lst (xs++[.ref b]))) q (l++[g]):=by
 obtain⟨bs,h1,h2,k⟩:=h;rw[h1] at e;cases e;refine⟨bs++[b],by rw[G9,AM];rfl,by rw[Ad,Ad,h2];rfl,λi c g2 a d=>?_⟩;have j:H c=some (.tup (nV g2)):=by
  by_cases hi:i<bs.length
  ·rw[AC hi] at a;rw[AC (by lia)] at d;exact k i c g2 a d
  ·rw[Ax (by lia)] at a;rw[Ax (by lia)] at d;have m:i-bs.length=0:=by
    have:=(Al.mp a).1;simp at this
    lia
   rw[m] at a;rw[show i-l.length=0 by lia] at d;cases a;cases d;exact f
 rwa [Hf (Hq j h1 aO)]
structure lA(K:G5)(mg:Str->Option O):Prop where
 ex:∃(u:Z) (us:List Z),bY mg "UPPER_FINGERS" (.ref u)/\(∀H,aQ K H u (us.map V.ref))/\us.length=4/\∀(i:Nat) (a:Z),us[i]?=some a->∃ts:List Z,(∀H,aQ K H a (ts.map V.ref))/\ts.length=(UP.getD i []).length/\∀(j:Nat) (t:Z),ts[j]?=some t->∀H,aQ K H t (nV ((UP.getD i []).getD j []))
theorem aQ.kb{K:G5}{H H':Hp}{a Pt:Z}{xs:List V}{ps:Array O}(h:aQ K H a xs)(k:aR Pt H H')(b:H Pt=some (.tbl ps)):aQ K H' a xs:=by
 rcases h with (h | ⟨o,h⟩) | h
 ·exact .inl (.inl (k _ _ h (Hq h b aO)))
 ·exact .inl (.inr ⟨o,k _ _ h (Hq h b aO)⟩)
 ·exact .inr h
theorem aQ.ovl{K:G5}{H:Hp}{a:Z}{xs:List V}{cs:List (Z×Obj)}(h:aQ K H a xs)(n:∀c o,cs.lookup c=some o->H c=none):aQ K (L2.dF H cs) a xs:=by
 rcases h with (h | ⟨o,h⟩) | h
 ·exact .inl (.inl (Ie n h))
 ·exact .inl (.inr ⟨o,Ie n h⟩)
 ·exact .inr h
theorem aQ.unt{K:G5}{H:Hp}{a:Z}{xs:List V}{cs:List (Z×Obj)}(h:aQ K H a xs)(b:∀c o,cs.lookup c=some o->H c=some (fz o)):aQ K (L2.dO H cs) a xs:=by
 rcases h with (h | ⟨o,h⟩) | h
 ·exact .inl (.inl (Ix b h (λ_ z=>by cases z)))
 ·exact .inl (.inr ⟨o,Ix b h (λ_ z=>by cases z)⟩)
 ·exact .inr h
theorem aM.tbl(h:aM Pt pos qual H):∃ps,H Pt=some (.tbl ps):=by rcases h with h | ⟨_,_,_,_,h,_⟩ <;> exact⟨_,h⟩
theorem aM.same(h:aM Pt pos qual H)(s:aG H H'):aM Pt pos qual H':=by
 rcases h with h | ⟨b,a,vs,t,h1,h2,c⟩
 ·exact .inl (s _ _ h)
 ·exact .inr (zQ (s _ _ h1) (s _ _ h2) c)
theorem aM.upd(h:aM Pt pos qual H)(b:H a=some (.lst xs)):aM Pt pos qual (aK H a (.lst ys)):=by
 rcases h with h | ⟨d,c,vs,t,h1,h2,e⟩
 ·exact .inl (by rwa [Hf (Hq h b aO)])
 ·exact .inr (zQ (by rwa [Hf (Hq h1 b aO)]) (by rwa [Hf (Hq h2 b aO)]) e)
theorem aG.but(s:aG H H'):aR Pt H H':=λb o h _=>s b o h
theorem aR.trans(a:aR Pt H H1)(b:aR Pt H1 H2):aR Pt H H2:=λc o h n=>b c o (a c o h n) n
abbrev Qu:GR:=ZN bH
def aX(Pt:Z)(H:Hp):Prop:=aM Pt (Z8 Qu) "fingerings.<locals>.<lambda>" H
def ZP(K:G5)(Pt:Z):Sp:=λvs H Q _=>∃(pf:Z) (fs:List Nat),vs=[.ref pf]/\H pf=some (.tup (nV fs))/\1<=fs.length/\fs.length<=14/\aX Pt H ∧
 ∀(H':Hp) (q:Z) (od:List Nat) (m:Nat),aR Pt H H'->aX Pt H'->H q=none->Od fs od->m∈fs->(∀x∈fs,m<=x)->cV H' q (iE fs od m)->Q (.ref q) H'
variable{P:GJ}{w:GQ}{K:G5}{mg:Str->Option O}{base:Heap}{C:Z}
def mM:List Str:=["frets","order","found","first_fingers","others","upper"]
theorem Tq:aH mM ["frets"] (Hj bH):=HZ
theorem oA:dB ["k","frets"] ["k"] (M0 Qu):=⟨Y,Y,Y,by decide,Y,by decide,by decide,by decide⟩
theorem Zi:∀y∈(M0 Qu).names,y.2=.free->(Hj bH).names.lookup y.1=some .cell:=by decide
theorem Y8:∀x,(x,GV.free)∈(M0 Qu).names->x="frets":=by
 have:∀y∈(M0 Qu).names,y.2=.free->y.1="frets":=by decide
 exact λx a=>this _ a rfl
theorem mT(F:fA K "fingerings" "fingerings" bH f fd c Pt)(BM:PR base mg)(zs:mg "sorted"=none)(zr:mg "range"=none)(zl:mg "len"=none)(zm:mg "min"=none)(U:lA K mg)(DB:bQ P w K mg base C 1 "by_courses" ["order","fingers"] (mB K)):
  aN P w K mg base (aS P w C) 5 f fd ["frets"] (ZP K Pt):=by
 refine F.okT Tq (λvs H Q E h=>?_) (λA outer s H vs Q E hr h=>?_)
 ·obtain⟨_,_,rfl,_⟩:=h;rfl
 ·obtain⟨pf,fs,rfl,W,h1,bd,hT,k⟩:=h;have hf:aQ K H pf (nV fs):=aQ.of W;obtain⟨u,us,cU,hu,bp,bo⟩:=U.ex;refine⟨_,He (bG 1 Tq.nd (VU (C:=C) (k:=2) (L:=[("frets",0)]) hr.in1.in1 hr.hd zs (G8 (qZ (by rfl) zr (G8 (HE HF (by rfl) zl PySem.boot_len (G8 (J 0) Hg)) Hg)) Hg)
    (YB (qual:="fingerings.<locals>.<lambda>") rfl F.hd BM rfl (λy B e=>L0 (Zi y B e)))))
   (He (bG 2 Tq.nd (Iw Hg))
   (He (IX Jn rfl (TZ (by rfl) zr (G8 (HH IU (JS PySem.F.plainAttrs_tuple E8 PySem.F.type_tuple_count Yy (J 0) (G8 (HE (X5 rfl) (by rfl) zm (show G3 "min"=some (.builtin "min") by decide) (G8 (J 0) Hg)) Hg)) Hm) Hg)) (cM 3 Tq.nd)
    (He (bG 4 Tq.nd (HH JX (HE HF (by rfl) zl PySem.boot_len (G8 (J 0) Hg)) (J 3)))
    (Hh (HG (Hs S5 (J 4) (HE HF (by rfl) zl PySem.boot_len (G8 (Hr cU) Hg)) (Hw _))
     (Hh (IX Jn rfl (Wn (IL JB (Hr cU) (J 4) (λ_ _=>rfl))) (cM 5 Tq.nd)
      (Hh (Hv (JS AO AV AU Iu (J 2) (G8 (HL DB hr.mono rfl (G8 (J 1) (G8 (HH Yk (HH Ym (Ik (G8 Hm Hg)) (J 3)) (J 5)) Hg))) Hg)))))) Hu))))
   (Hh (Hx (J 2))))),?_⟩
  have ar:(nV fs).length=fs.length:=Ab ..;obtain⟨b2,aa⟩:=aM.tbl hT;refine zA Y (zB Y (.inr hf) (zA Y (λp hp=>?_)));rw[ar];have X:=aF (o:=.rng 0 (fs.length:Int)) hp;have bc:p≠Pt:=λz=>by rw[z,aa] at hp;cases hp
  refine zE Y (aM.same hT X) (λlf H2 kb M d8=>zA Y (zT p fs.length (λi=>(((fs.getD i 0:Nat):Int),-((i:Nat):Int))) Y ⟨kb _ _ G9 bc,by lia,λy i B=>?_,λi hi H1 d9 cs d7=>?_,λr od H' az aq d9 ag an=>?_⟩))
  ·have e:=Ai.mp B;cases e;exact⟨Y,Y,Y,_,Y⟩
  ·have nz:∀c o,cs.lookup c=some o->H1 c=none:=λc o e=>(d7.free c o e).1;have LA:=YR (P:=P) (w:=w) (K:=K) (mg:=mg) (base:=base) (C:=C) (N:=["k","frets"]) (ps:=["k"]) (fr:=[.ref pf]) (d8.on (eE.of d9)) d7 (λx hx=>⟨0,.ref pf,by rw[Y8 x hx];exact Ai.mpr rfl,Y⟩) oA rfl (λj x v e1 D=>by
     cases j with
     |zero=>cases e1;cases D;exact⟨0,Ai.mpr rfl,Y⟩
     |succ j=>simp at e1) (λcl pm cd br=>YQ λ_=>rfl)
   have a4:aQ K (L2.dF H1 cs) pf (nV fs):=aQ.ovl (d9.tup (aQ.kb (X.tup hf) kb (X _ _ aa))) nz;refine⟨λvs H' Q' E'=>vs=[.int (i:Nat)]/\aQ K H' pf (nV fs)/\∀(q:Z) (ab:Hp),aG H' ab->ab q=some (.tup [.int ((fs.getD i 0:Nat):Int),.int (-((i:Nat):Int))])->Q' (.ref q) ab,LA.run 1 _ (λvs H' Q' E' h=>by obtain⟨rfl,_⟩:=h;rfl) λcd cl A' bx s' H' vs Q' E' hF bv bb=>?_,Y,a4,λq ab bm hq fr=>⟨⟨q,Y,Ix fr hq (λ_ z=>by cases z)⟩,λb o d=>?_⟩⟩
   ·obtain⟨rfl,ai,kq⟩:=bb;have ax:=λc o (e:cs.lookup c=some o)=>hF c _ _ (K9 e);refine⟨_,Ik (G8 (IL JB (J 1) (J 0) (λ_ _=>rfl)) (G8 (QA Oo (J 0)) Hg)),?_⟩;have a6:(nV fs)[i]?=some (.int ((fs.getD i 0:Nat):Int)):=by rw[Ah,Ae,Aa hi];rfl
    refine zA Y (zA Y (zH Y Y (aQ.unt ai ax) (Jo rfl a6) (zA Y (zE Y (by show 2<=GI;decide) (λq hq nn=>?_)))));have qc:cs.lookup q=Option.none:=by
     cases z:cs.lookup q with
     |none=>rfl
     |some S=>have:=nn q S z;rw[G9] at this;cases this
    refine kq q _ (λb o d=>?_) (by rw[HX qc];exact G9);cases z:cs.lookup b with
    |some S=>rwa [K9 z,<-ax b S z]
    |none=>
     have bi:b≠q:=λe=>by
      have:L2.dO H' cs b=some o:=by rwa [HY z]
      rw[e,hq] at this;cases this
     rwa [HX z,Hf bi,HY z]
   ·have bt:=bm b o (Ie nz d);cases z:cs.lookup b with
    |none=>rwa [HY z]
    |some S=>rw[nz b S z] at d;cases d
  ·have bh:od.Nodup:=az.nodup_iff.mpr EQ;have aj:Od fs od:=⟨az,(aq.and bh).imp λ{a b} h=>by
    have h1:=h.1;have h2:=h.2;unfold jF at h1;dsimp only at h1
    lia⟩
   have ap:=aj.len;have k0:aR Pt H H':=aR.trans (aR.trans (aG.but X) kb) (aG.but d9);have as:aX Pt H':=aM.same M d9;have ai:aQ K H' pf (nV fs):=aQ.kb hf k0 aa;have bw:H r=Option.none:=by
    cases z:H r with
    |none=>rfl
    |some o=>
     have ah:r≠Pt:=λe=>by obtain⟨bk,D⟩:=aM.tbl M;rw[<-e,ag] at D;cases D
     have:=aR.trans (aG.but X) kb r o z ah;rw[ag] at this;cases this
   clear aq d9 ag;refine⟨Az _,λl ae=>?_⟩;have T:=aF (o:=.lst []) ae;have eN:nV fs=(fs.map λn:Nat=>(n:Int)).map V.int:=by rw[A8];rfl
   have al:aQ K (aK H' l (.lst [])) pf ((fs.map λn:Nat=>(n:Int)).map V.int):=by rw[<-eN];exact T.tup ai
   have bn:H' pf=some (.tup (nV fs)):=k0 _ _ W (Hq W aa aO);refine zE Y (.inr (.inl ⟨Y,.inr ⟨_,T _ _ bn⟩⟩)) (zA Y (zF Y al (by rw[Ab];lia) (λmi ba be=>zC Y Y al ?_)));obtain⟨m,hm,rfl⟩:=Av.mp ba;have bf:∀x∈fs,m<=x:=λx hx=>by
    have:=be _ (FQ hx)
    lia
   have a1:=QG m fs;rw[a1];have bz:fs.count m<=fs.length:=Et;refine zB Y Y ⟨_,Y,by lia,by lia,?_⟩;rw[show(((fs.count m:Nat):Int)+1).toNat=fs.count m+1 by lia];have ay:H l=Option.none:=by
    cases z:H l with
    |none=>rfl
    |some o=>
     have ah:l≠Pt:=λe=>by obtain⟨bk,D⟩:=aM.tbl as;rw[<-e,ae] at D;cases D
     have:=k0 l o z ah;rw[ae] at this;cases this
   have a0:r≠l:=Hk an ae;refine OY (λa σ H1=>∃v3 v4 G:Option V,σ=[some (.ref pf),some (.ref r),some (.ref l),v3,v4,G]/\aR Pt H H1/\aX Pt H1/\H1 r=some (.lst (nV od))/\cV H1 l (Ox fs od a)) (zN Y (aR.trans k0 (aG.but T)) (aM.same as T) (T _ _ an) ⟨[],G9,Y,λi b g d=>by simp at d⟩) ?_ ?_
   ·rintro a σ H1 ha ⟨v3,v4,G,rfl,k1,ad,ak,hF⟩;have a3:H1 pf=some (.tup (nV fs)):=k1 _ _ W (Hq W aa aO);refine zA Y (zB Y (.inr (aQ.of a3)) (zA Y (zB Y Y ?_)));show IF 4 (V.int (((nV fs).length:Int)-(0+(a:Int)))) _ _ _;rw[ar,show((fs.length:Nat):Int)-(0+(a:Int))=((fs.length-a:Nat):Int) by lia,show(0+(a:Int))=((a:Nat):Int) by lia];refine zA Y (zB Y (.inr (hu _)) (zB Y Y (zA Y ?_)));rw[Ab,bp,Tt];refine HN (λh=>?_) λh=>?_
    ·have h4:fs.length-a<4:=by have:=of_decide_eq_true h;lia
     rw[G7 h4];have ao:us[fs.length-a]?=some (us[fs.length-a]'(by lia)):=Aa _;obtain⟨ts,ht,am,a5⟩:=bo _ _ ao;generalize us[fs.length-a]'(by lia)=ua at *;refine zA Y (zH Y Y (hu _) (Mm (by rw[Ah,ao];rfl)) (zE Y ⟨_,ht _⟩ (SW (K:=K) (a:=ua) (xs:=ts.map V.ref) (λj σ H2=>∃G:Option V,σ=[some (.ref pf),some (.ref r),some (.ref l),some (.int ((a:Nat):Int)),some (.int ((fs.length-a:Nat):Int)),G]/\aR Pt H H2/\aX Pt H2/\H2 r=some (.lst (nV od))/\cV H2 l (Ox fs od a++((UP.getD (fs.length-a) []).take j).map λu=>fR od (Ar a 1++u) fs.length))
      ⟨G,Y,k1,ad,ak,by rwa [List.take_zero,Dj,AR]⟩ (λj σ H2 _ _=>ht _) ?_ ?_)))
     ·rintro j y σ H2 B ⟨G,rfl,k2,M,ac,R⟩;rw[Ah] at B;cases d:ts[j]? with
      |none=>rw[d] at B;cases B
      |some t=>
       rw[d] at B;cases B;have hj:j<(UP.getD (fs.length-a) []).length:=by rw[<-am];exact(Al.mp d).1
       have av:(UP.getD (fs.length-a) [])[j]?=some ((UP.getD (fs.length-a) [])[j]):=Aa hj;have a7:(UP.getD (fs.length-a) []).getD j []=(UP.getD (fs.length-a) [])[j]:=by rw[Ae,av];rfl
       have af:=SB _ _ (AG hj);have aw:=a5 j t d;rw[a7] at aw;have tk:(UP.getD (fs.length-a) []).take (j+1)=(UP.getD (fs.length-a) []).take j++[(UP.getD (fs.length-a) [])[j]]:=by rw[Bn,av];rfl
       rw[tk,AM,<-Bq];generalize (UP.getD (fs.length-a) [])[j]=up at *;obtain⟨bs,d6,f2,f3⟩:=R;have b0:bs.length<=11:=by
        have e1:=VA (od:=od) (n:=a) bd (by lia);have D:=rH (fs.length-a);rw[f2,Ad,Ab,AJ]
        lia
       have R:cV H2 l (Ox fs od a++((UP.getD (fs.length-a) []).take j).map λu=>fR od (Ar a 1++u) fs.length):=⟨bs,d6,f2,f3⟩;refine zE Y (.inl ⟨Y,_,aP.of d6⟩) (zE Y (by show 1<=GI;decide) (λq1 bg=>zA Y (zN Y Y G9 (by lia) (λq2 H3 a9 bl=>zA Y (zQ Y Y ⟨aQ.of bl,aw _,?_,?_,λq3 H4 a8 b1=>?_⟩)))))
       ·by_cases bu:a=0
        ·refine .inr λz=>?_;have:=congrArg DK z;rw[Ab,af.1] at this;simp at this
         lia
        ·refine .inl λz=>?_;have:=congrArg DK z;rw[AS] at this;simp at this
         lia
       ·rw[AS,Ab,af.1,sizeLine_eq]
        lia
       have s4:=((aF (o:=.tup [.int 1]) bg).trans a9).trans a8;refine zU r q3 od (Ar a 1++up) Y ⟨s4 _ _ ac,(by rwa [WA,<-WE]),(by rw[ap];exact aj.perm),(by rw[Ad,AS,af.1];lia),by lia,λH5 g bj bq au=>?_⟩;have I:=s4.trans bj;refine zT l _ _ Y ⟨Y,I _ _ d6,(by rw[Ab,sizeLine_eq];lia),_,Y,λb o d a2=>?_,?_,?_,?_⟩
       ·rw[Hf (Hk d ay)];exact I _ _ (k2 _ _ d a2)
       ·exact aM.upd (aM.same M I) (I _ _ d6)
       ·rw[Hf a0];exact I _ _ ac
       ·rw[ap] at au;exact(R.same I).snoc (I _ _ d6) au
     ·rintro σ H2 ⟨G,rfl,k2,M,ac,R⟩;rw[Ab,am,AZ] at R;exact zN Y k2 M ac R
    ·have h4:¬fs.length-a<4:=λz=>h (decide_eq_true (by lia));rw[G6 h4,AR];exact zN Y k1 ad ak hF
   ·rintro σ H1 ⟨v3,v4,G,rfl,k1,ad,ak,hF⟩;exact⟨_,Y,k H1 l od m k1 ad ay aj hm bf (by rwa [Xg])⟩
end Lu
namespace L2
theorem Paired.perm{k β:Type}{F:k->β->Prop}{a b:List k}(h:b.Perm a):∀{c:List β},Paired F a c->∃d,d.Perm c/\Paired F b d:=by
 induction h with
 |nil=>exact λq=>⟨_,List.Perm.refl _,q⟩
 |cons x _ r=>
  intro c q;cases q with
  |cons i f=>obtain⟨d,g,j⟩:=r f;exact⟨_,g.cons _,.cons i j⟩
 |swap x y l=>
  intro c q;cases q with
  |cons i f=>
   cases f with
   |cons f n=>exact⟨_,List.Perm.swap _ _ _,.cons f (.cons i n)⟩
 |trans _ _ m p=>intro c q;obtain⟨d,g,j⟩:=p q;obtain⟨e,e1,o⟩:=m j;exact⟨e,e1.trans g,o⟩
theorem Paired.left{d β:Type}{F:d->β->Prop}{a:List d}{c:List β}(q:Paired F a c):∀x∈a,∃y,F x y:=by
 induction q with
 |nil=>exact λx b=>nomatch b
 |cons h _ e=>
  intro x b;rcases Aq.mp b with rfl | b
  ·exact⟨_,h⟩
  ·exact e x b
theorem KQ:∀{a b:List Z},a.map V.ref=b.map V.ref->a=b
 |[],[],_=>rfl
 |[],_::_,h=>by cases h
 |_::_,[],h=>by cases h
 |x::a,y::b,h=>by rw[An,An] at h;injection h with h1 h2;injection h1 with h1;rw[h1,KQ h2]
end L2
namespace Lu
open L2 Lute LuR LuW LuG
def iC(K:G5)(H:Hp)(b:Z)(x:Nat×List Nat):Prop:=∃t,H b=some (.tup [.int (x.1:Int),.ref t])/\aQ K H t (nV x.2)
def dG(K:G5)(H:Hp)(q:Z)(gl:List (Nat×List Nat)):Prop:=∃bs:List Z,H q=some (.lst (bs.map V.ref))/\Paired (iC K H) bs gl
section
variable{K:G5}{H H':Hp}{q:Z}{gl:List (Nat×List Nat)}
theorem iC.same(h:iC K H b x)(s:aG H H'):iC K H' b x:=by obtain⟨t,h1,h2⟩:=h;exact⟨t,s _ _ h1,s.tup h2⟩
theorem aQ.updL(h:aQ K H a xs)(b:H l=some (.lst ys)):aQ K (aK H l (.lst zs)) a xs:=by
 rcases h with (h | ⟨o,h⟩) | h
 ·exact .inl (.inl (by rwa [Hf (Hq h b aO)]))
 ·exact .inl (.inr ⟨o,by rwa [Hf (Hq h b aO)]⟩)
 ·exact .inr h
theorem iC.upd(h:iC K H b x)(a:H l=some (.lst ys)):iC K (aK H l (.lst zs)) b x:=by obtain⟨t,h1,h2⟩:=h;exact⟨t,by rwa [Hf (Hq h1 a aO)],aQ.updL h2 a⟩
theorem dG.same(h:dG K H q gl)(s:aG H H'):dG K H' q gl:=by obtain⟨bs,h1,h2⟩:=h;exact⟨bs,s _ _ h1,Paired.mapP h2 λ_ _ z=>z.same s⟩
theorem dG.snoc(h:dG K H q gl)(a:H q=some (.lst ys))(c:iC K H b x):dG K (aK H q (.lst (ys++[.ref b]))) q (gl++[x]):=by obtain⟨bs,h1,h2⟩:=h;rw[h1] at a;cases a;exact⟨bs++[b],by rw[G9,AM];rfl,Paired.mapP (Paired.snoc h2 c) λ_ _ z=>z.upd h1⟩
theorem dG.lst(h:dG K H q gl):∃ys,H q=some (.lst ys)/\ys.length=gl.length:=by obtain⟨bs,h1,h2⟩:=h;exact⟨_,h1,by rw[Ab,Paired.length h2]⟩
end
theorem cV.upd(h:cV H q l)(e:H m=some (.lst ys))(hn:q≠m):cV (aK H m (.lst zs)) q l:=by obtain⟨bs,h1,h2,d⟩:=h;exact⟨bs,by rwa [Hf hn],h2,λi b g c a=>by rw[Hf (Hq (d i b g c a) e aO)];exact d i b g c a⟩
theorem nJ:gX [] p g↔1<=p/\p<=15/\g=[]:=by
 constructor
 ·rintro⟨h1,h2,a,_,_⟩;exact⟨h1,h2,BQ.mp a⟩
 ·rintro⟨h1,h2,rfl⟩;exact⟨h1,h2,Y,λi h=>absurd h (Bo _),λi j hi=>absurd hi (Bo _)⟩
def lC(K:G5)(Pt:Z):Sp:=λvs H Q _=>∃(pf:Z) (fs:List Nat),vs=[.ref pf]/\H pf=some (.tup (nV fs))/\fs.length<=14/\(∀x∈fs,x<=100)/\aX Pt H ∧
 ∀(H':Hp) (q:Z) (gl:List (Nat×List Nat)),aR Pt H H'->aX Pt H'->H q=none->dG K H' q gl->gl.length<=24->(∀p g,(p,g)∈gl↔gX fs p g)->Q (.ref q) H'
variable{P:GJ}{w:GQ}{K:G5}{mg:Str->Option O}{base:Heap}{C:Z}
def jY:List Str:=["frets","found","fingers","lowest","position","fret","finger"]
theorem Pk:aH jY ["frets"] (Hj Jz):=HZ
theorem OB:G3 "max"=some (.builtin "max"):=by decide
theorem O6:G3 "min"=some (.builtin "min"):=by decide
theorem PN:G3 "sorted"=some (.builtin "sorted"):=by decide
theorem rZ(F:bI K "grips_at" "grips_at" Jz f fd)(zs:mg "sorted"=none)(zr:mg "range"=none)(zz:mg "zip"=none)(zx:mg "max"=none)(zm:mg "min"=none)(ay:bY mg "LAST_POSITION" (.int 15))(DF:bQ P w K mg base C 5 "fingerings" ["frets"] (ZP K Pt)):
  aN P w K mg base (aS P w C) 6 f fd ["frets"] (lC K Pt):=by
 refine F.okX Pk (λvs H Q E h=>?_) (λaC A outer s H vs Q E hr h=>?_)
 ·obtain⟨_,_,rfl,_⟩:=h;rfl
 ·obtain⟨pf,fs,rfl,hf,a1,bh,hT,k⟩:=h;refine⟨_,He (HG (MF (Md (J 0) (λ_=>rfl)))
    (Hh (Hx (MV (own:=[("position",4)]) (g:=IF 4) (te:=Qk (Ii (HW 4) (Ii (Qk JL) JL))) rfl Pk.nd (O4 (by rfl) zr (G8 Hm (G8 (HH IU (Hr ay) Hm) Hg)))
     (show bS jY (Hj Jz) _ [("position",4)] from PF)
     (λ_ _ _ _ _=>cM 4 Pk.nd) (λ_ _ _ _ _=>Jr)
     (λ_ _ _ _ _=>Ik (G8 (J 4) (G8 (Ik Hg) Hg)))))) Hu)
   (He (bG 1 Pk.nd (Iw Hg))
   (He (IX Jn rfl (Iz (HL DF hr.mono rfl (G8 (J 0) Hg))) (cM 2 Pk.nd)
    (He (NL (i:=3) (own:=[("fret",5),("finger",6)]) (g:=Tj K 2 (KH (IF 5) (KH (IF 6) T5))) (te:=dQ (fW λi j=>.int (i-j)) (HW 5) (HW 6)) rfl Pk.nd rfl rfl rfl
     (SL (by rfl) zz (G8 (J 0) (G8 (J 2) Hg)))
     (show bS jY (Hj Jz) _ [("fret",5),("finger",6)] from PF)
     (λ_ _ _ _ _=>KO rfl (HU (cM 5 Pk.nd) (HU (cM 6 Pk.nd) JM))) (λ_ _ _ _ _=>Jr)
     (λ_ _ _ _ _=>HH JX (J 5) (J 6)))
    (Hh (IX Jn rfl (O4 (by rfl) zr (G8 (HE (Ut rfl) (by rfl) zx OB (G8 Hm (G8 (HE (ZU rfl) (by rfl) zx OB (G8 (J 3) Hg)) Hg)))
      (G8 (HH IU (HE (Uo rfl) (by rfl) zm O6 (G8 (Hr ay) (G8 (HH IU (HE (ZA rfl) (by rfl) zm O6 (G8 (J 3) Hg)) Hm) Hg))) Hm) Hg))) (cM 4 Pk.nd)
     (Hh (Hv (JS AO AV AU Iu (J 1) (G8 (Ik (G8 (J 4) (G8 (J 2) Hg))) Hg))))))))
   (Hh (Hx (HE (Vm (AD (Cd _ 64) hr.in1.in1.units)) (by rfl) zs PN (G8 (J 1) Hg)))))),?_⟩
  refine zA Y (zA (.inr (.inl ⟨_,aQ.of hf,Y⟩)) ?_);obtain⟨bo,a5⟩:=aM.tbl hT;cases hfs:fs with
  |nil=>
   subst hfs;refine Mo (zB Y Y (zB Y (by decide) (λD S=>Va (λi H'=>aG H H'/\dG K H' D ((Ay i).map λk=>(k+1,([]:List Nat)))) ⟨aF S,[],G9,.nil⟩ ?_ ?_)))
   ·rintro i H' hi ⟨sH,N⟩;refine⟨Y,zE Y (by show 0<=GI;decide) (λp2 bj=>⟨(by show 2<=GI;decide),λp3 d8=>?_⟩)⟩;have s2:=aF (o:=.tup []) bj;have s3:=s2.trans (aF (o:=.tup [.int (1+(i:Int)),.ref p2]) d8);obtain⟨ys,I,y2⟩:=N.lst;refine⟨ys,s3 _ _ I,(by rw[y2,Ab,BO,sizeLine_eq];have:i<15:=hi;lia),λb o G=>?_,?_⟩
    ·rw[Hf (Hk G S)];exact s3 _ _ (sH _ _ G)
    ·rw[Gq,AM];refine(N.same s3).snoc (s3 _ _ I) ⟨p2,?_,?_⟩
     ·rw[G9,show((i+1:Nat):Int)=1+(i:Int) by lia]
     ·exact aQ.of (aF d8 _ _ G9)
   ·rintro H' ⟨sH,N⟩;refine k H' D _ (aG.but sH) (aM.same hT sH) S N (by rw[Ab,BO];decide) λp g=>?_;rw[nJ,Av];constructor
    ·rintro⟨a,ha,e⟩;have:=AW.mp ha;cases e;have bn:a<15:=this;exact⟨by lia,by lia,Y⟩
    ·rintro⟨h1,h2,rfl⟩;exact⟨p-1,AW.mpr (show p-1<15 by lia),by rw[show p-1+1=p by lia]⟩
  |cons f0 fr=>
   rw[<-hfs];have h1:1<=fs.length:=by rw[hfs];exact Db (Az _)
   have he:(!(!(nV fs).isEmpty))=false:=by rw[hfs];rfl
   rw[he];clear hfs he;refine L6 ⟨Az _,λB ag=>?_⟩;have s1:=aF (o:=.lst []) ag;refine zA Y (zK Y ⟨s1 _ _ hf,h1,a1,aM.same hT s1,λH2 q od m k2 a9 a3 bi hm be hF=>?_⟩);have kH:aR Pt H H2:=aR.trans (aG.but s1) k2;have a2:=λg=>Xy bi (g:=g) be hm;have h8:(iE fs od m).length<=8:=XM a1;generalize iE fs od m=l at *;have a0:q≠B:=λe=>by rw[e,G9] at a3;cases a3
   have bd:B≠Pt:=λe=>by rw[e,a5] at ag;cases ag
   have bf:H2 B=some (.lst []):=k2 _ _ G9 bd;obtain⟨bs,f1,f2,f3⟩:=hF;have hF:cV H2 q l:=⟨bs,f1,f2,f3⟩;refine zE Y ⟨_,aP.of f1⟩ (Jg (K:=K) (a:=q) (xs:=bs.map V.ref) (λj σ r=>∃v2 v3 X U W:Option V,σ=[some (.ref pf),some (.ref B),v2,v3,X,U,W]/\aR Pt H r/\aX Pt r/\cV r q l/\r q=some (.lst (bs.map V.ref))/\∃gl,dG K r B gl/\gl.length<=3*j/\∀p g,(p,g)∈gl↔g∈l.take j/\gX fs p g)
    (zD Y kH a9 hF f1 ⟨[],⟨[],bf,.nil⟩,Az _,λp g=>by simp⟩) (λj σ r _ qQ=>by obtain⟨_,_,_,_,_,_,_,_,_,h,_⟩:=qQ;exact aP.of h) ?_ ?_)
   ·rintro j y σ r hy ⟨v2,v3,X,U,W,rfl,k3,ab,am,ar,gl,N,au,aa⟩;rw[Ah] at hy;cases G:bs[j]? with
    |none=>rw[G] at hy;cases hy
    |some b=>
     rw[G] at hy;cases hy;have hj:j<l.length:=by rw[<-f2];exact(Al.mp G).1
     have a6:l[j]?=some l[j]:=Aa hj;have tk:l.take (j+1)=l.take j++[l[j]]:=by rw[Bn,a6];rfl
     obtain⟨ac,az,gT⟩:=(a2 l[j]).mp (AG hj);have ak:r b=some (.tup (nV l[j])):=by obtain⟨cs,c1,c2,c3⟩:=am;rw[ar] at c1;have e:cs=bs:=KQ (by injection (Option.some.inj c1).symm);rw[e] at c3;exact c3 j b _ G a6
     rw[tk];generalize l[j]=g at *;have d8:r pf=some (.tup (nV fs)):=k3 _ _ hf (Hq hf a5 aO);refine zA Y (zA Y (zV Y (aQ.of d8) (aQ.of ak) (λD S=>Sv (K:=K) (xs:=nV fs) (ys:=nV g) (zs:=(low fs g).map V.int) (aQ.of d8) (aQ.of ak) (by rwa [Ab,Ab]) (by rw[Ab,Ab,PB ac]) (by rw[Ab,PB ac];lia) S ?_ ?_)))
     ·intro i u v z Hi TT hu hv hz bm bc R d7 hR;rw[Ah] at hu hv hz;obtain⟨a,ha,rfl⟩:=Ba.mp hu;obtain⟨c,hc,rfl⟩:=Ba.mp hv;obtain⟨z',ao,rfl⟩:=Ba.mp hz;have ez:z'=(a:Int)-(c:Int):=by unfold low at ao;rw[Ah,CA (z:=(a,c)) |>.mpr ⟨ha,hc⟩] at ao;exact(Option.some.inj ao).symm
      rw[ez] at hR;exact zF Y (aQ.of bc) Y (zK Y (zF Y Y Y ⟨_,Y,_,Y,_,_,Y,Y,hR⟩))
     ·intro H4 s4 av;have a4:0<(low fs g).length:=by rw[PB ac];lia
      have ae:∀y∈low fs g,-4<=y/\y<=100:=λy hy=>by
       obtain⟨i,hi,rfl⟩:=(LI ac).mp hy;have e1:fs.getD i 0<=100:=by rw[Ae,Aa hi];exact bh _ (AG hi)
       have e2:g.getD i 0<=4:=by rw[Ae,Aa (by lia)];exact(az _ (AG _)).2
       lia
      refine zA Y (zF Y (aP.of av) a4 (λT ad aw=>zK Y (zA Y (zF Y (aP.of av) a4 (λmn ai aq=>zB Y Y (zK Y (zB Y Y (zB Y ?_ ?_))))))))
      ·have b1:=ae _ ad;have b2:=ae _ ai;split <;> split <;> lia
      have b1:=ae _ ad;have b2:=ae _ ai;have b3:=aq _ ad;have gk:=λp=>Xn (p:=p) ac az gT ad aw ai aq;obtain⟨L,eL,bl⟩:∃L:Nat,(if T > 1 then T else 1)=(L:Int)/\1<=L:=⟨(if T > 1 then T else 1).toNat,by split <;> lia,by split <;> lia⟩
      obtain⟨n,en,hn⟩:∃n:Nat,((if mn+2<15 then mn+2 else 15)+1-(if T > 1 then T else 1)).toNat=n/\n<=3:=⟨_,Y,by split <;> split <;> lia⟩
      have ax:∀p:Nat,gX fs p g↔L<=p/\p<L+n:=λp=>by rw[gk];split at eL <;> split at en <;> rename_i h1 h2 <;> (try rw[G7 h1] at en) <;> (try rw[G6 h1] at en) <;> lia
      rw[en,eL];clear gk en eL ae ad aw ai aq b1 b2 b3;have sD:H D=Option.none:=by
       cases z:H D with
       |none=>rfl
       |some o=>
        have an:D≠Pt:=λe=>by obtain⟨bg,e2⟩:=aM.tbl ab;rw[<-e,S] at e2;cases e2
        have:=k3 D o z an;rw[S] at this;cases this
      refine OY (lo:=(L:Int)) (n:=n) (λi σ M=>∃X U W:Option V,σ=[some (.ref pf),some (.ref B),some (.ref b),some (.ref D),X,U,W]/\aR Pt H M/\aX Pt M/\cV M q l/\M q=some (.lst (bs.map V.ref))/\M b=some (.tup (nV g))/\∃d6,dG K M B d6/\d6.length<=3*j+i/\∀p d9,(p,d9)∈d6↔(d9∈l.take j/\gX fs p d9)\/(d9=g/\L<=p/\p<L+i))
       (zC Y (aR.trans k3 (aG.but s4)) (aM.same ab s4) ⟨am.same s4,s4 _ _ ar,s4 _ _ ak,gl,N.same s4,au,λp d9=>by rw[aa];constructor;exact .inl;rintro(h | ⟨_,h1,h2⟩);exact h;lia⟩) ?_ ?_
      ·rintro i σ M hi ⟨X,U,W,rfl,k5,ap,al,aj,ah,d6,af,a8,as⟩;obtain⟨ys,I,y2⟩:=af.lst;refine zE Y (.inl ⟨Y,_,aP.of I⟩) (zA Y (zE Y (by show 2<=GI;decide) (λp3 d8=>?_)));have d:=aF (o:=.tup [.int ((L:Int)+(i:Int)),.ref b]) d8;refine zN Y Y (d _ _ I) (by rw[y2,sizeLine_eq];have:=h8;lia) (zC Y (λc o hc a7=>?_) (aM.upd (aM.same ap d) (d _ _ I)) ⟨(al.same d).upd (d _ _ I) a0,?_,?_,d6++[(L+i,g)],(af.same d).snoc (d _ _ I) ⟨b,?_,aQ.of (d _ _ ah)⟩,?_,λp d9=>?_⟩)
       ·rw[Hf (Hk hc ag)];exact d _ _ (k5 _ _ hc a7)
       ·rw[Hf a0];exact d _ _ aj
       ·rw[Hf (Hq (d _ _ ah) (d _ _ I) aO)];exact d _ _ ah
       ·rw[G9,show((L+i:Nat):Int)=(L:Int)+(i:Int) by lia]
       ·rw[Ad,BJ]
        lia
       ·rw[AA,Ai,as];constructor
        ·rintro((h | ⟨h1,h2,h3⟩) | h)
         ·exact .inl h
         ·exact .inr ⟨h1,h2,by lia⟩
         ·cases h;exact .inr ⟨Y,by lia,by lia⟩
        ·rintro(h | ⟨h1,h2,h3⟩)
         ·exact .inl (.inl h)
         ·by_cases e:p=L+i
          ·exact .inr (by rw[e,h1])
          ·exact .inl (.inr ⟨h1,h2,by lia⟩)
      ·rintro σ M ⟨X,U,W,rfl,k5,ap,al,aj,ah,d6,af,a8,as⟩;refine zD Y k5 ap al aj ⟨d6,af,by lia,λp d9=>?_⟩;rw[as,AA,Ai];constructor
       ·rintro(⟨h1,h2⟩ | ⟨h1,h2⟩)
        ·exact⟨.inl h1,h2⟩
        ·exact⟨.inr h1,by rw[h1];exact(ax p).mpr h2⟩
       ·rintro⟨h1 | h1,h2⟩
        ·exact .inl ⟨h1,h2⟩
        ·exact .inr ⟨h1,(ax p).mp (by rwa [<-h1])⟩
   ·rintro σ r ⟨v2,v3,X,U,W,rfl,k3,ab,am,ar,gl,N,au,aa⟩;rw[Ab,f2] at au aa;rw[AZ] at aa;obtain⟨cs,c1,c2⟩:=N;refine zA Y ⟨B,cs,Y,aP.of c1,(by rw[Paired.length c2];lia),?_,λds p bk hp=>?_⟩
    ·intro b G;obtain⟨x,t,h1,h2⟩:=Paired.left c2 b G;exact zT _ t (x.2.map λn:Nat=>(n:Int)) h1 (by rwa [A8])
    ·obtain⟨bb,g1,g2⟩:=Paired.perm bk c2;have sp:=aF (o:=.lst (ds.map V.ref)) hp;have ba:H p=Option.none:=by
      cases z:H p with
      |none=>rfl
      |some o=>
       have an:p≠Pt:=λe=>by obtain⟨bg,e2⟩:=aM.tbl ab;rw[<-e,hp] at e2;cases e2
       have:=k3 p o z an;rw[hp] at this;cases this
     refine k _ p bb (aR.trans k3 (aG.but sp)) (aM.same ab sp) ba ⟨ds,G9,Paired.mapP g2 λ_ _ z=>z.same sp⟩ (by rw[g1.length_eq];lia) λp' d9=>?_;rw[g1.mem_iff,aa,a2];constructor
     ·exact λh=>h.2
     ·refine λh=>⟨⟨h.len,λx hx=>?_,h.tog⟩,h⟩;obtain⟨i,hi,rfl⟩:=Ct.mp hx;have:=h.reach i (by rwa [<-h.len]);unfold LuteHand.reaches at this;rw[AB,AB,decide_eq_true_iff,decide_eq_true_iff,Ae,Aa hi] at this;exact⟨this.1,this.2.1⟩
end Lu
namespace LuG
def PV:Nat->List (List Nat)
 |0=>[[]]
 |n+1=>(PV n).flatMap λl=>(Ay 15).map λx=>(x+1)::l
theorem Qv:∀n,(PV n).length=15 ^ n
 |0=>rfl
 |n+1=>by
  unfold PV;rw[CJ];have:((PV n).map λl=>((Ay 15).map λx=>(x+1)::l).length)=(PV n).map λ_=>15:=BG λl _=>by rw[Ab,BO]
  rw[this,EZ,Ef,Qv n,BW]
theorem Rq:∀{fs:List Nat},(∀x∈fs,1<=x/\x<=15)->fs∈PV fs.length
 |[],_=>Ai.mpr rfl
 |x::fs,h=>by have b:=h x (.head _);unfold PV;rw[Af];refine Bu.mpr ⟨fs,Rq λy a=>h y (.tail _ a),Av.mpr ⟨x-1,AW.mpr (by lia),by rw[show x-1+1=x by lia]⟩⟩
def W9(fs:List Nat):Prop:=fs.length<=6/\∀x∈fs,1<=x/\x<=15
end LuG
namespace Lu
open L2 Lute LuR LuW LuG LuC
def nK(fs:List Nat):List bF:=fs.map λn:Nat=>.inl (n:Int)
theorem sJ(fs:List Nat):(nK fs).map kV=nV fs:=by unfold nK;rw[A8];rfl
theorem VT:∀{a b:List Nat},nK a=nK b->a=b
 |[],[],_=>rfl
 |[],_::_,h=>by cases h
 |_::_,[],h=>by cases h
 |x::a,y::b,h=>by unfold nK at h;rw[An,An] at h;injection h with h1 h2;injection h1 with h1;rw[D8.mp h1,VT (a:=a) (b:=b) h2]
def Gp(K:G5)(H:Hp)(q:Z)(fs:List Nat):Prop:=∃gl,dG K H q gl/\gl.length<=24/\∀p g,(p,g)∈gl↔gX fs p g
def bW(K:G5)(ex:Z->Prop)(H:Hp)(a:List (List bF×V)):Prop:=(a.map (·.1)).Nodup/\∀p∈a,∃fs q,W9 fs/\p=(nK fs,V.ref q)/\Gp K H q fs/\¬ex q
structure aU(K:G5)(ex:Z->Prop)(H:Hp)(B x dx d:Z):Prop where
 at_:H x=some (.ins B dx (H0 "known" (.ref d) []))
 memo:∃memo,H d=some (.dT memo)/\bW K ex H memo
section
variable{K:G5}{ex:Z->Prop}{H H':Hp}
def Of(ex:Z->Prop)(H H':Hp):Prop:=(∀b xs,H b=some (.lst xs)->¬ex b->H' b=some (.lst xs))/\(∀b xs,H b=some (.tup xs)->H' b=some (.tup xs))/\∀b o xs,H b=some (.frz o (.tup xs))->H' b=some (.frz o (.tup xs))
theorem aQ.lt(h:aQ K H a xs)(k:Of ex H H'):aQ K H' a xs:=by
 rcases h with (h | ⟨o,h⟩) | h
 ·exact .inl (.inl (k.2.1 _ _ h))
 ·exact .inl (.inr ⟨o,k.2.2 _ _ _ h⟩)
 ·exact .inr h
theorem Gp.lt(h:Gp K H q fs)(c:¬ex q)(k:Of ex H H'):Gp K H' q fs:=by obtain⟨gl,⟨bs,h1,h2⟩,e⟩:=h;exact⟨gl,⟨bs,k.1 _ _ h1 c,Paired.mapP h2 λb x ⟨t,a,d⟩=>⟨t,k.2.1 _ _ a,aQ.lt d k⟩⟩,e⟩
theorem bW.lt(h:bW K ex H memo)(k:Of ex H H'):bW K ex H' memo:=⟨h.1,λp a=>let ⟨fs,q,h1,h2,h3,h4⟩:=h.2 p a;⟨fs,q,h1,h2,h3.lt h4 k,h4⟩⟩
theorem bW.len(h:bW K ex H memo):memo.length<GI:=by
 have h1:=MI (m:=((Ay 7).flatMap PV).map nK) h.1 λk a=>by obtain⟨p,c,rfl⟩:=Av.mp a;obtain⟨fs,q,⟨d,b⟩,rfl,_⟩:=h.2 p c;exact Av.mpr ⟨fs,Bu.mpr ⟨fs.length,AW.mpr (by lia),Rq b⟩,Y⟩
 rw[Ab,Ab,CJ,show((Ay 7).map λn=>(PV n).length)=(Ay 7).map λn=>15 ^ n from BG λn _=>Qv n] at h1;rw[sizeLine_eq];have:((Ay 7).map λn=>15 ^ n).sum=12204241:=by decide
 lia
theorem bW.val(h:bW K ex H memo)(a:Ij memo (nK fs)=some v):∃q,v=.ref q/\Gp K H q fs/\¬ex q:=by unfold Ij at a;obtain⟨p,b,rfl⟩:=Ba.mp a;have e:p.1=nK fs:=of_decide_eq_true (E4 (p:=λd:List bF×V=>decide (d.1=nK fs)) b);obtain⟨g,q,_,rfl,c,f⟩:=h.2 p (Du b);rw[VT e] at c;exact⟨q,Y,c,f⟩
theorem bW.put{f:List (List bF×V)}(h:bW K ex H f){fs:List Nat}{q:Z}(j:W9 fs)(g:Gp K H q fs)(i:¬ex q):bW K ex H (IM f (nK fs) (.ref q)):=by
 unfold IM;by_cases z:(f.any λc=>decide (c.1=nK fs))=true
 ·rw[G7 z];refine⟨?_,λp d=>?_⟩
  ·rw[A8];have e:((λc:List bF×V=>c.1) ∘ λc=>if c.1=nK fs then (c.1,V.ref q) else c)=λc=>c.1:=by funext c;show(if c.1=nK fs then (c.1,V.ref q) else c).1=c.1;split <;> rfl
   rw[e];exact h.1
  ·obtain⟨c,n,rfl⟩:=Av.mp d;by_cases y:c.1=nK fs
   ·rw[G7 y,y];exact⟨fs,q,j,Y,g,i⟩
   ·rw[G6 y];exact h.2 c n
 ·rw[G6 z];refine⟨?_,λp d=>?_⟩
  ·rw[AM];refine EE.mpr ⟨h.1,by simp,λa k b l e=>?_⟩;have m:b=nK fs:=Ai.mp l;obtain⟨p,d,rfl⟩:=Av.mp k;exact z (ER.mpr ⟨p,d,decide_eq_true (e.trans m)⟩)
  ·rcases AA.mp d with y | y
   ·exact h.2 p y
   ·rw[Ai.mp y];exact⟨fs,q,j,Y,g,i⟩
end
structure jR(K:G5)(B:Z):Prop where
 cl:eP K B
 nK:bC K B "known"
def kD(K:G5)(B:Z):Sp:=λvs H Q _=>∃(x dx:Z),vs=[.ref x]/\H x=some (.ins B dx [])/\∀(H':Hp) (d:Z),H d=none->aL H H' x->(∀ex,aU K ex H' B x dx d)->Q .non H'
def Ws(K:G5)(B Pt:Z):Sp:=λvs H Q _=>∃(ex:Z->Prop) (x dx d pf:Z) (fs:List Nat),vs=[.ref x,.ref pf]/\aU K ex H B x dx d/\H pf=some (.tup (nV fs))/\W9 fs/\aX Pt H/\(∀a,ex a->H a≠none) ∧
 ∀(H':Hp) (q:Z),aU K ex H' B x dx d->aX Pt H'->(∀b o,H b=some o->b≠Pt->b≠d->H' b=some o)->Gp K H' q fs->¬ex q->Q (.ref q) H'
variable{P:GJ}{w:GQ}{K:G5}{mg:Str->Option O}{base:Heap}{B C:Z}
theorem qM:aH ["self"] ["self"] (Hj K1):=HZ
theorem Wa(F:bI K "__init__" "Hand.__init__" K1 f fd)(T:jR K B):aN P w K mg base (aS P w C) 1 f fd ["self"] (kD K B):=by
 refine F.okX qM (λvs H Q E h=>?_) (λm A outer s H vs Q E l h=>?_)
 ·obtain⟨x,dx,rfl,_⟩:=h;rfl
 ·obtain⟨x,dx,rfl,a,k⟩:=h;refine⟨_,Hh (JE (J 0) Oh rfl),λd hd=>?_⟩;have c:=aF (o:=.dT []) hd;have g:x≠d:=λz=>by rw[<-z,a] at hd;cases hd
  refine zA Y (zO Y (c _ _ a) T.cl T.nK (by show 0<1000;decide) ?_);refine k _ d hd (λb o e j=>by rw[Hf j];exact c _ _ e) λex=>⟨G9,[],by rw[Hf g.symm];exact G9,Dq,λp i=>nomatch i⟩
theorem oC:aH ["self","frets"] ["self","frets"] (Hj Kn):=HZ
theorem Wv(d:Z):(H0 "known" (.ref d) []).lookup ("known":Str)=some (.ref d):=by rw[Hl,G7 rfl]
theorem sK(F:bI K "grips" "Hand.grips" Kn f fd)(T:jR K B)(DG:bQ P w K mg base C 6 "grips_at" ["frets"] (lC K Pt)):aN P w K mg base (aS P w C) 7 f fd ["self","frets"] (Ws K B Pt):=by
 refine F.okX oC (λvs H Q E h=>?_) (λaC A outer s H vs Q E j h=>?_)
 ·obtain⟨_,_,_,_,_,_,rfl,_⟩:=h;rfl
 ·obtain⟨ex,x,dx,d,pf,fs,rfl,⟨r,e,hd,m⟩,ae,u,p,hex,k⟩:=h;refine⟨_,He (HG (KI (Mt (JI j) (J 1) (Hy (J 0) rfl)))
    (Hh (Pn (JI j) (Hy (J 0) rfl) (J 1) (HL DG j.mono rfl (G8 (J 1) Hg)) (by rfl))) Hu)
   (Hh (Hx (Mf (JI j) (Hy (J 0) rfl) (J 1) (λ_ _=>rfl)))),?_⟩
  obtain⟨ah,X⟩:=aM.tbl p;have l:H pf=some (.tup ((nK fs).map kV)):=by rwa [sJ]
  have N:∀(H':Hp) (g:List (List bF×V)) (v:V),H' x=some (.ins B dx (H0 "known" (.ref d) []))->H' pf=some (.tup ((nK fs).map kV))->H' d=some (.dT g)->bW K ex H' g->aX Pt H'->(∀b o,H b=some o->b≠Pt->b≠d->H' b=some o)->Ij g (nK fs)=some v->
    Tl (OZ (VP K (HW 0) "known") (HW 1)) { nx:=λ_ H'=>Q .non H',rt:=Q } [some (.ref x),some (.ref pf)] H':=by
   intro H' g v I ag D L ac W i;obtain⟨q,rfl,hq,n⟩:=L.val i;refine zA Y (zD Y I T.cl T.nK (Wv _) ⟨_,Y,d,.ref q,Y,?_,k H' q ⟨I,g,D,L⟩ ac W hq n⟩);rw[<-i];exact cI.t D ag
  refine zA Y (zA Y (zD Y r T.cl T.nK (Wv _) (zB Y (cI.t hd l) (zA Y ?_))));cases i:Ij e (nK fs) with
  |some v=>exact L6 (N H e v r l hd m p (λb o a _ _=>a) i)
  |none=>
   refine Mo ?_;refine zA Y (zB Y ae ⟨by have:=u.1;lia,λy hy=>by have:=u.2 y hy;lia,p,λH2 q gl k2 ad af d7 d8 R=>?_⟩);have c:∀{b:Z} {o:HO},H b=some o->(∀ps,o≠.tbl ps)->H2 b=some o:=λa hn=>k2 _ _ a (Hq a X (λz=>hn _ z));have G:=c r (λ_=>aO);have M:=c hd (λ_=>aO);have d9:=c l (λ_=>aO);have kl:Of ex H H2:=⟨λb xs a _=>c a (λ_=>aO),λb xs a=>c a (λ_=>aO),λb o xs a=>c a (λ_=>aO)⟩;refine zA Y (zD Y G T.cl T.nK (Wv _) (zA Y (zB Y (fN.t M d9 (m.len)) ?_)));have ne:∀{b:Z} {o:HO},H2 b=some o->(∀kv,o≠.dT kv)->(aK H2 d (.dT (IM e (nK fs) (.ref q)))) b=some o:=λa hn=>by rwa [Hf (Hq a M (λz=>hn _ z))]
   have S:Of ex H2 (aK H2 d (.dT (IM e (nK fs) (.ref q)))):=⟨λb xs a _=>ne a (λ_=>aO),λb xs a=>ne a (λ_=>aO),λb o xs a=>ne a (λ_=>aO)⟩;have n:¬ex q:=λz=>hex q z af;have d6:aX Pt (aK H2 d (.dT (IM e (nK fs) (.ref q)))):=by
    rcases ad with h | ⟨c',U,vs,t,h1,h2,h3⟩
    ·exact .inl (ne h (λ_=>aO))
    ·exact .inr (zQ (ne h1 (λ_=>aO)) (ne h2 (λ_=>aO)) h3)
   exact N _ _ (.ref q) (ne G (λ_=>aO)) (ne d9 (λ_=>aO)) G9 (((m.lt kl).put u ⟨gl,d7,d8,R⟩ n).lt S) d6 (λb o a ab aa=>by rw[Hf aa];exact k2 _ _ a ab) (S2 _ _ _)
end Lu
set_option maxHeartbeats 4000000
namespace L2
variable{X:Cx}
def YU:R2:=λx y H Q=>∃a b xs ys,x=.ref a/\y=.ref b/\H a=some (.tup xs)/\H b=some (.tup ys)/\(xs≠[]\/ys≠[])/\xs.length+ys.length<=GI/\∀(p:Z) (H':Hp),aG H H'->H' p=some (.tup (xs++ys))->Q (.ref p) H'
theorem SH:dC X (binaryOp .Add) YU:=by
 intro aA s σ H x y v u Q I f i h;obtain⟨a,b,xs,ys,rfl,rfl,d,e,hn,g,q⟩:=h;by_cases c:xs=[]
 ·have k:ys≠[]:=hn.resolve_left λz=>z c;exact SZ aA s σ H _ _ v u Q I f i (zQ Y Y ⟨aQ.of d,aQ.of e,k,g,λ_=>q b H (aG.refl _) (by rwa [c,EX]),λz=>absurd c z⟩)
 ·exact PJ aA s σ H _ _ v u Q I f i (zQ Y Y ⟨aQ.of d,aQ.of e,c,g,λz=>q a H (aG.refl _) (by rwa [z,AR]),λ_ p j=>q p _ (Lu.aF j) G9⟩)
end L2
namespace Lu
open L2 Lute LuR LuW LuG LuC
structure jM where
 (x dx pl dpl m dc hd dh dk mh:Z)
def sf(pl hd mh:Z):List (Str×V):=H0 "holds" (.ref mh) (H0 "most" (.int 0) (H0 "hand" (.ref hd) (H0 "placings" (.ref pl) [])))
section
variable(pl hd mh:Z)
theorem V0:(sf pl hd mh).lookup ("holds":Str)=some (.ref mh):=by unfold sf;rw[Hl,G7 rfl]
theorem pT:(sf pl hd mh).lookup ("most":Str)=some (.int 0):=by unfold sf;rw[Hl,G6 (by decide),Hl,G7 rfl]
theorem YS:(sf pl hd mh).lookup ("hand":Str)=some (.ref hd):=by unfold sf;rw[Hl,G6 (by decide),Hl,G6 (by decide),Hl,G7 rfl]
theorem VX:(sf pl hd mh).lookup ("placings":Str)=some (.ref pl):=by unfold sf;rw[Hl,G6 (by decide),Hl,G6 (by decide),Hl,G6 (by decide),Hl,G7 rfl]
theorem Wl:(sf pl hd mh).lookup ("go_on":Str)=none:=by unfold sf;rw[Hl,G6 (by decide),Hl,G6 (by decide),Hl,G6 (by decide),Hl,G6 (by decide)];rfl
theorem YK(d:Z):(H0 "known" (.ref d) []).lookup ("grips":Str)=none:=by rw[Hl,G6 (by decide)];rfl
end
structure jB(K:G5)(B:Z):Prop where
 cl:eP K B
 nP:bC K B "placings"
 nH:bC K B "hand"
 nM:bC K B "most"
 nO:bC K B "holds"
structure cF(K:G5)(BS BP BH Pt:Z)(a:jM)(H:Hp)(wh:Int)(rs:List (List Iv))(D l:List Iv)(hs:List V):Prop where
 at_:H a.x=some (.ins BS a.dx (sf a.pl a.hd a.mh))
 pl:eX H BP a.pl a.dpl a.m a.dc wh (rs.map (HR D)) D l
 hand:aU K (λb=>b=a.mh) H BH a.hd a.dh a.dk
 holds:H a.mh=some (.lst hs)
 tab:aX Pt H
 dd:a.dc≠a.dk
 mm:a.m≠a.mh
 mb:∀bs:List Z,H a.m=some (.lst (bs.map V.ref))->∀b∈bs,b≠a.mh
def bP(Pt:Z)(a:jM)(H H':Hp):Prop:=∀b o,H b=some o->b≠Pt->b≠a.dc->b≠a.dk->b≠a.mh->H' b=some o
section
variable{K:G5}{BS BP BH Pt:Z}{a:jM}{H H' H2:Hp}{wh:Int}{rs:List (List Iv)}{D l:List Iv}{hs:List V}
theorem bP.refl:bP Pt a H H:=λb o h _ _ _ _=>h
theorem bP.trans(k:bP Pt a H H')(k2:bP Pt a H' H2):bP Pt a H H2:=λb o h h1 h2 d c=>k2 _ _ (k _ _ h h1 h2 d c) h1 h2 d c
theorem aG.k4(s:aG H H'):bP Pt a H H':=λb o h _ _ _ _=>s _ _ h
theorem bP.tup(k:bP Pt a H H')(o:cF K BS BP BH Pt a H wh rs D l hs)(h:H b=some (.tup xs)):H' b=some (.tup xs):=by obtain⟨ps,c⟩:=aM.tbl o.tab;obtain⟨_,d,_⟩:=o.hand.memo;obtain⟨_,e,_⟩:=o.pl.memo;exact k _ _ h (Hq h c aO) (Hq h e aO) (Hq h d aO) (Hq h o.holds aO)
theorem bP.lst(k:bP Pt a H H')(o:cF K BS BP BH Pt a H wh rs D l hs)(h:H b=some (.lst xs))(d:b≠a.mh):H' b=some (.lst xs):=by obtain⟨ps,c⟩:=aM.tbl o.tab;obtain⟨_,e,_⟩:=o.hand.memo;obtain⟨_,f,_⟩:=o.pl.memo;exact k _ _ h (Hq h c aO) (Hq h f aO) (Hq h e aO) d
theorem cF.same(o:cF K BS BP BH Pt a H wh rs D l hs)(s:aG H H'):cF K BS BP BH Pt a H' wh rs D l hs:=by obtain⟨e,g,i⟩:=o.hand.memo;obtain⟨bs,c,k,j⟩:=o.pl.ch;exact⟨s _ _ o.at_,o.pl.keep s,⟨s _ _ o.hand.at_,e,s _ _ g,i.lt ⟨λb xs h _=>s _ _ h,λb xs h=>s _ _ h,λb o xs h=>s _ _ h⟩⟩,s _ _ o.holds,aM.same o.tab s,o.dd,o.mm,λf h b d=>o.mb f (by rw[s _ _ c] at h;rwa [c]) b d⟩
theorem cF.grips(o:cF K BS BP BH Pt a H wh rs D l hs)(h1:aU K (λb=>b=a.mh) H' BH a.hd a.dh a.dk)(h2:aX Pt H')(k:∀b o,H b=some o->b≠Pt->b≠a.dk->H' b=some o):cF K BS BP BH Pt a H' wh rs D l hs:=by
 obtain⟨ps,n⟩:=aM.tbl o.tab;obtain⟨E,t,C⟩:=o.hand.memo;have d:∀{b:Z} {o:HO},H b=some o->(∀ps,o≠.tbl ps)->(∀w,o≠.dT w)->H' b=some o:=λc hn y=>k _ _ c (Hq c n (λz=>hn _ z)) (Hq c t (λz=>y _ z));obtain⟨v,p2,mem,j,s⟩:=o.pl;obtain⟨bs,g,A,p⟩:=p2;have m:H' a.m=some (.lst (bs.map V.ref)):=d g (λ_=>aO) (λ_=>aO);refine⟨d o.at_ (λ_=>aO) (λ_=>aO),⟨d v (λ_=>aO) (λ_=>aO),⟨bs,m,A,λi b x c f=>⟨(p i b x c f).1,?_⟩⟩,mem,k _ _ j (Hq j n (by intro e;cases e)) o.dd,s⟩,h1,d o.holds (λ_=>aO) (λ_=>aO),h2,o.dd,o.mm,λr h b c=>?_⟩
 ·obtain⟨cs,q,B,u⟩:=(p i b x c f).2;exact⟨cs,d q (λ_=>aO) (λ_=>aO),B,λi b x c f=>d (u i b x c f) (λ_=>aO) (λ_=>aO)⟩
 ·rw[m] at h;exact o.mb r (by rwa [g]) b c
theorem cF.count(o:cF K BS BP BH Pt a H wh rs D l hs)(h1:eX H' BP a.pl a.dpl a.m a.dc wh (rs.map (HR D)) D l)(k:aL H H' a.dc):cF K BS BP BH Pt a H' wh rs D l hs:=by
 obtain⟨mem,q,u⟩:=o.pl.memo;have c:∀{b:Z} {o:HO},H b=some o->(∀j,o≠.dT j)->H' b=some o:=λd m=>k _ _ d (Hq d q (λz=>m _ z));obtain⟨f,n,r⟩:=o.hand.memo;obtain⟨bs,e,w,v⟩:=o.pl.ch;refine⟨c o.at_ (λ_=>aO),h1,⟨c o.hand.at_ (λ_=>aO),f,k _ _ n (Ne.symm o.dd),r.lt ⟨λb xs h _=>c h (λ_=>aO),λb xs h=>c h (λ_=>aO),λb o xs h=>c h (λ_=>aO)⟩⟩,c o.holds (λ_=>aO),?_,o.dd,o.mm,λi h b d=>o.mb i (by rw[c e (λ_=>aO)] at h;rwa [e]) b d⟩;rcases o.tab with h | ⟨g,p,vs,t,h1,h2,s⟩
 ·exact .inl (c h (λ_=>aO))
 ·exact .inr (zQ (c h1 (λ_=>aO)) (c h2 (λ_=>aO)) s)
theorem cF.put(o:cF K BS BP BH Pt a H wh rs D l hs)(e:List V):cF K BS BP BH Pt a (aK H a.mh (.lst e)) wh rs D l e:=by
 have f:∀{b:Z} {q:HO},H b=some q->b≠a.mh->(aK H a.mh (.lst e)) b=some q:=λc hn=>by rwa [Hf hn]
 have d:∀{b:Z} {q:HO},H b=some q->(∀xs,q≠.lst xs)->(aK H a.mh (.lst e)) b=some q:=λc hn=>f c (Hq c o.holds (λz=>hn _ z));obtain⟨v,t,p⟩:=o.hand.memo;obtain⟨w,⟨bs,j,A,m⟩,mem,y,s⟩:=o.pl;have k:=f j o.mm;refine⟨d o.at_ (λ_=>aO),⟨d w (λ_=>aO),⟨bs,k,A,λi b x c g=>⟨(m i b x c g).1,?_⟩⟩,mem,d y (λ_=>aO),s⟩,⟨d o.hand.at_ (λ_=>aO),v,d t (λ_=>aO),p.lt ⟨λb xs h c=>f h c,λb xs h=>d h (λ_=>aO),λb o xs h=>d h (λ_=>aO)⟩⟩,G9,aM.upd o.tab o.holds,o.dd,o.mm,λr h b c=>?_⟩
 ·obtain⟨cs,n,B,u⟩:=(m i b x c g).2;exact⟨cs,f n (o.mb bs j b (AX c)),B,λi b x c g=>d (u i b x c g) (λ_=>aO)⟩
 ·rw[k] at h;exact o.mb r (by rwa [j]) b c
end
def Rc(K:G5)(BS BP BH Pt:Z)(n:Nat):Sp:=λvs H Q _=>∃(a:jM) (wh:Int) (rs:List (List Iv)) (D l s:List Iv) (hs:List V) (i:Nat) (ps pf:Z) (b:List V) (fs:List Nat),
 vs=[.ref a.x,.int (i:Int),.int ((bA D s:Nat):Int),.ref ps,.ref pf]/\cF K BS BP BH Pt a H wh rs D l hs/\rs.length<=6/\(∀r∈rs,r.length<=16)/\l.length<=14/\(∀y∈l,y∈D)/\i<=rs.length/\rs.length-i+17<=n/\s∈Mw l ∧
 H ps=some (.tup b)/\b.length<=i/\H pf=some (.tup (nV fs))/\fs.length<=i/\(∀x∈fs,1<=x/\x<=15) ∧
 ∀(H':Hp) (c:List V),cF K BS BP BH Pt a H' wh rs D l c->bP Pt a H H'->(c≠[]↔hs≠[]\/Hd (rs.drop i) s fs)->Q .non H'
variable{P:GJ}{w:GQ}{K:G5}{mg:Str->Option O}{base:Heap}{BS BP BH C Pt:Z}
theorem V6(h:fs.length<=i):(held fs f).length<=i+1:=by
 unfold held;split
 ·lia
 ·rw[Ad];exact Db h
theorem Ys(h:∀x∈fs,1<=x/\x<=15)(b:f<=15):∀x∈held fs f,1<=x/\x<=15:=by
 unfold held;split
 ·exact h
 ·intro x a;rcases AA.mp a with z | z
  ·exact h x z
  ·rw[Ai.mp z]
   lia
theorem Xu{σ:L2.St}{H:Hp}{Q:VK}{pf:Z}{fs:List Nat}{f:Nat}(d:σ[4]?=some (some (.ref pf)))(c:σ[6]?=some (some (.int (f:Int))))(k:H pf=some (.tup (nV fs)))(m:fs.length<=6)(q:∀(a:Z) (H':Hp),aG H H'->H' a=some (.tup (nV (held fs f)))->Q (.ref a) H'):
  lU (N4 (dQ (fW λi j=>.bl (decide (j<i))) (HW 6) (tC (.int 0)))) (dQ YU (HW 4) (Qk (Ii (HW 6) JL))) (HW 4) σ H Q:=by
 refine⟨_,c,zB Y Y ⟨_,Y,?_⟩⟩;by_cases h:f=0
 ·have e:decide ((0:Int)<(f:Int))=false:=decide_eq_false (by lia);rw[e];refine L6 ⟨_,d,q pf H (aG.refl _) ?_⟩;unfold held
  rwa [G7 h]
 ·have e:decide ((0:Int)<(f:Int))=true:=decide_eq_true (by lia);rw[e];refine Mo ⟨_,d,_,c,(by show 1<=GI;decide),λg b=>zQ Y Y ⟨aF b _ _ k,G9,.inr (by simp),(by rw[Ab,sizeLine_eq];show fs.length+1<=_;lia),λa H' s l=>q a H' ((aF b).trans s) ?_⟩⟩;unfold held
  rwa [G6 h,WA]
def mD:List Str:=["self","course","left","stops","frets","grip","fret","unit","mask","held"]
theorem Sa:aH mD ["self","course","left","stops","frets"] (Hj Ib):=HZ
theorem pW(n:Nat)(F:bI K "go_on" "HoldSearch.go_on" Ib f fd)(T:jB K BS)(TQ:iP K BP)(zl:mg "len"=none)
  (MG:cW P w K mg base C BH 7 "grips" ["self","frets"] (Ws K BH Pt)) (MC:cW P w K mg base C BP 15 "count_from" ["self","course","left"] (WK BP 15))
  (MR:cW P w K mg base C BS n "go_on" ["self","course","left","stops","frets"] (Rc K BS BP BH Pt n)) (h16:16<=n):
  aN P w K mg base (aS P w C) (n+1) f fd ["self","course","left","stops","frets"] (Rc K BS BP BH Pt (n+1)):=by
 refine F.okX Sa (λvs H Q E h=>?_) (λaC A outer s0 H vs Q E W h=>?_)
 ·obtain⟨_,_,_,_,_,_,_,_,_,_,_,_,rfl,_⟩:=h;rfl
 ·obtain⟨a,wh,rs,D,l,s,hs,i,ps,pf,ss,fs,rfl,o,h6,ai,aj,M,hi,hn,ab,ay,b5,af,bd,ah,k⟩:=h;obtain⟨gg,bj,GG,a8,ba,a7⟩:=MG;have MG:cW P w K mg base C BH 7 "grips" ["self","frets"] (Ws K BH Pt):=⟨gg,bj,GG,a8,ba,a7⟩;refine⟨_,He (HG (PW.pt (OP (Hs LP (HE HF (by rfl) zl PySem.boot_len (G8 (Hy (J 0) rfl) Hg)) (Hy (J 0) rfl) (Hw _)) (Mu (MF (Md (IN MG (W.mono (by lia)) (Hy (J 0) rfl) (G8 (J 4) Hg)) (λ_=>rfl)))))) (Hh P3) Hu)
   (He (HG (Hs Ip (J 2) Hm (Hw _))
    (He (Hv (JS AO PySem.F.slot_list_extend PySem.F.type_list_extend TN (Hy (J 0) rfl) (G8 (MV (own:=[("grip",5)]) (g:=IF 5) (te:=Qk (Ii (HW 3) (Ii (HW 5) JL))) rfl Sa.nd (Iz (IN MG (W.mono (by lia)) (Hy (J 0) rfl) (G8 (J 4) Hg)))
      (show bS mD (Hj Ib) _ [("grip",5)] from PF)
      (λ_ _ _ _ _=>cM 5 Sa.nd) (λ_ _ _ _ _=>Jr)
      (λ_ _ _ _ _=>Ik (G8 (J 3) (G8 (J 5) Hg)))) Hg)))
    (Hh P3)) Hu)
   (He (HG (Hs Ip (IN MC (W.mono (by lia)) (Hy (J 0) rfl) (G8 (J 1) (G8 (J 2) Hg))) Hm (Hw _)) (Hh P3) Hu)
   (He (IX Jn rfl (Iz (IL IR (Hy (Hy (J 0) rfl) rfl) (J 1) (λ_ _=>rfl))) (KO rfl (HU (cM 6 Sa.nd) (HU (cM 7 Sa.nd) (HU (cM 8 Sa.nd) JM))))
    (Hh (HG (Hs Ki (HH Si (J 2) (J 8)) Hm (Hw _))
     (He (bG 9 Sa.nd (QX (Hs LP (J 6) Hm (Hw _)) (HH SH (J 4) (Ik (G8 (J 6) Hg))) (J 4)))
     (Hh (Hv (IN MR W (J 0) (G8 (HH IU (J 1) Hm) (G8 (HH JX (J 2) (J 7)) (G8 (HH SH (J 3) (Ik (G8 (Ik (G8 (HH IU (J 1) Hm) (G8 (J 6) Hg))) Hg))) (G8 (J 9) Hg)))))))) Hu)))
   (Hh (Hv (IN MR W (J 0) (G8 (HH IU (J 1) Hm) (G8 (J 2) (G8 (J 3) (G8 (J 4) Hg)))))))))),?_⟩
  have au:W9 fs:=⟨by lia,ah⟩;have am:∀{H1:Hp} {bn:List V},cF K BS BP BH Pt a H1 wh rs D l bn->∀b,b=a.mh->H1 b≠Option.none:=λd b B=>by rw[B,d.holds];exact λz=>nomatch z
  refine zA Y (zD Y o.at_ T.cl T.nO (V0 _ _ _) (zB Y (.inl (aP.of o.holds)) (zA Y (zD Y o.at_ T.cl T.nM (pT _ _ _) (zB Y Y (zA Y ?_))))));refine HN (λh=>?_) λh=>?_
  ·have bh:hs≠[]:=λz=>by rw[z] at h;exact absurd (of_decide_eq_true h) (by decide)
   exact Mo (k H hs o bP.refl ⟨λz=>.inl z,λ_=>bh⟩)
  have bw:hs=[]:=by
   cases hs with
   |nil=>rfl
   |cons v t=>exact absurd (decide_eq_true (by show(0:Int)<((t.length+1:Nat):Int);lia)) h
  subst bw;clear h;refine zA Y (zD Y o.at_ T.cl T.nH (YS _ _ _) (zC Y o.hand.at_ (YK _) (zA Y (zS (λb=>b=a.mh) a.hd a.dh a.dk pf fs Y ⟨o.hand,af,au,o.tab,am o,λH1 q bu bt ar gp nq=>?_⟩))));obtain⟨gl,⟨bs,g1,g2⟩,a6,gm⟩:=gp;refine zA (.inl ⟨_,aP.of g1,Y⟩) ?_;have d:=o.grips bu bt ar;have k1:bP Pt a H H1:=λb o h h1 _ m _=>ar b o h h1 m;have a5:=k1.tup o af;have b2:=k1.tup o ay;refine HN (λh=>?_) λh=>?_
  ·have B:bs=[]:=by
    cases bs with
    |nil=>rfl
    |cons b t=>simp at h
   subst B;cases g2;have br:¬dH fs:=λ⟨p,g,z⟩=>nomatch (gm p g).mpr z;exact k H1 [] d k1 ⟨λz=>absurd rfl z,λz=>z.elim (λz=>absurd rfl z) (λz=>absurd (Zg z) br)⟩
  have av:dH fs:=by
   cases g2 with
   |nil=>exact absurd rfl h
   |@cons b x bs gl _ _=>exact⟨x.1,x.2,(gm x.1 x.2).mp (.head _)⟩
  clear h g1 g2 a6 gm;refine zE Y Y (zA Y ?_);rw[ID];have al:=Me ab;refine HN (λh=>?_) λh=>?_
  ·have h':((bA D s:Nat):Int)=0:=of_decide_eq_true h;have e0:s=[]:=(KL D s).mp (by lia);refine zA Y (zG Y d.at_ ⟨T.cl,T.nO,V0 _ _ _,.inl ⟨Y,_,aP.of d.holds⟩,zA Y (zD Y d.at_ T.cl T.nH (YS _ _ _) (zC Y d.hand.at_ (YK _) (zA Y (zS (λb=>b=a.mh) a.hd a.dh a.dk pf fs Y ⟨d.hand,a5,au,d.tab,am d,λH2 q2 bc a4 a0 bm b7=>?_⟩))))⟩);obtain⟨bk,⟨G,e1,d6⟩,b4,em⟩:=bm;have e:=d.grips bc a4 a0;have b3:=Paired.length d6;refine zE Y ⟨_,aP.of e1⟩ (λDl aw=>LJ (K:=K) (a:=q2) (xs:=G.map V.ref) (λj u=>aG H2 u/\∃ys:List V,u Dl=some (.lst ys)/\ys.length=j) ⟨aF aw,[],G9,Y⟩ (λj u _ q=>aP.of (q.1 _ _ e1)) ?_ ?_)
   ·rintro j y u I ⟨s3,ys,S,X⟩;have hj:j<G.length:=by have:=(Al.mp I).1;rwa [Ab] at this
    refine⟨Y,zA Y (zE Y (by show 2<=GI;decide) (λp hp=>⟨ys,aF hp _ _ S,(by rw[sizeLine_eq];lia),λb o B=>?_,ys++[.ref p],G9,by rw[Ad,X];rfl⟩))⟩;rw[Hf (Hk B aw)];exact aF hp _ _ (s3 _ _ B)
   ·rintro u ⟨s3,ys,S,X⟩;rw[Ab] at X;have L:=e.same s3;refine zO Y Y L.holds S (by rw[sizeLine_eq];show 0+ys.length<=_;lia) ?_;refine k _ ys (L.put ys) (λb o h h1 h2 m N=>?_) ⟨λ_=>.inr (by rw[e0];exact Zo.mpr av),λ_ z=>?_⟩
    ·rw[Hf N];exact s3 _ _ (a0 _ _ (k1 _ _ h h1 h2 m N) h1 m)
    ·rw[z] at X;obtain⟨p,g,bo⟩:=av;have:=(em p g).mpr bo;rw[BQ.mp (show bk.length=0 by simp at X;lia)] at this;cases this
  have h0:bA D s≠0:=λz=>h (decide_eq_true (by rw[z];rfl));have bi:s≠[]:=λz=>h0 ((KL D s).mpr z);clear h;refine zA Y (zD Y d.at_ T.cl T.nP (VX _ _ _) (zC Y d.pl.at_ (UT _ _ _) (zA Y (zA Y ⟨a.pl,a.dpl,a.m,zM a.dc wh rs D l s i Y ⟨d.pl,by lia,aj,M,hi,(show rs.length-i<=14 by lia),ab,λH2 bz k2=>?_⟩⟩))));have e:=d.count bz k2;have d7:bP Pt a H H2:=k1.trans λb o h _ h2 _ _=>k2 _ _ h h2;refine⟨Y,zA Y ?_⟩;rw[ID,<-List.map_drop,NX _ s (by lia) λy I=>M y (al.2 y I)];refine HN (λh=>?_) λh=>?_
  ·have h':((cnt (rs.drop i) s:Nat):Int)=0:=of_decide_eq_true h;exact k H2 [] e d7 ⟨λz=>absurd rfl z,λz=>z.elim (λz=>absurd rfl z) (λz=>absurd (by lia) (ZE z))⟩
  have hc:cnt (rs.drop i) s≠0:=λz=>h (decide_eq_true (by rw[z];rfl));clear h;have U:i<rs.length:=by
   refine Nat.lt_of_not_le λz=>hc ?_;rw[List.drop_of_length_le z];unfold LuC.cnt;cases s with
   |nil=>exact absurd rfl bi
   |cons y t=>rfl
  have bq:rs.drop i=rs[i]::rs.drop (i+1):=CB U;have b8:rs[i].length<=16:=ai _ (AG U);have bb:(rs.map (HR D))[i]?=some (HR D rs[i]):=by rw[Ah,Aa U];rfl
  rw[bq] at k;generalize rs[i]=r at *;obtain⟨G,d1,d2,d3⟩:=e.pl.ch;have an:i<G.length:=by rwa [d2,Ab]
  have ax:G[i]?=some G[i]:=Aa an;have bp:G[i]≠a.mh:=e.mb G d1 _ (AG an);obtain⟨_,es,e1,d6,e3⟩:=d3 i _ _ ax bb;generalize G[i]=as at *;have az:=d7.tup o af;have aq:=d7.tup o ay;refine zA Y (zD Y e.at_ T.cl T.nP (VX _ _ _) (zD Y e.pl.at_ TQ.cl TQ.nC (Vc _ _ _) (zA Y (zH Y Y (aP.of d1) (Mm (by rw[Ah,ax];rfl)) (zE Y ⟨_,aP.of e1⟩ (Jg (K:=K) (a:=as) (xs:=es.map V.ref) (λj σ u=>∃(v5 v6 v7 v8 v9:Option V) (d9:List V),σ=[some (.ref a.x),some (.int (i:Int)),some (.int ((bA D s:Nat):Int)),some (.ref ps),some (.ref pf),v5,v6,v7,v8,v9]/\cF K BS BP BH Pt a u wh rs D l d9/\bP Pt a H2 u/\(d9≠[]↔∃c∈(HR D r).take j,∃y,r[c.1]?=some y/\y∈s/\Hd (rs.drop (i+1)) (s.erase y) (held fs c.1)))
    (zP Y e bP.refl ⟨λz=>absurd rfl z,λ⟨c,hc,_⟩=>by simp at hc⟩) (λj σ u _ qQ=>by obtain⟨_,_,_,_,_,_,_,_,kk,_⟩:=qQ;exact aP.of (kk.lst e e1 bp)) ?_ ?_))))))
  ·rintro j y σ u I ⟨v5,v6,v7,v8,v9,d9,rfl,L,k3,aa⟩;rw[Ah] at I;cases B:es[j]? with
   |none=>rw[B] at I;cases I
   |some b=>
    rw[B] at I;cases I;have hj:j<(HR D r).length:=by rw[<-d6];exact(Al.mp B).1
    have ap:(HR D r)[j]?=some (HR D r)[j]:=Aa hj;have bg:=k3.tup e (e3 j b _ B ap);have tk:(HR D r).take (j+1)=(HR D r).take j++[(HR D r)[j]]:=by rw[Bn,ap];rfl
    obtain⟨y,be,ag,hu,a9⟩:=SN.mp (AG hj);rw[tk];generalize (HR D r)[j]=c at *;have a2:=k3.tup e az;have bf:=k3.tup e aq;have bv:c.1<=15:=by have:=(Al.mp ag).1;lia
    have ao:(bA D s &&& c.2.2)≠0↔y∈s:=by rw[a9];exact Nh (by lia) be (λz R=>M z (al.2 z R))
    have next:∀(P1:Prop),(P1↔d9≠[]\/(y∈s/\Hd (rs.drop (i+1)) (s.erase y) (held fs c.1)))->(P1↔∃d8∈(HR D r).take j++[c],∃y,r[d8.1]?=some y/\y∈s/\Hd (rs.drop (i+1)) (s.erase y) (held fs d8.1)):=λP1 z=>by
     rw[z,aa];constructor
     ·rintro(⟨d8,h1,h2⟩ | h)
      ·exact⟨d8,A6 _ h1,h2⟩
      ·exact⟨c,AQ _ (.head _),y,ag,h⟩
     ·rintro⟨d8,h1,y',h2,m⟩;rcases AA.mp h1 with h1 | h1
      ·exact .inl ⟨d8,h1,y',h2,m⟩
      ·rw[Ai.mp h1] at h2 m;rw[ag] at h2;cases h2;exact .inr m
    refine zF Y (aQ.of bg) Y (zK Y (zK Y (zB Y Y ?_)));refine zA Y (zA Y (zF Y Y Y (zA Y ?_)));show if (!decide (V.int (Builtin.bitAnd ((bA D s:Nat):Int) ((c.2.2:Nat):Int))=V.int 0))=true then _ else _;rw[ID,SQ];by_cases R:(bA D s &&& c.2.2)=0
    ·rw[decide_eq_true (by rw[R];rfl)];refine L6 (zP Y L k3 (next _ ⟨.inl,λz=>z.elim id λq=>absurd R (ao.mpr q.1)⟩))
    ·rw[decide_eq_false (λq=>R (by lia))];have S:=ao.mp R;obtain⟨bl,b6⟩:=La (D:=D) S;have b0:((bA D s:Nat):Int)-((c.2.1:Nat):Int)=((bA D (s.erase y):Nat):Int):=by
      rw[bl,hu]
      lia
     refine Mo (Xu (fs:=fs) rfl rfl a2 (by lia) λph H4 ad a3=>?_);have o4:=L.same ad;refine zA Y (zC Y o4.at_ (Wl _ _ _) (zA Y (zB Y Y (zA Y (zA Y (zB Y Y (zA Y (zA Y (zB Y Y (zE Y (by show 2<=GI;decide) (λp1 b1=>⟨(by show 1<=GI;decide),λp2 bx=>?_⟩)))))))))));have s1:=(aF b1).trans (aF (o:=.tup [.ref p1]) bx);refine zQ Y Y ⟨s1 _ _ (ad _ _ bf),G9,.inr (by simp),(by rw[sizeLine_eq];show ss.length+1<=_;lia),λp3 H5 s5 a1=>?_⟩;have ak:=s1.trans s5;have o5:=o4.same ak;refine zA Y ⟨a,wh,rs,D,l,zM (s.erase y) d9 (i+1) p3 ph _ (held fs c.1) ?_ ⟨o5,h6,ai,aj,M,U,by lia,Kq ab,a1,(by rw[Ad];show ss.length+1<=i+1;lia),ak _ _ a3,V6 bd,Ys ah bv,λH6 ae o6 k6 ac=>?_⟩⟩
     ·show[V.ref a.x,V.int ((i:Int)+1),V.int (((bA D s:Nat):Int)-((c.2.1:Nat):Int)),V.ref p3,V.ref ph]=_;rw[b0];rfl
     ·exact zP Y o6 (((k3.trans (aG.k4 ad)).trans (aG.k4 ak)).trans k6) (next _ (ac.trans ⟨λz=>z.imp id λq=>⟨S,q⟩,λz=>z.imp id λq=>q.2⟩))
  ·rintro σ u ⟨v5,v6,v7,v8,v9,d9,rfl,L,k3,aa⟩;rw[Ab,d6,AZ] at aa;refine zA Y (zC Y L.at_ (Wl _ _ _) (zA Y (zB Y Y (zA Y (zA Y (zA Y ⟨a,wh,rs,D,l,zM s d9 (i+1) ps pf ss fs Y ⟨L,h6,ai,aj,M,U,by lia,ab,k3.tup e aq,by lia,k3.tup e az,by lia,ah,λH6 ae o6 k6 ac=>?_⟩⟩))))));refine k H6 ae o6 ((d7.trans k3).trans k6) ?_;rw[ac,aa,W1];constructor
   ·rintro(⟨c,h1,y,h2,m,N⟩ | h)
    ·exact .inr (.inl ⟨c.1,y,h2,m,N⟩)
    ·exact .inr (.inr h)
   ·rintro(h | ⟨f,y,h2,m,N⟩ | h)
    ·exact absurd rfl h
    ·exact .inl ⟨(f,unit D y,mask D y),SN.mpr ⟨y,M y (al.2 y m),h2,Y,Y⟩,y,h2,m,N⟩
    ·exact .inr h
end Lu
set_option maxHeartbeats 4000000
namespace LuG
open Lute
theorem LL:∀(a b:List (List Iv)) (l:List Iv),dJ (a++b) l=dJ b (dJ a l)
 |[],b,l=>rfl
 |[]::a,b,l=>LL a b l
 |[z]::a,b,l=>by
  show(if z∈l then dJ (a++b) (l.erase z) else dJ (a++b) l)=dJ b (if z∈l then dJ a (l.erase z) else dJ a l);split
  ·exact LL a b _
  ·exact LL a b l
 |(y::z::r)::a,b,l=>LL a b l
theorem L4:∀(a:List (List Iv)) (l:List Iv),(dJ a l).length<=l.length
 |[],l=>Ag _
 |[]::a,l=>L4 a l
 |[z]::a,l=>by
  show(if z∈l then dJ a (l.erase z) else dJ a l).length<=_;split
  ·exact AE (L4 a _) (FH ..)
  ·exact L4 a l
 |(y::z::r)::a,l=>L4 a l
theorem WS(a b:List (List Iv)):JG (a++b)=JG a++JG b:=ED ..
end LuG
namespace Lu
open L2 Lute LuR LuW LuG LuC
abbrev P9:Z->Prop:=λ_=>False
def dX(Pt dk:Z)(H H':Hp):Prop:=∀b o,H b=some o->b≠Pt->b≠dk->H' b=some o
section
variable{K:G5}{ex ex':Z->Prop}{H H' H2:Hp}{B x dx d Pt dk:Z}
theorem dX.trans(k:dX Pt dk H H')(k2:dX Pt dk H' H2):dX Pt dk H H2:=λb o h h1 h2=>k2 _ _ (k _ _ h h1 h2) h1 h2
theorem aG.k2(s:aG H H'):dX Pt dk H H':=λb o h _ _=>s _ _ h
theorem bW.exc(h:bW K ex H memo)(a:∀b xs,ex' b->H b≠some (.lst xs)):bW K ex' H memo:=⟨h.1,λp c=>let ⟨fs,q,h1,h2,⟨gl,⟨bs,g1,g2⟩,h3⟩,_⟩:=h.2 p c;⟨fs,q,h1,h2,⟨gl,⟨bs,g1,g2⟩,h3⟩,λz=>a q _ z g1⟩⟩
theorem aU.exc(h:aU K ex H B x dx d)(a:∀b xs,ex' b->H b≠some (.lst xs)):aU K ex' H B x dx d:=let ⟨memo,m1,m2⟩:=h.memo;⟨h.at_,memo,m1,m2.exc a⟩
theorem aU.no(h:aU K ex H B x dx d):aU K P9 H B x dx d:=h.exc λ_ _ z=>z.elim
theorem aU.same(h:aU K ex H B x dx d)(s:aG H H'):aU K ex H' B x dx d:=let ⟨memo,m1,m2⟩:=h.memo;⟨s _ _ h.at_,memo,s _ _ m1,m2.lt ⟨λb xs q _=>s _ _ q,λb xs q=>s _ _ q,λb o xs q=>s _ _ q⟩⟩
theorem aU.keep(h:aU K ex H B x dx d)(k:aL H H' y)(i:H y=some (.ins By dy fs))(hn:x≠y):aU K ex H' B x dx d:=
 let ⟨memo,m1,m2⟩:=h.memo
 have e:∀{b:Z} {q:HO},H b=some q->(∀a b c,q≠.ins a b c)->H' b=some q:=λf g=>k _ _ f (Hq f i (g _ _ _))
 ⟨k _ _ h.at_ hn,memo,e m1 (λ_ _ _=>aO),m2.lt ⟨λb xs q _=>e q (λ_ _ _=>aO),λb xs q=>e q (λ_ _ _=>aO),λb o xs q=>e q (λ_ _ _=>aO)⟩⟩
theorem aX.keep(h:aX Pt H)(k:aL H H' y)(a:H y=some (.ins By dy fs)):aX Pt H':=by
 rcases h with h | ⟨c,b,vs,t,h1,h2,d⟩
 ·exact .inl (k _ _ h (Hq h a aO))
 ·exact .inr (zQ (k _ _ h1 (Hq h1 a aO)) (k _ _ h2 (Hq h2 a aO)) d)
end
def ZH(K:G5)(BS BH Pt:Z):Sp:=λvs H Q _=>∃(x dx d a hd c dk:Z) (rs:List (List Iv)) (l:List Iv),vs=[.ref x,.ref d,.ref a,.ref hd,.int 0]/\H x=some (.ins BS dx [])/\TabAt H d rs/\rs.length<=6/\(∀r∈rs,r.length<=16)/\aI H a l/\l.length<=14/\hd≠x/\aU K P9 H BH hd c dk/\aX Pt H ∧
 ∀(H':Hp) (pl mh:Z) (hs:List V),H' x=some (.ins BS dx (sf pl hd mh))->H' mh=some (.lst hs)->aU K P9 H' BH hd c dk->aX Pt H'->(∀b o,H b=some o->b≠x->b≠Pt->b≠dk->H' b=some o)->(hs≠[]↔Hd rs l [])->Q .non H'
def lY(K:G5)(BH Pt:Z):Sp:=λvs H Q _=>∃(a b hd c dk:Z) (rs:List (List Iv)) (l:List Iv),vs=[.ref a,.ref b,.ref hd,.int 0]/\TabAt H a rs/\rs.length<=6/\(∀r∈rs,r.length<=16)/\aI H b l/\l.length<=14/\aU K P9 H BH hd c dk/\aX Pt H ∧
 ∀(H':Hp) (mh:Z) (hs:List V),H' mh=some (.lst hs)->aU K P9 H' BH hd c dk->aX Pt H'->dX Pt dk H H'->(hs≠[]↔Hd rs l [])->Q (.ref mh) H'
def mI(K:G5)(BH Pt:Z):Sp:=λvs H Q _=>∃(a c hd d dk:Z) (rs:List (List Iv)) (l:List Iv),vs=[.ref a,.ref c,.ref hd]/\TabAt H a rs/\(∀r∈rs,r≠[])/\rs.length<=14/\(JG rs).length<=6/\(∀r∈rs,r.length<=16)/\aI H c l/\l.length<=14/\aU K P9 H BH hd d dk/\aX Pt H ∧
 ∀(H':Hp) (b:Bool),aU K P9 H' BH hd d dk->aX Pt H'->dX Pt dk H H'->(b=true↔Hd rs l [])->Q (.bl b) H'
variable{P:GJ}{w:GQ}{K:G5}{mg:Str->Option O}{base:Heap}{BS BP BH C Pt:Z}
theorem qO:aH ["self","courses","notes","hand","most"] ["self","courses","notes","hand","most"] (Hj Jb):=HZ
theorem Vn(F:bI K "__init__" "HoldSearch.__init__" Jb f fd)(T:jB K BS)(d7:iP K BP)(DP:gD P w K mg base C BP 2 "Placings" ["self","courses","notes"] (Zc BP))(MR:cW P w K mg base C BS 23 "go_on" ["self","course","left","stops","frets"] (Rc K BS BP BH Pt 23)):
  aN P w K mg base (aS P w C) 24 f fd ["self","courses","notes","hand","most"] (ZH K BS BH Pt):=by
 refine F.okX qO (λvs H Q E h=>?_) (λaC A outer s H vs Q E hr h=>?_)
 ·obtain⟨_,_,_,_,_,_,_,_,_,rfl,_⟩:=h;rfl
 ·obtain⟨x,dx,mc,mn,hd,R,dk,rs,l,rfl,hx,hT,h6,ah,M,af,d6,hH,hF,k⟩:=h;refine⟨_,He (JE (J 0) (Ra DP hr.mono rfl (G8 (J 1) (G8 (J 2) Hg))) rfl)
   (He (JE (J 0) (J 3) rfl)
   (He (JE (J 0) (J 4) rfl)
   (He (JE (J 0) (Iw Hg) rfl)
   (Hh (Hv (IN MR hr (J 0) (G8 Hm (G8 (Hy (Hy (J 0) rfl) rfl) (G8 (Ik Hg) (G8 (Ik Hg) Hg)))))))))),?_⟩
  obtain⟨a1,an,_⟩:=hH.memo;refine zA Y (zA Y (λpl j I aa a0=>?_));have S:aG H (aK (aK H j (.own pl)) pl (.ins BP j [])):=λb o d=>by rwa [Hf (Hk d I),Hf (Hk d aa)]
  refine zP Y G9 (hT.same S) ⟨by lia,ah,M.same S,af,λH1 m p ax d8 d9 ab k1=>⟨Y,?_⟩⟩;have U:H p=Option.none:=by
   cases q:H p with
   |none=>rfl
   |some o=>rw[S _ _ q] at ab;cases ab
  have u:aG H H1:=aG.made I aa k1;have n:=u _ _ hx;have az:pl≠x:=λz=>by rw[z,hx] at I;cases I
  refine zA Y (zO Y n T.cl T.nP (by show 0<1000;decide) ?_);have kx:∀{N:Hp} {o:HO},aL N (aK N x o) x:=λ{N o} b o' h d=>by rwa [Hf d]
  refine zA Y (zA Y (zO Y G9 T.cl T.nH (by show 1<1000;decide) ?_));rw[Ni];refine zA Y (zA Y (zO Y G9 T.cl T.nM (by show 2<1000;decide) ?_));rw[Ni];generalize ac:L2.aK H1 x (.ins BS dx (H0 "most" (.int 0) (H0 "hand" (.ref hd) (H0 "placings" (.ref pl) []))))=H2;have t:H2 x=some (.ins BS dx (H0 "most" (.int 0) (H0 "hand" (.ref hd) (H0 "placings" (.ref pl) [])))):=by rw[<-ac];exact G9
  have k2:aL H1 H2 x:=by rw[<-ac];exact kx
  refine⟨Az _,λmh r=>?_⟩;have e:=aF (o:=.lst []) r;have am:x≠mh:=λz=>by rw[<-z,t] at r;cases r
  refine zA Y (zO Y (e _ _ t) T.cl T.nO (by show 3<1000;decide) ?_);generalize ad:L2.aK (L2.aK H2 mh (.lst [])) x (.ins BS dx (H0 "holds" (.ref mh) (H0 "most" (.int 0) (H0 "hand" (.ref hd) (H0 "placings" (.ref pl) [])))))=g;have X:g x=some (.ins BS dx (sf pl hd mh)):=by rw[<-ad];exact G9
  have k4:aL (L2.aK H2 mh (.lst [])) g x:=by rw[<-ad];exact kx
  have ak:=(hH.same u).keep k2 n d6;have ao:aU K (λb=>b=mh) H2 BH hd R dk:=ak.exc λb xs z=>by rw[z,r];exact λq=>nomatch q
  have au:=(ao.same e).keep k4 (e _ _ t) d6;have ai:=aX.keep (aM.same (aX.keep (aM.same hF u) k2 n) e) k4 (e _ _ t);have av:=((d8.keep k2 n (λ_=>aO) (λ_=>aO)).same e).keep k4 (e _ _ t) (λ_=>aO) (λ_=>aO);have G:∀{b:Z} {o:HO},H1 b=some o->b≠x->g b=some o:=λd v=>k4 _ _ (e _ _ (k2 _ _ d v)) v;have ae:g pl=some (.ins BP j (pf m ((bA (dd l) l:Nat):Int) p)):=G ax az;have aq:g p=some (.dT []):=G d9 (λz=>by rw[z,n] at d9;cases d9);have aw:g mh=some (.lst []):=k4 _ _ G9 (Ne.symm am);have fresh:∀{b:Z} {o:HO},H1 b=some o->(∀a b c,o≠.ins a b c)->b≠mh:=λd hq z=>by have:=k2 _ _ d (Hq d n (hq _ _ _));rw[z,r] at this;cases this
  have M:∀L,aG g L->cF K BS BP BH Pt ⟨x,dx,pl,j,m,p,hd,R,dk,mh⟩ L ((bA (dd l) l:Nat):Int) rs (dd l) l []:=λL sn=>by
   refine cF.same ⟨X,⟨ae,av,[],aq,UZ _ _ _⟩,au,aw,ai,?_,?_,λap h b d=>?_⟩ sn
   ·show p≠dk;exact λz=>by rw[z,an] at U;cases U
   ·show m≠mh;obtain⟨bs,B,_⟩:=d8;exact fresh B (λ_ _ _=>aO)
   ·show b≠mh;obtain⟨bs,B,c2,c3⟩:=d8;have e1:g m=some (.lst (bs.map V.ref)):=G B (Hq B n aO);have e2:ap=bs:=KQ (by have:=h.symm.trans e1;injection this with this;injection this)
    rw[e2] at d;obtain⟨i,hi,rfl⟩:=Ct.mp d;obtain⟨_,es,q1,_⟩:=c3 i bs[i] ((rs.map (HR (dd l)))[i]'(by lia)) (Aa hi) (Aa _);exact fresh q1 (λ_ _ _=>aO)
  refine⟨_,Y,x,dx,_,Y,X,Wl _ _ _,_,Y,x,BS,dx,_,_,Y,X,T.cl,T.nP,VX _ _ _,pl,BP,j,_,_,Y,ae,d7.cl,d7.nW,qA _ _ _,(by show 0<=GI;decide),λp1 as=>⟨(by show 0<=GI;decide),λp2 ag=>?_⟩⟩;have sn:=(aF (o:=.tup []) as).trans (aF (o:=.tup []) ag);have dm:=(NS l).2.1;refine⟨⟨x,dx,pl,j,m,p,hd,R,dk,mh⟩,((bA (dd l) l:Nat):Int),rs,dd l,l,l,[],0,p1,p2,[],[],Y,M _ sn,h6,ah,af,λy W=>(dm y).mpr W,Az _,by lia,O7 l,aF ag _ _ G9,Ag _,G9,Ag _,(λy W=>nomatch W),λH6 al D k6 aj=>?_⟩;refine k H6 pl mh al D.at_ D.holds D.hand.no D.tab (λb o d v ar ay=>?_) ?_
  ·refine k6 _ _ (sn _ _ (G (u _ _ d) v)) ar (λz=>?_) ay (λz=>?_)
   ·rw[z] at d;exact absurd (d.symm.trans U) (λq=>nomatch q)
   ·have:=k2 _ _ (u _ _ d) v;rw[z] at this;exact absurd (this.symm.trans r) (λq=>nomatch q)
  ·rw[aj,Dr];exact⟨λz=>z.elim (λz=>absurd rfl z) id,.inr⟩
theorem nX:aH ["courses","notes","hand","most"] ["courses","notes","hand","most"] (Hj LB):=HZ
theorem qN(F:bI K "holds_of" "holds_of" LB f fd)(T:jB K BS)(D:gD P w K mg base C BS 24 "HoldSearch" ["self","courses","notes","hand","most"] (ZH K BS BH Pt)):
  aN P w K mg base (aS P w C) 26 f fd ["courses","notes","hand","most"] (lY K BH Pt):=by
 refine F.okX nX (λvs H Q E h=>?_) (λd8 A outer s H vs Q E N h=>?_)
 ·obtain⟨_,_,_,_,_,_,_,rfl,_⟩:=h;rfl
 ·obtain⟨u,n,hd,v,dk,rs,l,rfl,B,I,G,p,y,e,M,k⟩:=h;refine⟨_,Hh (Hx (Hy (Ra D N.mono rfl (G8 (J 0) (G8 (J 1) (G8 (J 2) (G8 (J 3) Hg))))) rfl)),?_⟩;refine zA Y (zA Y (zA Y (zA Y (λx dx d d9 R=>?_))));have c:aG H (aK (aK H dx (.own x)) x (.ins BS dx [])):=λb o a=>by rwa [Hf (Hk a d),Hf (Hk a d9)]
  have g:hd≠x:=λz=>by rw[<-z,e.at_] at d;cases d
  refine⟨x,dx,zM u n hd v dk rs l Y ⟨G9,B.same c,I,G,p.same c,y,g,e.same c,aM.same M c,λH1 pl mh hs r q j i k1 m=>⟨Y,?_⟩⟩⟩;refine zD Y r T.cl T.nO (V0 _ _ _) (k H1 mh hs q j i (λb o a t L=>k1 _ _ (c _ _ a) (λz=>?_) t L) m);rw[z,d] at a;cases a
end Lu
set_option maxHeartbeats 4000000
namespace L2
theorem Sr{c β:Type}{F:c->β->Prop}:∀{a:List c} {b:List β},a.length=b.length->(∀(i:Nat) x y,a[i]?=some x->b[i]?=some y->F x y)->Paired F a b
 |[],[],_,_=>.nil
 |[],_::_,h,_=>by cases h
 |_::_,[],h,_=>by cases h
 |x::a,y::b,h,q=>.cons (q 0 x y rfl rfl) (Sr (Nat.succ.inj h) λi u v e d=>q (i+1) u v e d)
theorem Yc{e β:Type}{F:e->β->Prop}{a:List e}{b:List β}(p:Paired F a b):∀(i:Nat) x y,a[i]?=some x->b[i]?=some y->F x y:=by
 induction p with
 |nil=>intro i x y h;simp at h
 |cons h _ f=>
  intro i x y c d;cases i with
  |zero=>cases c;cases d;exact h
  |succ i=>exact f i x y c d
end L2
namespace Lu
open L2 Lute LuR LuW LuG LuC
theorem Qa(z:Iv):∀l:List Iv,((l.map bR).any λx=>decide (x=bR z))=decide (z∈l)
 |[]=>rfl
 |y::l=>by
  rw[An,BD,Qa z l];by_cases e:y=z
  ·subst e;simp
  ·have a:bR y≠bR z:=λq=>e (Nr q);have b:¬z=y:=λq=>e q.symm;simp[a,b]
theorem OJ(z:Iv):∀l:List Iv,((l.map bR).eraseP λx=>decide (x=bR z))=(l.erase z).map bR
 |[]=>rfl
 |y::l=>by
  by_cases e:y=z
  ·subst e;rw[An,Fj (by simp),Es]
  ·have a:bR y≠bR z:=λq=>e (Nr q);rw[An,Fk (by simpa using a),Er (by simpa using e),An,OJ z l]
theorem aI.kat(h:aI H m l):∃cs:List Z,H m=some (.lst (cs.map V.ref))/\fU H cs (l.map bR):=by obtain⟨bs,h1,h2,d⟩:=h;refine⟨bs,h1,Sr (by rwa [Ab]) λi x y c a=>?_⟩;rw[Ah] at a;obtain⟨z,b,rfl⟩:=Ba.mp a;exact d i x z c b
theorem fU.notes(h1:H m=some (.lst (cs.map V.ref)))(h2:fU H cs (l.map bR)):aI H m l:=⟨cs,h1,by have:=Paired.length h2;rwa [Ab] at this,λi b x c a=>Yc h2 i b (bR x) c (by rw[Ah,a];rfl)⟩
theorem TabAt.updL(h:TabAt H m ls)(hn:H n=some (.lst xs))(f:m≠n)(e:∀bs:List Z,H m=some (.lst (bs.map V.ref))->∀b∈bs,b≠n):TabAt (aK H n (.lst ys)) m ls:=by obtain⟨bs,h1,h2,d⟩:=h;exact⟨bs,by rwa [Hf f],h2,λi b l a c=>⟨(d i b l a c).1,(d i b l a c).2.upd hn (e bs h1 b (AX a))⟩⟩
variable{P:GJ}{w:GQ}{K:G5}{mg:Str->Option O}{base:Heap}{BH C Pt:Z}
theorem X2:aH ["courses","notes","hand","left","stopped","course"] ["courses","notes","hand"] (Hj J8):=HZ
theorem Sg:G3 "list"=some (.type "list"):=by decide
theorem oR(F:bI K "can_be_held" "can_be_held" J8 f fd)(zl:mg "len"=none)(zi:mg "list"=none)(DH:bQ P w K mg base C 26 "holds_of" ["courses","notes","hand","most"] (lY K BH Pt)):
  aN P w K mg base (aS P w C) 27 f fd ["courses","notes","hand"] (mI K BH Pt):=by
 refine F.okX X2 (λvs H Q E h=>?_) (λaC A outer s H vs Q E d9 h=>?_)
 ·obtain⟨_,_,_,_,_,_,_,rfl,_⟩:=h;rfl
 ·obtain⟨mc,mn,hd,dh,dk,rs,l,rfl,hT,af,as,h6,ap,hN,ao,hH,hF,k⟩:=h;refine⟨_,He (bG 3 X2.nd (Ll Pd (by rfl) zi Sg (G8 (J 1) Hg)))
   (He (bG 4 X2.nd (Iw Hg))
   (He (IX Jn rfl (Iz (J 0)) (cM 5 X2.nd)
    (Hh (HG (Hs LP (HE HF (by rfl) zl PySem.boot_len (G8 (J 5) Hg)) Hm (Hw _))
     (Hh (Hv (JS AO AV AU Iu (J 4) (G8 (J 5) Hg))))
     (Hh (HG (KI (ZF (JI d9) (IL IR (J 5) Hm (λ_ _=>rfl)) (J 3)))
      (Hh (Hv (JS AO E9 PySem.F.type_list_remove (W2 (JI d9)) (J 3) (G8 (IL IR (J 5) Hm (λ_ _=>rfl)) Hg)))) Hu)))))
   (Hh (Hx (Mp (Zn (EK (JI d9))) (HL DH d9.mono rfl (G8 (J 4) (G8 (J 3) (G8 (J 2) (G8 Hm Hg))))) (Iw Hg) (Hw _)))))),?_⟩
  obtain⟨nb,n1,n2,n3⟩:=hN;refine zA Y (zB Y (.inl (aP.of n1)) (λB aa=>⟨Az _,λp N=>?_⟩));have sl:=aF (o:=.lst (nb.map V.ref)) aa;have ss:=aF (o:=.lst []) N;have U:=sl.trans ss;have X:B≠p:=λz=>by rw[<-z,G9] at N;cases N
  have ad:H p=Option.none:=by
   cases q:H p with
   |none=>rfl
   |some o=>rw[sl _ _ q] at N;cases N
  obtain⟨bs,t1,t2,t3⟩:=hT;refine zA Y (zE Y ⟨_,aP.of (U _ _ t1)⟩ (Jg (K:=K) (a:=mc) (xs:=bs.map V.ref) (λj σ H1=>∃v5:Option V,σ=[some (.ref mc),some (.ref mn),some (.ref hd),some (.ref B),some (.ref p),v5]/\aG H H1/\aI H1 B (dJ (rs.take j) l)/\TabAt H1 p (JG (rs.take j))/\∀bs:List Z,H1 p=some (.lst (bs.map V.ref))->∀b∈bs,b≠B)
   ⟨none,Y,U,⟨nb,ss _ _ G9,n2,λi b x g hx=>U _ _ (n3 i b x g hx)⟩,⟨[],G9,Y,λi b x g=>by simp at g⟩,λbs h b g=>by rw[G9] at h;have e:bs=[]:=KQ (a:=bs) (b:=[]) (by injection h with h;injection h with h;exact h.symm);rw[e] at g;cases g⟩ (λj σ H1 _ qQ=>by obtain⟨_,_,d,_⟩:=qQ;exact aP.of (d _ _ t1)) ?_ ?_))
  ·rintro j y σ H1 M ⟨v5,rfl,d,I,D,L⟩;rw[Ah] at M;cases g:bs[j]? with
   |none=>rw[g] at M;cases M
   |some b=>
    rw[g] at M;cases M;have hj:j<rs.length:=by rw[<-t2];exact(Al.mp g).1
    have ae:rs[j]?=some rs[j]:=Aa hj;have tk:rs.take (j+1)=rs.take j++[rs[j]]:=by rw[Bn,ae];rfl
    have ac:=(t3 j b _ g ae).2;have am:=af _ (AG hj);have aq:(JG (rs.take j)).length<=14:=by
     refine AE (Ej _ _) ?_;rw[AJ]
     lia
    rw[tk,LL,WS];generalize rs[j]=r at *;have ah:=ac.same d;obtain⟨rb,d8,r2,r3⟩:=ac;have W:=d _ _ d8;have au:b≠B:=λz=>by rw[z,aa] at d8;cases d8
    have an:b≠p:=λz=>by rw[z,ad] at d8;cases d8
    refine zA Y (zB Y (.inl (aP.of W)) (zB Y Y (zA Y ?_)));rw[Ab,r2];obtain⟨xs,G,x2⟩:=D.len;refine HN (λh=>?_) λh=>?_
    ·have h1:1<r.length:=by have:=of_decide_eq_true h;lia
     have d7:dJ [r] (dJ (rs.take j) l)=dJ (rs.take j) l:=by
      match r,h1 with
      |_::_::_,_=>rfl
     have S:JG [r]=[r]:=by unfold JG;rw[BL,G7 (by simpa using h1)];rfl
     rw[d7,S];refine zE Y (.inl ⟨Y,_,aP.of G⟩) (zA Y (zN Y Y G (by rw[x2,sizeLine_eq];lia) ⟨_,Y,λc o n=>?_,I.upd G X,D.snoc G ah an,λR h2 c n=>?_⟩))
     ·rw[Hf (Hk n ad)];exact d _ _ n
     ·obtain⟨cs,u,_⟩:=D;rw[G] at u;cases u;rw[G9] at h2;have e:R=cs++[b]:=KQ (a:=R) (b:=cs++[b]) (by injection h2 with h2;injection h2 with h2;rw[<-h2,AM];rfl);rw[e] at n;rcases AA.mp n with q | q
      ·exact L cs G c q
      ·rwa [Ai.mp q]
    ·have h1:¬1<r.length:=λz=>h (decide_eq_true (by lia));obtain⟨z,rfl⟩:∃z,r=[z]:=by
      match r,am,h1 with
      |[z],_,_=>exact⟨z,Y⟩
      |[],q,_=>exact absurd rfl q
      |_::_::_,_,q=>exact absurd (by simp) q
     have S:JG [[z]]=[]:=by unfold JG;rw[BL,G6 (by simp)];rfl
     rw[S,AR];have d7:∀m,dJ [[z]] m=if z∈m then m.erase z else m:=λm=>by show(if z∈m then dJ [] (m.erase z) else dJ [] m)=_;rfl
     rw[d7];obtain⟨cs,u,c2⟩:=I.kat;obtain⟨T,rfl⟩:∃b0,rb=[b0]:=by
      match rb,r2 with
      |[b0],_=>exact⟨b0,Y⟩
     have ag:=d _ _ (r3 0 T z rfl rfl);refine⟨_,Y,b,_,_,_,Y,Y,aP.of W,Jo (j:=0) rfl rfl,_,Y,T,B,cs,bR z,_,Y,Y,ag,u,c2,_,Y,?_⟩;rw[Qa];refine HN (λhz=>?_) λhz=>?_
     ·have d6:=of_decide_eq_true hz;rw[G7 d6];refine⟨_,Y,.inl ⟨Y,_,aP.of u⟩,_,Y,b,_,_,_,Y,Y,aP.of W,Jo (j:=0) rfl rfl,B,T,cs,bR z,_,Y,Y,u,ag,c2,(by rwa [Qa]),λar ab=>?_⟩;rw[OJ] at ab;refine⟨_,Y,λc o n=>?_,fU.notes G9 (Paired.mapP ab λc kk q=>by rwa [Hf (Hq q u aO)]),D.updL u (Ne.symm X) L,λR h2 c n=>?_⟩
      ·rw[Hf (Hk n aa)];exact d _ _ n
      ·rw[Hf (Ne.symm X)] at h2;exact L R h2 c n
     ·have d6:z∉dJ (rs.take j) l:=λq=>hz (decide_eq_true q);rw[G6 d6];exact⟨_,Y,d,I,D,L⟩
  ·rintro σ H1 ⟨v5,rfl,d,I,D,L⟩;rw[Ab,t2,AZ] at I D;refine zA Y (zA Y (zA Y (zM p B hd dh dk (JG rs) (dJ rs l) Y ⟨D,h6,λr d9=>ap r (Bg.mp d9).1,I,AE (L4 rs l) ao,hH.same d,aM.same hF d,λH2 mh hs al ak ai k2 aj=>⟨Az _,λq hq=>?_⟩⟩)));have sq:=aF (o:=.lst []) hq;refine zN Y Y (sq _ _ al) G9 ?_;refine k _ _ (ak.same sq) (aM.same ai sq) (((aG.k2 d).trans k2).trans (aG.k2 sq)) ?_;rw[show Hd rs l []↔Hd (JG rs) (dJ rs l) [] from RE rs [] l af,<-aj];cases hs with
   |nil=>exact⟨(λz=>nomatch z),λz=>absurd rfl z⟩
   |cons v t=>exact⟨(λ_ z=>nomatch z),λ_=>rfl⟩
end Lu
set_option maxHeartbeats 4000000
namespace Lu
open L2 Lute LuR LuW LuG LuC LuteSong
def kZ(Pt:Z):Sp:=λvs H Q _=>∃(m b:Z) (a:Song) (rs:List (List Iv)),vs=[.ref m,.ref b]/\bD H m a/\a.length<=512/\(∀v∈a,Verse.ok v=true)/\TabAt H b rs/\(∀r∈rs,r≠[])/\rs.length<=14/\(JG rs).length<=6/\(∀r∈rs,r.length<=16)/\aX Pt H ∧
 ∀(H':Hp) (n:Nat),n<=(notesOf a).length->(∀l∈(notesOf a).take n,Hd rs l [])->(∀l,(notesOf a)[n]?=some l->¬Hd rs l [])->Q (.int (n:Int)) H'
def iR(rs:List (List Iv))(aB:List (List (List bF)×V)):Prop:=∀p∈aB,∃(l:List Iv) (b:Bool),p=(l.map bR,V.bl b)/\(b=true↔Hd rs l [])
theorem QI:∀{a b:List Iv},a.map bR=b.map bR->a=b
 |[],[],_=>rfl
 |[],_::_,h=>by cases h
 |_::_,[],h=>by cases h
 |x::a,y::b,h=>by rw[An,An] at h;injection h with h1 h2;rw[Nr h1,QI h2]
theorem iR.val(h:iR rs aB)(a:Ij aB (l.map bR)=some v):∃b:Bool,v=.bl b/\(b=true↔Hd rs l []):=by unfold Ij at a;obtain⟨p,c,rfl⟩:=Ba.mp a;have e:p.1=l.map bR:=of_decide_eq_true (E4 (p:=λd:List (List bF)×V=>decide (d.1=l.map bR)) c);obtain⟨f,b,rfl,h2⟩:=h p (Du c);rw[QI e] at h2;exact⟨b,Y,h2⟩
theorem iR.put{rs:List (List Iv)}{aB:List (List (List bF)×V)}(h:iR rs aB){l:List Iv}{b:Bool}(c:b=true↔Hd rs l []):iR rs (IM aB (l.map bR) (.bl b)):=by
 unfold IM;split
 ·intro p a;obtain⟨d,e,rfl⟩:=Av.mp a;by_cases y:d.1=l.map bR
  ·rw[G7 y,y];exact⟨l,b,Y,c⟩
  ·rw[G6 y];exact h d e
 ·intro p a;rcases AA.mp a with y | y
  ·exact h p y
  ·rw[Ai.mp y];exact⟨l,b,Y,c⟩
section
variable{K:G5}{ex:Z->Prop}{H:Hp}{B x dx d Pt n:Z}{o:HO}{φ:Heap->Prop}
theorem aU.updX(h:aU K ex H B x dx d)(hn:H n=some (.ext φ)):aU K ex (aK H n o) B x dx d:=
 let ⟨memo,m1,m2⟩:=h.memo
 have a:∀{b:Z} {q:HO},H b=some q->(∀φ,q≠.ext φ)->(aK H n o) b=some q:=λe c=>by rwa [Hf (Hq e hn (c _))]
 ⟨a h.at_ (λ_=>aO),memo,a m1 (λ_=>aO),m2.lt ⟨λb xs q _=>a q (λ_=>aO),λb xs q=>a q (λ_=>aO),λb o xs q=>a q (λ_=>aO)⟩⟩
theorem aX.updX(h:aX Pt H)(hn:H n=some (.ext φ)):aX Pt (aK H n o):=by
 have a:∀{b:Z} {q:HO},H b=some q->(∀φ,q≠.ext φ)->(aK H n o) b=some q:=λd c=>by rwa [Hf (Hq d hn (c _))]
 rcases h with h | ⟨g,e,vs,t,h1,h2,f⟩
 ·exact .inl (a h (λ_=>aO))
 ·exact .inr (zQ (a h1 (λ_=>aO)) (a h2 (λ_=>aO)) f)
end
variable{P:GJ}{w:GQ}{K:G5}{mg:Str->Option O}{base:Heap}{BH C Pt:Z}
theorem Zu(a:aY k A):A.units+2<cLine:=AD (F4 (by decide:2<=64) _) a.units
theorem NK:aH ["lines","courses","hand","known","count","notes","key"] ["lines","courses"] (Hj Ir):=HZ
theorem qX(F:bI K "count_that_can_be_set" "count_that_can_be_set" Ir f fd)(zt:mg "tuple"=none)(bo:gD P w K mg base C BH 1 "Hand" ["self"] (kD K BH))(DM:bQ P w K mg base C 1 "moments_of" ["lines"] lP)(DC:bQ P w K mg base C 27 "can_be_held" ["courses","notes","hand"] (mI K BH Pt)):
  aN P w K mg base (aS P w C) 28 f fd ["lines","courses"] (kZ Pt):=by
 refine F.okX NK (λvs H Q E h=>?_) (λaC A outer s H vs Q E M h=>?_)
 ·obtain⟨_,_,_,_,rfl,_⟩:=h;rfl
 ·obtain⟨m,W,T,rs,rfl,hS,a7,au,hT,a8,a9,h6,a3,hF,k⟩:=h;obtain⟨gh,bp,GH,MH,ax,ba⟩:=bo;have hu:=Zu M;refine⟨_,He (bG 2 NK.nd (VI MH GH M.mono rfl ax ba .nil OE))
   (He (bG 3 NK.nd WO)
   (He (bG 4 NK.nd Hm)
   (He (IX Jn rfl (Iz (HL DM M.mono rfl (G8 (J 0) Hg))) (cM 5 NK.nd)
    (He (bG 6 NK.nd (Ll JT (by rfl) zt K3 (G8 (J 5) Hg)))
    (He (HG (KI (RD hu (J 6) (J 3))) (Hh (WV hu (J 3) (J 6) (HL DC M.mono rfl (G8 (J 1) (G8 (J 5) (G8 (J 2) Hg)))) (by rfl))) Hu)
    (He (HG (MF (Md (WW hu (J 3) (J 6) (λ_ _=>rfl)) (λ_=>rfl))) (Hh (Hx (J 4))) Hu)
    (Hh (UK (i:=4) NK.nd rfl (Or.inl rfl) Hm Vx))))))
   (Hh (Hx (J 4)))))),?_⟩
  intro hd B as ah bv;have s0:aG H (aK (aK H B (.own hd)) hd (.ins BH B [])):=λb o n=>by rwa [Hf (Hk n as),Hf (Hk n ah)]
  refine zB Y G9 (λH1 dk bx k1 ac=>⟨Y,?_⟩);have s1:aG H H1:=aG.made as ah k1;have ac:=ac P9;intro g on bj bd;have sn:=aF (o:=on) bj;have s2:=s1.trans sn;refine zA Y (zK Y ⟨hS.same s2,a7,au,λr p d8 br bc=>?_⟩);have sN:=sn.trans d8;have s4:=s2.trans d8;have ar:=ac.same sN;have an:aX Pt r:=aM.same hF s4;have av:DN P w r g []:=bd.keep (λφ h=>d8 _ _ h) (λc ys h=>d8 _ _ h);have a6:=hT.same s4;have hL:=MU T;have bi:=Uj au;generalize notesOf T=L at *;obtain⟨bs,t1,t2,t3⟩:=bc;obtain⟨b0,ap⟩:=aM.tbl an;obtain⟨bw,am,_⟩:=ar.memo;obtain⟨bz,aw⟩:=av.is;have d7:∀{d:Hp} {b:Z} {xs:List V},(∀b o,r b=some o->b≠Pt->b≠dk->b≠g->d b=some o)->r b=some (.lst xs)->d b=some (.lst xs):=λk4 h=>k4 _ _ h (Hq h ap aO) (Hq h am aO) (Hq h aw aO);have ak:∀{d:Hp} {b:Z} {xs:List V},(∀b o,r b=some o->b≠Pt->b≠dk->b≠g->d b=some o)->r b=some (.tup xs)->d b=some (.tup xs):=λk4 h=>k4 _ _ h (Hq h ap aO) (Hq h am aO) (Hq h aw aO);refine zE Y ⟨_,aP.of t1⟩ (Jg (K:=K) (a:=p) (xs:=bs.map V.ref) (λj σ d=>∃v5 v6:Option V,σ=[some (.ref m),some (.ref W),some (.ref hd),some (.ref g),some (.int (j:Int)),v5,v6]/\aU K P9 d BH hd B dk/\aX Pt d/\(∀b o,r b=some o->b≠Pt->b≠dk->b≠g->d b=some o)/\(∃aB,DN P w d g aB/\aB.length<=j/\iR rs aB)/\∀l∈L.take j,Hd rs l [])
   (zB Y ar ⟨an,λb o h _ _ _=>h,⟨[],av,Ag _,λp hp=>nomatch hp⟩,λl R=>by simp at R⟩) (λj σ d _ qQ=>by obtain⟨_,_,_,_,_,k4,_⟩:=qQ;exact aP.of (d7 k4 t1)) ?_ ?_)
  ·rintro j y σ d d9 ⟨v5,v6,rfl,ai,aq,k4,⟨aB,a0,bg,ad⟩,x⟩;rw[Ah] at d9;cases n:bs[j]? with
   |none=>rw[n] at d9;cases d9
   |some b=>
    rw[n] at d9;cases d9;have hj:j<L.length:=by rw[<-t2];exact(Al.mp n).1
    have ae:L[j]?=some L[j]:=Aa hj;have tk:L.take (j+1)=L.take j++[L[j]]:=by rw[Bn,ae];rfl
    have af:aI d b L[j]:=(t3 j b _ n ae).2.move λc o D d6=>by
     rcases d6 with ⟨xs,rfl⟩ | ⟨xs,rfl⟩
     ·exact d7 k4 D
     ·exact ak k4 D
    have be:=bi _ (AG hj);have bh:TabAt d W rs:=a6.move λc o D d6=>by
     rcases d6 with ⟨xs,rfl⟩ | ⟨xs,rfl⟩
     ·exact d7 k4 D
     ·exact ak k4 D
    have kj:=λH'=>k H' j (Cj hj) x;rw[ae] at kj;rw[tk];generalize L[j]=l at *;obtain⟨cs,c1,c2⟩:=af.kat;refine zA Y (zK Y (.inl ⟨aP.of c1,λq hq=>?_⟩));have sq:=aF (o:=.tup (cs.map V.ref)) hq;have X:dP (aK d q (.tup (cs.map V.ref))) q (l.map bR):=⟨cs,G9,Paired.mapP c2 λ_ _ z=>sq _ _ z⟩;have S:DN P w (aK d q (.tup (cs.map V.ref))) g aB:=a0.keep (λφ h=>sq _ _ h) (λc ys h=>sq _ _ h);have aa:=ai.same sq;have ab:aX Pt (aK d q (.tup (cs.map V.ref))):=aM.same aq sq;have bk:=bh.same sq;have bl:=af.same sq;have k5:∀b o,r b=some o->b≠Pt->b≠dk->b≠g->(aK d q (.tup (cs.map V.ref))) b=some o:=λb o h h1 h2 N=>sq _ _ (k4 _ _ h h1 h2 N);generalize aK d q (.tup (cs.map V.ref))=H5 at *;refine zA Y (zA Y (zH Y Y S X (zA Y ?_)));have al:Hd rs l []->∀G∈L.take j++[l],Hd rs G []:=λh G a2=>by
     rcases AA.mp a2 with z | z
     ·exact x G z
     ·rwa [Ai.mp z]
    cases hv:Ij aB (l.map bR) with
    |some v=>
     obtain⟨t,rfl,u⟩:=ad.val hv;refine L6 (zA Y (zA Y (zD Y Y S X hv (zA Y ?_))));cases t with
     |false=>exact Mo (zA Y (kj H5 λG e=>by cases e;exact λz=>absurd (u.mpr z) (λq=>nomatch q)))
     |true=>exact L6 (zA Y (zB Y Y (zB Y aa ⟨ab,k5,⟨aB,S,EL bg,ad⟩,al (u.mp rfl)⟩)))
    |none=>
     refine Mo (zA Y (zA Y (zA Y (zM W b hd B dk rs l Y ⟨bk,a8,a9,h6,a3,bl,be,aa,ab,λI t bm a1 k6 u=>?_⟩))));obtain⟨b1,a4⟩:=aM.tbl ab;obtain⟨bq,bn,_⟩:=aa.memo;have nP:∀{b:Z} {o:HO},H5 b=some o->(∀ps,o≠.tbl ps)->(∀kv,o≠.dT kv)->I b=some o:=λn hn hm=>k6 _ _ n (Hq n a4 (λz=>hn _ z)) (Hq n bn (λz=>hm _ z));have aj:DN P w I g aB:=S.keep (λφ h=>nP h (λ_=>aO) (λ_=>aO)) (λc ys h=>nP h (λ_=>aO) (λ_=>aO));have ag:dP I q (l.map bR):=X.keeps (λc ys h=>nP h (λ_=>aO) (λ_=>aO));obtain⟨bu,U⟩:=aj.is;refine zA Y (zA Y (zO Y Y aj ag (by rw[sizeLine_eq];lia) (λo ao=>?_)));have a5:=bm.updX (o:=o) U;have bf:=aX.updX (o:=o) a1 U;have az:dP (aK I g o) q (l.map bR):=ag.keeps λc ys h=>by rwa [Hf (Hq h U aO)]
     have k7:∀b o',r b=some o'->b≠Pt->b≠dk->b≠g->(aK I g o) b=some o':=λb o' h h1 h2 N=>by rw[Hf N];exact k6 _ _ (k5 _ _ h h1 h2 N) h1 h2
     have ay:Ij (IM aB (l.map bR) (.bl t)) (l.map bR)=some (.bl t):=by rw[Rp,G7 rfl]
     have bt:=JQ aB (l.map bR) (.bl t);refine zA Y (zA Y (zD Y Y ao az ay (zA Y ?_)));cases t with
     |false=>exact Mo (zA Y (kj _ λG e=>by cases e;exact λz=>absurd (u.mpr z) (λq=>nomatch q)))
     |true=>exact L6 (zA Y (zB Y Y (zB Y a5 ⟨bf,k7,⟨_,ao,by lia,ad.put u⟩,al (u.mp rfl)⟩)))
  ·rintro σ d ⟨v5,v6,rfl,ai,aq,k4,_,x⟩;rw[Ab,t2] at x ⊢;exact⟨_,Y,k d L.length (Ag _) x λl R=>by rw[AT (Ag _)] at R;cases R⟩
end Lu
set_option maxHeartbeats 4000000
namespace LuG
open Lute
theorem RV{a:Type}(p:a->Bool)(l:List a)(h:∀x∈l.drop 6,p x=false):(l.filter p).length<=6:=by
 rw[<-List.take_append_drop 6 l,ED,Ad];have e:(l.drop 6).filter p=[]:=C5.mpr λx b=>by rw[h x b];exact Ak
 rw[e];have:=Ej p (l.take 6);rw[AJ] at this;simp only[Cn]
 lia
end LuG
namespace Lu
open L2 Lute LuR LuW LuG LuC LuteSong LuteTab
theorem Wz(h:eB t):∀c∈(Ay t.opens.length).map λi=>i+1,∀(f:Nat) (s:Stop),(stopsOn t c)[f]?=some s->s=⟨c,f⟩:=by
 intro c j f s hs;obtain⟨i,hi,rfl⟩:=Av.mp j;rw[QE h (AW.mp hi),Ah] at hs;obtain⟨g,a,rfl⟩:=Ba.mp hs;by_cases b:i+1<=6
 ·rw[FU.mpr (λf _=>decide_eq_true (.inl b))] at a;have:=(Al.mp a);obtain⟨h1,h2⟩:=this;rw[EA] at h2;rw[h2]
 ·have d:(λf=>decide (i+1<=6\/f=0))=λf:Nat=>decide (f=0):=by
   funext f;by_cases z:f=0
   ·rw[decide_eq_true (.inr z),decide_eq_true z]
   ·rw[decide_eq_false (λq=>q.elim (by lia) z),decide_eq_false z]
  have one:((Ay (t.many (i+1)+1)).filter λf=>decide (f=0))=[0]:=by rw[CZ,BL,G7 (by rfl),C5.mpr];intro f e;obtain⟨g,_,rfl⟩:=Av.mp e;simp
  rw[d,one] at a;cases f with
  |zero=>cases a;rfl
  |succ f=>simp at a
theorem Oy(h:eB t)(l:List Iv):(holds t l).isEmpty=false↔Hd (tab t) l []:=by rw[qB h];exact TK rfl (Wz h) l
theorem Y9:∀r∈tab t,r≠[]:=by
 intro r a;unfold tab at a;rcases AA.mp a with z | z
 ·obtain⟨i,hi,rfl⟩:=Gr.mp z;unfold fF;split <;> simp
 ·obtain⟨x,_,rfl⟩:=Av.mp z;simp
theorem XD:(JG (tab t)).length<=6:=by
 unfold JG;refine RV _ _ λr d=>?_;obtain⟨i,hi,rfl⟩:=Ct.mp d;rw[List.getElem_drop];rw[AK] at hi;have c:∀(j:Nat) (a:j<(tab t).length),6<=j->(tab t)[j].length=1:=λj a e=>by
  unfold tab at a ⊢;by_cases b:j<(t.courses.mapIdx (fF t.frets)).length
  ·rw[D3 b,FT];unfold fF;rw[G6 (by lia)];rfl
  ·rw[Dv (by lia),Cy];rfl
 exact decide_eq_false (by rw[c _ _ (by lia)];decide)
theorem Qw(h:eB t):∀(L:List (List Iv)) (n:Nat),n<=L.length->(∀l∈L.take n,Hd (tab t) l [])->(∀l,L[n]?=some l->¬Hd (tab t) l [])->stuck t L=n
 |[],n,h1,_,_=>by
  unfold stuck;simp at h1
  lia
 |l::L,0,_,_,h3=>by
  unfold stuck;have:=h3 l rfl;have e:(holds t l).isEmpty=true:=by
   cases z:(holds t l).isEmpty with
   |true=>rfl
   |false=>exact absurd ((Oy h l).mp z) this
  rw[G7 e]
 |l::L,n+1,h1,h2,h3=>by
  unfold stuck;have e:=(Oy h l).mpr (h2 l (.head _));rw[G6 (by rw[e];exact Ak),Qw h L n (Nat.le_of_succ_le_succ h1) (λa b=>h2 a (.tail _ b)) (λa b=>h3 a b)]
  lia
def eF(K:G5):Sp:=λvs H Q _=>∃(a b:Z) (ns is:List Int),vs=[.ref a,.ref b]/\(∀x c Pt,x∈(["fingerings","stuck"]:List Str)->BK K x=some (c,Pt)->H Pt=some (.tbl #[]))/\aP K H a (ns.map V.int)/\(∀z∈ns,0<=z/\z<=255)/\aP K H b (is.map V.int)/\(∀z∈is,0<=z/\z<=255) ∧
 ∀(H':Hp) (p:Z),H' p=some (.lst ((PyWqaucp.stuck ns is).map V.int))->Q (.ref p) H'
theorem Wc(ns is:List Int):PyWqaucp.stuck ns is=if 65536<(LuSongNeutral.bytes ns).length\/4096<(LuSongNeutral.bytes is).length then [-2] else (match readSong (LuSongNeutral.bytes ns) with
  |.error _=>[-6]
  |.ok x=>match readInst (LuSongNeutral.bytes is) with
   |.error _=>[-8]
   |.ok t=>[(stuck t (notesOf x):Int)]):=by
 show LuteF.of2 (LuSongNeutral.bytes ns) (LuSongNeutral.bytes is) _=_;unfold LuteF.of2;show(if 65536<(LuSongNeutral.bytes ns).length\/4096<(LuSongNeutral.bytes is).length then _ else _)=_;split
 ·rfl
 ·cases readSong (LuSongNeutral.bytes ns) with
  |error e=>rfl
  |ok x=>
   dsimp only;cases readInst (LuSongNeutral.bytes is) with
   |error e=>rfl
   |ok t=>rfl
variable{P:GJ}{w:GQ}{K:G5}{mg:Str->Option O}{base:Heap}{B C:Z}
theorem qE:aH ["s","i"] ["s","i"] (Hj bL):=HZ
theorem rG:dB ["lines","courses"] ["lines","courses"] (M0 (Ta bL)):=⟨Y,Y,Y,by decide,Y,by decide,by decide,by decide⟩
theorem ZV:∀y∈(M0 (Ta bL)).names,y.2=.free->(Hj bL).names.lookup y.1=some .cell:=by decide
theorem oK:∀x,(x,GV.free)∈(M0 (Ta bL)).names->False:=by
 have:∀y∈(M0 (Ta bL)).names,y.2=.free->False:=by decide
 exact λx a=>this _ a rfl
theorem WC(F:fA K "stuck" "stuck" bL f fd c Pt)(BM:PR base mg)(hT:BK K "stuck"=some (c,Pt))(ak:BK K "fingerings"=some (c2,Pt2))(ao:Pt2≠Pt)(DA:fK P w K mg base 42 "asked_of_song_and_instrument" ["s","i","answer"] (YO P w K mg base C 40))(DW:bQ P w K mg base C 28 "count_that_can_be_set" ["lines","courses"] (kZ Pt2)):
  aN P w K mg base fY 43 f fd ["s","i"] (eF K):=by
 refine F.okT qE (λvs H Q E h=>?_) (λA outer s H vs Q E V h=>?_)
 ·obtain⟨a,ai,ns,is,rfl,_⟩:=h;rfl
 ·obtain⟨a,ai,ns,is,rfl,W,X,ah,hI,ae,b⟩:=h;have D:=W "stuck" _ _ (.tail _ (.head _)) hT;have ap:=W "fingerings" _ _ (.head _) ak;obtain⟨ga,ay,GA,am,al,aa⟩:=DA.any (C:=C);obtain⟨gn,ax,GN,ag,aq,af⟩:=DW;rw[<-Qz ah] at X;rw[<-Qz ae] at hI;rw[Wc] at b;generalize LuSongNeutral.bytes ns=t at *;generalize LuSongNeutral.bytes is=ti at *;refine⟨_,Hh (Hx (VJ (C:=C) (L:=[]) (E:=E0) GA V rfl am al aa V8 (λy i M=>nomatch M) (G8 (J 0) (G8 (J 1) (G8 (V5 (qual:="stuck.<locals>.<lambda>") rfl F.hd BM rfl (λy M e=>L0 (ZV y M e))) Hg))))),?_⟩;refine⟨(λx i k=>nomatch k),zA Y (zE Y D (λlf H2 kb aw d8 cs d7=>?_))⟩;have I:∀c o,cs.lookup c=some o->H2 c=none:=λc o e=>(d7.free c o e).1;refine zG Y (aP.ovl (aP.kb X kb D) I) ⟨aP.ovl (aP.kb hI kb D) I,λh H' p d g=>?_,λh=>⟨λx k H' p d g=>?_,λu B=>⟨λx k H' p d g=>?_,λq ab d9=>?_⟩⟩⟩
  ·rw[G7 h] at b;exact b _ p (Ix g d (λ_ z=>by cases z))
  ·rw[G6 h,k] at b;exact b _ p (Ix g d (λ_ z=>by cases z))
  ·rw[G6 h,B,k] at b;exact b _ p (Ix g d (λ_ z=>by cases z))
  ·rw[G6 h,B,ab] at b;dsimp only at b;have ar:(tab q).length<=14:=by unfold tab;rw[Ad,CW,Ab];exact d9.n14
   have LA:=YR (P:=P) (w:=w) (K:=K) (mg:=mg) (base:=base) (C:=C) (N:=["lines","courses"]) (ps:=["lines","courses"]) (fr:=[]) d8 d7 (λx k=>(oK x k).elim) rG rfl (λj x v e1 e2=>by simp at e1) (λcl pm cd av=>Vl λ_ _=>rfl);refine⟨2,λvs H' G d6=>∃m l,vs=[.ref m,.ref l]/\bD H' m u/\TabAt H' l (tab q)/\H' Pt2=some (.tbl #[])/\∀(R:Hp) (p:Z),R p=some (.lst [.int (stuck q (notesOf u):Int)])->G (.ref p) R,(LA.run 39 _ (λvs H' G d6 h=>by obtain⟨m,l,rfl,_⟩:=h;rfl) λcd cl A' au s' H' vs G d6 hF an aj=>?_),λH' m m' sH T U=>⟨m,m',Y,T,U,sH _ _ (Ie I (kb _ _ ap ao)),λR p d g=>b _ p (Ix g d (λ_ z=>by cases z))⟩⟩;obtain⟨m,l,rfl,T,U,as,kq⟩:=aj;have S:=λc o (e:cs.lookup c=some o)=>hF c _ _ (K9 e);obtain⟨ac,ad,_⟩:=XQ B;refine⟨_,Iw (G8 (Ng GN an.mono rfl ag aq af .nil oP (G8 (J 0) (G8 (J 1) Hg))) Hg),?_⟩;refine zA Y (zA Y (zH Y (T.unt S) ac ad ⟨U.unt S,Y9,ar,XD,λr V=>(YW d9 r V).2,.inl (Ix S as (λ_ z=>by cases z)),λH3 n h1 h2 h3=>⟨(by show 1<=GI;decide),λp d nn=>?_⟩⟩));refine kq _ p (Ie nn ?_);rw[Qw d9 _ n h1 h2 h3];exact G9
end Lu
namespace L2
def cC(K:G5)(x:Str)(st:GU):Prop:=∃(f:Z) (d:O) (od:Option Z) (kV c e:O) (g:Option Z) (a b:O) (sl:Array (Option O)),Au K GM x=some (some (.ref f)) ∧
 K.lookup f=some ⟨d,od,.func (A7 x x (Ic st) (HM st) (Hj st) .none kV c e g a b),sl⟩/\Br K a x=true/\AI K (.ref f)=true
def dY(K:G5)(B:Z)(m q:Str)(st:GU):Prop:=∃(f:Z) (d:O) (od:Option Z) (kV c e:O) (g:Option Z) (a b:O) (sl:Array (Option O)),AF K (.ref B) m=some (some (.ref f))/\Cc K (.ref f)=true ∧
 K.lookup f=some ⟨d,od,.func (A7 m q (Ic st) (HM st) (Hj st) .none kV c e g a b),sl⟩/\Br K a q=true/\AI K (.ref f)=true
def Bd(x q:Str)(st:GU)(ps:List Str):Prop:=∀(kV c d:O) (e:Option Z) (f b:O) (a:List O),a.length=ps.length->bindArgs (A7 x q (Ic st) (HM st) (Hj st) .none kV c d e f b) ⟨a,[]⟩=pure (ps.zip a)
variable{P:GJ}{w:GQ}{K:G5}{mg:Str->Option O}{base h:Heap}{C B:Z}
theorem cC.dfn{x:Str}{st:GU}{ps:List Str}{sp:Sp}{k:Nat}(g:cC K x st)(X:K.In h)(G:h.Ns GM mg)(d:Bd x x st ps)(H:∀f fd,bI K x x st f fd->aN P w K mg base (aS P w C) k f fd ps sp):bQ P w K mg base C k x ps sp:=by obtain⟨f,j,od,kV,i,m,n,o,e,sl,a,l,c,b⟩:=g;have F:=ML (st:=st) l c b;exact⟨f,_,H f _ F,Bs X G a,b,F.binds d⟩
theorem dY.mth{m q:Str}{st:GU}{ps:List Str}{sp:Sp}{k:Nat}(g:dY K B m q st)(c:eP K B)(d:Bd m q st ps)(H:∀f fd,bI K m q st f fd->aN P w K mg base (aS P w C) k f fd ps sp):cW P w K mg base C B k m ps sp:=by obtain⟨f,j,od,kV,h,n,o,p,e,sl,a,i,l,cd,b⟩:=g;have F:=ML (st:=st) l cd b;exact⟨f,_,H f _ F,c,⟨a,i,b⟩,F.binds d⟩
theorem dY.mke{x q:Str}{st:GU}{ps:List Str}{sp:Sp}{k:Nat}(g:dY K B "__init__" q st)(d:mg x=some (.ref B))(mk:Cg K B=true)(e:AI K (.ref B)=true)(c:Bd "__init__" q st ps)
  (H:∀f fd,bI K "__init__" q st f fd->aN P w K mg base (aS P w C) k f fd ps sp):gD P w K mg base C B k x ps sp:=by
 obtain⟨f,m,od,kV,j,n,o,p,h,sl,a,i,l,cd,b⟩:=g;have F:=ML (st:=st) l cd b;exact⟨f,_,H f _ F,⟨mk,a,i,e⟩,d,F.binds c⟩
def Po(es:Array GZ):Bool:=es.toList.all λe=>match e.key with
 |.str _ _=>true
 |_=>false
theorem Rz(l:K.lookup N=some ⟨on,odn,.dict es ep,sln⟩)(h:Po es=true):KE K N=true:=by
 unfold KE
 rwa [l]
def iQ(K:G5)(C:Z)(st:GU):Prop:=∃(N a:Z) (nm q:Str) (bs:List O) (sn:List Str) (sub:List O) (ab:Bool) (col:Option Bool) (dd:Option Z) (k0 k1 k2 k3 k5:Option O) (f:O) (od:Option Z) (kV e g:O) (h:Option Z) (b d:O) (sl:Array (Option O)) (on:O) (i:Option Z) (es:Array GZ) (ep:Nat) (c:Array (Option O)),
 K.lookup C=some (excClassObj nm q C N bs LX.fZ true sn sub ab col dd k0 k1 k2 k3 k5 "Exception.__new__")/\K.lookup N=some ⟨on,i,.dict es ep,c⟩/\Po es=true/\Au K N "__init__"=some (some (.ref a))/\Au K N "place"=some none/\Au K N "__setattr__"=some none ∧
 Au K N "__getattribute__"=some none/\Au K N "__getattr__"=some none/\AI K (.ref C)=true/\Cc K (.ref a)=true ∧
 K.lookup a=some ⟨f,od,.func (A7 "__init__" "Fault.__init__" (Ic st) (HM st) (Hj st) .none kV e g h b d),sl⟩/\Br K b "Fault.__init__"=true/\AI K (.ref a)=true
theorem iQ.xt{st:GU}{b p2 c a:Pos}(g:iQ K C st)(S:aH ["self","place"] ["self","place"] (Hj st))(s:HM st=[.Assign [.Attribute (.Name "self" b) "place" p2] (.Name "place" c) a])
  (hl:(Hj st).names.lookup ("self":Str)=some .local/\(Hj st).names.lookup ("place":Str)=some .local) (hb:Bd "__init__" "Fault.__init__" st ["self","place"]):gY K C st:=by
 obtain⟨N,m,nm,q,bs,sn,sub,ab,col,dd,k0,k1,k2,k3,k5,t,od,kV,A,x,u,y,w,sl,on,v,es,ep,z,r,e,n,h,d,o,p,k,i,j,l,cd,f⟩:=g;have F:=ML (st:=st) l cd f;exact⟨N,m,_,zD ⟨⟨nm,q,bs,sn,sub,ab,col,dd,k0,k1,k2,k3,k5,r⟩,Rz e n,h,d,o,p,k,i,j⟩ F S s hl (F.binds hb)⟩
def CI(K:G5)(x:Str)(i:Int):Prop:=∃t,Au K GM x=some (some (.int i t))
theorem CI.cst(c:CI K x i)(X:K.In h)(G:h.Ns GM mg):bY mg x (.int i):=by obtain⟨t,e⟩:=c;exact⟨_,Bs X G e,t,Y⟩
def CD(K:G5)(x:Str)(aB:List (Int×Int)):Prop:=∃(a:Z) (es:Array GZ) (n:Nat),Au K GM x=some (some (.ref a))/\K.lookup a=some ⟨.type "dict",none,.dict es n,#[]⟩/\cD es.toList aB/\(a==G1)=false
theorem CD.at_(c:CD K x aB)(nd:(aB.map (·.1)).Nodup)(X:K.In h)(G:h.Ns GM mg):∃a,bY mg x (.ref a)/\dW K a aB:=by obtain⟨a,es,n,e,l,p,s⟩:=c;exact⟨a,⟨_,Bs X G e,Y⟩,⟨es,n,l,p⟩,nd,s⟩
inductive bJ:List O->List Int->Prop
 |nil:bJ [] []
 |cons {i:Int} {t:Tok} {us:List O} {ns:List Int}:bJ us ns->bJ (.int i t::us) (i::ns)
theorem bJ.vals:∀{us:List O} {ns:List Int},bJ us ns->aJ (ns.map V.int) us
 |_,_,.nil=>.nil
 |_,_,.cons r=>.cons ⟨_,Y⟩ r.vals
def CT(K:G5)(x:Str)(ns:List Int):Prop:=∃(a:Z) (o:Obj) (aD:List O) (n:Nat),Au K GM x=some (some (.ref a))/\K.lookup a=some o/\o.cls=.type "tuple"/\o.data=.seq aD.toArray n/\bJ aD ns
theorem CT.at_(c:CT K x ns)(hz:ns.length<=1000)(X:K.In h)(G:h.Ns GM mg):∃a,bY mg x (.ref a)/\∀H,aQ K H a (ns.map V.int):=by obtain⟨a,o,aD,n,e,l,b,hd,r⟩:=c;refine⟨a,⟨_,Bs X G e,Y⟩,λH=>.inr ⟨o,aD.toArray,n,l,b,hd,?_,by simpa using r.vals⟩⟩;have:=r.vals.length;rw[Ab] at this;rw[Am,<-this];exact Cj (Kh hz)
def CS(K:G5)(x:Str)(s:Str):Prop:=∃t,Au K GM x=some (some (.str s t))
theorem CS.cst(c:CS K x s)(X:K.In h)(G:h.Ns GM mg):bY mg x (.str s):=by obtain⟨t,e⟩:=c;exact⟨_,Bs X G e,t,Y⟩
theorem cC.dfn0{x:Str}{st:GU}{ps:List Str}{sp:Sp}{k:Nat}(g:cC K x st)(X:K.In h)(G:h.Ns GM mg)(d:Bd x x st ps)(H:∀f fd,bI K x x st f fd->aN P w K mg base fY k f fd ps sp):fK P w K mg base k x ps sp:=by obtain⟨f,j,od,kV,i,m,n,o,e,sl,a,l,c,b⟩:=g;have F:=ML (st:=st) l c b;exact⟨f,_,H f _ F,Bs X G a,b,F.binds d⟩
def fJ(K:G5)(x:Str)(st:GU):Prop:=∃(f:Z) (d:O) (od:Option Z) (kV b e:O) (g:Option Z) (c:Z) (a:O) (sl:Array (Option O)) (Pt:Z),Au K GM x=some (some (.ref f)) ∧
 K.lookup f=some ⟨d,od,.func (A7 x x (Ic st) (HM st) (Hj st) .none kV b e g (.ref c) a),sl⟩/\Br K (.ref c) x=true/\AI K (.ref f)=true/\B9 K c Pt=true/\BK K x=some (c,Pt)
theorem Ti{x qual:Str}{st:GU}{f c Pt:Z}{g:O}{od e:Option Z}{i:Array (Option O)}{kV b d a:O}(l:K.lookup f=some ⟨g,od,.func (A7 x qual (Ic st) (HM st) (Hj st) .none kV b d e (.ref c) a),i⟩)
  (h:Br K (.ref c) qual=true) (k:AI K (.ref f)=true) (hd:B9 K c Pt=true):fA K x qual st f (A7 x qual (Ic st) (HM st) (Hj st) .none kV b d e (.ref c) a) c Pt:=⟨⟨g,od,kV,zG Y l h⟩,hd,k⟩
def SJ(vs:Array O)(c Pt:Z):Bool:=(match (vs[11]?:Option O) with | some (.ref P')=>P'==Pt | _=>false) &&
 (match vs.getD 18 .none with | .str _ _=>true | _=>false)&&(match vs.getD 7 .none with | .int _ _=>true | _=>false) &&
 (match vs.getD 9 .none with | .bool _=>true | _=>false)&&(match vs.getD 10 .none with | .int _ _=>true | _=>false)&&c != Pt
theorem mR(a:K.lookup c=some ⟨.type "code",od,.fields vs,sl⟩)(h:SJ vs c Pt=true):B9 K c Pt=true:=by
 unfold B9
 rwa [a]
theorem RG(a:Au K GM x=some (some (.ref f)))(l:K.lookup f=some ⟨oc,od,.func fd,sl⟩)(d:K.lookup c=some ⟨.type "code",od2,.fields vs,sl2⟩)(b:vs[11]?=some (.ref Pt))(e:fd.code=.ref c:=by rfl):BK K x=some (c,Pt):=by unfold BK;rw[a];dsimp only;rw[l];dsimp only;rw[e];dsimp only;rw[d];dsimp only;rw[b]
theorem dY.mthR{m q:Str}{st:GU}{ps:List Str}{sp:Nat->Sp}(g:dY K B m q st)(c:eP K B)(e:Bd m q st ps)(d:∀vs H Q E,¬sp 0 vs H Q E)(H:∀n f fd,bI K m q st f fd->cW P w K mg base C B n m ps (sp n)->aN P w K mg base (aS P w C) (n+1) f fd ps (sp (n+1))):∀n,cW P w K mg base C B n m ps (sp n):=by
 obtain⟨f,p,od,kV,o,r,u,v,k,sl,a,i,l,cd,b⟩:=g;have F:=ML (st:=st) l cd b;have all:∀n,aN P w K mg base (aS P w C) n f _ ps (sp n):=λn=>by
  induction n with
  |zero=>exact⟨λvs H Q E hs=>absurd hs (d _ _ _ _),λA outer s H j t vs Q E _ _ _ _ hs=>absurd hs (d _ _ _ _)⟩
  |succ n h=>exact H n f _ F ⟨f,_,h,c,⟨a,i,b⟩,F.binds e⟩
 exact λn=>⟨f,_,all n,c,⟨a,i,b⟩,F.binds e⟩
theorem fJ.dfnP{x:Str}{st:GU}{ps:List Str}{sp:Z->Sp}{k:Nat}(g:fJ K x st)(X:K.In h)(G:h.Ns GM mg)(d:Bd x x st ps)(H:∀f fd c Pt,fA K x x st f fd c Pt->aN P w K mg base (aS P w C) k f fd ps (sp Pt)):∃c Pt,BK K x=some (c,Pt)/\bQ P w K mg base C k x ps (sp Pt):=by obtain⟨f,n,od,kV,m,o,p,c,j,sl,Pt,a,l,i,b,hd,e⟩:=g;have F:=Ti (st:=st) l i b hd;exact⟨c,Pt,e,f,_,H f _ c Pt F,Bs X G a,b,F.fn.binds d⟩
def eK(K:G5)(x y:Str):Prop:=∀c Pt b a,BK K x=some (c,Pt)->BK K y=some (b,a)->Pt≠a
theorem eK.mk{x y:Str}{s1 s2:GU}{f c Pt e g d:Z}{m z:O}{od n v i h u:Option Z}{sl j s t:Array (Option O)}{kV A r p o w k q:O}{vs b:Array O}(a:Au K GM x=some (some (.ref f)))
  (l:K.lookup f=some ⟨m,od,.func (A7 x x (Ic s1) (HM s1) (Hj s1) .none kV A r n (.ref c) p),sl⟩) (lc:K.lookup c=some ⟨.type "code",v,.fields vs,j⟩) (h11:vs[11]?=some (.ref Pt))
  (a2:Au K GM y=some (some (.ref e))) (l2:K.lookup e=some ⟨z,i,.func (A7 y y (Ic s2) (HM s2) (Hj s2) .none o w k h (.ref g) q),s⟩) (lc2:K.lookup g=some ⟨.type "code",u,.fields b,t⟩) (h112:b[11]?=some (.ref d)) (hn:(Pt==d)=false):eK K x y:=by
 intro E B D C h1 h2;rw[RG a l lc h11] at h1;rw[RG a2 l2 lc2 h112] at h2;cases h1;cases h2;exact beq_eq_false_iff_ne.mp hn
def cO(K:G5)(p:Z)(aD:List O):Prop:=∃(o:Obj) (n:Nat),K.lookup p=some o/\o.cls=.type "tuple"/\o.data=.seq aD.toArray n
theorem cO.mk{p:Z}{aD:List O}{dd:Option Z}{n:Nat}{sl:Array (Option O)}(l:K.lookup p=some ⟨.type "tuple",dd,.seq aD.toArray n,sl⟩):cO K p aD:=⟨_,n,l,Y,Y⟩
theorem cO.sq{p:Z}{aD:List O}{xs:List V}(t:cO K p aD)(v:aJ xs aD)(hz:xs.length<=1000)(H:Hp):aQ K H p xs:=by obtain⟨o,n,l,a,hd⟩:=t;exact .inr ⟨o,aD.toArray,n,l,a,hd,by rw[Am,<-v.length];exact Cj (Kh hz),by simpa using v⟩
end L2
namespace Lu
open L2 Lute LuR LuW LuG
def iT(K:G5):Prop:=∃(u f o b d e h j l g i n m:Z) (i1 a r q c p k:List O),Au K GM "UPPER_FINGERS"=some (some (.ref u))/\cO K u [.ref f,.ref o,.ref b,.ref d]/\cO K f [.ref e]/\cO K o [.ref h,.ref j,.ref l]/\cO K b [.ref g,.ref i,.ref n]/\cO K d [.ref m] ∧
 cO K e []/\(cO K h i1/\bJ i1 [2])/\(cO K j a/\bJ a [3])/\(cO K l r/\bJ r [4])/\(cO K g q/\bJ q [2,3])/\(cO K i c/\bJ c [2,4])/\(cO K n p/\bJ p [3,4])/\cO K m k/\bJ k [2,3,4]
section
variable{K:G5}{mg:Str->Option O}{h:Heap}
theorem iT.mk{u l o c k b0 b1 b2 b3 m n f e:Z}{i1 b i h j g d:List O}{s Q n2 n3 H v D y B S U P d9:Nat}{d0 p V E C q e1 I T A d8 r t:Option Z}{L s1 s2 N M t0 t1 x z w R G F:Array (Option O)}(a:Au K GM "UPPER_FINGERS"=some (some (.ref u)))
  (l0:K.lookup u=some ⟨.type "tuple",d0,.seq [O.ref l,.ref o,.ref c,.ref k].toArray s,L⟩) (l1:K.lookup l=some ⟨.type "tuple",p,.seq [O.ref b0].toArray Q,s1⟩) (l2:K.lookup o=some ⟨.type "tuple",V,.seq [O.ref b1,.ref b2,.ref b3].toArray n2,s2⟩)
  (l3:K.lookup c=some ⟨.type "tuple",E,.seq [O.ref m,.ref n,.ref f].toArray n3,N⟩) (l4:K.lookup k=some ⟨.type "tuple",C,.seq [O.ref e].toArray H,M⟩) (k0:K.lookup b0=some ⟨.type "tuple",q,.seq ([]:List O).toArray v,t0⟩)
  (k1:K.lookup b1=some ⟨.type "tuple",e1,.seq i1.toArray D,t1⟩) (k2:K.lookup b2=some ⟨.type "tuple",I,.seq b.toArray y,x⟩) (k3:K.lookup b3=some ⟨.type "tuple",T,.seq i.toArray B,z⟩) (k4:K.lookup m=some ⟨.type "tuple",A,.seq h.toArray S,w⟩)
  (k5:K.lookup n=some ⟨.type "tuple",d8,.seq j.toArray U,R⟩) (k6:K.lookup f=some ⟨.type "tuple",r,.seq g.toArray P,G⟩) (k7:K.lookup e=some ⟨.type "tuple",t,.seq d.toArray d9,F⟩)
  (j1:bJ i1 [2]) (j2:bJ b [3]) (j3:bJ i [4]) (j4:bJ h [2,3]) (j5:bJ j [2,4]) (j6:bJ g [3,4]) (j7:bJ d [2,3,4]):iT K:=
 ⟨u,l,o,c,k,b0,b1,b2,b3,m,n,f,e,zM i1 b i h j g d a ⟨.mk l0,.mk l1,.mk l2,.mk l3,.mk l4,.mk k0,⟨.mk k1,j1⟩,⟨.mk k2,j2⟩,⟨.mk k3,j3⟩,⟨.mk k4,j4⟩,⟨.mk k5,j5⟩,⟨.mk k6,j6⟩,.mk k7,j7⟩⟩
theorem Le:∀l:List Z,aJ (l.map V.ref) (l.map O.ref)
 |[]=>.nil
 |_::l=>.cons rfl (Le l)
theorem iT.upK(c:iT K)(X:K.In h)(G:h.Ns GM mg):lA K mg:=by
 obtain⟨u,o,s,d,m,n,f,r,g,p,q,l,k,i1,M,Q,P,R,d8,N,e,v,d9,I,L,A,k0,⟨k1,w⟩,⟨k2,C⟩,⟨k3,E⟩,⟨k4,z⟩,⟨k5,D⟩,⟨y,B⟩,x,F⟩:=c;refine⟨u,[o,s,d,m],⟨_,Bs X G e,Y⟩,λH=>v.sq (Le [o,s,d,m]) (show 4<=1000 by decide) H,Y,λi a hi=>?_⟩
 match i,hi with
 |0,hi=>
  cases hi;refine⟨[n],λH=>d9.sq (Le [n]) (show 1<=1000 by decide) H,Y,λj t b H=>?_⟩
  match j,b with
  |0,b=>cases b;exact k0.sq .nil (by decide) H
  |j+1,b=>simp at b
 |1,hi=>
  cases hi;refine⟨[f,r,g],λH=>I.sq (Le [f,r,g]) (show 3<=1000 by decide) H,Y,λj t b H=>?_⟩
  match j,b with
  |0,b=>cases b;exact k1.sq w.vals (by decide) H
  |1,b=>cases b;exact k2.sq C.vals (by decide) H
  |2,b=>cases b;exact k3.sq E.vals (by decide) H
  |j+3,b=>simp at b
 |2,hi=>
  cases hi;refine⟨[p,q,l],λH=>L.sq (Le [p,q,l]) (show 3<=1000 by decide) H,Y,λj t b H=>?_⟩
  match j,b with
  |0,b=>cases b;exact k4.sq z.vals (by decide) H
  |1,b=>cases b;exact k5.sq D.vals (by decide) H
  |2,b=>cases b;exact y.sq B.vals (by decide) H
  |j+3,b=>simp at b
 |3,hi=>
  cases hi;refine⟨[k],λH=>A.sq (Le [k]) (show 1<=1000 by decide) H,Y,λj t b H=>?_⟩
  match j,b with
  |0,b=>cases b;exact x.sq F.vals (by decide) H
  |j+1,b=>simp at b
 |i+4,hi=>simp at hi
end
open L2 Lute LuR LuW LuG LuC
variable{P:GJ}{w:GQ}{K:G5}{mg:Str->Option O}{base:Heap}{BS BP BH C Pt:Z}
theorem pB(vs:List V)(H:Hp)(Q:VK)(E:XK):¬Rc K BS BP BH Pt 0 vs H Q E:=by
 rintro⟨_,_,_,_,_,_,_,_,_,_,_,_,_,_,_,_,_,_,_,hn,_⟩
 lia
theorem Z0(n:Nat)(F:bI K "go_on" "HoldSearch.go_on" Ib f fd)(T:jB K BS)(a:iP K BP)(b:mg "len"=none)
  (MG:cW P w K mg base C BH 7 "grips" ["self","frets"] (Ws K BH Pt)) (MC:cW P w K mg base C BP 15 "count_from" ["self","course","left"] (WK BP 15))
  (MR:cW P w K mg base C BS n "go_on" ["self","course","left","stops","frets"] (Rc K BS BP BH Pt n)):
  aN P w K mg base (aS P w C) (n+1) f fd ["self","course","left","stops","frets"] (Rc K BS BP BH Pt (n+1)):=by
 by_cases h:16<=n
 ·exact pW n F T a b MG MC MR h
 ·have no:∀vs H Q E,¬Rc K BS BP BH Pt (n+1) vs H Q E:=λvs H Q E=>by
   rintro⟨_,_,_,_,_,_,_,_,_,_,_,_,_,_,_,_,_,_,_,hn,_⟩
   lia
  exact⟨λvs H Q E hs=>absurd hs (no _ _ _ _),λA outer s H c d vs Q E _ _ _ _ hs=>absurd hs (no _ _ _ _)⟩
end Lu
namespace Lu
open L2 Lute LuR LuW LuteSong
open PySem.W (Codec)
structure All(K:G5)(B C B_Placings B_Hand B_HoldSearch:Z):Prop where
 nB:Au K GM "Cursor"=some (some (.ref B))
 nC:Au K GM "Fault"=some (some (.ref C))
 pg:BV K B Str.empty=true
 hd:B5 K B=true
 po:Ck K B=true
 sa:AF K (.ref B) "__setattr__"=some (some (.builtin "object.__setattr__"))
 mkB:Cg K B=true
 kc:AI K (.ref B)=true
 nT:AF K (.ref B) "text"=some none
 nP:AF K (.ref B) "place"=some none
 nE:AF K (.ref B) "end"=some none
 x:iQ K C Kp
 aa:Au K GM "Placings"=some (some (.ref B_Placings))
 ab:BV K B_Placings Str.empty=true
 ac:B5 K B_Placings=true
 ad:Ck K B_Placings=true
 ae:AF K (.ref B_Placings) "__setattr__"=some (some (.builtin "object.__setattr__"))
 af:Cg K B_Placings=true
 ag:AI K (.ref B_Placings)=true
 ah:AF K (.ref B_Placings) "choices"=some none
 ai:AF K (.ref B_Placings) "whole"=some none
 aj:AF K (.ref B_Placings) "counted"=some none
 ak:Au K GM "Hand"=some (some (.ref B_Hand))
 al:BV K B_Hand Str.empty=true
 am:B5 K B_Hand=true
 ao:Ck K B_Hand=true
 ap:AF K (.ref B_Hand) "__setattr__"=some (some (.builtin "object.__setattr__"))
 aq:Cg K B_Hand=true
 ar:AI K (.ref B_Hand)=true
 au:AF K (.ref B_Hand) "known"=some none
 av:Au K GM "HoldSearch"=some (some (.ref B_HoldSearch))
 aw:BV K B_HoldSearch Str.empty=true
 ax:B5 K B_HoldSearch=true
 ay:Ck K B_HoldSearch=true
 az:AF K (.ref B_HoldSearch) "__setattr__"=some (some (.builtin "object.__setattr__"))
 a0:Cg K B_HoldSearch=true
 a1:AI K (.ref B_HoldSearch)=true
 a2:AF K (.ref B_HoldSearch) "placings"=some none
 a3:AF K (.ref B_HoldSearch) "hand"=some none
 a4:AF K (.ref B_HoldSearch) "most"=some none
 a5:AF K (.ref B_HoldSearch) "holds"=some none
 a6:Au K GM "len"=some none
 a7:Au K GM "abs"=some none
 a8:Au K GM "sum"=some none
 a9:Au K GM "zip"=some none
 ba:Au K GM "ord"=some none
 bb:Au K GM "tuple"=some none
 bc:Au K GM "enumerate"=some none
 bd:Au K GM "sorted"=some none
 be:Au K GM "range"=some none
 bf:Au K GM "max"=some none
 bg:Au K GM "min"=some none
 bh:Au K GM "list"=some none
 bi:dY K B "__init__" "Cursor.__init__" J6
 bj:dY K B "byte" "Cursor.byte" J0
 bk:dY K B "advance" "Cursor.advance" Jl
 bl:dY K B "take" "Cursor.take" JU
 bm:dY K B "take_word" "Cursor.take_word" IW
 bn:dY K B_Hand "__init__" "Hand.__init__" K1
 bo:dY K B_Hand "grips" "Hand.grips" Kn
 bp:dY K B_Placings "__init__" "Placings.__init__" IB
 bq:dY K B_Placings "count_from" "Placings.count_from" IC
 br:dY K B_HoldSearch "__init__" "HoldSearch.__init__" Jb
 bs:dY K B_HoldSearch "go_on" "HoldSearch.go_on" Ib
 bt:cC K "grips_at" Jz
 bu:fJ K "fingerings" bH
 bv:cC K "by_courses" Kv
 bw:cC K "note_units" Ko
 bx:cC K "choices_on_course" Il
 bz:cC K "holds_of" LB
 b0:cC K "can_be_held" J8
 b1:cC K "width" Np
 b2:cC K "is_within_bounds" IZ
 b3:cC K "upon" Op
 b4:cC K "common_factor_of_all" Iy
 b5:cC K "common_factor" IT
 b6:cC K "read_interval" Jp
 b7:cC K "read_factors" JK
 b8:cC K "read_digit_of_factor" IA
 b9:cC K "read_power" Km
 ca:cC K "read_signed_number" IK
 cb:cC K "read_number" JV
 cc:cC K "with_common_parts" Im
 cd:cC K "read_instrument" Je
 ce:cC K "read_string_length" IH
 cf:cC K "read_fret" KM
 cg:cC K "read_course" J5
 ch:cC K "read_bass" K6
 ci:cC K "begin_line" Kx
 cj:cC K "read_line_interval" II
 ck:cC K "read_lines" Kj
 cm:cC K "read_length" JY
 cn:cC K "read_length_sign" IV
 co:cC K "read_song" KZ
 cp:cC K "read_notes" Ku
 cq:cC K "read_note" KF
 cr:fJ K "stuck" bL
 cs:cC K "asked_of_song_and_instrument" HV
 cu:cC K "asked_of_texts" Jk
 cv:cC K "read_or_none" Jy
 cw:cC K "moments_of" Ju
 cx:cC K "count_that_can_be_set" Ir
 cy:CI K "END" (-1)
 cz:CI K "NEW_LINE" 10
 c0:CI K "BLANK" 32
 c3:CI K "POINT" 46
 c4:CI K "LAST_POSITION" 15
 c5:CI K "PART_BITS" 4
 c6:CI K "PART_MASK" 15
 c7:CI K "MINUS" 45
 c8:CI K "SLASH" 47
 c9:CI K "ZERO" 48
 da:CI K "ONE" 49
 db:CI K "NINE" 57
 dc:CI K "CARET" 94
 dd:CI K "MOST_DIGITS" 4
 de:CI K "MOST_POWER" 99
 df:CI K "MOST_PARTS" 24
 dg:CI K "COMMON_PARTS" 5354228880
 dh:CI K "LETTER_B" 98
 di:CI K "LETTER_C" 99
 dj:CI K "LETTER_F" 102
 dk:CI K "LEAST_LENGTH" 10000
 dl:CI K "MOST_LENGTH" 200000
 dm:CI K "MOST_LENGTH_DIGITS" 7
 dn:CI K "MOST_FRETS" 15
 dp:CI K "MOST_COURSES" 14
 dq:CI K "STOPPED_COURSES" 6
 dr:CI K "BAR_SIGN" 124
 ds:CI K "MOST_LINES" 512
 dt:CI K "COMMA" 44
 du:CI K "MOST_NOTES" 14
 dv:CI K "TOO_LONG" (-2)
 dw:CI K "NO_FIRST_TEXT" (-6)
 dx:CI K "NO_SECOND_TEXT" (-8)
 dy:CI K "MOST_BYTES" 65536
 dz:CI K "MOST_INSTRUMENT_BYTES" 4096
 d0:CS K "FIRST_LINE" "song"
 d1:CD K "FACTORS" [(50,0),(51,1),(53,2),(55,3)]
 d2:CD K "LENGTHS" [(120,1),(116,2),(115,4),(101,8),(113,16),(104,32),(119,64)]
 d3:CT K "LOGARITHMS" [6931471805599453094172321214581765680755,10986122886681096913952452369225257046474,16094379124341003746007593332261876395256,19459101490553133051053527434431797296370]
 d4:CT K "UNISON" [0,0,0,0,1]
 d5:iT K
 tt:eK K "fingerings" "stuck"
theorem Wq:Bd "stuck" "stuck" bL ["s","i"]:=λ_ _ _ _ _ _=>Vl λ_ _=>rfl
local macro_rules|`(tactic|and_intros)=>`(tactic|first|exact λ_ _ _ _ _ _=>YQ λ_=>rfl|exact λ_ _ _ _ _ _=>Vl λ_ _=>rfl|exact λ_ _ _ _ _ _=>mO λ_ _ _=>rfl|exact λ_ _ _ _ _ _=>qK λ_ _ _ _=>rfl|exact λ_ _ _ _ _ _=>rK λ_ _ _ _ _=>rfl)
theorem cQ{K:G5}{mg:Str->Option O}{h:Heap}(P:GJ)(w:GQ)(base:Heap)(C:Z){x:Str}{st:GU}{ps:List Str}{sp:Sp}{k:Nat}(X:K.In h)(G:h.Ns GM mg)(g:cC K x st)(H:∀f fd,bI K x x st f fd->aN P w K mg base (aS P w C) k f fd ps sp)(a:Bd x x st ps:=by and_intros):bQ P w K mg base C k x ps sp:=g.dfn X G a H
theorem qU:aH ["self","place"] ["self","place"] (Hj Kp):=HZ
variable{P:GJ}{w:GQ}{K:G5}{mg:Str->Option O}{h:Heap}{B C B_Placings B_Hand B_HoldSearch:Z}
theorem All.txt(A:All K B C B_Placings B_Hand B_HoldSearch)(X:K.In h)(G:h.Ns GM mg):cS K mg B C where
 cl:=⟨A.pg,A.hd,A.po,A.sa⟩
 nT:=A.nT
 nP:=A.nP
 nE:=A.nE
 xt:=A.x.xt qU rfl ⟨Y,Y⟩ (by and_intros)
 mC:=Bs X G A.nC
 len:=AN X G A.a6
 abs:=AN X G A.a7
 sum:=AN X G A.a8
 zip:=AN X G A.a9
 ord:=AN X G A.ba
 cEND:=A.cy.cst X G
 cMINUS:=A.c7.cst X G
 cSLASH:=A.c8.cst X G
 cZERO:=A.c9.cst X G
 cONE:=A.da.cst X G
 cNINE:=A.db.cst X G
 cCARET:=A.dc.cst X G
 cMD:=A.dd.cst X G
 cMP:=A.de.cst X G
 cMA:=A.df.cst X G
 cCP:=A.dg.cst X G
 cNL:=A.cz.cst X G
 cCO:=A.dt.cst X G
 cPO:=A.c3.cst X G
 cBS:=A.dr.cst X G
 cBI:=A.c0.cst X G
 cBT:=A.c0.cst X G
 cML:=A.ds.cst X G
 cMN:=A.du.cst X G
 fst:=A.d0.cst X G
 fac:=A.d1.at_ (by decide) X G
 lgs:=A.d2.at_ (by decide) X G
 log:=A.d3.at_ (by decide) X G
theorem iI{fa:Z}(X:K.In h)(G:h.Ns GM mg)(Q:mg "stuck"=some (.ref fa))(A:All K B C B_Placings B_Hand B_HoldSearch):
  ∃fd:GP,(∀(s:GF) (us:List O),us.length=(["s","i"]:List Str).length->BindsTo s fd ⟨us,[]⟩ ((["s","i"]:List Str).zip us))/\∀base:Heap,K.In base->base.Ns GM mg->PR base mg->aN P w K mg base fY 43 fa fd ["s","i"] (eF K):=by
 obtain⟨f,oc,od,kV,ay,pm,d7,c,ct,sl,Pt,a,l,R,kp,hd,H⟩:=A.cr;have e:=Q.symm.trans (Bs X G a);cases e;have F:=Ti (st:=bL) l R kp hd;refine⟨_,λs us hu=>.of_eq (Wq kV ay pm d7 (.ref c) ct us hu),λbase _ _ r=>?_⟩;have T:=A.txt X G;have M:fE P w K mg base B C:=⟨A.bj.mth T.cl (by and_intros) λf fd F=>VG F T,A.bk.mth T.cl (by and_intros) λf fd F=>YA F T⟩;have b:cW P w K mg base C B 3 "take" ["self","wanted"] (Jh K B C):=A.bl.mth T.cl (by and_intros) λf fd F=>Wp F T M;have i:cW P w K mg base C B 4 "take_word" ["self","word"] (NQ K B C):=A.bm.mth T.cl (by and_intros) λf fd F=>U5 F T b;have p:gD P w K mg base C B 1 "Cursor" ["self","text","place","end"] (NJ B):=A.bi.mke (Bs X G A.nB) A.mkB A.kc (by and_intros) λf fd F=>UV F T;have x:=cQ P w base C X G A.cb λf fd F=>UH F T M;have as:=cQ P w base C X G A.ca λf fd F=>TX F T M x;have y:=cQ P w base C X G A.b5 λf fd F=>Z1 F T;have az:=cQ P w base C X G A.b8 λf fd F=>We F T M;have aa:=cQ P w base C X G A.b9 λf fd F=>Wk F T M x as y;have N:=cQ P w base C X G A.b7 λf fd F=>R5 F T M az aa;have ap:=cQ P w base C X G A.cc λf fd F=>Uh F T y;have E:=cQ P w base C X G A.b2 λf fd F=>UA F T;have v:=cQ P w base C X G A.b1 λf fd F=>WP F T;have I:=cQ P w base C X G A.b6 λf fd F=>Rn F T M p N ap E;have d9:=cQ P w base C X G A.cq λf fd F=>Yn F T M I;have V:=cQ P w base C X G A.cp λf fd F=>VF F T M b d9 v;have af:=cQ P w base C X G A.cn λf fd F=>YC F T M;have ac:=cQ P w base C X G A.cm λf fd F=>Tv F T M b af;have av:=cQ P w base C X G A.ck λf fd F=>Vg F T M b ac;have ak:=cQ P w base C X G A.co λf fd F=>Xe F T b i p av V;have t:iL mg:=⟨A.dv.cst X G,A.dw.cst X G,A.dy.cst X G⟩;have u:iJ mg:=⟨A.dx.cst X G,A.dz.cst X G⟩;have TI:iU K mg:=⟨A.dm.cst X G,A.dk.cst X G,A.dl.cst X G,A.dn.cst X G,A.dp.cst X G,A.dq.cst X G,A.dh.cst X G,A.di.cst X G,A.dj.cst X G,A.d4.at_ (by decide) X G⟩;have ad:=cQ P w base C X G A.b5 λf fd F=>Sz F T;have aw:=cQ P w base C X G A.b4 λf fd F=>Zy F ad;have al:=cQ P w base C X G A.b3 λf fd F=>Yw F T (AN X G A.bb) aw;have j:=cQ P w base C X G A.ci λf fd F=>rE F T b i;have q:=cQ P w base C X G A.cj λf fd F=>mS F T M I;have ah:=cQ P w base C X G A.ce λf fd F=>mY F T TI M b i;have au:=cQ P w base C X G A.cf λf fd F=>Xj F T TI b j q v;have am:=cQ P w base C X G A.cg λf fd F=>TR F T TI b j q al E;have ai:=cQ P w base C X G A.ch λf fd F=>XF F T TI b j q
 have ar:=cQ P w base C X G A.cd λf fd F=>Yg F T TI M p ah au am ai;have aj:=A.cv.dfn0 (P:=P) (w:=w) (base:=base) X G (by and_intros) λf fd F=>pV (C:=C) F T;have ab:=A.cu.dfn0 (P:=P) (w:=w) (base:=base) X G (by and_intros) λf fd F=>TW (C:=C) (k:=40) (by decide) F t u aj;have W:=A.cs.dfn0 (P:=P) (w:=w) (base:=base) X G (by and_intros) λf fd F=>Sk (k:=40) (by decide) F T t u ab ak ar;have TP:jJ mg:=⟨A.c5.cst X G,A.c6.cst X G,AN X G A.bc⟩;have d:iP K B_Placings:=⟨⟨A.ab,A.ac,A.ad,A.ae⟩,A.ah,A.ai,A.aj⟩;have S:=cQ P w base C X G A.bw λf fd F=>rQ F T.len TP;have ae:=cQ P w base C X G A.bx λf fd F=>qT F TP;have d6:gD P w K mg base C B_Placings 2 "Placings" ["self","courses","notes"] (Zc B_Placings):=A.bp.mke (Bs X G A.aa) A.af A.ag (by and_intros) λf fd F=>Vh F d T.sum S ae;have MC:=dY.mthR (P:=P) (w:=w) (base:=base) (C:=C) (sp:=WK B_Placings) A.bq d.cl (by and_intros) (λ_ _ _ _ h=>h) (λn f fd F g=>nF n F d TP T.len g) 15;have ag:=cQ P w base C X G A.cw λf fd F=>pA F;have ao:=cQ P w base C X G A.bv λf fd F=>Y5 F T.len T.zip (AN X G A.bb);obtain⟨c2,m,D,U⟩:=A.bu.dfnP (P:=P) (w:=w) (base:=base) (C:=C) (sp:=λPt=>ZP K Pt) (k:=5) X G (by and_intros) λf fd c Pt F=>mT F r (AN X G A.bd) (AN X G A.be) T.len (AN X G A.bg) (A.d5.upK X G) ao;have aq:=cQ P w base C X G A.bt λf fd F=>rZ F (AN X G A.bd) (AN X G A.be) T.zip (AN X G A.bf) (AN X G A.bg) (A.c4.cst X G) U;have o:jR K B_Hand:=⟨⟨A.al,A.am,A.ao,A.ap⟩,A.au⟩;have a0:gD P w K mg base C B_Hand 1 "Hand" ["self"] (kD K B_Hand):=A.bn.mke (Bs X G A.ak) A.aq A.ar (by and_intros) λf fd F=>Wa F o;have MG:cW P w K mg base C B_Hand 7 "grips" ["self","frets"] (Ws K B_Hand m):=A.bo.mth o.cl (by and_intros) λf fd F=>sK F o aq;have TS:jB K B_HoldSearch:=⟨⟨A.aw,A.ax,A.ay,A.az⟩,A.a2,A.a3,A.a4,A.a5⟩;have g:=dY.mthR (P:=P) (w:=w) (base:=base) (C:=C) (sp:=Rc K B_HoldSearch B_Placings B_Hand m) A.bs TS.cl (by and_intros) pB (λn f fd F g=>Z0 n F TS d T.len MG MC g) 23;have DS:gD P w K mg base C B_HoldSearch 24 "HoldSearch" ["self","courses","notes","hand","most"] (ZH K B_HoldSearch B_Hand m):=A.br.mke (Bs X G A.av) A.a0 A.a1 (by and_intros) λf fd F=>Vn F TS d d6 g;have d8:=cQ P w base C X G A.bz λf fd F=>qN F TS DS;have ax:=cQ P w base C X G A.b0 λf fd F=>oR F T.len (AN X G A.bh) d8;have L:=cQ P w base C X G A.cx λf fd F=>qX F (AN X G A.bb) a0 ag ax;exact WC (C:=C) F r H D (λz=>A.tt _ _ _ _ D H z) W L
end Lu
namespace L2
variable{K:G5}
theorem cC.mk{x:Str}{st:GU}{f:Z}{g:O}{od i:Option Z}{sl:Array (Option O)}{kV e h b d:O}(a:Au K GM x=some (some (.ref f)))
  (l:K.lookup f=some ⟨g,od,.func (A7 x x (Ic st) (HM st) (Hj st) .none kV e h i b d),sl⟩) (c:Br K b x=true) (k:AI K (.ref f)=true):cC K x st:=⟨f,g,od,kV,zP a l c k⟩
theorem dY.mk{B:Z}{m q:Str}{st:GU}{f:Z}{g:O}{od j:Option Z}{sl:Array (Option O)}{kV e h b d:O}(a:AF K (.ref B) m=some (some (.ref f)))(i:Cc K (.ref f)=true)
  (l:K.lookup f=some ⟨g,od,.func (A7 m q (Ic st) (HM st) (Hj st) .none kV e h j b d),sl⟩) (c:Br K b q=true) (k:AI K (.ref f)=true):dY K B m q st:=⟨f,g,od,kV,zP a i l ⟨c,k⟩⟩
theorem iQ.mk{C N k:Z}{st:GU}{nm q:Str}{bs:List O}{sn:List Str}{sub:List O}{ab:Bool}{col:Option Bool}{dd:Option Z}{k0 k1 k2 k3 k5:Option O}{t on:O}{od w v:Option Z}{sl p:Array (Option O)}{kV s u o r:O}{es:Array GZ}{ep:Nat}
  (a:K.lookup C=some (excClassObj nm q C N bs LX.fZ true sn sub ab col dd k0 k1 k2 k3 k5 "Exception.__new__")) (b:K.lookup N=some ⟨on,w,.dict es ep,p⟩) (c:Po es=true) (d:Au K N "__init__"=some (some (.ref k))) (e:Au K N "place"=some none) (f:Au K N "__setattr__"=some none)
  (g:Au K N "__getattribute__"=some none) (h:Au K N "__getattr__"=some none) (i:AI K (.ref C)=true) (j:Cc K (.ref k)=true)
  (l:K.lookup k=some ⟨t,od,.func (A7 "__init__" "Fault.__init__" (Ic st) (HM st) (Hj st) .none kV s u v o r),sl⟩) (m:Br K o "Fault.__init__"=true) (n:AI K (.ref k)=true):iQ K C st:=
 ⟨N,k,nm,q,bs,sn,sub,ab,col,dd,k0,k1,k2,k3,k5,t,od,kV,s,u,v,o,zM r sl on w es ep p a ⟨b,c,d,e,f,g,h,i,j,l,m,n⟩⟩
theorem CI.mk{x:Str}{i:Int}{t:Tok}(a:Au K GM x=some (some (.int i t))):CI K x i:=⟨t,a⟩
theorem cD.put{k v:Int}{t u:Tok}{hs:_}{es:List GZ}{aB:List (Int×Int)}(e:hs=hashInt k)(q:cD es aB):cD (⟨hs,.int k t,.int v u⟩::es) ((k,v)::aB):=by subst e;exact .cons q
theorem CD.mk{x:Str}{aB:List (Int×Int)}{p:Z}{es:Array GZ}{n:Nat}(a:Au K GM x=some (some (.ref p)))(b:K.lookup p=some ⟨.type "dict",none,.dict es n,#[]⟩)(c:cD es.toList aB)(d:(p==G1)=false):CD K x aB:=zJ p es n a b c d
theorem CT.mk{x:Str}{ns:List Int}{p:Z}{od:Option Z}{aD:List O}{n:Nat}{sl:Array (Option O)}(a:Au K GM x=some (some (.ref p)))(b:K.lookup p=some ⟨.type "tuple",od,.seq aD.toArray n,sl⟩)(c:bJ aD ns):CT K x ns:=zH a b Y Y c
theorem CS.mk{x:Str}{s:Str}{t:Tok}(a:Au K GM x=some (some (.str s t))):CS K x s:=⟨t,a⟩
theorem fJ.mk{x:Str}{st:GU}{f c Pt:Z}{e:O}{od i j:Option Z}{sl m:Array (Option O)}{kV d g b:O}{vs:Array O}(a:Au K GM x=some (some (.ref f)))
  (l:K.lookup f=some ⟨e,od,.func (A7 x x (Ic st) (HM st) (Hj st) .none kV d g i (.ref c) b),sl⟩) (h:Br K (.ref c) x=true) (k:AI K (.ref f)=true)
  (lc:K.lookup c=some ⟨.type "code",j,.fields vs,m⟩) (h11:vs[11]?=some (.ref Pt)) (hh:SJ vs c Pt=true):fJ K x st:=
 ⟨f,e,od,kV,d,g,zD a l h k (mR lc hh) (RG a l lc h11)⟩
end L2
set_option genInjectivity false in
structure PySem.W.Fast where
 (tw2768663995368862030 tw955300535986712894 tw7240066225891150259 tw14468950945384596949 tw13323754504015775265 tw7141783682006924357 tw8230173649689843724 tw8377349337350366999 tw16132097191017139015 tw14134244785042545438 tw3153868943488868577 tw6044399227304914296 tw2791315897966276364 tw15573091277195538564 tw1190999218000329904 tw12320103315197052571 tw15934440672473727092 tw4710652218589465409 tw8358279953468253481 tw17903183853191768961 tw1910933571429259508 tw14808436465718385307 tw12649785724516706340 tw11784900135529703035 tw4749130093556422140 tw8431791002680002413 tw3857738381048656770 tw9890136746182699405 tw16213952894399369666 tw5883288183612115047 tw17608577177090588248 tw6055373665106491858 tw1560026171502551612 tw15342934932431189946 tw2969315636895919105 tw15570295333166575662 tw8849649134071000544 tw5726199317343512248 tw2784208277078880878 tw15934827995571098346 tw6345364749240037300 tw13453899728308785996 tw1989759759060729952 tw16452250774294829071 tw3183684564223399768 tw5413140962995511842 tw13297051187503520606 tw2957840514006356230 tw12351230753391054054 tw9877213339435231169 tw10876016353066875011 tw10441066785182052641 tw18004589811388949781 tw7807703824031948870 tw14610487597995935664 tw6789986924576825696 tw7218144546262310525 tw7199474098903654242 tw17477291886212939012 tw16102147408903302046 tw11843140909098685036 tw12937308304984508294 tw16226569036728275346 tw13268389251846840083 tw10674968212991708782 tw17417263465719961213 tw10293504393438011915 tw16439787107743205838 tw9028668307144662413 tw17815830324995008609 tw8230130573156542455 tw5714553714256531163 tw1371345345756088237 tw13398881873329644754 tw1479134532445231808 tw354043572715706350 tw1752669106851682177 tw13889830795184553057 tw965853431872004062 tw7694825500658838864 tw2981879844278789213 tw8558388522796899341 tw1069186783454159350 tw5991995457683164333 tw15327965678476133311 tw3384904449677850472 tw11920288167952059420 tw10002699901348127208 tw8879555496337078519 tw4226361930438504428 tw6840948049399566468 tw8875767876552384077 tw10976868728264810105 tw475339063011014726 tw5104857844351921990 tw991065922107404819 tw940578752915451076 tw12686023209964582067 tw10047048082260672680 tw2130321342228480292 tw5935956499317607546 tw9829812095765751744 tw16757094280206485517 tw14101286512972459352 tw2618261242424000134 tw10969917075136278040 tw17269768526987049063 tw6959618911435588816 tw10132387132753085420 tw15667716268811303789 tw9683892879010568296 tw8389038698219693370 tw3197743410182087666 tw5887595212567573107 tw18316248674247668182 tw134510702415919601 tw582327275860803784 tw4994410300860451959 tw12707758850902171283 tw3642595264880036231 tw6954091009060360612 tw7706182120437526922 tw3992251267522505191 tw11449245151056797139 tw14270302531561481575 tw796314779494195465 tw2570055979220681576 tw6340846851253951053 tw16623015329779727681 tw16924294655560839411 tw7358621359233941124 tw3993649086714285346 tw6558627472617604721 tw17521350766864935088 tw4613267807971724260 tw18333426709091818090 tw4225053619405968605 tw6889490830958672545 tw9604224837775059878 tw10208688705561169464 tw6212610663747566860 tw14143820395898946642 tw11788539414938100592 tw10846329679387918391 tw10955097574313807372 tw17386860038725484229 tw15065364670981642882 tw12722505093888996044 tw16229708081944632442 tw3832336546285351644 tw15485895534271971864 tw7774660993531370066 tw8940234651374974747 tw16784375880613609001 tw11953847829149122941 tw7336854411402172100 tw10438120638360202929 tw3794409140640248430 tw6283348752028101882 tw6109191611811890942 tw8807396515472952063 tw12207356666932166474 tw5917243961821056932 tw12440450593243696938 tw476733614476448163 tw16287762564244710681 tw14695189583447074532 tw3114247308298541711 tw3528878083112057333 tw7257218230690242825 tw17928927782810995442 tw9380502426784710823 tw13324118197467054793 tw4001846360670772059 tw1810260328663834101 tw15529147707761615907 tw13793176128543794762 tw15088646527083906241 tw4543346994880327374 tw11643683775429036728 tw13786973782037142275 tw13552593846585260927 tw180268233322434584 tw5193412130247911136 tw14539241315622544373 tw17094596486233799678 tw14294594086260087685 tw4432144451875692575 tw15130426089950323658 tw15806819674021942073 tw4180227593366791772 tw3898108791845670962 tw14066491703313712606 tw14695281361297956825 tw14882911275078623872 tw15595686821003029544 tw3211366374176149225 tw14614234376825923697 tw17947871688013949342 tw2172346692977528595 tw12983635987814894643 tw12596460718095639611 tw3589093966179235725 tw2407786082898165811 tw12060715400006529406 tw13470497558079041134 tw15550857614990284079 tw6362587157469141251 tw13133752706114717104 tw16311457257112895020 tw608385084487875151 tw8012593404096884066 tw11130511026366407426 tw16975144296238502437 tw9372502722660441715 tw13041173735932555041 tw3511178889942678483 tw9286152704884741337 tw17625377353116563662 tw7088824964621271065 tw3590764078351909069 tw10417529249898869854 tw17214172075971204903 tw1814905213708301989 tw5330371128650106280 tw6472561393378797008 tw15828187157693510487 tw7225922909111531477:Unit)
local macro_rules|`(tactic|and_intros)=>`(tactic|first|(refine' L2.cC.mk ?a ?l ?c ?k;(case a=>k_is);(case l=>k_is);(case c=>k_is);(case k=>k_is))|(refine' L2.dY.mk ?a ?i ?l ?c ?k;(case a=>k_is);(case i=>k_is);(case l=>k_is);(case c=>k_is);(case k=>k_is))|(refine' L2.fJ.mk ?a ?l ?c ?k ?m ?e ?f;(case a=>k_is);(case l=>k_is);(case c=>k_is);(case k=>k_is);(case m=>k_is);(case e=>rfl);(case f=>rfl))|(refine' L2.CI.mk ?a;(case a=>k_is))|(refine' L2.CS.mk ?a;(case a=>k_is))|(refine' L2.CT.mk ?a ?b ?c;(case a=>k_is);(case b=>k_is);(case c=>repeat constructor))|(refine' L2.CD.mk ?a ?b ?c ?d;(case a=>k_is);(case b=>k_is);(case c=>repeat(first|exact .nil|refine .put (by decide) ?_));(case d=>rfl))|(refine' L2.iQ.mk ?a ?b ?c ?d ?e ?f ?g ?h ?i ?j ?l ?m ?n;(case a=>k_is);(case b=>k_is);(case c=>rfl);(case d=>k_is);(case e=>k_is);(case f=>k_is);(case g=>k_is);(case h=>k_is);(case i=>k_is);(case j=>k_is);(case l=>k_is);(case m=>k_is);(case n=>k_is))|(refine' L2.eK.mk (s1:=Lu.bH) (s2:=Lu.bL) ?a ?l ?lc ?e ?b ?m ?n ?f ?g;(case a=>k_is);(case l=>k_is);(case lc=>k_is);(case e=>rfl);(case b=>k_is);(case m=>k_is);(case n=>k_is);(case f=>rfl);(case g=>rfl))|(refine' Lu.iT.mk ?a ?l0 ?l1 ?l2 ?l3 ?l4 ?k0 ?k1 ?k2 ?k3 ?k4 ?k5 ?k6 ?k7 ?j1 ?j2 ?j3 ?j4 ?j5 ?j6 ?j7;(case a=>k_is);(case l0=>k_is);(case l1=>k_is);(case l2=>k_is);(case l3=>k_is);(case l4=>k_is);(case k0=>k_is);(case k1=>k_is);(case k2=>k_is);(case k3=>k_is);(case k4=>k_is);(case k5=>k_is);(case k6=>k_is);(case k7=>k_is);all_goals repeat constructor)|k_is)
open PySem.W
set_option maxRecDepth 100000 in
set_option maxHeartbeats 0 in
theorem PySem.Challenge.cw_lutesettings_s09_stuck_holds : PySem.Challenge.rw_lutesettings_s09_stuck.Holds := by
 w_on;k_headS;(case hw=>exact⟨[.list [],.list []],by decide,by decide⟩)
 k_fillS
 refine L2.fQ (r:=PySem.Challenge.rw_lutesettings_s09_stuck) (k:=43) (CX:=L2.fY) (ps:=["s","i"]) (sp:=Lu.eF) (["fingerings","stuck"]) (by decide) rfl rfl ⟨Y,by decide,by decide⟩ (λw h d6=>PySem.W.kIn_of d6) (λ_=>by kernel_rfl) (by decide) ?F ?S (λ_ _ _ _ z=>z)
 case F=>
  intro w mg fa h d6 KX G hmg
  refine' Lu.iI KX G hmg ⟨?_,?_,?_,?_,?_,?_,?_,?_,?_,?_,?_,?_,?_,?_,?_,?_,?_,?_,?_,?_,?_,?_,?_,?_,?_,?_,?_,?_,?_,?_,?_,?_,?_,?_,?_,?_,?_,?_,?_,?_,?_,?_,?_,?_,?_,?_,?_,?_,?_,?_,?_,?_,?_,?_,?_,?_,?_,?_,?_,?_,?_,?_,?_,?_,?_,?_,?_,?_,?_,?_,?_,?_,?_,?_,?_,?_,?_,?_,?_,?_,?_,?_,?_,?_,?_,?_,?_,?_,?_,?_,?_,?_,?_,?_,?_,?_,?_,?_,?_,?_,?_,?_,?_,?_,?_,?_,?_,?_,?_,?_,?_,?_,?_,?_,?_,?_,?_,?_,?_,?_,?_,?_,?_,?_,?_,?_,?_,?_,?_,?_,?_,?_,?_,?_,?_,?_,?_,?_,?_,?_,?_,?_,?_,?_⟩
  all_goals and_intros
 case S=>
  intro K H xs a hT hwi hask hx;cases hx with
  |cons h1 h2=>
   cases h2 with
   |cons h2 h3=>
    cases h3;cases h1 with
    |lst hs ha=>
     cases h2 with
     |lst hs2 ha2=>have e:=L2.eI a.1 _ ha;subst e;have e2:=L2.eI a.2.1 _ ha2;subst e2;have q:((Codec.inLen 0 110000 a.1&&a.1.all (Codec.inInt 0 255))&&((Codec.inLen 0 8192 a.2.1&&a.2.1.all (Codec.inInt 0 255))&&true))=true:=hwi;rw[AB,AB,AB,AB] at q;exact zV Y hT hs ⟨λz hz=>Codec.inInt_iff.mp (Bb.mp q.1.2 z hz),hs2,λz hz=>Codec.inInt_iff.mp (Bb.mp q.2.1.2 z hz),λH' p hp=>.lst (L2.aP.of hp) (L2.fV _)⟩
