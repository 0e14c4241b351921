import PyProof.Rows.All
import Wide.All
import OpenK.AllK
import Wide.FinOn
import Lean
import PyProof.EqAt
import PyProof.EqKinds
import PyProof.TupleCall
import PyProof.Rows.SortRunsK
import PyProof.Rows.Walk
import KE.KSortTup
import PyProof.ListRange
import PyProof.Rows.SetFrom
import KE.KRevIter
import PySem.Challenge.RW_restdraw_k62_whole_by_gaps
set_option Elab.async false
set_option linter.all false
set_option maxRecDepth 100000
local macro_rules | `(tactic| omega)=>`(tactic| lia)
noncomputable section
open List renaming getElem?_eq_getElem->aa,length_map->ai,getElem?_eq_some_iff->aj,getD_eq_getElem?_getD->ak,getElem?_append_left->az,getElem?_append_right->bf,getElem?_map->bg,length_append->bq,mem_singleton->bu,mem_append->cf,mem_append_right->ck,mem_append_left->cq,mem_of_getElem?->cv,range->cw,append_assoc->cx,length_take->dc,nodup_append->de,getElem?_concat_length->di,mem_cons->dr,pairwise_append->eA,mem_cons_of_mem->eC,map_append->eE,dropLast_concat_getLast->eO,getLast?_eq_some_getLast->eW,mem_iff_getElem->eY,mem_cons_self->eZ,getElem?_set_ne->fe,size_toArray->fj,length_singleton->fk,nodup_cons->gk,length_cons->gn,map_cons->gv,idxOf_lt_length_of_mem->gw,take_append_drop->iB,replicate->iD,take_length->iG,length_range->iI,mem_map->iP,length_drop->iR,append_nil->iW,getElem_mem->iY,getLast?_append->iZ,mem_filter->ig,cons_append->iq,take_succ->iw,take_of_length_le->jh,getLastD_eq_getLast?->ji,mem_range->jo,length->jr,getElem?_set_self->kh,pairwise_singleton->kl,perm_append_comm->ko,nil_append->kq,pairwise_iff_getElem->lj,length_filter_le->mj,getLast?_eq_getElem?->ml,drop_eq_nil_of_le->nj,not_mem_nil->og,length_eq_zero_iff->ox,getLast?_cons_cons->oz,getLast?_concat->pd,pairwise_map->qe,mem_of_mem_take->qh,mem_of_mem_tail->qi,extract_eq_take_drop->qj,length_nil->qm,getElem?_take_of_lt->qw,take_append_of_le_length->sd,filter_append->so,flatMap_append->ue,perm_ext_iff_of_nodup->uf,map_take->ug,getElem?_eq_none->uh,getElem?_zip_eq_some->uj,find?_cons->uo,nodup_range->uy,filter_cons->vf,mem_of_getLast?->vg,foldl_cons->vy,length_flatMap->wc,length_pos_iff->wd,map_congr_left->we,replicate_succ->wk,range'_succ->wm,map_drop->wq,filter_cons_of_pos->wu,filter_cons_of_neg->wx,all_eq_true->wz,mem_flatMap->xb,take_left'->xi,flatMap_singleton->xk,append_of_mem->xu,pairwise_cons->xx,length_replicate->ya,take_sublist->ye,flatten_cons->yf,getElem?_inj->yh,cons_ne_nil->yk,mem_of_mem_drop->ym,reverse_append->yo,idxOf_cons_self->yq,nodup_nil->yr,zipIdx_cons->yt,idxOf_append->yu,getElem_map->yw,mem_reverse->yx,drop_eq_getElem_cons->yz,of_mem_zip->zt,forIn_cons->zu,length_set->AB,sum_append->AD,getElem?_drop->AE,range'->AG,eraseIdx_append_of_length_le->AH,sum_cons->AO,drop_drop->AU,getElem_take->AV,map_map->AW,filter_eq_nil_iff->AY,flatMap_cons->AZ,pairwise_reverse->Ab,mem_iff_getElem?->Ac,lookup_cons->Af,ext_getElem->Ai,drop_append->Aj,any_cons->An,getElem_inj->Ao,drop_append_of_le_length->Aw,zipIdx_nil->BA,drop_left'->BB,filterMap_cons->BG,length_reverse->BH,mergeSort_perm->BI,map_nil->BK,take_take->BN,forIn_nil->BZ,range_succ->Ba,nodup_iff_pairwise_ne->Bb,zip_cons_cons->Be,getElem_idxOf->Bf,length_zip->Bh,Nodup->Bi,filter_nil->Bj,getElem_drop->Br,take_add_one->Bs,reverse_cons->Bt,getLast?->By,take_append->CH,perm_middle->CI,take_zero->CJ,map_snd_zip->CK,pairwise_lt_range->CZ,length_eq_one_iff->Ca,pairwise_flatMap->Co,reverse_reverse->Cv,drop_zero->Cw,getElem?_range->DD,filter_eq_self->DE,map_eq_nil_iff->DF,mem_filterMap->DM,getElem?_take->DR,mem_replicate->DU,find?_eq_none->DV,ext_getElem?->Dr,foldl_append->Ds,mem_of_head?->Dz,map_set->EA,getLast_mem->EK,any_eq_true->EM,map_fst_zip->EN,flatMap_def->EO,zip_append->Eb,foldl->Er,drop_take->Ey,tail_cons->FA,all_cons->Ff,take->Fy,all_map->GE,drop->Gp
open PySem renaming wpAny_bind->ae,Value->ar,Addr->au,Shared->av,wpAny_pure->bj,wpAny->dw,Program->eo,boot_len->fq,Around->gj,mainGlobals->gm,World->iJ,Expr->iO,Heap->iS,wpAny_field->ip,wpAny_newObj_type->iz,wpAny_callSpecial?_slot->jz,wpAny_seqItems->ka,wpAny_setField_rec->ki,wpAny_holding->md,wpAny_call_entry->mf,mem_of_lookup->mo,wpAny_comprehension_free->om,Stmt->ph,wpAny_truthy_bool->qb,wpAny_newFunctionEnv->rh,wpAny_dictEntries->sh,FuncData->tw,NameKind->tz,wpAny_passesOwn->um,Fin->uq,wpAny_mono->vj,wpAny_standAt->vk,wpAny_rule->vt,wpAny_onRaise->wb,Scope->wg,IsZip->xa,wpAny_pyIter_tuple->xg,IsPair->yc,Model->zf,wpAny_attempt->zk,Builtin->zw,wpAny_loadPart'->zx,tupleKind_room_in1->AC,wpAny_pyIter_list->AI,wpAny_typeOf->AL,call_meets->Ae,wpAny_forIn_list->Ag,wpAny_pyIter_zip->Am,sizeLine_eq->Ap,wpAny_updateSeq_pair->As,wpAny_letGo->Au,wpAny_execs_nil->Ay,wpAny_dictEpoch->BE,sizeLine->BO,wpAny_Call_Name_kw->BV,wpAny_letOwnedTupleGo_zip->Bk,wpAny_assign_Name->Bn,noFill_tuple_add->CF,DictEntry->CG,wpAny_isInstance->CM,IsPart->CP,wpAny_specialOf->Ce,size_of_entries->Ci,wpAny_isTrue_Compare1->Ck,exec_Assign_Name_used->Cm,PyData->Cs,wpAny_newTuple->Cu,wpAny_pyIter_revIter->Cz,seq_tuple_add->DH,Comprehension->DI,wpAny_newList->DJ,BindsTo->DZ,codeAny_mono->Da,concat_meets->Dc,wpAny_sequenceKey->De,seqIndex_neg->Df,slot_list_getitem->Dg,callType_new->Dj,wpAny_pyIter_enum->Dk,arm_eval_DictComp->Dl,atKey_none_of_get->Dv,wpAny_eqBool_int->EC,Paired->ED,wpAny_execs_cons->EE,wpAny_Dict_empty->EJ,seqIndex_of->ER,Draws->ES,wpAny_tests_nil->EX,codeAny_builtin->Ea,Keyword->Ec,wpAny_Name->Ee,wpAny_bindName->Ef,typeIs_int->Ep,fitsIndex_both->Es,call->Et,wpAny_setField->Eu,isSubtype_stop->Ez,PassesOwn->Fo,Within->Fz,CmpOp->GR,Params->Gb,Code->Gn
open PySem.Heap renaming get?_push_of_some->ao,lt_size->bz,get?_push_size->cg,size_push->iX,SameBut->jb,get?_update_self->qk,get?_update_ne->ze,get?_update_other->CT,get?_push_cases->Ct
open PySem.W renaming Frag->ay,nsIn->jd,kia_one->me,fnOf->uw,keepIn->AJ,codeIn->BW,methodObj->Bl,cellsFrom_some->CO,instObj->Cc,OpenLaw->Cd,lookIn->Cr,kitx_list->DX,kitx_dict->DY,plainGet->EF,findIn->Ej,kitOne->Ek,WalkO->Fg,mg_of->Fh
open Nat renaming le_refl->be,lt_of_lt_of_le->cy,ne_of_lt->dq,le_of_lt->gh,zero_le->gy,lt_or_ge->iH,ne_of_gt->jc,lt_of_le_of_lt->jj,le_trans->jt,min_eq_left->jw,lt_irrefl->qa,sub_add_cancel->ud,lt_succ_of_lt->ux,add_assoc->xw,lt_trichotomy->yg,add_comm->AM,zero_add->AQ,lt_succ_self->Ah,le_succ->Aq,strongRecOn->BF,sub_self->CW,mul_le_mul_left->DG,add_sub_cancel->DQ,add_zero->Dq,sub_zero->Dx,le_of_eq->GB,div_one->GX
open Option.some renaming inj->bh,injEq->Gi
open PyProof.Rows renaming Keyed->bp,wpS_bind->cj,pendingOf->df,arrOf->dh,wpS_pure->dj,SortSt->eV,callWith_type1->iU,slot_tuple_getitem->jq,wpS_forRange->jv,boot_tuple->kg,SortKind->oq,wpS_modify->oy,wpS_mono->uz,failedOf->va,boot_isinstance->xt,boot_sorted->zr,wpS_get->zy,boot_sum->Ad,reverseSlice'_eq->Ak,get?_update_seq->BC,assignInOrder_cons->BS,AllBare->Bm,listUpdate_at->Bw,subscriptTail_builtinR->CQ,boot_int->Cp,boot_all->Cq,entry_tuple_getitem->DB,args_tuple_getitem->DN,assignInOrder_nil->DW,IntsAre->Dh,listItems_at->Du,callWith_builtin1->EG,seqEpoch_at->ET,IsTup->Ed,Call_->Eh,boot_range->Ei,slicePart_none->El,Subscript_->Em,args_cons->GD,boot_bool->GF,boot_list->GH,args_nil->GK,boot_max->GM,boot_abs->GN,boot_min->GO,wpS_lift->GW,lt_int->GZ
open Option renaming map_eq_some_iff->cu,toList_some->qv,map_some->xm,isSome_iff_exists->zg,getD_some->CN,map_eq_none_iff->Cb,isSome_map->Di,getD_none->EH,none->GT,map->Gg
open Bool renaming false_ne_true->eK,false_eq_true->eP,and_eq_true->iQ,eq_iff_iff->iV,not_true->zj,or_eq_true->Cg,not_eq_true'->Do,false_and->Eg,not_false->Ex
open Sum renaming inl->ed,inr->DA
open Classical renaming byContradiction->fb,choose_spec->ql,choose->wo
open List.Nodup renaming length_le_of_subset->fc
open PySem.Builtin.SmallTypes renaming nextOf->iA,ownedTupleIsFree->iE,ownedTupleHandOut->ni
open Array renaming length_toList->iK,toList_append->iN,size_push->ja,size_extract->km,getElem?_toList->oh,mem_toList_iff->uu,toList_extract->vd,toList_push->ve,size_append->yi,toList_reverse->yn,toList_setIfInBounds->Bc,getElem_mem->Bp,size_setIfInBounds->Bv,toList_modify->DC,size_reverse->DP,isEmpty_iff->Dw,toList->GA,getD->Gf
open Int renaming toNat_natCast->iL,eq_ofNat_of_zero_le->si,zero_add->vh,fdiv_eq_ediv_of_nonneg->BU,emod_lt_of_pos->Bg,emod_nonneg->Cj,le_refl->EU
open PySem.PyData renaming eqvAll->ie,eqv->jl,int->kb,canLayAll0->ky,canLay0->ou,depthAll->ow,depth->qz
open PySem.F renaming slot_list_append->ir,type_list_append->iu,slot_list_index->je,type_list_index->jf,slot_zip_next->sk,slot_tuple_iterator_next->ub,args_tuple_add_2->zh,plainAttrs_tuple->zm,slot_tuple_index->zo,type_tuple_index->zq,entry_tuple_add->AF,slot_tuple_add->AK,args_zip_next_1->AX,entry_zip_next->Al,slot_dict_itemiterator_iter->Ax,args_tuple_iterator_next_1->Az,entry_tuple_iterator_next->BL,slot_dict_update->Bx,slot_list_insert->Bz,type_list_insert->CA,slot_list_remove->CB,type_list_remove->CC,slot_dict_items->Dy,slot_int_rmul->EW,entry_zip_new->EY,called_zip->GC
open ForInStep renaming yield->jg,done->yj
open PySem.Heap.SameBut renaming update->ju,refl->AN
open PySem.Value renaming ref->jx,int->uk,none->AA,bool->BP,type->BQ,str->EB,isStrOf->FP,isInt->GP,float->GQ
open PySem.SeqAt renaming shaped->mh,EqAt->Eo
open Ne renaming symm->pe
open True renaming intro->qc
open Std.Legacy.Range renaming forIn_eq_forIn_range'->rm,size->Aa
open PySem.Obj renaming mapSeq->ua,data_mapDictKeys->yp,isFreed_of_dict->BJ,data_mapFields->DO,data_mapDict->EL
open PySem.Builtin.Slice renaming slicePlaces->ui,sliceAdjust->yy,sliceApplied->BX,slicePartIndex->EV,sliceFields->FM
open List.Perm renaming trans->ur,append_right->xj,append_left->yd,refl->AR
open PySem.Paired renaming length->vi,snoc->GU
open PySem.Builtin.Tuple renaming tupleExact->vw,tupleItemsOf->BY,tupleIsExact->Ew,tupleHashOf->FN
open Prod renaming ext->wj,snd->Av,fst->Dm
open Sum.inl renaming inj->wy
open False renaming elim->xc
open PySem.Str renaming ofString->xh
open List.cons renaming injEq->xp,inj->Fn
open Or renaming inl->zd,inr->EI
open PySem.Builtin.List renaming listTooLong->zi,listExtendWith->BM
open PySem.Shared renaming heap->Ar
open PySem.Builtin.Dict renaming entriesForEmpty->BD,updateFrom->CL,mergeDict->CY,quietEq->Cy,readDirectly->FO,selfAndRest->Fk,addKeywords->Fm,showsAll->GJ,merge->Gh
open PySem.Calls renaming Name_function_global->BR,callWith_builtin->CU
open List.Pairwise renaming nil->Bo,imp_of_mem->Fi,map->Gj
open Iff renaming rfl->Bq
open PySem.NameKind renaming free->Bu
open PySem.Challenge renaming rw_restdraw_k62_whole_by_gaps->CD
open PyProof.Rows.SortSt renaming mk'->CV
open PySem.Heap.DictOf renaming new->Cf
open PySem.SeqAt.EqAt renaming int_str->DK,str_int->DL
open PySem.PassesOwn renaming never->EZ
open PySem.EqNone renaming eq_none_none->FB,eq_none_bool->FC,eq_bool_none->FD,ne_none_none->FG,ne_none_bool->FH,ne_bool_none->FJ,eq_none_int->FQ,eq_none_str->FR,eq_int_none->FS,eq_str_none->FV,ne_none_int->FX,ne_none_str->FY,ne_int_none->FZ,ne_str_none->Fd
open PySem.EqMixed renaming eq_bool_str->FE,eq_str_bool->FF,ne_bool_str->FK,ne_str_bool->FL,eq_int_str->FU,eq_str_int->FW,ne_int_str->Fb,ne_str_int->Fe
open PySem.W.Looks renaming of_pure->Fj
open PySem.Builtin.Range renaming rangeSize->Fv
open And renaming intro->Fw
open PySem.IsRange renaming new->GS
open PySem.MeetsSeq.EqGives renaming int->GV
open PySem.Builtin.Int renaming intBits->GY
open PySem.Heap.IsSliceOf renaming new->Ga
open PySem.W.WShape renaming has->Gc
open PySem.Walks renaming list->Gd
open PUnit renaming unit->Ge
open PySem.Flow renaming next->Gk
open PySem.W.WData renaming int->Gm
def yS0:0<=BO:=by decide
def yS1:1<=BO:=by decide
def yS2:2<=BO:=by decide
def yS3:3<=BO:=by decide
namespace L2
open PySem PySem.Spec PyProof.Rows
abbrev Key:=Sum Int Str
def lI:Key->ar->Bool
 | .inl k,v=>GP k v
 | .inr x,v=>FP x v
def kVG(w:iJ):Key->Int
 | .inl k=>hashInt k
 | .inr x=>hashStr w x
def qW:∀{k:Key}{v:ar},lI k v=true->(∃ i t,k=ed i/\v=uk i t)\/(∃ x t,k=DA x/\v=EB x t)
 | .inl i,v,h=>by
  obtain⟨t,e⟩:=Value.isInt_shape (k:=i) (v:=v) h;exact .inl ⟨i,t,rfl,e⟩
 | .inr x,v,h=>by
  obtain⟨t,e⟩:=Value.isStrOf_shape (x:=x) (v:=v) h;exact .inr ⟨x,t,rfl,e⟩
def kIC(i:Int)(t:Tok):lI (.inl i) (.int i t)=true:=by simp[lI,GP]
def kIB(x:Str)(t:Tok):lI (.inr x) (.str x t)=true:=by simp[lI,FP]
def kSC(a b:Int):decide ((ed a:Key)=ed b)=(a == b):=by
 by_cases e:a=b
 ·subst e;simp
 ·have h:¬ (ed a:Key)=ed b:=λ q=>e (wy q)
  rw[decide_eq_false h];exact(beq_eq_false_iff_ne.mpr e).symm
def kRZ(a b:Str):decide ((DA a:Key)=DA b)=decide (a=b):=by
 by_cases e:a=b
 ·subst e;simp
 ·have h:¬ (DA a:Key)=DA b:=λ q=>e (Sum.inr.inj q)
  rw[decide_eq_false h,decide_eq_false e]
def kSB(a:Int)(b:Str):decide ((ed a:Key)=DA b)=false:=decide_eq_false (λ q=>nomatch q)
def kSA(a:Str)(b:Int):decide ((DA a:Key)=ed b)=false:=decide_eq_false (λ q=>nomatch q)
def qD(prog:eo)(w:iJ):PySem.KeyKind prog w Key where
 is:=lI
 hash:=kVG w
 inj:=λ v a b g d=>by
  rcases qW g with⟨i,t,rfl,rfl⟩ | ⟨x,t,rfl,rfl⟩
  ·rcases qW d with⟨j,u,rfl,e⟩ | ⟨y,u,rfl,e⟩
   ·injection e with e1 _;rw[e1]
   ·exact nomatch e
  ·rcases qW d with⟨j,u,rfl,e⟩ | ⟨y,u,rfl,e⟩
   ·exact nomatch e
   ·injection e with e1 _;rw[e1]
 byValue:=λ k v h=>by
  rcases qW h with⟨i,t,rfl,rfl⟩ | ⟨x,t,rfl,rfl⟩<;>rfl
 pyHash:=λ c h=>by
  rcases qW c with⟨i,t,rfl,rfl⟩ | ⟨x,t,rfl,rfl⟩
  ·exact wpAny_pyHash_int h
  ·exact wpAny_pyHash_str h
 eqBool:=λ f c h=>by
  rcases qW f with⟨i,t,rfl,rfl⟩ | ⟨x,t,rfl,rfl⟩
  ·rcases qW c with⟨j,u,rfl,rfl⟩ | ⟨y,u,rfl,rfl⟩
   ·rw[kSC]at h;exact EC h
   ·rw[kSB]at h;exact DK i t y u _ _ _ _ h
  ·rcases qW c with⟨j,u,rfl,rfl⟩ | ⟨y,u,rfl,rfl⟩
   ·rw[kSA]at h;exact DL x t j u _ _ _ _ h
   ·rw[kRZ]at h;exact wpAny_eqBool_str h
 «strs»:=λ k x t v h=>by
  rcases qW h with⟨i,u,rfl,e⟩ | ⟨y,u,rfl,e⟩
  ·exact nomatch e
  ·injection e with e1 _
   subst e1;cases v<;>rfl
def kDD(prog:eo)(w:iJ)(k:Key)(v:ar):(qD prog w).is k v=lI k v:=rfl
def kAQ(prog:eo)(w:iJ)(i:Int)(t:Tok):(qD prog w).is (.inl i) (.int i t)=true:=kIC i t
def kAP(prog:eo)(w:iJ)(x:Str)(t:Tok):(qD prog w).is (.inr x) (.str x t)=true:=kIB x t
inductive V where
 | non | bl (b:Bool) | int (i:Int) | str (x:Str) | byt (b:Array UInt8) | flt (b:UInt64) | ref (a:au) | ty (n:String)
 deriving DecidableEq
def RelV:V->ar->Prop
 | .non,u=>u=AA
 | .bl b,u=>u=BP b
 | .int i,u=>∃ t,u=uk i t
 | .str x,u=>∃ t,u=EB x t
 | .byt b,u=>∃ t,u=Value.bytes b t
 | .flt b,u=>∃ t,u=GQ b t
 | .ref a,u=>u=jx a
 | .ty n,u=>u=BQ n
abbrev Vals:List V->List ar->Prop:=ED RelV
theorem Vals.length{xs:List V}{a:List ar}(r:Vals xs a):xs.length=a.length:=vi r
theorem Vals.get:∀{xs:List V}{a:List ar}{i:Nat}{x:V},Vals xs a->xs[i]?=some x->∃ u,a[i]?=some u/\RelV x u
 | _,_,_,_,.nil,e=>by simp at e
 | _,_,0,_,.cons r _,e=>by simp at e;subst e;exact⟨_,rfl,r⟩
 | _,_,i+1,x,.cons _ t,e=>by
  obtain⟨u,h1,b⟩:=Vals.get (i:=i) (x:=x) t (by simpa using e);exact⟨u,by simpa using h1,b⟩
theorem Vals.set{x:V}{u:ar}(r:RelV x u):∀{xs:List V}{a:List ar}(i:Nat),Vals xs a->Vals (xs.set i x) (a.set i u)
 | _,_,_,.nil=>.nil
 | _,_,0,.cons _ t=>.cons r t
 | _,_,i+1,.cons q t=>.cons q (Vals.set r i t)
theorem Vals.append:∀{xs ys:List V}{a b:List ar},Vals xs a->Vals ys b->Vals (xs++ys) (a++b)
 | _,_,_,_,.nil,s=>s
 | _,_,_,_,.cons r t,s=>.cons r (Vals.append t s)
theorem Vals.take:∀{xs:List V}{a:List ar}(n:Nat),Vals xs a->Vals (xs.take n) (a.take n)
 | _,_,0,_=>.nil
 | _,_,_+1,.nil=>.nil
 | _,_,n+1,.cons r t=>.cons r (Vals.take n t)
theorem Vals.drop:∀{xs:List V}{a:List ar}(n:Nat),Vals xs a->Vals (xs.drop n) (a.drop n)
 | _,_,0,r=>r
 | _,_,_+1,.nil=>.nil
 | _,_,n+1,.cons _ t=>Vals.drop n t
def RelO:Option V->Option ar->Prop
 | some v,some u=>RelV v u
 | none,none=>True
 | _,_=>False
def KV{a:Type}:List (a×V)->List (a×ar)->Prop:=ED λ(p:a×V) (q:a×ar)=>p.1=q.1/\RelV p.2 q.2
def kV:Key->V
 | .inl i=>.int i
 | .inr x=>.str x
inductive HO where
 | lst (xs:List V)
 | tup (xs:List V)
 | dK (kvs:List (Key×V)) | dT (kvs:List (List Key×V))
 | set (S:Int->Bool) (n:Nat)
 | ins (C dx:au) (fs:List (Str×V))
 | own (x:au)
 | xd (fs:List (Str×V))
 | met (f x:au)
 | rng (lo hi:Int)
 | frz (o:Obj) (u:HO)
 | tbl (ps:Array ar)
 | ext (φ:iS->Prop)
abbrev Hp:=au->Option HO
def upd(H:Hp)(a:au)(o:HO):Hp:=λ b=>if b=a then some o else H b
def kA{H:Hp}{a:au}{o:HO}:upd H a o a=some o:=by unfold upd;rw[if_pos rfl]
def kM{H:Hp}{a b:au}{o:HO}(h:b≠a):upd H a o b=H b:=by unfold upd;rw[if_neg h]
def wM{H:Hp}{a b:au}{o u:HO}(h:H a=some o)(h':H b=some u)(d:o≠u):a≠b:=by
 intro e;subst e;rw[h]at h';exact d (bh h')
def kJ{H:Hp}{a b:au}{o:HO}(h:H a=some o)(h':H b=none):a≠b:=by
 intro e;subst e;rw[h]at h';cases h'
section
def IsTupN(h:iS)(a:au)(items:Array ar):Prop:=∃ o,h.get? a=some o/\o.cls=.type "tuple"/\∃ n,o.data=.seq items n/\o.dict=none
def IsTupN.isTup{h:iS}{a:au}{items:Array ar}:IsTupN h a items->Ed h a items:=λ⟨o,e,c,n,d,_⟩=>⟨o,e,c,n,d⟩
theorem IsTupN.lt{h:iS}{a:au}{items:Array ar}(x:IsTupN h a items):a<h.objs.size:=x.isTup.lt
def IsTupN.new(h:iS)(items:Array ar):IsTupN (h.push {cls:=.type "tuple",data:=.seq items}) h.objs.size items:=⟨_,cg _ rfl,rfl,_,rfl,rfl⟩
variable (P:eo) (w:iJ)
def ObjOk(H:Hp)(h:iS)(a:au):HO->Prop
 | .lst c=>c.length<=sizeLine/\∃(b:List ar)(n:Nat),Vals c b/\h.get? a=some {cls:=.type "list",data:=.seq b.toArray n}
 | .tup c=>c.length<=sizeLine/\∃ b:List ar,Vals c b/\IsTupN h a b.toArray
 | .dK kvs=>kvs.length<=sizeLine/\(a == sysModules)=false/\∃ j,KV kvs j/\h.DictOf (qD P w) a j
 | .dT kvs=>kvs.length<=sizeLine/\(a == sysModules)=false/\∃ c:List (List Key×au×ar),
   ED (λ(p:List Key×V) (q:List Key×au×ar)=>p.1=q.1/\H q.2.1=some (.tup (p.1.map kV))/\RelV p.2 q.2.2) kvs c /\
   ∃ o g l,h.get? a=some o/\o.ExactDict/\o.data=.dict g l/\g.toList=c.map (entryOfKey (tupleKind (qD P w)))/\(c.map (·.1)).Nodup
 | .set S n=>h.SetOf (intKind P w) a S n
 | .ins C dx fs=>H dx=some (.own a)/\fs.length<=1000/\dx≠a/\h.get? a=some (Cc C dx) /\
   ∃ d,h.Ns1 dx d/\(∀ f,RelO (fs.lookup f) (d f))/\Fz d (fs.map (·.1))
 | .own _=>∃ o,h.get? a=some o
 | .xd fs=>∃ d,h.Ns1 a d/\∀ f,RelO (fs.lookup f) (d f)
 | .rng lo hi=>∃ t u v,h.get? a=some {cls:=.type "range",data:=.fields #[.int lo t,.int hi u,.int 1 v]}
 | .frz o u=>h.get? a=some o/\ObjOk H h a u
 | .tbl ps=>h.get? a=some {cls:=.none,data:=.fields ps}
 | .met f x=>h.get? a=some (Bl (.ref f) (.ref x))
 | .ext φ=>φ h/\(∃ o,h.get? a=some o)/\∀ h1 i:iS,φ h1->(∀ o,h1.get? a=some o->i.get? a=some o)->φ i
def HOk(H:Hp)(h:iS):Prop:=∀ a o,H a=some o->ObjOk P w H h a o
end
section
variable {P:eo} {w:iJ} {H H':Hp} {h h':iS} {a:au} {o:HO}
theorem ObjOk.lt(x:ObjOk P w H h a o):a<h.objs.size:=by
 cases o with
 | lst xs=>obtain⟨_,_,_,_,e⟩:=x;exact bz e
 | tup xs=>obtain⟨_,_,_,p⟩:=x;exact p.lt
 | dK kvs=>obtain⟨_,_,_,_,o,_,_,e,_⟩:=x;exact bz e
 | dT kvs=>obtain⟨_,_,_,_,o,_,_,e,_⟩:=x;exact bz e
 | set S n=>obtain⟨o,_,_,_,e,_⟩:=x;exact bz e
 | ins C dx fs=>obtain⟨_,_,_,e,_⟩:=x;exact bz e
 | own y=>obtain⟨_,e⟩:=x;exact bz e
 | xd fs=>obtain⟨_,⟨_,_,_,e,_⟩,_⟩:=x;exact bz e
 | rng lo hi=>obtain⟨_,_,_,e⟩:=x;exact bz e
 | frz ob u=>obtain⟨e,_⟩:=x;exact bz e
 | tbl ps=>exact bz (show h.get? a=some _ from x)
 | met f y=>exact bz (show h.get? a=some _ from x)
 | ext φ=>obtain⟨_,⟨_,e⟩,_⟩:=x;exact bz e
theorem Paired.mapP{α β:Type}{F G:α->β->Prop}:∀{l₁:List α}{l₂:List β},ED F l₁ l₂->(∀ a b,F a b->G a b)->ED G l₁ l₂
 | _,_,.nil,_=>.nil
 | _,_,.cons r t,f=>.cons (f _ _ r) (Paired.mapP t f)
def ObjOk.stay(x:ObjOk P w H h a o)(k:∀ b u,(b=a\/H b=some (.own a))->h.get? b=some u->h'.get? b=some u)
  (G:∀ b,H b=some (.own a)->H' b=some (.own a)) (I:∀ b xs,H b=some (.tup xs)->H' b=some (.tup xs)):ObjOk P w H' h' a o:=by
 induction o with
 | lst xs=>obtain⟨z,l,n,r,e⟩:=x;exact⟨z,l,n,r,k _ _ (.inl rfl) e⟩
 | tup xs=>obtain⟨z,l,r,g,e,c⟩:=x;exact⟨z,l,r,g,k _ _ (.inl rfl) e,c⟩
 | dK kvs=>obtain⟨z,y,A,r,g,j,i,e,c⟩:=x;exact⟨z,y,A,r,g,j,i,k _ _ (.inl rfl) e,c⟩
 | dT kvs =>
  obtain⟨z,y,xs,r,g,j,i,e,c⟩:=x;exact⟨z,y,xs,Paired.mapP r λ p q z=>⟨z.1,I _ _ z.2.1,z.2.2⟩,g,j,i,k _ _ (.inl rfl) e,c⟩
 | set S n=>obtain⟨g,j,i,t,e,c⟩:=x;exact⟨g,j,i,t,k _ _ (.inl rfl) e,c⟩
 | ins C dx fs =>
  obtain⟨d,z,B,e,s,⟨m,j,i,D,c⟩,r⟩:=x;exact⟨G _ d,z,B,k _ _ (.inl rfl) e,s,⟨m,j,i,k _ _ (.inr d) D,c⟩,r⟩
 | own y=>obtain⟨g,e⟩:=x;exact⟨g,k _ _ (.inl rfl) e⟩
 | xd fs=>obtain⟨s,⟨m,j,i,e,c⟩,r⟩:=x;exact⟨s,⟨m,j,i,k _ _ (.inl rfl) e,c⟩,r⟩
 | rng lo hi=>obtain⟨t,u,v,e⟩:=x;exact⟨t,u,v,k _ _ (.inl rfl) e⟩
 | frz g u ih=>obtain⟨e,q⟩:=x;exact⟨k _ _ (.inl rfl) e,ih q⟩
 | tbl ps =>
  have e:h.get? a=some {cls:=.none,data:=.fields ps}:=x;show h'.get? a=some {cls:=.none,data:=.fields ps};exact k a _ (.inl rfl) e
 | met f y =>
  have e:h.get? a=some (Bl (.ref f) (.ref y)):=x;show h'.get? a=some (Bl (.ref f) (.ref y));exact k a _ (.inl rfl) e
 | ext φ=>obtain⟨p,⟨o,e⟩,st⟩:=x;exact⟨st _ _ p λ o q=>k _ _ (.inl rfl) q,⟨o,k _ _ (.inl rfl) e⟩,st⟩
theorem HOk.lt(x:HOk P w H h)(e:H a=some o):a<h.objs.size:=(x a o e).lt
def HOk.fresh(x:HOk P w H h)(e:h.objs.size<=a):H a=none:=by
 cases q:H a with
 | none=>rfl
 | some u=>exact absurd (cy (x.lt q) e) (qa _)
def HOk.kept(x:HOk P w H h)(k:∀ b u,h.get? b=some u->h'.get? b=some u):HOk P w H h':=λ a o e =>
 (x a o e).stay (λ b u _ q=>k b u q) (λ _ q=>q) λ _ _ q=>q
def HOk.laid(x:HOk P w H h)(k:∀ b u,h.get? b=some u->h'.get? b=some u)(hp:h.objs.size<=a)(new:ObjOk P w (upd H a o) h' a o):HOk P w (upd H a o) h':=λ b u e=>by
 have f:=x.fresh hp;by_cases d:b=a
 ·subst d;rw[kA]at e;cases e;exact new
 ·rw[kM d]at e
  exact(x b u e).stay (λ c v _ q=>k c v q) (λ c q=>by rw[kM (kJ q f)];exact q) λ c g q=>by rw[kM (kJ q f)];exact q
end
def Rd(H:Hp)(a:au)(u:HO):Prop:=H a=some u\/∃ o,H a=some (.frz o u)
def Rd.ok{P:eo}{w:iJ}{H:Hp}{h:iS}{a:au}{u:HO}(r:Rd H a u)(x:HOk P w H h):ObjOk P w H h a u:=by
 rcases r with r | ⟨o,r⟩
 ·exact x a u r
 ·obtain⟨_,q⟩:=x a _ r
  exact q
def Mut:Option HO->Prop
 | some (.lst _)=>True
 | some (.dK _)=>True
 | some (.dT _)=>True
 | some (.set _ _)=>True
 | some (.ins _ _ _)=>True
 | some (.ext _)=>True
 | _=>False
section
variable {P:eo} {w:iJ} {H:Hp} {h h':iS} {x e:au} {o':HO}
def HOk.write(ok:HOk P w H h)(g:Mut (H x))(o:e=x\/H e=some (.own x))(k:∀ b u,b≠e->h.get? b=some u->h'.get? b=some u)(m:∃ u,h'.get? e=some u)
  (new:ObjOk P w (upd H x o') h' x o'):HOk P w (upd H x o') h':=λ b u q=>by
 have d:∀ c y,H c=some (.own y)->c≠x:=λ c y r z=>by subst z;rw[r]at g;exact g
 have f:∀ c l,H c=some (.tup l)->c≠x:=λ c l r z=>by subst z;rw[r]at g;exact g
 by_cases j:b=x
 ·subst j;rw[kA]at q;cases q;exact new
 ·rw[kM j]at q
  by_cases a:b=e
  ·have n:H b=some (.own x):=by
    rcases o with z | z
    ·exact absurd (a.trans z) j
    ·rw[a];exact z
   rw[q]at n;cases n;obtain⟨v,p⟩:=m;exact⟨v,by rw[a];exact p⟩
  ·refine(ok b u q).stay (λ c v i r=>k c v ?_ r) (λ c r=>by rw[kM (d c b r)];exact r) λ c l r=>by rw[kM (f c l r)];exact r
   rcases i with rfl | i
   ·exact a
   ·rintro rfl
    rcases o with z | z
    ·exact d c b i z
    ·rw[i]at z;cases z;exact j rfl
end
structure Un(fs ex:List au)(H H':Hp)(h h':iS):Prop where
 keep:∀ b o,h.get? b=some o->H b=none->b∉fs->b∉ex->h'.get? b=some o
 slot:∀ b o,h.get? b=some o->H b=none->b∈fs->b∉ex->∃ sl,h'.get? b=some {o with slots:=sl}
 free:∀ b o,h.get? b=some o->H b=none->b∉ex->H' b=none
 there:∀ b o,h.get? b=some o->b∉ex->∃ o',h'.get? b=some o'
 tups:∀ b xs,H b=some (.tup xs)->H' b=some (.tup xs)
 frzs:∀ b o u,H b=some (.frz o u)->H' b=some (.frz o u)
 tbls:∀ b ps,H b=some (.tbl ps)->∃ more,H' b=some (.tbl (ps++more))
section
variable {fs fs' ex ex':List au} {H H1 H2:Hp} {h h1 h2 h':iS} {a x e:au} {o:HO}
def Un.any(u:Un fs ex H H1 h h1){b:au}{ob:Obj}(q:h.get? b=some ob)(n:H b=none)(a:b∉ex):∃ sl,h1.get? b=some {ob with slots:=sl}:=by
 by_cases c:b∈fs
 ·exact u.slot b ob q n c a
 ·exact⟨ob.slots,u.keep b ob q n c a⟩
def Un.kept(k:∀ b u,h.get? b=some u->h'.get? b=some u):Un fs ex H H h h' :=
 ⟨λ b a q _ _ _=>k b a q,λ b a q _ _ _=>⟨a.slots,k b a q⟩,λ _ _ _ n _=>n,λ b a q _=>⟨a,k b a q⟩,λ _ _ q=>q,λ _ _ _ q=>q,λ _ c q=>⟨#[],by rw[q];simp⟩⟩
def Un.refl:Un fs ex H H h h:=Un.kept λ _ _ q=>q
def Un.laid(k:∀ b u,h.get? b=some u->h'.get? b=some u)(hp:h.objs.size<=a)(c:H a=none):Un fs ex H (upd H a o) h h' where
 keep:=λ b u q _ _ _=>k b u q
 slot:=λ b u q _ _ _=>⟨u.slots,k b u q⟩
 free:=λ b u q n _=>by rw[kM (dq (cy (bz q) hp))];exact n
 there:=λ b u q _=>⟨u,k b u q⟩
 tups:=λ b d q=>by rw[kM (kJ q c)];exact q
 frzs:=λ b u d q=>by rw[kM (kJ q c)];exact q
 tbls:=λ b f q=>⟨#[],by rw[kM (kJ q c),q];simp⟩
def Un.write(c:Mut (H x))(l:e=x\/H e=some (.own x))(k:∀ b u,b≠e->h.get? b=some u->h'.get? b=some u)(f:∃ u,h'.get? e=some u):Un fs ex H (upd H x o) h h':=by
 have i:∀ b,H b=none->b≠x:=λ b n z=>by subst z;rw[n]at c;exact c
 have g:∀ b,H b=none->b≠e:=λ b n z=>by
  subst z;rcases l with r | r
  ·exact i b n r
  ·rw[n]at r;cases r
 have d:∀ b u,H b=some u->¬ Mut (some u)->b≠x:=λ b u q j z=>by subst z;rw[q]at c;exact j c
 refine⟨λ b u q n _ _=>k b u (g b n) q,λ b u q n _ _=>⟨u.slots,k b u (g b n) q⟩,λ b u q n _=>by rw[kM (i b n)];exact n,λ b u q _=>?_,
  λ b m q=>by rw[kM (d b _ q λ z=>z)];exact q,λ b u m q=>by rw[kM (d b _ q λ z=>z)];exact q,λ b p q=>⟨#[],by rw[kM (d b _ q λ z=>z),q];simp⟩⟩
 by_cases a:b=e
 ·subst a;exact f
 ·exact⟨u,k b u a q⟩
end
def trk(h:iS)(H:Hp):List au:=(cw h.objs.size).filter λ a=>(H a).isSome
def rR(h:iS)(H:Hp):iS:=PySem.W.hideAll h (trk h H)
def kIJ(h:iS)(H:Hp):(rR h H).objs.size=h.objs.size:=PySem.W.hideAll_size _ _
def kMF{h:iS}{H:Hp}{b:au}{o:Obj}(e:h.get? b=some o)(n:H b=none):(rR h H).get? b=some o :=
 PySem.W.hideAll_get _ e λ a=>by
  have q:(H b).isSome=true:=(ig.mp a).2;rw[n]at q;simp at q
def kOQ{h:iS}{H:Hp}{b:au}{o:Obj}(e:(rR h H).get? b=some o):h.get? b=some o/\H b=none:=by
 have a:h.get? b=some o:=PySem.W.of_hideAll (trk h H) e;refine⟨a,?_⟩
 cases q:H b with
 | none=>rfl
 | some x =>
  have c:b∈trk h H:=ig.mpr ⟨jo.mpr (bz a),by simp[q]⟩;have z:(rR h H).get? b=none:=PySem.W.hideAll_none (trk h H) c;rw[z]at e;cases e
structure Mod(K:ay)(mg:Str->Option ar)(base:iS):Prop where
 kin:K.In base
 glob:base.Ns gm mg
 blt:∃ mb,base.Ns builtinsNs mb/\∀ x:Str,x≠"__name__"->mb x=bootBuiltins x
 nolimit:base.NoLimit
structure Cx where
 prog:eo
 w:iJ
 K:ay
 mg:Str->Option ar
 base:iS
 A:gj
 N:List Str
 s₀:av
 H₀:Hp
 env:Env
 outer:List Env
 stack:List Env
 ex:List au
 fn:Str->Bool
 calm:Bool
 pn:List (au×Obj)
 xe:ar->av->Prop
def frs(l:List Env):List au:=l.filterMap (·.frame)
abbrev Cx.fs(X:Cx):List au:=frs X.outer
def Vis(a:wg)(x:Str):Prop:=a.names.lookup x=some .local\/a.names.lookup x=some .cell\/a.names.lookup x=some .free
def Loc(a:wg)(x:Str):Prop:=a.names.lookup x=some .local\/a.names.lookup x=some .cell
def kVN(env:Env)(h:iS)(m:Str->Option ar)(x:Str)(u:ar):Prop :=
 (env.kindOf x=some .local/\m x=some u)\/((env.kindOf x=some .cell\/env.kindOf x=some .free)/\∃ c,env.cells.lookup x=some c/\h.IsCell c (some u))
structure Cx.Ok(X:Cx):Prop where
 mod:Mod X.K X.mg X.base
 kind:X.env.scope.kind=.function
 glob:X.env.globals=gm
 blt:X.env.builtins=builtinsNs
 above:X.s₀.heap.objs.size<=X.env.locals
 inj:∀ x y c,X.env.cells.lookup x=some c->X.env.cells.lookup y=some c->x=y
 has:∀ x,(X.env.kindOf x=some .cell\/X.env.kindOf x=some .free)->∃ c,X.env.cells.lookup x=some c
 cab:∀ x c,X.fn x=true->X.env.cells.lookup x=some c->X.s₀.heap.objs.size<=c
 hd:X.calm=true->X.A.handled=none
 frames:X.A.frames=some X.stack
 stk:X.stack=X.outer\/(X.stack=X.env::X.outer/\X.env.frame=some X.env.locals)
 exf:∀ b∈X.ex,b≠X.env.locals/\∀ x c,X.env.cells.lookup x=some c->c≠b
 bs:∀ b o,X.base.get? b=some o->X.s₀.heap.get? b=some o/\X.H₀ b=none
 bsz:X.base.objs.size<=X.s₀.heap.objs.size
 noex:∀ b o,X.base.get? b=some o->b∉X.ex
 exfs:∀ b∈X.ex,b∉X.fs
 funs:X.s₀.heap.FunFrames X.base X.outer
 frf:∀ b∈X.fs,X.H₀ b=none
structure Inv(X:Cx)(pins:List (au×Obj))(σ:List (Option V))(H:Hp)(s:av):Prop where
 ok:X.Ok
 os:s.os=X.s₀.os
 bare:Bm s.gens
 base:Un X.fs X.ex X.H₀ H X.s₀.heap s.heap
 loc:∃ m,s.heap.Ns X.env.locals m/\∀(i:Nat)(x:Str)(v:V),X.N[i]?=some x->σ[i]?=some (some v)->Vis X.env.scope x->∃ u,RelV v u/\kVN X.env s.heap m x u
 cell:∀ x c,X.env.cells.lookup x=some c->∃ v,s.heap.IsCell c v
 free:H X.env.locals=none
 freeC:∀ x c,X.env.cells.lookup x=some c->H c=none
 pin:∀ p∈X.pn++pins,s.heap.get? p.1=some p.2/\H p.1=none/\p.1≠X.env.locals/\p.1∉X.fs/\∀ v,p.2.data≠.cell v
 hok:HOk X.prog X.w H s.heap
 len:σ.length=X.N.length
section
variable {X:Cx} {pins:List (au×Obj)} {σ:List (Option V)} {H H':Hp} {s:av} {h':iS}
def Cx.Ok.nofr(ok:X.Ok){b:au}{o:Obj}(e:X.base.get? b=some o):b∉X.fs:=λ a=>by
 have:=(ok.funs.mem a).1;rw[e]at this;cases this
theorem Inv.bs(I:Inv X pins σ H s):∀ b o,X.base.get? b=some o->s.heap.get? b=some o/\H b=none:=λ b o e =>
 ⟨I.base.keep b o (I.ok.bs b o e).1 (I.ok.bs b o e).2 (I.ok.nofr e) (I.ok.noex b o e),I.base.free b o (I.ok.bs b o e).1 (I.ok.bs b o e).2 (I.ok.noex b o e)⟩
def Inv.bk(I:Inv X pins σ H s):∀ b o,X.base.get? b=some o->s.heap.get? b=some o:=λ b o e=>(I.bs b o e).1
theorem Inv.mod(I:Inv X pins σ H s):Mod X.K X.mg X.base:=I.ok.mod
def Inv.kIn(I:Inv X pins σ H s):X.K.In s.heap:=I.ok.mod.kin.keeps I.bk
theorem Inv.lt(I:Inv X pins σ H s):X.env.locals<s.heap.objs.size:=let ⟨_,hn,_⟩:=I.loc;hn.lt
def Inv.sz(I:Inv X pins σ H s):X.s₀.heap.objs.size<=s.heap.objs.size:=jt I.ok.above (gh I.lt)
def Inv.nofs(I:Inv X pins σ H s){a:au}(h:s.heap.objs.size<=a):a∉X.fs:=λ b=>by
 obtain⟨_,o,c,_⟩:=I.ok.funs.mem b;exact absurd (cy (bz c) (jt I.sz h)) (qa _)
def Inv.cne(I:Inv X pins σ H s):∀ x c,X.env.cells.lookup x=some c->c≠X.env.locals:=λ x c e z=>by
 obtain⟨v,o,f,d⟩:=I.cell x c e;obtain⟨m,⟨i,g,h,a,b,_⟩,_⟩:=I.loc;rw[z,a]at f;cases f;rw[b]at d;cases d
theorem Inv.funs(I:Inv X pins σ H s):s.heap.FunFrames X.base X.outer:=by
 have all:∀(l:List Env),(∀ b∈frs l,b∈X.fs)->X.s₀.heap.FunFrames X.base l->s.heap.FunFrames X.base l:=by
  intro l
  induction l with
  | nil=>intro _ _;trivial
  | cons env r ih =>
   intro f n;obtain⟨i,⟨L,o,c,j,h,g⟩,m⟩:=n;have a:L∈X.fs:=f L (by unfold frs;rw[BG,c];exact eZ);obtain⟨p,e⟩:=I.base.slot L o h (I.ok.frf L a) a λ z=>I.ok.exfs L z a;exact⟨i,⟨L,_,c,j,e,g⟩,ih (λ b d=>f b (by unfold frs;rw[BG,c];exact eC _ d)) m⟩
 exact all X.outer (λ _ d=>d) I.ok.funs
theorem Inv.stack(I:Inv X pins σ H s):s.heap.FunFrames X.base X.stack:=by
 rcases I.ok.stk with e | ⟨e,a⟩
 ·rw[e];exact I.funs
 ·rw[e]
  obtain⟨m,b,_⟩:=I.loc;refine .cons (by rw[I.ok.kind];decide) a b ?_ I.funs;exact Heap.get?_none_of_le (jt I.ok.bsz I.ok.above)
def Inv.stkSub(I:Inv X pins σ H s):∀ b∈frs X.stack,b∈X.env.locals::X.fs:=λ b a=>by
 rcases I.ok.stk with e | ⟨e,c⟩
 ·rw[e]at a;exact eC _ a
 ·rw[e]at a
  unfold frs at a;rw[BG,c]at a;exact a
def Inv.stkFree(I:Inv X pins σ H s):∀ b∈frs X.stack,H b=none:=λ b a=>by
 rcases dr.mp (I.stkSub b a) with e | a
 ·rw[e];exact I.free
 ·obtain⟨_,o,c,_⟩:=I.ok.funs.mem a
  exact I.base.free b o c (I.ok.frf b a) λ z=>I.ok.exfs b z a
def Inv.step{g':Array GenState}{t':Nat}{d':Drawn}{ch:List au}(I:Inv X pins σ H s)
  (j:∀ b∈ch,(b∈X.ex\/X.s₀.heap.objs.size<=b)/\b≠X.env.locals/\(∀ x c,X.env.cells.lookup x=some c->c≠b)/\∀ p∈X.pn++pins,p.1≠b)
  (keep:∀ b o,b≠X.env.locals->b∉X.fs->b∉ch->s.heap.get? b=some o->H b=none->h'.get? b=some o)
  (h:∀ b o,b≠X.env.locals->b∈X.fs->b∉ch->s.heap.get? b=some o->H b=none->∃ sl,h'.get? b=some {o with slots:=sl}) (free:∀ b o,b∉ch->s.heap.get? b=some o->H b=none->H' b=none)
  (there:∀ b o,b∉ch->s.heap.get? b=some o->∃ o',h'.get? b=some o')
  (D:∀ b xs,H b=some (.tup xs)->H' b=some (.tup xs)) (B:∀ b o u,H b=some (.frz o u)->H' b=some (.frz o u)) (C:∀ b ps,H b=some (.tbl ps)->∃ more,H' b=some (.tbl (ps++more)))
  (ns:∀ m,s.heap.Ns X.env.locals m->h'.Ns X.env.locals m) (O:HOk X.prog X.w H' h') (hg:Bm g') :
  Inv X pins σ H' {s with heap:=h',gens:=g',drawn:=d',toks:=t'}:=by
 have L:∀ b o,X.s₀.heap.get? b=some o->b≠X.env.locals:=λ b o e=>dq (cy (bz e) I.ok.above)
 have y:∀ b o,X.s₀.heap.get? b=some o->b∉X.ex->b∉ch:=λ b o e a G=>by
  rcases(j b G).1 with z | z
  ·exact a z
  ·exact absurd (cy (bz e) z) (qa _)
 have g:∀ x c,X.env.cells.lookup x=some c->∀ v,s.heap.IsCell c v->h'.IsCell c v:=λ x c e v ⟨o,J,N⟩=>by
  have f:c∉ch:=λ z=>(j c z).2.2.1 x c e rfl;by_cases T:c∈X.fs
  ·obtain⟨sl,q⟩:=h c o (I.cne x c e) T f J (I.freeC x c e)
   exact⟨_,q,N⟩
  ·exact⟨o,keep c o (I.cne x c e) T f J (I.freeC x c e),N⟩
 refine⟨I.ok,I.os,hg,⟨λ b o e n G a=>?_,λ b o e n G a=>?_,λ b o e n a=>?_,λ b o e a=>?_,λ b xs e=>D b xs (I.base.tups b xs e),λ b o xs e=>B b o xs (I.base.frzs b o xs e),λ b ps e=>?_⟩,?_,λ x c e=>?_,?_,λ x c e=>?_,λ p hp=>?_,O,I.len⟩
 ·exact keep b o (L b o e) G (y b o e a) (I.base.keep b o e n G a) (I.base.free b o e n a)
 ·obtain⟨sl,A⟩:=I.base.slot b o e n G a
  obtain⟨Q,M⟩:=h b _ (L b o e) G (y b o e a) A (I.base.free b o e n a);exact⟨Q,M⟩
 ·obtain⟨o',A⟩:=I.base.there b o e a
  exact free b o' (y b o e a) A (I.base.free b o e n a)
 ·obtain⟨o',A⟩:=I.base.there b o e a
  exact there b o' (y b o e a) A
 ·obtain⟨Y,A⟩:=I.base.tbls b ps e
  obtain⟨m2,M⟩:=C b _ A;exact⟨Y++m2,by rw[M,Array.append_assoc]⟩
 ·obtain⟨m,Z,hl⟩:=I.loc
  refine⟨m,ns m Z,λ i x v A M e3=>?_⟩;obtain⟨u,r,l⟩:=hl i x v A M e3;refine⟨u,r,?_⟩;rcases l with l | ⟨k,c,e,z⟩
  ·exact .inl l
  ·exact .inr ⟨k,c,e,g x c e _ z⟩
 ·obtain⟨v,z⟩:=I.cell x c e
  exact⟨v,g x c e v z⟩
 ·obtain⟨m,⟨o,_,_,J,_⟩,_⟩:=I.loc
  exact free _ o (λ z=>(j _ z).2.1 rfl) J I.free
 ·obtain⟨v,o,J,N⟩:=I.cell x c e
  exact free c o (λ z=>(j c z).2.2.1 x c e rfl) J (I.freeC x c e)
 ·obtain⟨e,n,S,U,d⟩:=I.pin p hp
  have f:p.1∉ch:=λ z=>(j p.1 z).2.2.2 p hp rfl;exact⟨keep p.1 p.2 S U f e n,free p.1 p.2 f e n,S,U,d⟩
def Inv.un{t':Nat}(I:Inv X pins σ H s)(u:Un X.fs [] H H' s.heap h')(g:HOk X.prog X.w H' h'):Inv X pins σ H' {s with heap:=h',toks:=t'}:=by
 obtain⟨m,⟨o,x,p,h,r⟩,_⟩:=id I.loc;obtain⟨y,i⟩:=u.any h I.free (by simp)
 exact I.step (g':=s.gens) (d':=s.drawn) (ch:=[]) (λ _ z=>nomatch z) (λ b o _ f _ e n=>u.keep b o e n f (by simp)) (λ b o _ f _ e n=>u.slot b o e n f (by simp)) (λ b o _ e n=>u.free b o e n (by simp)) (λ b o _ e=>u.there b o e (by simp)) u.tups u.frzs u.tbls (λ v j=>by
  obtain⟨q,c,d,a,l⟩:=j;rw[h]at a;cases a;exact⟨_,c,d,i,l⟩) g I.bare
def Inv.call{g':Array GenState}{t':Nat}{d':Drawn}{ch:List au}(I:Inv X pins σ H s)(u:Un (frs X.stack) ch H H' s.heap h')(j:HOk X.prog X.w H' h')(A:Bm g')
  (f:∀ b∈ch,(b∈X.ex\/X.s₀.heap.objs.size<=b)/\b≠X.env.locals/\(∀ x c,X.env.cells.lookup x=some c->c≠b)/\∀ p∈X.pn++pins,p.1≠b) :
  Inv X pins σ H' {s with heap:=h',gens:=g',drawn:=d',toks:=t'}:=by
 obtain⟨m,⟨o,G,B,l,r⟩,_⟩:=id I.loc;obtain⟨J,h⟩:=u.any l I.free λ z=>(f _ z).2.1 rfl
 exact I.step (ch:=ch) f (λ b o h v a e n=>u.keep b o e n (λ z=>(dr.mp (I.stkSub b z)).elim h v) a) (λ b o _ _ a e n=>u.any e n a) (λ b o a e n=>u.free b o e n a) (λ b o a e=>u.there b o e a) u.tups u.frzs u.tbls (λ D q=>by
  obtain⟨C,g,i,d,y⟩:=q;rw[l]at d;cases d;exact⟨_,g,i,h,y⟩) j A
def Inv.turned{t':Nat}{it:au}(I:Inv X pins σ H s)(k:∀ b o,b≠it->s.heap.get? b=some o->h'.get? b=some o)(A:H it=none)(f:it≠X.env.locals)
  (h1:it∈X.ex\/X.s₀.heap.objs.size<=it) (i:∀ x c,X.env.cells.lookup x=some c->c≠it) (B:∀ p∈X.pn++pins,p.1≠it):Inv X pins σ H {s with heap:=h',toks:=t'}:=by
 have d:∀ b u,H b=some u->b≠it:=λ b u e z=>by rw[z,A]at e;cases e
 refine I.step (g':=s.gens) (d':=s.drawn) (ch:=[it]) (λ b y=>?_) (λ b o _ _ a e _=>k b o (λ z=>a (by simp[z])) e) (λ b o _ _ a e _=>⟨o.slots,k b o (λ z=>a (by simp[z])) e⟩) (λ _ _ _ _ n=>n)
  (λ b o a e=>⟨o,k b o (λ z=>a (by simp[z])) e⟩) (λ _ _ e=>e) (λ _ _ _ e=>e) (λ b C e=>⟨#[],by rw[e];simp⟩) (λ m j=>?_) (λ b u e=>?_) I.bare
 ·have e:b=it:=by simpa using y
  subst e;exact⟨h1,f,i,B⟩
 ·obtain⟨o,g,h,l,r⟩:=j
  exact⟨o,g,h,k _ o (pe f) l,r⟩
 ·refine(I.hok b u e).stay (λ c v a q=>k c v ?_ q) (λ _ q=>q) λ _ _ q=>q
  rcases a with z | z
  ·rw[z];exact d b u e
  ·exact d c _ z
def Inv.tok(I:Inv X pins σ H s)(t:Nat):Inv X pins σ H {s with toks:=t}:=I.un (h':=s.heap) (t':=t) Un.refl I.hok
theorem Inv.kept{t':Nat}(I:Inv X pins σ H s)(k:∀ b u,s.heap.get? b=some u->h'.get? b=some u):Inv X pins σ H {s with heap:=h',toks:=t'}:=I.un (Un.kept k) (I.hok.kept k)
theorem Inv.laid{a:au}{o:HO}{t':Nat}(I:Inv X pins σ H s)(k:∀ b u,s.heap.get? b=some u->h'.get? b=some u)(hp:s.heap.objs.size<=a)(new:ObjOk X.prog X.w (upd H a o) h' a o) :
  Inv X pins σ (upd H a o) {s with heap:=h',toks:=t'}:=I.un (Un.laid k hp (I.hok.fresh hp)) (I.hok.laid k hp new)
theorem Inv.write{x e:au}{o:HO}{t':Nat}(I:Inv X pins σ H s)(c:Mut (H x))(d:e=x\/H e=some (.own x))(k:∀ b u,b≠e->s.heap.get? b=some u->h'.get? b=some u)(a:∃ u,h'.get? e=some u)
  (new:ObjOk X.prog X.w (upd H x o) h' x o):Inv X pins σ (upd H x o) {s with heap:=h',toks:=t'}:=I.un (Un.write c d k a) (I.hok.write c d k a new)
def Inv.pins_of{a:List (au×Obj)}(I:Inv X pins σ H s)(h:∀ p∈a,s.heap.get? p.1=some p.2/\H p.1=none/\p.1≠X.env.locals/\p.1∉X.fs/\∀ v,p.2.data≠.cell v):Inv X a σ H s :=
 ⟨I.ok,I.os,I.bare,I.base,I.loc,I.cell,I.free,I.freeC,λ p hp=>(cf.mp hp).elim (λ z=>I.pin p (cq _ z)) (h p),I.hok,I.len⟩
def kAO{N:List Str}(c:N.Nodup){i j:Nat}{x:Str}(a:N[i]?=some x)(b:N[j]?=some x):i=j:=by
 obtain⟨h1,f⟩:=aj.mp a;obtain⟨g,d⟩:=aj.mp b;exact(Ao c).mp (f.trans d.symm)
def cB{M:zf}{A:gj}{E:ar->av->Prop}{i:Nat}{x:Str}{v:V}{u:ar}{Q:Unit->av->Prop}(I:Inv X pins σ H s)(hN:X.N.Nodup)(hi:X.N[i]?=some x)(C:Loc X.env.scope x)(r:RelV v u)
  (h:∀ s',Inv X pins (σ.set i (some v)) H s'->(∃ a,jb a s.heap s'.heap/\(a=X.env.locals\/X.env.cells.lookup x=some a))->Q () s') (hf:X.fn x=true\/X.env.scope.names.lookup x=some .local:=by first | exact .inl rfl | exact .inr rfl | assumption):dw M A (storeName X.env x u) Q E s:=by
 obtain⟨m,hn,hl⟩:=id I.loc;have Y:(X.env.scope.kind == .class || (X.env.scope.kind == .module && X.env.locals != X.env.globals))=false:=by rw[I.ok.kind];rfl
 have L:i<σ.length:=by rw[I.len];exact(aj.mp hi).1
 have cne:=I.cne
 have g:∀{a:au}{U:iS},(∃ o,s.heap.get? a=some o/\H a=none)->jb a s.heap U->HOk X.prog X.w H U:=λ{a U} ha f b ob e=>by
  obtain⟨_,_,D⟩:=ha;refine(I.hok b ob e).stay (λ c w' B q=>(f.2 c ?_).trans q) (λ _ q=>q) λ _ _ q=>q;rintro rfl;rcases B with rfl | B
  ·rw[D]at e;cases e
  ·rw[D]at B;cases B
 rcases C with J | J
 ·refine wpAny_storeName_local J hn (λ U a4 f=>?_) Y
  obtain⟨oL,_,_,a3,_⟩:=id hn;refine h _ ⟨I.ok,I.os,I.bare,⟨λ b o e n S C=>?_,λ b o e n S C=>?_,I.base.free,λ b o e C=>?_,I.base.tups,I.base.frzs,I.base.tbls⟩,⟨_,a4,λ j y v' l G e3=>?_⟩,λ y c e=>?_,I.free,I.freeC,λ p hp=>?_,g ⟨oL,a3,I.free⟩ f,by simpa using I.len⟩ ⟨_,f,.inl rfl⟩
  ·exact(f.2 b (dq (cy (bz e) I.ok.above))).trans (I.base.keep b o e n S C)
  ·obtain⟨sl,l⟩:=I.base.slot b o e n S C
   exact⟨sl,(f.2 b (dq (cy (bz e) I.ok.above))).trans l⟩
  ·obtain⟨o',l⟩:=I.base.there b o e C
   exact⟨o',(f.2 b (dq (cy (bz e) I.ok.above))).trans l⟩
  ·by_cases O:j=i
   ·subst O
    rw[hi]at l;cases l;rw[kh L]at G;cases G
    exact⟨u,r,.inl ⟨J,by simp⟩⟩
   ·rw[fe (pe O)]at G
    obtain⟨u',r',q⟩:=hl j y v' l G e3;refine⟨u',r',?_⟩;rcases q with⟨k,e⟩ | ⟨k,c,e,z⟩
    ·refine .inl ⟨k,?_⟩
     have:y≠x:=λ e=>O (kAO hN l (e ▸ hi));simp[this,e]
    ·exact .inr ⟨k,c,e,z.sameBut f (cne y c e)⟩
  ·obtain⟨w',z⟩:=I.cell y c e
   exact⟨w',z.sameBut f (cne y c e)⟩
  ·obtain⟨e,n,ne,nf,d⟩:=I.pin p hp
   exact⟨(f.2 p.1 ne).trans e,n,ne,nf,d⟩
 ·have T:X.fn x=true:=by
   rcases hf with z | z
   ·exact z
   ·rw[z]at J;cases J
  obtain⟨c,B⟩:=I.ok.has x (.inl J);obtain⟨w',z⟩:=I.cell x c B;refine wpAny_storeName_cell I.ok.kind J B z (λ U a0 f=>?_);obtain⟨oc,a2,a1⟩:=id z;refine h {s with heap:=U} ⟨I.ok,I.os,I.bare,⟨λ b o e n S C=>?_,λ b o e n S C=>?_,I.base.free,λ b o e C=>?_,I.base.tups,I.base.frzs,I.base.tbls⟩,⟨m,hn.sameBut f (pe (cne x c B)),λ j y v' l G e3=>?_⟩,λ y c' e=>?_,I.free,I.freeC,λ p hp=>?_,g ⟨oc,a2,I.freeC x c B⟩ f,by simpa using I.len⟩ ⟨c,f,.inr B⟩
  ·exact(f.2 b (dq (cy (bz e) (I.ok.cab x c T B)))).trans (I.base.keep b o e n S C)
  ·obtain⟨sl,l⟩:=I.base.slot b o e n S C
   exact⟨sl,(f.2 b (dq (cy (bz e) (I.ok.cab x c T B)))).trans l⟩
  ·obtain⟨o',l⟩:=I.base.there b o e C
   exact⟨o',(f.2 b (dq (cy (bz e) (I.ok.cab x c T B)))).trans l⟩
  ·by_cases O:j=i
   ·subst O
    rw[hi]at l;cases l;rw[kh L]at G;cases G
    exact⟨u,r,.inr ⟨.inl J,c,B,a0⟩⟩
   ·rw[fe (pe O)]at G
    obtain⟨u',r',q⟩:=hl j y v' l G e3;refine⟨u',r',?_⟩;rcases q with q | ⟨k,c',e,z'⟩
    ·exact .inl q
    ·refine .inr ⟨k,c',e,z'.sameBut f ?_⟩
     rintro rfl;exact O (kAO hN l (I.ok.inj _ _ _ e B ▸ hi))
  ·by_cases Z:c'=c
   ·subst Z;exact⟨_,a0⟩
   ·obtain⟨w2,z2⟩:=I.cell y c' e
    exact⟨w2,z2.sameBut f Z⟩
  ·obtain⟨e,n,ne,nf,d⟩:=I.pin p hp
   refine⟨(f.2 p.1 ?_).trans e,n,ne,nf,d⟩;intro q;rw[q,a2]at e;have q':oc=p.2:=bh e;exact d w' (by rw[<-q'];exact a1)
def aP{M:zf}{A:gj}{E:ar->av->Prop}{i:Nat}{x:Str}{v:V}{u:ar}{Q:Unit->av->Prop}(I:Inv X pins σ H s)(b:X.N.Nodup)(hi:X.N[i]?=some x)(c:Loc X.env.scope x)(r:RelV v u)
  (h:∀ s',Inv X pins (σ.set i (some v)) H s'->Q () s') (a:X.fn x=true\/X.env.scope.names.lookup x=some .local:=by first | exact .inl rfl | exact .inr rfl | assumption):dw M A (storeName X.env x u) Q E s :=
 cB I b hi c r (λ s' d _=>h s' d) a
def Inv.call'{a:av}{ch:List au}(I:Inv X pins σ H s)(j:a.os=s.os)(u:Un (frs X.stack) ch H H' s.heap a.heap)(f:HOk X.prog X.w H' a.heap)(m:Bm a.gens)
  (d:∀ b∈ch,(b∈X.ex\/X.s₀.heap.objs.size<=b)/\b≠X.env.locals/\(∀ x c,X.env.cells.lookup x=some c->c≠b)/\∀ p∈X.pn++pins,p.1≠b):Inv X pins σ H' a:=by
 obtain⟨n,g,h,i,l⟩:=a;have e:l=s.os:=j;subst e;exact I.call (g':=g) (t':=i) (d':=h) u f m d
end
abbrev XK:=ar->Option au->Hp->Prop
abbrev St:=List (Option V)
abbrev VK:=V->Hp->Prop
abbrev TE:=St->Hp->VK->Prop
abbrev TT:=St->Hp->(Bool->Hp->Prop)->Prop
abbrev TA:=St->Hp->(List V->Hp->Prop)->Prop
structure Ends where
 nx:St->Hp->Prop
 rt:VK
 bk:St->Hp->Prop:=λ _ _=>False
 ct:St->Hp->Prop:=λ _ _=>False
abbrev TS:=Ends->St->Hp->Prop
def EP(X:Cx)(a:List (au×Obj))(d:St)(Q:VK)(u:ar)(c:av):Prop:=∃ v b,Inv X a d b c/\RelV v u/\Q v b
def TP(X:Cx)(a:List (au×Obj))(d:St)(Q:Bool->Hp->Prop)(b:Bool)(f:av):Prop:=∃ c,Inv X a d c f/\Q b c
def AP(X:Cx)(a:List (au×Obj))(g:St)(Q:List V->Hp->Prop)(f:List ar)(d:av):Prop:=∃ b c,Inv X a g c d/\Vals b f/\Q b c
def SP(X:Cx)(b:List (au×Obj))(D:Ends)(f:Flow)(d:av):Prop :=
 match f with
 | .next=>∃ a c,Inv X b a c d/\D.nx a c
 | .brk=>∃ a c,Inv X b a c d/\D.bk a c
 | .cont=>∃ a c,Inv X b a c d/\D.ct a c
 | .ret u=>∃ v a c,Inv X b a c d/\RelV v u/\D.rt v c
def PE(X:Cx)(e:iO)(t:TE):Prop :=
 ∀(pins:List (au×Obj))(s:av)(σ:St)(H:Hp)(Q:VK),Inv X pins σ H s->t σ H Q->dw (model X.prog X.w) X.A (eval e X.env) (EP X pins σ Q) X.xe s
def PT(X:Cx)(e:iO)(t:TT):Prop :=
 ∀(pins:List (au×Obj))(s:av)(σ:St)(H:Hp)(Q:Bool->Hp->Prop),Inv X pins σ H s->t σ H Q->dw (model X.prog X.w) X.A (isTrue e X.env (eval e X.env)) (TP X pins σ Q) X.xe s
def PW(X:Cx)(e:iO)(t:TT):Prop :=
 ∀(vM:Sem ar)(pins:List (au×Obj))(s:av)(σ:St)(H:Hp)(Q:Bool->Hp->Prop),Inv X pins σ H s->t σ H Q->dw (model X.prog X.w) X.A (isTrue e X.env vM) (TP X pins σ Q) X.xe s
def PW.pt{X:Cx}{e:iO}{t:TT}(h:PW X e t):PT X e t:=h _
def PA(X:Cx)(b:List iO)(t:TA):Prop :=
 ∀(a:Pos)(pins:List (au×Obj))(s:av)(σ:St)(H:Hp)(Q:List V->Hp->Prop),Inv X pins σ H s->t σ H Q->dw (model X.prog X.w) X.A (spliced (backTo a (starEach b X.env))) (AP X pins σ Q) X.xe s
def PS(X:Cx)(st:ph)(t:TS):Prop :=
 ∀(pins:List (au×Obj))(s:av)(σ:St)(H:Hp)(D:Ends),Inv X pins σ H s->t D σ H->dw (model X.prog X.w) X.A (exec st X.env) (SP X pins D) X.xe s
def PSs(X:Cx)(st:List ph)(t:TS):Prop :=
 ∀(pins:List (au×Obj))(s:av)(σ:St)(H:Hp)(D:Ends),Inv X pins σ H s->t D σ H->dw (model X.prog X.w) X.A (execs st X.env) (SP X pins D) X.xe s
def thn{α:Type}{t:Sem α}{Q b:α->av->Prop}{M:zf}{A:gj}{E:ar->av->Prop}{s:av}(h:dw M A t Q E s)(c:∀ a s,Q a s->b a s):dw M A t b E s:=vj h c λ _ _ x=>x
section
variable {X:Cx}
inductive kQR(i:Nat)(σ:St)(H:Hp)(Q:VK):Prop
 | mk:∀ v,(σ[i]?=some (some v))->(Q v H)->kQR i σ H Q
def tC(v:V):TE:=λ _ H Q=>Q v H
def kRK{i:Nat}{x:Str}{j:Pos}(B:X.N[i]?=some x)(C:Vis X.env.scope x)(g:(x == ("__debug__" : Str))=false:=by decide)(n:(x == ("__classdict__" : Str))=false:=by decide):PE X (.Name x j) (kQR i):=by
 intro f s p H Q I h;obtain⟨v,e,h⟩:=h;obtain⟨m,q,y⟩:=I.loc;obtain⟨u,r,l⟩:=y i x v B e C;have d:EP X f p Q u s:=⟨v,H,I,r,h⟩;rcases l with⟨b,A⟩ | ⟨b,c,o,a⟩
 ·exact Ee (wpAny_loadName_local I.ok.kind b q A d) g
 ·rcases b with b | b
  ·exact Ee (wpAny_loadName_cell I.ok.kind b o a d) g
  ·exact Ee (wpAny_loadName_free I.ok.kind b o a d n) g
def kI {i j pos}:PE X (.Constant (.int i) j pos) (tC (.int i)):=λ _ _ _ H _ I h=>wpAny_Constant_int ⟨.int i,H,I.tok _,⟨_,rfl⟩,h⟩
def kFG {b j pos}:PE X (.Constant (.bool b) j pos) (tC (.bl b)):=λ _ _ _ H _ I h=>Constant_bool ⟨.bl b,H,I,rfl,h⟩
def wZ {j pos}:PE X (.Constant .none j pos) (tC .non):=λ _ _ _ H _ I h=>Constant_none ⟨.non,H,I,rfl,h⟩
def Gl(X:Cx)(x:Str):Prop:=X.env.kindOf x=some .globalImplicit
def kOW{E:ar->av->Prop}{a:List (au×Obj)}{s:av}{f:St}{H:Hp}{x:Str}{u:ar}{b:Pos}{Q:ar->av->Prop}(I:Inv X a f H s)(g:Gl X x)(c:X.mg x=some u)(h:Q u s)
  (d:(x == ("__debug__" : Str))=false:=by decide):dw (model X.prog X.w) X.A (eval (.Name x b) X.env) Q E s :=
 BR I.ok.kind g (Calls.loadGlobal_global (by rw[I.ok.glob];exact I.mod.glob.keeps I.bk) c h) d
def zM{E:ar->av->Prop}{a:List (au×Obj)}{s:av}{g:St}{H:Hp}{x:Str}{u:ar}{b:Pos}{Q:ar->av->Prop}(I:Inv X a g H s)(l:Gl X x)(d:X.mg x=none)(i:bootBuiltins x=some u)(h:Q u s)
  (j:x≠"__name__":=by decide) (f:(x == ("__debug__" : Str))=false:=by decide):dw (model X.prog X.w) X.A (eval (.Name x b) X.env) Q E s:=by
 obtain⟨m,h1,c⟩:=I.mod.blt;exact BR I.ok.kind l (Calls.loadGlobal_builtin (by rw[I.ok.glob];exact I.mod.glob.keeps I.bk) d (by rw[I.ok.blt];exact h1.keeps I.bk) ((c x j).trans i) h) f
def rB{x:Str}{v:V}{u:ar}{a:Pos}(g:Gl X x)(b:X.mg x=none)(d:bootBuiltins x=some u)(r:RelV v u)(f:x≠"__name__":=by decide)(c:(x == ("__debug__" : Str))=false:=by decide):PE X (.Name x a) (tC v) :=
 λ _ _ _ H _ I h=>zM I g b d ⟨v,H,I,r,h⟩ f c
variable {a b:iO} {ta tb:TE} {pos:Pos}
def PC(X:Cx)(f:GR)(a b:iO)(t:TE):Prop :=
 ∀(pins:List (au×Obj))(s:av)(σ:St)(H:Hp)(Q:VK),Inv X pins σ H s->t σ H Q ->
  dw (model X.prog X.w) X.A (eval a X.env) (λ v c=>dw (model X.prog X.w) X.A (eval b X.env) (λ u d=>dw (model X.prog X.w) X.A (compareOp f v u) (EP X pins σ Q) X.xe d) X.xe c) X.xe s
inductive tBY(Q:Bool->Hp->Prop)(x:V)(H1:Hp):Prop
 | mk:∀ c,(x=.bl c)->(Q c H1)->tBY Q x H1
def tB(t:TE):TT:=λ b H Q=>t b H λ x a=>tBY Q x a
def kRF{g:GR}{t:TE}(h:PC X g a b t)(h1:behindInMarks g b=false:=by first | exact nobehind _ (by decide) (by decide) | rfl):PT X (.Compare a [g] [b] pos) (tB t):=by
 intro f s l H Q I m;refine Ck (thn (h f s l H _ I m) λ v r h1=>thn h1 λ u y n=>thn n λ c A ⟨x,i,j,p,o⟩=>?_) h1;obtain⟨d,rfl,q⟩:=o;cases p
 exact qb ⟨i,j,q⟩
def cE{e:iO}{t:TE}(h:PE X e t)(j:∀ vM,isTrue e X.env vM=(do let v <-vM;standAt e.pos;holding [v] (truthy v)):=by intro _;rfl):PT X e (tB t):=by
 intro a s g H Q I l;refine isTrue_plain (thn (h a s g H _ I l) λ v m ⟨x,c,i,f,b⟩=>?_) (j _);obtain⟨d,rfl,q⟩:=b;cases f
 exact qb ⟨c,i,q⟩
variable {tA tB':TT} {rest:List iO}
def kVD(t u:TT):TT:=λ b H Q=>t b H λ c a=>if c=true then u b a Q else Q false a
def tOr(t u:TT):TT:=λ b H Q=>t b H λ c a=>if c=true then Q true a else u b a Q
def kUZ(t:TT):TT:=λ b H Q=>t b H λ c a=>Q (!c) a
def pV(f:PT X a tA):PW X (.BoolOp .And [a] pos) tA:=by
 intro g b s d H Q I h;refine isTrue_and (thn (f b s d H Q I h) λ c i e=>?_)
 cases c with
 | true=>exact isTrue_and_nil e
 | false=>exact e
def kKW(f:PT X a tA):PW X (.BoolOp .Or [a] pos) tA:=by
 intro g b s d H Q I h;refine isTrue_or (thn (f b s d H Q I h) λ c i e=>?_)
 cases c with
 | false=>exact isTrue_or_nil e
 | true=>exact e
def pW(o:PT X a tA)(m:PW X (.BoolOp .And (b::rest) pos) tB'):PW X (.BoolOp .And (a::b::rest) pos) (kVD tA tB'):=by
 intro l d s i H Q I h;refine isTrue_and (thn (o d s i H _ I h) λ c n ⟨g,j,f⟩=>?_)
 cases c with
 | true=>exact m l d n i g Q j f
 | false=>exact⟨g,j,f⟩
def kQB(o:PT X a tA)(m:PW X (.BoolOp .Or (b::rest) pos) tB'):PW X (.BoolOp .Or (a::b::rest) pos) (tOr tA tB'):=by
 intro l d s i H Q I h;refine isTrue_or (thn (o d s i H _ I h) λ c n ⟨g,j,f⟩=>?_)
 cases c with
 | true=>exact⟨g,j,f⟩
 | false=>exact m l d n i g Q j f
def cF(g:PT X a tA):PT X (.UnaryOp .Not a pos) (kUZ tA):=by
 intro b s f H Q I h;exact isTrue_not (g b s f H (λ c d=>Q (!c) d) I h)
inductive kJT(tb:TE)(σ:St)(Q:VK)(x:V)(H1:Hp):Prop
 | mk:∀ c,(x=.bl c)->(if c=true then tb σ H1 Q else Q (.bl false) H1)->kJT tb σ Q x H1
def kTG(d b:TE):TE:=λ a H Q=>d a H λ x c=>kJT b a Q x c
inductive kJP(Q:VK)(x:V)(H1:Hp):Prop
 | mk:∀ c,(x=.bl c)->(Q (.bl (!c)) H1)->kJP Q x H1
def kSZ(c:TE):TE:=λ b H Q=>c b H λ x a=>kJP Q x a
def kCU {op} {t:TE} (h:PE X a t):PE X (.BoolOp op [a] pos) t:=λ b s c H Q I d=>BoolOp_one (h b s c H Q I d)
def gY(o:PE X a ta)(l:PE X (.BoolOp .And (b::rest) pos) tb):PE X (.BoolOp .And (a::b::rest) pos) (kTG ta tb):=by
 intro d s i H Q I h;refine BoolOp_and (thn (o d s i H _ I h) λ v n ⟨x,g,j,m,f⟩=>?_);obtain⟨c,rfl,f⟩:=f;cases m
 refine qb ?_
 cases c with
 | true=>exact l d n i g Q j f
 | false=>exact⟨.bl false,g,j,rfl,f⟩
def kRL(l:PE X a ta):PE X (.UnaryOp .Not a pos) (kSZ ta):=by
 intro b s i H Q I h;refine UnaryOp_ (thn (l b s i H _ I h) λ v m ⟨x,f,j,g,d⟩=>?_);obtain⟨c,rfl,d⟩:=d;cases g
 exact not_of (qb ⟨.bl (!c),f,j,rfl,d⟩)
def tIf(t:TT)(f d:TE):TE:=λ a H Q=>t a H λ c b=>if c=true then f a b Q else d a b Q
def kAD{c:iO}(n:PT X c tA)(p:PE X a ta)(o:PE X b tb):PE X (.IfExp c a b pos) (tIf tA ta tb):=by
 intro f s g H Q I h;refine wpAny_IfExp (thn (n f s g H _ I h) λ d l ⟨j,m,i⟩=>?_)
 cases d with
 | true=>exact p f l g j Q m i
 | false=>exact o f l g j Q m i
end
def SqL(K:ay)(H:Hp)(a:au)(xs:List V):Prop :=
 Rd H a (.lst xs) \/
  ∃(o:Obj)(b:Array ar)(n:Nat),K.lookup a=some o/\o.cls=.type "list"/\o.dict=none/\o.data=.seq b n/\b.size<=sizeLine/\Vals xs b.toList
def SqT(K:ay)(H:Hp)(a:au)(xs:List V):Prop :=
 Rd H a (.tup xs) \/
  ∃(o:Obj)(b:Array ar)(n:Nat),K.lookup a=some o/\o.cls=.type "tuple"/\o.data=.seq b n/\b.size<=sizeLine/\Vals xs b.toList
def kVL:ar->Option V
 | .none=>some .non
 | .bool b=>some (.bl b)
 | .int i _=>some (.int i)
 | .str x _=>some (.str x)
 | .bytes b _=>some (.byt b)
 | .float b _=>some (.flt b)
 | .ref a=>some (.ref a)
 | .type n=>some (.ty n)
 | _=>none
def RelV.abs{x:V}{u:ar}(r:RelV x u):kVL u=some x:=by
 cases x with
 | non=>cases r;rfl
 | bl _=>cases r;rfl
 | int _=>obtain⟨t,rfl⟩:=r;rfl
 | str _=>obtain⟨t,rfl⟩:=r;rfl
 | byt _=>obtain⟨t,rfl⟩:=r;rfl
 | flt _=>obtain⟨t,rfl⟩:=r;rfl
 | ref _=>cases r;rfl
 | ty _=>cases r;rfl
def RelV.inj{x y:V}{u:ar}(r:RelV x u)(q:RelV y u):x=y:=bh (r.abs.symm.trans q.abs)
theorem Vals.inj:∀{xs ys:List V}{a:List ar},Vals xs a->Vals ys a->xs=ys
 | _,_,_,.nil,.nil=>rfl
 | _,_,_,.cons r t,.cons r' t'=>by rw[r.inj r',Vals.inj t t']
section
variable {X:Cx} {pins:List (au×Obj)} {σ:St} {H:Hp} {s:av} {a:au} {xs ys:List V}
def SqL.of{K:ay}(h:H a=some (.lst xs)):SqL K H a xs:=.inl (.inl h)
def SqT.of{K:ay}(h:H a=some (.tup xs)):SqT K H a xs:=.inl (.inl h)
def Inv.list(I:Inv X pins σ H s)(h:SqL X.K H a xs):∃ its:List ar,Vals xs its/\PlainL s.heap a its.toArray/\xs.length<=sizeLine:=by
 rcases h with h | ⟨o,its,n,d,b,c,f,g,r⟩
 ·obtain⟨z,its,n,r,e⟩:=h.ok I.hok
  exact⟨its,r,⟨_,n,e,rfl,rfl,rfl⟩,z⟩
 ·refine⟨its.toList,r,⟨o,n,I.kIn a o d,b,c,by simpa using f⟩,?_⟩
  have e:=r.length;simp only[iK]at e;omega
def Inv.tuple(I:Inv X pins σ H s)(h:SqT X.K H a xs):∃ its:List ar,Vals xs its/\Ed s.heap a its.toArray/\xs.length<=sizeLine:=by
 rcases h with h | ⟨o,its,n,c,b,d,f,r⟩
 ·obtain⟨z,its,r,p⟩:=h.ok I.hok
  exact⟨its,r,p.isTup,z⟩
 ·refine⟨its.toList,r,⟨o,I.kIn a o c,b,n,by simpa using d⟩,?_⟩
  have e:=r.length;simp only[iK]at e;omega
def Inv.list_inj(I:Inv X pins σ H s)(h:SqL X.K H a xs)(h':SqL X.K H a ys):xs=ys:=by
 obtain⟨c,r,⟨o,n,e,_,_,d⟩,_⟩:=I.list h;obtain⟨b,i,⟨j,l,g,_,_,f⟩,_⟩:=I.list h';rw[e]at g;cases g;rw[d]at f;injection f with d1 _
 have:c=b:=by simpa using congrArg GA d1
 subst this;exact r.inj i
def Inv.tuple_inj(I:Inv X pins σ H s)(h:SqT X.K H a xs)(h':SqT X.K H a ys):xs=ys:=by
 obtain⟨c,r,⟨o,e,_,n,d⟩,_⟩:=I.tuple h;obtain⟨b,i,⟨j,g,_,l,f⟩,_⟩:=I.tuple h';rw[e]at g;cases g;rw[d]at f;injection f with d1 _
 have:c=b:=by simpa using congrArg GA d1
 subst this;exact r.inj i
end
abbrev Cx.wish(X:Cx)(E:ar->av->Prop):Cx:={X with xe:=E}
abbrev Cx.nox(X:Cx):Cx:=X.wish λ _ _=>False
theorem Cx.Ok.wish{X:Cx}(ok:X.Ok)(E:ar->av->Prop):(X.wish E).Ok :=
 ⟨ok.mod,ok.kind,ok.glob,ok.blt,ok.above,ok.inj,ok.has,ok.cab,ok.hd,ok.frames,ok.stk,ok.exf,ok.bs,ok.bsz,ok.noex,ok.exfs,ok.funs,ok.frf⟩
def Cx.Ok.unwish{X:Cx}{E:ar->av->Prop}(ok:(X.wish E).Ok):X.Ok :=
 ⟨ok.mod,ok.kind,ok.glob,ok.blt,ok.above,ok.inj,ok.has,ok.cab,ok.hd,ok.frames,ok.stk,ok.exf,ok.bs,ok.bsz,ok.noex,ok.exfs,ok.funs,ok.frf⟩
section
variable {X:Cx} {pins:List (au×Obj)} {σ:St} {H:Hp} {s:av} {E:ar->av->Prop}
theorem Inv.wish(I:Inv X pins σ H s)(E:ar->av->Prop):Inv (X.wish E) pins σ H s:=⟨I.ok.wish E,I.os,I.bare,I.base,I.loc,I.cell,I.free,I.freeC,I.pin,I.hok,I.len⟩
theorem Inv.unwish(I:Inv (X.wish E) pins σ H s):Inv X pins σ H s:=⟨I.ok.unwish,I.os,I.bare,I.base,I.loc,I.cell,I.free,I.freeC,I.pin,I.hok,I.len⟩
theorem SP.unwish{D:Ends}{f:Flow}{c:av}(h:SP (X.wish E) pins D f c):SP X pins D f c:=by
 cases f with
 | next=>obtain⟨a,b,I,q⟩:=h;exact⟨a,b,I.unwish,q⟩
 | brk=>obtain⟨a,b,I,q⟩:=h;exact⟨a,b,I.unwish,q⟩
 | cont=>obtain⟨a,b,I,q⟩:=h;exact⟨a,b,I.unwish,q⟩
 | ret u=>obtain⟨v,a,b,I,r,q⟩:=h;exact⟨v,a,b,I.unwish,r,q⟩
theorem PSs.nox{st:List ph}{t:TS}(h:PSs X.nox st t):PSs X st t:=λ a s b H D I c =>
 vj (h a s b H D (I.wish _) c) (λ _ _ q=>q.unwish) λ _ _ z=>xc z
end
section
variable {X:Cx} {st:ph} {rest:List ph} {t u:TS} {e:iO} {te:TE} {pos:Pos}
def kTA:TS:=λ D a H=>D.nx a H
def kUV(t u:TS):TS:=λ D a H=>t {D with nx:=u D} a H
def jL:PSs X [] kTA:=λ _ _ a H _ I h=>Ay ⟨a,H,I,h⟩
def kE(h1:PS X st t)(c:PSs X rest u):PSs X (st::rest) (kUV t u):=by
 intro a s d H D I h;refine EE (thn (h1 a s d H {D with nx:=u D} I h) λ f g q=>?_)
 cases f with
 | next =>
  obtain⟨b,j,i,q⟩:=q;exact c a g b j D i q
 | ret v=>exact q
 | brk=>exact q
 | cont=>exact q
def kL(h1:PS X st t):PSs X [st] t:=by
 intro a s b H D I h;refine EE (thn (h1 a s b H D I h) λ f c q=>?_)
 cases f with
 | next=>exact Ay q
 | ret v=>exact q
 | brk=>exact q
 | cont=>exact q
def Inv.quiet{a:List (au×Obj)}{b:St}{H:Hp}{s:av}(I:Inv X a b H s):interactive X.env=false:=by simp[interactive,I.ok.kind]
def kTC(b:TE):TS:=λ D a H=>b a H λ _ c=>D.nx a c
def qL(i:PE X e te)(g:swapsWith e none pos.line X.env=pure false:=by rfl):PS X (.Expr e pos) (kTC te):=by
 intro a s b H D I h;exact wpAny_Expr_any (thn (i a s b H _ I h) λ v l ⟨x,d,f,j,c⟩=>⟨b,d,f,c⟩) I.quiet g
def kUX(a:TE):TS:=λ D b H=>a b H D.rt
def kX(i:PE X e te):PS X (.Return (some e) pos) (kUX te):=by
 intro a s b H D I h;exact wpAny_Return_some (thn (i a s b H _ I h) λ v j ⟨x,d,g,f,c⟩=>⟨x,b,d,g,f,c⟩)
def kVB(c:TT)(t u:TS):TS:=λ D a H=>c a H λ b d=>if b=true then t D a d else u D a d
def yW{c:iO}{a b:List ph}{i:TT}(o:PT X c i)(q:PSs X a t)(p:PSs X b u):PS X (.If c a b pos) (kVB i t u):=by
 intro f s g H D I h;refine wpAny_If (thn (o f s g H _ I h) λ d m ⟨l,n,j⟩=>?_)
 cases d with
 | true=>exact q f m g l D n j
 | false=>exact p f m g l D n j
end
abbrev TG:=V->St->Hp->(St->Hp->Prop)->Prop
abbrev TGs:=List V->St->Hp->(St->Hp->Prop)->Prop
def PG(X:Cx)(a:iO)(t:TG):Prop :=
 ∀(pins:List (au×Obj))(s:av)(σ:St)(H:Hp)(v:V)(u:ar)(Q:St->Hp->Prop),Inv X pins σ H s->RelV v u->t v σ H Q ->
  dw (model X.prog X.w) X.A (assign a X.env u) (λ _ d=>∃ b c,Inv X pins b c d/\Q b c) X.xe s
def PGs(X:Cx)(ts:List iO)(t:TGs):Prop :=
 ∀(pins:List (au×Obj))(s:av)(σ:St)(H:Hp)(vs:List V)(us:List ar)(Q:St->Hp->Prop),Inv X pins σ H s->Vals vs us->t vs σ H Q ->
  dw (model X.prog X.w) X.A (assignInOrder ((assignEach ts X.env).map (·.2)) us) (λ _ c=>∃ a b,Inv X pins a b c/\Q a b) X.xe s
abbrev kST:=V->V->V->Hp->(Hp->Prop)->Prop
def kUO(X:Cx)(t:kST):Prop :=
 ∀(pins:List (au×Obj))(s:av)(σ:St)(H:Hp)(o i v:V)(ov iv u:ar)(Q:Hp->Prop),Inv X pins σ H s->RelV o ov->RelV i iv->RelV v u->t o i v H Q ->
  dw (model X.prog X.w) X.A (setItem ov iv u) (λ _ b=>∃ a,Inv X pins σ a b/\Q a) X.xe s
section
variable {X:Cx} {pos:Pos}
def lY(i:Nat):TG:=λ v a H Q=>Q (a.set i (some v)) H
def zS{i:Nat}{x:Str}(c:X.N.Nodup)(hi:X.N[i]?=some x)(d:Loc X.env.scope x)(b:X.fn x=true\/X.env.scope.names.lookup x=some .local:=by first | exact .inl rfl | exact .inr rfl | assumption):PG X (.Name x pos) (lY i):=by
 intro a s j H v u Q I r h;exact Bn (aP I c hi d r (λ g f=>⟨_,H,f,h⟩) b)
inductive kUG(vs:List V)(σ:St)(H:Hp)(Q:St->Hp->Prop):Prop
 | mk:(vs=[])->(Q σ H)->kUG vs σ H Q
inductive kQH(t:TG)(u:TGs)(vs:List V)(σ:St)(H:Hp)(Q:St->Hp->Prop):Prop
 | mk:∀ v r,(vs=v::r)->(t v σ H λ σ' H'=>u r σ' H' Q)->kQH t u vs σ H Q
def qV:PGs X [] kUG:=by
 intro a s b H c d Q I r h;obtain⟨e,h⟩:=h;subst e;cases r
 exact DW ⟨b,H,I,h⟩
def kS{e:iO}{b:List iO}{t:TG}{u:TGs}(h1:PG X e t)(l:PGs X b u)
  (j:(assignEach (e::b) X.env).map (·.2)=assign e X.env::(assignEach b X.env).map (·.2):=by rfl):PGs X (e::b) (kQH t u):=by
 intro a s g H p q Q I r h;obtain⟨v,o,n,h⟩:=h;subst n
 cases r with
 | cons r rr =>
  rw[j];refine BS (thn (h1 a s g H _ _ _ I r h) λ _ f ⟨c,d,i,m⟩=>?_);exact l a f c d _ _ Q i rr m
inductive kBA(K:ay)(n:Nat)(t:TGs)(v:V)(σ:St)(H:Hp)(Q:St->Hp->Prop):Prop
 | mk:∀ a xs,(v=.ref a)->(SqT K H a xs)->(xs.length=n)->(t xs σ H Q)->kBA K n t v σ H Q
def jR{d:List iO}{k:Nat}{t:TGs}{n:Nat}(x:X.calm=true)(h:PGs X d t)
  (p:(assignEach d X.env).length=n:=by rfl) (g:(assignEach d X.env).findIdx? (·.1)=none:=by rfl):PG X (.Tuple d k pos) (kBA X.K n t):=by
 intro c s i H v u Q I r f;obtain⟨a,B,G,C,q,f⟩:=f;subst G;cases r
 obtain⟨m,j,D,J⟩:=I.tuple C;refine assign_Tuple_tuple (I.ok.hd x) D (by simp[p,<-q,j.length]) g λ y A=>?_;have l:Inv X c i H {s with heap:=y}:=I.kept (t':=s.toks) λ b o e=>A b o (dq (bz e)) e
 exact h c _ i H B _ Q l (by simpa using j) f
def kVI(to d:TE)(t:kST):TG:=λ v a H Q=>to a H λ o c=>d a c λ i b=>t o i v b λ f=>Q a f
def gX{o i:iO}{to c:TE}{t:kST}(G:PE X o to)(hi:PE X i c)(j:kUO X t)
  (n:∀ v,assign (.Subscript o i pos) X.env v=(do
   let ov <-holding [v] (eval o X.env)
   let iv <-holding [v,ov] (eval i X.env)
   standAt pos
   holding [v,ov,iv] (setItem ov iv v)
   release [v,ov,iv] []):=by intro _;rfl):PG X (.Subscript o i pos) (kVI to c t):=by
 intro a s b H v u Q I r h;rw[n];refine ae (md (thn (G a s b H _ I h) λ ov f ⟨x,d,g,C,A⟩=>?_));refine ae (md (thn (hi a f b d _ g A) λ iv l ⟨y,m,J,q,p⟩=>?_));refine ae (vk (ae (md (thn (j a l b m x y v ov iv u _ J C q r p) λ _ M ⟨D,B,L⟩=>?_))));exact wpAny_release ⟨b,D,B,L⟩
def kJS(b:TE)(g:TG):TS:=λ D a H=>b a H λ x c=>g x a c D.nx
def xV{b e:iO}{c:TE}{g:TG}(p:PE X e c)(r:PG X b g)(l:swapsWithSole [b] e pos.line X.env=pure false:=by rfl)(m:swappedStores [b] e X.env=pure none:=by rfl)
  (h1:(assignEach [b] X.env).map (·.2)=[assign b X.env]:=by rfl):PS X (.Assign [b] e pos) (kJS c g):=by
 intro a s d H D I h;refine wpAny_Assign_stores (thn (p a s d H _ I h) λ v i ⟨x,f,j,o,n⟩=>?_) l m;rw[h1];exact thn (r a i d f x v _ j o n) λ _ u q=>q
def kRG{i:Nat}{x:Str}{e:iO}{c:TE}{a:Pos}(n:X.N.Nodup)(hi:X.N[i]?=some x)(q:Loc X.env.scope x)(p:PE X e c)(j:swapsWith e (some (.Name x a)) pos.line X.env=pure false:=by rfl)(m:X.fn x=true\/X.env.scope.names.lookup x=some .local:=by first | exact .inl rfl | exact .inr rfl | assumption) :
  PS X (.Assign [.Name x a] e pos) (kJS c (lY i)):=by
 intro b s f H D I h;refine wpAny_Assign_Name (thn (p b s f H _ I h) λ v u ⟨y,d,g,o,l⟩=>?_) j;exact aP g n hi q o (λ A r=>⟨_,d,r,l⟩) m
inductive kPP(i:Nat)(j:Nat)(D:Ends)(σ:St)(vs:List V)(H1:Hp):Prop
 | mk:∀ v w,(vs=[v,w])->(D.nx ((σ.set i (some v)).set j (some w)) H1)->kPP i j D σ vs H1
def kUY(i j:Nat)(d:TA):TS:=λ D a H=>d a H λ c b=>kPP i j D a c b
def kLA{i j:Nat}{x y:Str}{a b:iO}{Q:TA}{n m pt:Pos} {kt k2 pt2} (hc:X.calm=true) (L:X.N.Nodup) (hi:X.N[i]?=some x) (hj:X.N[j]?=some y) (B:i≠j)
  (S:X.env.scope.names.lookup x=some .local) (O:X.env.scope.names.lookup y=some .local) (Z:PA X [a,b] Q)
  (Y:swappedStores [.Tuple [.Name x n,.Name y m] kt pt] (.Tuple [a,b] k2 pt2) X.env=pure (some [x,y]))
  (U:swapsWithSole [.Tuple [.Name x n,.Name y m] kt pt] (.Tuple [a,b] k2 pt2) pos.line X.env=pure false:=by rfl) :
  PS X (.Assign [.Tuple [.Name x n,.Name y m] kt pt] (.Tuple [a,b] k2 pt2) pos) (kUY i j Q):=by
 intro c s G H D I h;rw[exec_Assign_arm];refine ae (vk ?_);rw[U];refine ae (bj ?_);rw[if_neg (by decide)];refine ae (Tuple_ (thn (Z _ c s G H _ I h) λ us d ⟨vs,C,T,r1,r⟩=>?_));obtain⟨v,w,e1,r⟩:=r;subst e1
 obtain⟨f,g,rfl,rv,u⟩ : ∃ f g,us=[f,g]/\RelV v f/\RelV w g:=by
  cases r1 with
  | cons p q =>
   cases q with
   | cons p' q' =>
    cases q'
    exact⟨_,_,rfl,p,p'⟩
 refine iz ?_ yS2;have I2:Inv X c G C {d with heap:=d.heap.push {cls:=.type "tuple",data:=.seq [f,g].toArray}}:=T.kept (t':=d.toks) λ b o e=>ao _ e
 rw[Y];refine ae (bj ?_);show dw (model X.prog X.w) X.A (do rule "assign.swapped-stores";let items <-unpackItems (.ref d.heap.objs.size) 2 none;assignInOrder [λ v=>bindName X.env y v,λ v=>bindName X.env x v] items.reverse;pure Gk) _ _ _;refine ae (vt (ae (unpackItems_tuple (items:=#[f,g]) (I.ok.hd hc) (IsTup.new d.heap _) λ M l=>?_)));have I3:=I2.kept (h':=M) (t':=d.toks) λ b o e=>l b o (dq (bz e)) e;show dw _ _ (assignInOrder [λ v=>bindName X.env y v,λ v=>bindName X.env x v] [g,f] >>= λ _=>pure Gk) _ _ _;refine ae (BS (Ef (aP I3 L hj (.inl O) u (λ s2 I4=>?_) (.inr O))));refine BS (Ef (aP I4 L hi (.inl S) rv (λ s3 J=>DW (bj ?_)) (.inr S)));rw[List.set_comm _ _ (pe B)]at J;exact⟨_,C,J,r⟩
def kJM(c:TT)(i:TS):TS:=λ D a H=>∃ W:Nat->St->Hp->Prop,(∃ m,W m a H)/\∀ m a H,W m a H ->
 c a H λ b f=>if b=true then ∃ N:St->Hp->Prop,(∀ d h,N d h->∃ g,g<m/\W g d h)/\i {D with nx:=N,ct:=N,bk:=D.nx} a f else D.nx a f
def kKZ{c:iO}{i:List ph}{J:TT}{L:TS}(hp:Fo (model X.prog X.w) X.A X.env X.xe)(hc:PT X c J)(hb:PSs X i L):PS X (.While c i [] pos) (kJM J L):=by
 intro d s S H D I h;obtain⟨W,⟨U,Z⟩,turn⟩:=h;refine wpAny_While (codeAny_whileLoop (λ n O=>∃ j G,Inv X d j G O/\W n j G) ?_ U ⟨S,H,I,Z⟩);rintro n Q ⟨g,y,T,w1⟩;refine um hp (thn (hc d Q g y _ T (turn n g y w1)) λ b Y ⟨B,M,m⟩=>?_)
 cases b with
 | true =>
  obtain⟨N,C,m⟩:=m;rw[if_pos rfl];refine um hp (thn (hb d Y g B _ M m) λ f s3 o=>?_)
  cases f with
  | next =>
   obtain⟨a,l,u,x⟩:=o;obtain⟨q,r,p⟩:=C a l x;exact⟨q,r,a,l,u,p⟩
  | cont =>
   obtain⟨a,l,u,x⟩:=o;obtain⟨q,r,p⟩:=C a l x;exact⟨q,r,a,l,u,p⟩
  | brk=>exact o
  | ret v=>exact o
 | false =>
  rw[if_neg eK];exact Ay ⟨g,B,M,m⟩
end
structure It where
 go:Nat->Hp->Prop
 yld:Nat->Hp->V->Hp->Prop
 stop:Nat->Hp->Prop
def yV(X:Cx)(a:List (au×Obj))(H:Hp)(b:au):Prop :=
 H b=none/\b≠X.env.locals/\b∉X.fs/\(b∈X.ex\/X.s₀.heap.objs.size<=b)/\(∀ x c,X.env.cells.lookup x=some c->c≠b)/\∀ p∈X.pn++a,p.1≠b
def Inv.fpOk{X:Cx}{a:List (au×Obj)}{f:St}{H H':Hp}{s:av}{b:au}(I:Inv X a f H s)(d:s.heap.objs.size<=b)(g:H' b=none):yV X a H' b:=by
 refine⟨g,jc (cy I.lt d),I.nofs d,.inr (jt I.sz d),λ x c e z=>?_,λ p hp z=>?_⟩
 ·obtain⟨v,q⟩:=I.cell x c e
  exact absurd (cy q.lt (by rw[z];exact d)) (qa _)
 ·exact absurd (cy (bz (I.pin p hp).1) (by rw[z];exact d)) (qa _)
structure Turn(P:eo)(w:iJ)(K:ay)(tg:iO)(J:It)(fp:List au)(it:au)(tn:Nat->iS->Prop):Prop where
 mem:it∈fp
 obj:∀ i h,tn i h->∀ b∈fp,∃ o,h.get? b=some o/\∀ v,o.data≠.cell v
 keep:∀ i h h',tn i h->(∀ b∈fp,∀ o,h.get? b=some o->h'.get? b=some o)->tn i h'
 item:∀(X:Cx),X.prog=P->X.w=w->X.K=K->X.calm=true->∀(i:Nat)(pins:List (au×Obj))(s:av)(σ:St)(H:Hp)(E:ar->av->Prop),Inv X pins σ H s->(∀ b∈fp,yV X pins H b)->tn i s.heap->J.go i H ->
  dw (model P w) X.A (pyNext (.ref it)) (λ r s1=>∃ u,r=some u /\
   dw (model P w) X.A (letOwnedTupleGo tg (.ref it) u) (λ _ s2=>∃ x H',Inv X pins σ H' s2/\RelV x u/\J.yld i H x H'/\tn (i+1) s2.heap/\∀ b∈fp,H' b=none) E s1) E s
 done:∀(X:Cx),X.prog=P->X.w=w->X.K=K->X.calm=true->∀(i:Nat)(pins:List (au×Obj))(s:av)(σ:St)(H:Hp)(E:ar->av->Prop),Inv X pins σ H s->(∀ b∈fp,yV X pins H b)->tn i s.heap->J.stop i H ->
  dw (model P w) X.A (pyNext (.ref it)) (λ r s1=>r=none/\Inv X pins σ H s1) E s
 self:∀(A:gj)(i:Nat)(s:av)(Q:ar->av->Prop)(E:ar->av->Prop),tn i s.heap->Q (.ref it) s->dw (model P w) A (pyIter (.ref it)) Q E s
abbrev TI:=St->Hp->(It->Hp->Prop)->Prop
def PIE(X:Cx)(a:List (au×Obj))(i:St)(j:iO)(R:It->Hp->Prop)(c:ar)(g:av):Prop :=
 ∃(it:au)(f:List au)(h:Nat->iS->Prop)(J:It)(d:Hp),c=.ref it/\Inv X a i d g/\Turn X.prog X.w X.K j J f it h/\h 0 g.heap/\(∀ b∈f,yV X a d b)/\R J d
def PI(X:Cx)(a iter:iO)(b:TI):Prop :=
 ∀(pins:List (au×Obj))(s:av)(σ:St)(H:Hp)(R:It->Hp->Prop),Inv X pins σ H s->b σ H R ->
  dw (model X.prog X.w) X.A (eval iter X.env) (λ v c=>dw (model X.prog X.w) X.A (pyIter v) (PIE X pins σ a R) X.xe c) X.xe s
def kFQ{M : zf}{A : gj}{E : ar -> av -> Prop}{s : av}{c : iO}{it : au}{u : ar}{o : Obj}{n : String}{b : Array ar}{Q : Unit -> av -> Prop}(g : s.heap.get? it = some o)(d : o.cls = .type n)(f : o.data = .fields b)
    (i : ["enumerate", "zip", "dict_itemiterator", "dict_reverseitemiterator", "odict_iterator", "itertools.zip_longest", "itertools.pairwise"].contains n = false) (a : Q () s) : dw M A (letOwnedTupleGo c (.ref it) u) Q E s := by
  unfold letOwnedTupleGo
  cases c <;> first
    | exact bj a
    | (cases u <;> first
        | exact bj a
        | (refine ae (wpAny_load g ?_)
           rw[d, f];show dw M A (if(["enumerate", "zip", "dict_itemiterator", "dict_reverseitemiterator", "odict_iterator", "itertools.zip_longest", "itertools.pairwise"].contains n && b[0]? == some (rawInt _)) = true then _ else _) Q E s;rw[if_neg (by intro h; rw[i, Eg]at h; cases h)];exact bj a))
def Itl(K:ay)(a:au):It :=
 ⟨λ i H=>∃ b x,SqL K H a b/\b[i]?=some x,λ i H x c=>c=H/\∀ b,SqL K H a b->b[i]?=some x,λ i H=>∃ b,SqL K H a b/\b.length<=i⟩
def Itt(K:ay)(a:au):It :=
 ⟨λ i H=>∃ b x,SqT K H a b/\b[i]?=some x,λ i H x c=>c=H/\∀ b,SqT K H a b->b[i]?=some x,λ i H=>∃ b,SqT K H a b/\b.length<=i⟩
def Itr(lo:Int)(n:Nat):It:=⟨λ i _=>i<n,λ i H x a=>a=H/\x=.int (lo+i),λ i _=>n<=i⟩
def kGZ{P:eo}{w:iJ}{K:ay}{tg:iO}(a it:au):Turn P w K tg (Itl K a) [it] it (λ i h=>h.IsListIter it a i) where
 mem:=by simp
 obj:=λ i h st b g=>by
  have e:b=it:=by simpa using g
  subst e;obtain⟨o,e,c,d⟩:=st;exact⟨o,e,λ v z=>by rw[d]at z;cases z⟩
 keep:=λ i h m st k=>st.at λ o e=>k it (by simp) o e
 item:=by
  intro X D y A Q i f s O H E I l st G;subst D y A;obtain⟨xs,x,n,L⟩:=G;obtain⟨r,J,p,Y⟩:=I.list n;obtain⟨u,hu,ru⟩:=J.get L;obtain⟨q,B,Z,C,M,N⟩:=l it (by simp);refine wpAny_pyNext_list_item st p.isList (x:=u) (by simpa using hu) λ m j S=>?_;have T:Inv X f O H {s with heap:=m}:=I.turned (t':=s.toks) (λ b o g e=>(S.2 b g).trans e) q B C M N
  obtain⟨o,e,c,d⟩:=id j;exact⟨u,rfl,kFQ (s:={s with heap:=m}) e c d (by decide) ⟨x,H,T,ru,⟨rfl,λ ys hy=>by rw[I.list_inj hy n];exact L⟩,j,λ b g=>(l b g).1⟩⟩
 done:=by
  intro X D y A Q i f s O H E I l st G;subst D y A;obtain⟨xs,n,L⟩:=G;obtain⟨r,J,p,Y⟩:=I.list n;obtain⟨q,B,Z,C,M,N⟩:=l it (by simp);have hl:=J.length;exact wpAny_pyNext_list_end (I.ok.hd Q) st p.isList (by simp;omega) λ m U=>⟨rfl,I.turned (t':=s.toks) (λ b o g e=>U b o g e) q B C M N⟩
 self:=λ _ _ _ _ _ st h=>wpAny_pyIter_listiter st h
def kBZ{P:eo}{w:iJ}{K:ay}{tg:iO}(a it:au):Turn P w K tg (Itt K a) [it] it (λ i h=>h.IsTupleIter it a i) where
 mem:=by simp
 obj:=λ i h st b j=>by
  have e:b=it:=by simpa using j
  subst e;obtain⟨o,e,c,d⟩:=st;exact⟨o,e,λ v z=>by rw[d]at z;cases z⟩
 keep:=λ i h n st k=>st.at λ o e=>k it (by simp) o e
 item:=by
  intro X D y A Q i f s O H E I m st G;subst D y A;obtain⟨xs,x,q,L⟩:=G;obtain⟨g,J,p,Y⟩:=I.tuple q;obtain⟨u,hu,ru⟩:=J.get L;obtain⟨r,B,Z,C,M,N⟩:=m it (by simp);refine wpAny_pyNext_tuple_item st (show s.heap.IsTuple a g.toArray from p) (x:=u) (by simpa using hu) λ n l S=>?_;have T:Inv X f O H {s with heap:=n}:=I.turned (t':=s.toks) (λ b o j e=>(S.2 b j).trans e) r B C M N
  obtain⟨o,e,c,d⟩:=id l;exact⟨u,rfl,kFQ (s:={s with heap:=n}) e c d (by decide) ⟨x,H,T,ru,⟨rfl,λ ys hy=>by rw[I.tuple_inj hy q];exact L⟩,l,λ b j=>(m b j).1⟩⟩
 done:=by
  intro X D y A Q i f s O H E I m st G;subst D y A;obtain⟨xs,q,L⟩:=G;obtain⟨g,J,p,Y⟩:=I.tuple q;obtain⟨r,B,Z,C,M,N⟩:=m it (by simp);have hl:=J.length;exact wpAny_pyNext_tuple_end (I.ok.hd Q) st (show s.heap.IsTuple a g.toArray from p) (by simp;omega) λ n U=>⟨rfl,I.turned (t':=s.toks) (λ b o j e=>U b o j e) r B C M N⟩
 self:=λ _ _ _ _ _ st h=>wpAny_pyIter_tupleiter st h
def kCA{P:eo}{w:iJ}{K:ay}{O:iO}(it:au)(lo:Int)(n:Nat):Turn P w K O (Itr lo n) [it] it (λ i h=>IsRangeIter h it (lo+(i:Nat)*1) ((n:Int)-(i:Nat)) 1) where
 mem:=by simp
 obj:=λ i h st b c=>by
  have e:b=it:=by simpa using c
  subst e
  exact⟨_,st,λ v z=>by
   have M:Data.fields _=Data.cell v:=z
   cases M⟩
 keep:=λ i h g st k=>k it (by simp) _ st
 item:=by
  intro X q l m u i a s B H E I f st y;subst q l m;obtain⟨j,p,L,r,A,x⟩:=f it (by simp);have W:=Walks.range (prog:=X.prog) (w:=X.w) (I.ok.hd u) it lo 1 n;refine W.item i s _ _ y st λ v g C N d G=>?_;obtain⟨t,rfl⟩:=N;have D:Inv X a B H {s with heap:=g,toks:=C}:=I.turned (λ b o c e=>G b o (by simpa using c) e) j p r A x
  refine⟨_,rfl,kFQ (s:={s with heap:=g,toks:=C}) (n:="range_iterator") d rfl rfl (by decide) ⟨.int (lo+i),H,D,⟨t,?_⟩,⟨rfl,rfl⟩,d,λ b c=>(f b c).1⟩⟩
  rw[Int.mul_one]
 done:=by
  intro X q l m u i a s B H E I f st y;subst q l m;obtain⟨j,p,L,r,A,x⟩:=f it (by simp);exact wpAny_pyNext_range_end (I.ok.hd u) st (by have:n<=i:=y;omega) λ g J=>⟨rfl,I.turned (t':=s.toks) (λ b o c e=>J b o c e) j p r A x⟩
 self:=λ _ _ _ _ _ st h=>wpAny_pyIter_rangeiter st h
section
variable {X:Cx} {tg:iO}
inductive kMC(K:ay)(R:It->Hp->Prop)(x:V)(H1:Hp):Prop
 | mk:∀ a,(x=.ref a)->((∃ xs,SqL K H1 a xs))->(R (Itl K a) H1)->kMC K R x H1
def kMD(K:ay)(c:TE):TI:=λ b H R=>c b H λ x a=>kMC K R x a
inductive kQE(K:ay)(R:It->Hp->Prop)(x:V)(H1:Hp):Prop
 | mk:∀ a,(x=.ref a)->((∃ xs,SqT K H1 a xs))->(R (Itt K a) H1)->kQE K R x H1
def kUB(K:ay)(c:TE):TI:=λ b H R=>c b H λ x a=>kQE K R x a
def yD{l:iO}{g:TE}(n:PE X l g):PI X tg l (kMD X.K g):=by
 intro c s m H R I h;refine thn (n c s m H _ I h) λ v d ⟨x,i,f,u,r⟩=>?_;obtain⟨a,e,⟨D,A⟩,q⟩:=r;subst e;cases u
 obtain⟨j,C,p,B⟩:=f.list A;refine AI p.isList ?_;refine⟨d.heap.objs.size,[d.heap.objs.size],_,_,i,rfl,f.kept (t':=d.toks) λ b o e=>ao _ e,kGZ a _,⟨_,cg _ rfl,rfl,rfl⟩,λ b y=>?_,q⟩;have e:b=d.heap.objs.size:=by simpa using y
 subst e;exact f.fpOk (be _) (f.hok.fresh (be _))
def aH{l:iO}{i:TE}(n:PE X l i):PI X tg l (kUB X.K i):=by
 intro d s m H R I h;refine thn (n d s m H _ I h) λ v c ⟨x,j,f,u,r⟩=>?_;obtain⟨a,e,⟨D,A⟩,q⟩:=r;subst e;cases u
 obtain⟨g,C,p,B⟩:=f.tuple A;refine xg (show c.heap.IsTuple a g.toArray from p) ?_;refine⟨c.heap.objs.size,[c.heap.objs.size],_,_,j,rfl,f.kept (t':=c.toks) λ b o e=>ao _ e,kBZ a _,⟨_,cg _ rfl,rfl,rfl⟩,λ b y=>?_,q⟩;have e:b=c.heap.objs.size:=by simpa using y
 subst e;exact f.fpOk (be _) (f.hok.fresh (be _))
def kAA{a:List (au×Obj)}{c:St}{H:Hp}{s:av}{R:It->Hp->Prop}{E:ar->av->Prop}{lo hi:Int}{t u v:Tok}{tk:Nat}(I:Inv X a c H s)(h1 : -(2 ^ 62)<=lo)(f:lo<2 ^ 62)(i : -(2 ^ 62)<=hi)(h:hi<2 ^ 62)
  (q:R (Itr lo (hi-lo).toNat) H):dw (model X.prog X.w) X.A (pyIter (.ref s.heap.objs.size)) (PIE X a c tg R) E {s with heap:=s.heap.push {cls:=.type "range",data:=.fields #[.int lo t,.int hi u,.int 1 v]},toks:=tk}:=by
 refine wpAny_pyIter_range (GS ..) (small_one h1 f i h) ?_;have d:Inv X a c H {s with heap:=s.heap.push {cls:=.type "range",data:=.fields #[.int lo t,.int hi u,.int 1 v]},toks:=tk}:=I.kept λ b o e=>ao _ e
 refine⟨(s.heap.push {cls:=.type "range",data:=.fields #[.int lo t,.int hi u,.int 1 v]}).objs.size,[(s.heap.push {cls:=.type "range",data:=.fields #[.int lo t,.int hi u,.int 1 v]}).objs.size],_,_,H,rfl,
  d.kept (t':=tk) λ b o e=>ao _ e,kCA _ lo (hi-lo).toNat,?_,λ b g=>?_,q⟩
 ·have l:lo+((0:Nat):Int)*1=lo:=by simp
  have j:(((hi-lo).toNat:Nat):Int)-((0:Nat):Int)=Fv lo hi 1:=by rw[rangeSize_one];split<;>omega
  show IsRangeIter _ _ (lo+((0:Nat):Int)*1) ((((hi-lo).toNat:Nat):Int)-((0:Nat):Int)) 1;rw[l,j];exact cg _ rfl
 ·have e:b=(s.heap.push {cls:=.type "range",data:=.fields #[.int lo t,.int hi u,.int 1 v]}).objs.size:=by simpa using g
  subst e;exact d.fpOk (be _) (d.hok.fresh (be _))
inductive kMB(R:It->Hp->Prop)(vs:List V)(H1:Hp):Prop
 | mk:∀(j:Int),(vs=[.int j])->(-(2 ^ 62)<=j)->(j<2 ^ 62)->(R (Itr 0 j.toNat) H1)->kMB R vs H1
def kUD(d:TA):TI:=λ c H R=>d c H λ b a=>kMB R b a
inductive kMA(R:It->Hp->Prop)(vs:List V)(H1:Hp):Prop
 | mk:∀(i j:Int),(vs=[.int i,.int j])->((-(2 ^ 62)<=i/\i<2 ^ 62/\-(2 ^ 62)<=j/\j<2 ^ 62))->(R (Itr i (j-i).toNat) H1)->kMA R vs H1
def kUC(d:TA):TI:=λ c H R=>d c H λ b a=>kMA R b a
def jY{a:iO}{f:TA}{p b:Pos}(v:Gl X "range")(o:X.mg "range" = none)(m:PA X [a] f)(l:starEach [a] X.env=[(false,eval a X.env)]:=by rfl):PI X tg (.Call (.Name "range" p) [a] [] b) (kUD f):=by
 intro c s i H R I h;refine Eh (zM I v o Ei (iU (thn (m b c s i H _ I h) λ B y ⟨A,x,g,u,d⟩=>?_) l rfl));obtain⟨j,e,d,n,q⟩:=d;subst e
 cases u with
 | cons r rr =>
  cases rr
  obtain⟨t,rfl⟩:=r;exact call_range_1 (kAA g (by omega) (by omega) d n (by simpa using q))
def nW{a b:iO}{l:TA}{p d:Pos}(C:Gl X "range")(y:X.mg "range" = none)(u:PA X [a,b] l)(o:starEach [a,b] X.env=[(false,eval a X.env),(false,eval b X.env)]:=by rfl)(c:starEach [b] X.env=[(false,eval b X.env)]:=by rfl) :
  PI X tg (.Call (.Name "range" p) [a,b] [] d) (kUC l):=by
 intro f s n H R I h;refine Eh (zM I C y Ei (iU (thn (u d f s n H _ I h) λ M G ⟨J,D,m,A,g⟩=>?_) (by rw[o,c]) (by rw[c];rfl)));obtain⟨i,j,e,⟨g,v,B,x⟩,q⟩:=g;subst e
 cases A with
 | cons r rr =>
  cases rr with
  | cons r' rr =>
   cases rr
   obtain⟨t,rfl⟩:=r;obtain⟨L,rfl⟩:=r';exact call_range_2 (kAA m g v B x q)
def kTB(h:TI)(g:TG)(l:TS):TS:=λ D a H=>h a H λ J j=>∃ W:Nat->Nat->St->Hp->Prop,(∃ m,W 0 m a j)/\∀ i m a H,W i m a H ->
 (J.stop i H/\D.nx a H)\/(J.go i H/\∃ N:St->Hp->Prop,(∀ b c,N b c->∃ f,f<m/\W (i+1) f b c)/\∀ x c,J.yld i H x c->g x a c λ d n=>l {D with nx:=N,ct:=N,bk:=D.nx} d n)
def pY(a:List au)(h:iS):List (au×Obj):=a.filterMap λ b=>(h.get? b).map λ o=>(b,o)
def vD{a:List au}{h:iS}{b:au}{o:Obj}(c:b∈a)(e:h.get? b=some o):(b,o)∈pY a h:=DM.mpr ⟨b,c,by rw[e];rfl⟩
def kHT{a:List au}{h:iS}{p:au×Obj}(hp:p∈pY a h):p.1∈a/\h.get? p.1=some p.2:=by
 obtain⟨b,d,e⟩:=DM.mp hp
 cases q:h.get? b with
 | none=>rw[q]at e;cases e
 | some o =>
  rw[q]at e;have c:(b,o)=p:=bh e;subst c;exact⟨d,q⟩
def Inv.pinned{a:List (au×Obj)}{g:St}{H:Hp}{s:av}{c:List au}(I:Inv X a g H s)(i:∀ b∈c,yV X a H b)(j:∀ b∈c,∃ o,s.heap.get? b=some o/\∀ v,o.data≠.cell v):Inv X (a++pY c s.heap) g H s :=
 I.pins_of λ p hp=>(cf.mp hp).elim (λ z=>I.pin p (ck _ z)) λ z=>by
  obtain⟨f,e⟩:=kHT z;obtain⟨l,m,n,_⟩:=i p.1 f;obtain⟨o,h,d⟩:=j p.1 f;rw[e]at h;cases h;exact⟨e,l,m,n,d⟩
def Inv.unpinned{a c:List (au×Obj)}{b:St}{H:Hp}{s:av}(I:Inv X (a++c) b H s):Inv X a b H s:=I.pins_of λ p hp=>I.pin p (ck _ (cq _ hp))
def kRH{iter:iO}{G:List ph}{wi:TI}{g:TG}{tb:TS}{a3:Pos}(hp:Fo (model X.prog X.w) X.A X.env X.xe)(hc:X.calm=true)(hi:PI X tg iter wi)(hg:PG X tg g)(q:PSs X G tb)
  (hs:∀ x,foldedSetIterable iter X.env x=pure x:=by intro _;rfl):PS X (.For tg iter G [] a3) (kTB wi g tb):=by
 intro a s σ H D I h;refine wpAny_For (thn (hi a s σ H _ I h) λ v s1 h1=>thn h1 λ a4 s2 h2=>?_) hs;obtain⟨it,Q,tn,J,H2,e,I2,T,Z,f2,W,⟨m0,w0⟩,turn⟩:=h2
 subst e
 have y:∀{C:Hp},(∀ b∈Q,C b=none)->∀ b∈Q,yV X a C b:=λ hn b q=>⟨hn b q,(f2 b q).2⟩;refine codeAny_forLoop_any (λ n s'=>∃ i j C,Inv X a j C s'/\tn i s'.heap/\(∀ b∈Q,C b=none)/\W i n j C) ?_ m0 ⟨0,σ,H2,I2,Z,λ b q=>(f2 b q).1,w0⟩;rintro n s3 ⟨i,l,Y,I3,U,S,w3⟩;rcases turn i n l Y w3 with⟨stop,qn⟩ | ⟨go,N,hN,step⟩
 ·refine um hp (thn (T.done X rfl rfl rfl hc i a s3 l Y X.xe I3 (y S) U stop) λ r s4 ⟨hr,I4⟩=>?_)
  subst hr;exact Ay ⟨l,Y,I4,qn⟩
 ·refine um hp (thn (T.item X rfl rfl rfl hc i a s3 l Y X.xe I3 (y S) U go) λ r s4 ⟨u,hr,h4⟩=>?_)
  subst hr;refine um hp (thn h4 λ _ s5 ⟨x,H5,I5,r5,y5,M,a2⟩=>?_);have a1:=I5.pinned (y a2) (T.obj _ _ M);refine um hp (thn (hg _ s5 l H5 x u _ a1 r5 (step x H5 y5)) λ _ s6 ⟨a0,H6,I6,q6⟩=>?_);refine um hp (thn (q _ s6 a0 H6 _ I6 q6) λ f s7 L=>?_)
  have again:∀{c:St}{p:Hp},Inv X (a++pY Q s5.heap) c p s7->N c p->∃ m,m<n/\∃ i j C,Inv X a j C s7/\tn i s7.heap/\(∀ b∈Q,C b=none)/\W i m j C:=λ{c p} B O=>by
   obtain⟨m',hm,w7⟩:=hN c p O;refine⟨m',hm,i+1,c,p,B.unpinned,T.keep _ _ _ M λ b q o e=>(B.pin (b,o) (ck _ (ck _ (vD q e)))).1,λ b q=>?_,w7⟩;obtain⟨o,e,d⟩:=T.obj _ _ M b q;exact(B.pin (b,o) (ck _ (ck _ (vD q e)))).2.1
  cases f with
  | next=>obtain⟨c,p,B,O⟩:=L;exact again B O
  | cont=>obtain⟨c,p,B,O⟩:=L;exact again B O
  | brk=>obtain⟨c,p,B,L⟩:=L;exact⟨c,p,B.unpinned,L⟩
  | ret v=>obtain⟨x7,c,p,B,r7,L⟩:=L;exact⟨x7,c,p,B.unpinned,r7,L⟩
end
def kMK{K:ay}{a:au}{xs:List V}{g:TG}{d:TS}{D:Ends}{b:St}{H:Hp}(Pv:Nat->St->Hp->Prop)(h0:Pv 0 b H)(l:∀ i b H,i<=xs.length->Pv i b H->SqL K H a xs)
  (h:∀ i x b H,xs[i]?=some x->Pv i b H->g x b H λ σ2 H2=>d {D with nx:=Pv (i+1),ct:=Pv (i+1),bk:=D.nx} σ2 H2) (f:∀ b H,Pv xs.length b H->D.nx b H) :
  ∃ W:Nat->Nat->St->Hp->Prop,(∃ m,W 0 m b H)/\∀ i m b H,W i m b H ->
   ((Itl K a).stop i H/\D.nx b H)\/((Itl K a).go i H/\∃ N:St->Hp->Prop,(∀ σ' H',N σ' H'->∃ m',m'<m/\W (i+1) m' σ' H')/\∀ x H',(Itl K a).yld i H x H'->g x b H' λ σ2 H2=>d {D with nx:=N,ct:=N,bk:=D.nx} σ2 H2):=by
 refine⟨λ i m b H=>m=xs.length-i/\i<=xs.length/\Pv i b H,⟨xs.length,by simp,gy _,h0⟩,?_⟩;rintro i m b H ⟨rfl,j,p⟩;have q:=l i b H j p;by_cases c:i<xs.length
 ·refine .inr ⟨⟨xs,xs[i],q,by simp[c]⟩,Pv (i+1),λ σ' H' n=>⟨xs.length-(i+1),by omega,rfl,c,n⟩,λ x H' y=>?_⟩
  obtain⟨e,y⟩:=y;subst e;exact h i x b _ (y xs q) p
 ·have e:i=xs.length:=by omega
  subst e;exact .inl ⟨⟨xs,q,be _⟩,f b H p⟩
def xZ{lo:Int}{n:Nat}{g:TG}{c:TS}{D:Ends}{a:St}{H:Hp}(Pv:Nat->St->Hp->Prop)(h0:Pv 0 a H)
  (f:∀ i a H,i<n->Pv i a H->g (.int (lo+i)) a H λ σ2 H2=>c {D with nx:=Pv (i+1),ct:=Pv (i+1),bk:=D.nx} σ2 H2) (d:∀ a H,Pv n a H->D.nx a H) :
  ∃ W:Nat->Nat->St->Hp->Prop,(∃ m,W 0 m a H)/\∀ i m a H,W i m a H ->
   ((Itr lo n).stop i H/\D.nx a H)\/((Itr lo n).go i H/\∃ N:St->Hp->Prop,(∀ σ' H',N σ' H'->∃ m',m'<m/\W (i+1) m' σ' H')/\∀ x H',(Itr lo n).yld i H x H'->g x a H' λ σ2 H2=>c {D with nx:=N,ct:=N,bk:=D.nx} σ2 H2):=by
 refine⟨λ i m a H=>m=n-i/\i<=n/\Pv i a H,⟨n,by simp,gy _,h0⟩,?_⟩;rintro i m a H ⟨rfl,j,p⟩;by_cases b:i<n
 ·refine .inr ⟨b,Pv (i+1),λ σ' H' h=>⟨n-(i+1),by omega,rfl,b,h⟩,λ x H' y=>?_⟩
  obtain⟨e,y⟩:=y;subst e y;exact f i a _ b p
 ·have e:i=n:=by omega
  subst e;exact .inl ⟨be _,d a H p⟩
def kJB{c:TT}{f:TS}{D:Ends}{a:St}{H:Hp}(Pv:St->Hp->Prop)(d:St->Hp->Nat)(h0:Pv a H)
  (g:∀ a H,Pv a H->c a H λ b H1=>if b=true then f {D with nx:=λ σ' H'=>Pv σ' H'/\d σ' H'<d a H,ct:=λ σ' H'=>Pv σ' H'/\d σ' H'<d a H,bk:=D.nx} a H1 else D.nx a H1)
  (mono:∀ a H Q Q',(∀ b H1,Q b H1->Q' b H1)->c a H Q->c a H Q'):kJM c f D a H:=by
 refine⟨λ m a H=>m=d a H/\Pv a H,⟨_,rfl,h0⟩,?_⟩;rintro m a H ⟨rfl,p⟩;refine mono a H _ _ (λ b H1 q=>?_) (g a H p)
 cases b with
 | true=>exact⟨_,λ σ' H' ⟨h,l⟩=>⟨_,l,rfl,h⟩,q⟩
 | false=>exact q
abbrev R2:=V->V->Hp->VK->Prop
def OpR(X:Cx)(f:ar->ar->Sem ar)(r:R2):Prop :=
 ∀(pins:List (au×Obj))(s:av)(σ:St)(H:Hp)(x y:V)(v u:ar)(Q:VK),Inv X pins σ H s->RelV x v->RelV y u->r x y H Q ->
  dw (model X.prog X.w) X.A (f v u) (EP X pins σ Q) X.xe s
def UnR(X:Cx)(f:ar->Sem ar)(r:V->Hp->VK->Prop):Prop :=
 ∀(pins:List (au×Obj))(s:av)(σ:St)(H:Hp)(x:V)(v:ar)(Q:VK),Inv X pins σ H s->RelV x v->r x H Q ->
  dw (model X.prog X.w) X.A (f v) (EP X pins σ Q) X.xe s
def yX(X:Cx)(f:ar)(r:List V->Hp->VK->Prop):Prop :=
 ∀(pins:List (au×Obj))(s:av)(σ:St)(H:Hp)(xs:List V)(us:List ar)(Q:VK),Inv X pins σ H s->Vals xs us->r xs H Q ->
  dw (model X.prog X.w) X.A (call f us) (EP X pins σ Q) X.xe s
def kVM(X:Cx)(r:V->Hp->(Bool->Hp->Prop)->Prop):Prop :=
 ∀(pins:List (au×Obj))(s:av)(σ:St)(H:Hp)(x:V)(v:ar)(Q:Bool->Hp->Prop),Inv X pins σ H s->RelV x v->r x H Q ->
  dw (model X.prog X.w) X.A (truthy v) (TP X pins σ Q) X.xe s
def tOp(r:R2)(d b:TE):TE:=λ a H Q=>d a H λ x c=>b a c λ y f=>r x y f Q
def tUn(r:V->Hp->VK->Prop)(c:TE):TE:=λ b H Q=>c b H λ x a=>r x a Q
inductive rI(C:Int->Int->Prop)(g:Int->Int->V)(x:V)(y:V)(H:Hp)(Q:VK):Prop
 | mk:∀ i j,(x=.int i)->(y=.int j)->(C i j)->(Q (g i j) H)->rI C g x y H Q
inductive rI0(g:Int->Int->V)(x:V)(y:V)(H:Hp)(Q:VK):Prop
 | mk:∀ i j,(x=.int i)->(y=.int j)->(Q (g i j) H)->rI0 g x y H Q
inductive rU(g:Int->V)(x:V)(H:Hp)(Q:VK):Prop
 | mk:∀ i,(x=.int i)->(Q (g i) H)->rU g x H Q
section
variable {X:Cx} {a b c:iO} {ta tb tc:TE} {pos:Pos}
def kSR(r:PE X a ta)(j:PE X b tb){c:List (au×Obj)}{s:av}{d:St}{H:Hp}{R:V->V->Hp->Prop}(I:Inv X c d H s)
  (h:ta d H λ x H1=>tb d H1 λ y H2=>R x y H2) {Q:ar->av->Prop} {f:ar->ar->Sem ar}
  (i:∀ v u s2 x y H2,Inv X c d H2 s2->RelV x v->RelV y u->R x y H2->dw (model X.prog X.w) X.A (f v u) Q X.xe s2) :
  dw (model X.prog X.w) X.A (eval a X.env) (λ v s₁=>dw (model X.prog X.w) X.A (eval b X.env) (λ u s₂=>dw (model X.prog X.w) X.A (f v u) Q X.xe s₂) X.xe s₁) X.xe s:=by
 refine thn (r c s d H _ I h) λ v m ⟨x,H1,n,l,g⟩=>?_;refine thn (j c m d H1 _ n g) λ u s2 ⟨y,H2,o,q,p⟩=>?_;exact i v u s2 x y H2 o l q p
def kT{d:Operator}{r:R2}(o:OpR X (binaryOp d) r)(j:PE X a ta)(m:PE X b tb):PE X (.BinOp a d b pos) (tOp r ta tb):=by
 intro c s f H Q I h;exact wpAny_BinOp (kSR j m I h λ v u g x y i p l n q=>o c g f i x y v u Q p l n q)
def uE{c:UnaryOp}{r:V->Hp->VK->Prop}(g:UnR X (unaryOp c) r)(n:PE X a ta):PE X (.UnaryOp c a pos) (tUn r ta):=by
 intro b s d H Q I h;exact UnaryOp_ (thn (n b s d H _ I h) λ v l ⟨x,i,m,j,f⟩=>g b l d i x v Q m j f)
def opI{f:ar->ar->Sem ar}{C:Int->Int->Prop}{g:Int->Int->Int}
  (rule:∀(i j:Int)(t u:Tok)(s:av)(Q:ar->av->Prop)(E:ar->av->Prop),C i j->Q (.int (g i j) s.toks) {s with toks:=s.toks+1}->dw (model X.prog X.w) X.A (f (.int i t) (.int j u)) Q E s) :
  OpR X f (rI C λ i j=>.int (g i j)):=by
 intro a s m H x y v u Q I d b h;obtain⟨i,j,rfl,rfl,c,q⟩:=h;obtain⟨t,rfl⟩:=d;obtain⟨l,rfl⟩:=b;exact rule i j t l s _ _ c ⟨.int (g i j),H,I.tok _,⟨_,rfl⟩,q⟩
def kTT{f:ar->ar->Sem ar}{g:Int->Int->Int}
  (rule:∀(i j:Int)(t u:Tok)(s:av)(Q:ar->av->Prop)(E:ar->av->Prop),Q (.int (g i j) s.toks) {s with toks:=s.toks+1}->dw (model X.prog X.w) X.A (f (.int i t) (.int j u)) Q E s) :
  OpR X f (rI0 λ i j=>.int (g i j)):=by
 intro a s l H x y v u Q I c b h;obtain⟨i,j,rfl,rfl,q⟩:=h;obtain⟨t,rfl⟩:=c;obtain⟨d,rfl⟩:=b;exact rule i j t d s _ _ ⟨.int (g i j),H,I.tok _,⟨_,rfl⟩,q⟩
def kRP{f:ar->ar->Sem ar}{g:Int->Int->Bool}
  (rule:∀(i j:Int)(t u:Tok)(s:av)(Q:ar->av->Prop)(E:ar->av->Prop),Q (.bool (g i j)) s->dw (model X.prog X.w) X.A (f (.int i t) (.int j u)) Q E s) :
  OpR X f (rI0 λ i j=>.bl (g i j)):=by
 intro a s l H x y v u Q I c b h;obtain⟨i,j,rfl,rfl,q⟩:=h;obtain⟨t,rfl⟩:=c;obtain⟨d,rfl⟩:=b;exact rule i j t d s _ _ ⟨.bl (g i j),H,I,rfl,q⟩
def kVP(i j:Int):Prop:=0<j/\j<1073741824
def kVO(i j:Int):Prop:=0<=j/\j<=1000000/\i.natAbs<2 ^ 64
def CMul(i j:Int):Prop:=(-(2 ^ 64)<i/\i<2 ^ 64)\/(-(2 ^ 64)<j/\j<2 ^ 64)
def CMul.ok{i j:Int}(h:CMul i j):IntMulOk i j:=by
 rcases h with⟨h1,a⟩ | ⟨h1,a⟩
 ·exact .of_left (intBits_le_64 h1 a)
 ·exact .of_right (intBits_le_64 h1 a)
def qF:OpR X (binaryOp .Add) (rI0 λ i j=>.int (i+j)):=kTT λ _ _ _ _ _ _ _ q=>add_int q
def xW:OpR X (binaryOp .Sub) (rI0 λ i j=>.int (i-j)):=kTT λ _ _ _ _ _ _ _ q=>sub_int q
def rE:OpR X (binaryOp .Mult) (rI CMul λ i j=>.int (i*j)):=opI λ _ _ _ _ _ _ _ a q=>mul_int q a.ok
def fK:OpR X (binaryOp .FloorDiv) (rI kVP λ i j=>.int (i / j)):=opI λ i j _ _ _ _ _ a q=>by
 have h1:(0:Int)<j:=a.1;have b:j<1073741824:=a.2;exact floordiv_int (by omega) (by rw[BU i (by omega)];exact q) (.inl (PyProof.noPylong_small (by omega)))
def gZ:OpR X (binaryOp .Mod) (rI (λ _ j=>0<j) λ i j=>.int (i % j)):=opI λ i j _ _ _ _ _ a q=>by
 have h1:(0:Int)<j:=a;exact mod_int' (by omega) (by rw[Int.fmod_eq_emod_of_nonneg i (by omega)];exact q)
def kRO:OpR X (binaryOp .Pow) (rI kVO λ i j=>.int (i ^ j.toNat)):=opI λ _ _ _ _ _ _ _ a q=>pow_int_small a.1 a.2.1 a.2.2 q
def unI{f:ar->Sem ar}{g:Int->Int}
  (rule:∀(i:Int)(t:Tok)(s:av)(Q:ar->av->Prop)(E:ar->av->Prop),Q (.int (g i) s.toks) {s with toks:=s.toks+1}->dw (model X.prog X.w) X.A (f (.int i t)) Q E s) :
  UnR X f (rU λ i=>.int (g i)):=by
 intro a s c H x v Q I b h;obtain⟨i,rfl,q⟩:=h;obtain⟨t,rfl⟩:=b;exact rule i t s _ _ ⟨.int (g i),H,I.tok _,⟨_,rfl⟩,q⟩
def zJ:UnR X (unaryOp .USub) (rU λ i=>.int (-i)):=unI λ _ _ _ _ _ q=>neg_int q
end
def kTI:V->V->Bool
 | .non,.non=>true | .non,.int _=>true | .int _,.non=>true | .non,.bl _=>true | .bl _,.non=>true | .non,.str _=>true | .str _,.non=>true
 | .int _,.int _=>true | .bl _,.bl _=>true | .str _,.str _=>true | .byt _,.byt _=>true
 | .int _,.str _=>true | .str _,.int _=>true | .bl _,.str _=>true | .str _,.bl _=>true
 | _,_=>false
inductive rEq(x:V)(y:V)(H:Hp)(Q:VK):Prop
 | mk:(kTI x y=true)->(Q (.bl (decide (x=y))) H)->rEq x y H Q
inductive rNe(x:V)(y:V)(H:Hp)(Q:VK):Prop
 | mk:(kTI x y=true)->(Q (.bl (!decide (x=y))) H)->rNe x y H Q
def kGC{i j:Int}:decide (V.int i=V.int j)=(i == j):=by
 rw[iV];simp
def kMU{i j:Bool}:decide (V.bl i=V.bl j)=(i == j):=by
 rw[iV];simp
def kGB{i j:Str}:decide (V.str i=V.str j)=(i == j):=by
 rw[iV];simp
def kGD{i j:Array UInt8}:decide (V.byt i=V.byt j)=(i.toList == j.toList):=by
 rw[iV];cases i
 cases j
 simp
section
variable {X:Cx} {a b c:iO} {ta tb tc:TE} {pos:Pos}
def qI{a:List (au×Obj)}{c:St}{H:Hp}{s:av}{Q:VK}{k b:Bool}(I:Inv X a c H s)(q:Q (.bl k) H)(e:k=b):EP X a c Q (.bool b) s:=by
 subst e;exact⟨.bl k,H,I,rfl,q⟩
def kLK:OpR X (compareOp .Eq) rEq:=by
 intro f s g H x y v u Q I d a h;obtain⟨c,q⟩:=h
 cases x with
 | non =>
  cases d
  cases y with
  | non=>cases a;exact FB (qI I q (by simp))
  | bl j=>cases a;exact FC (qI I q (by simp))
  | int j=>obtain⟨b,rfl⟩:=a;exact FQ (qI I q (by simp))
  | str j=>obtain⟨b,rfl⟩:=a;exact FR (qI I q (by simp))
  | _=>exact absurd (show false=true from c) eK
 | bl i =>
  cases d
  cases y with
  | non=>cases a;exact FD (qI I q (by simp))
  | bl j=>cases a;exact eq_bool (qI I q kMU)
  | str j=>obtain⟨b,rfl⟩:=a;exact FE (qI I q (by simp))
  | _=>exact absurd (show false=true from c) eK
 | int i =>
  obtain⟨t,rfl⟩:=d
  cases y with
  | non=>cases a;exact FS (qI I q (by simp))
  | int j=>obtain⟨b,rfl⟩:=a;exact eq_int (qI I q kGC)
  | str j=>obtain⟨b,rfl⟩:=a;exact FU (qI I q (by simp))
  | _=>exact absurd (show false=true from c) eK
 | str i =>
  obtain⟨t,rfl⟩:=d
  cases y with
  | non=>cases a;exact FV (qI I q (by simp))
  | bl j=>cases a;exact FF (qI I q (by simp))
  | int j=>obtain⟨b,rfl⟩:=a;exact FW (qI I q (by simp))
  | str j=>obtain⟨b,rfl⟩:=a;exact eq_str (qI I q kGB)
  | _=>exact absurd (show false=true from c) eK
 | byt i =>
  obtain⟨t,rfl⟩:=d
  cases y with
  | byt j=>obtain⟨b,rfl⟩:=a;exact PySem.W.eq_bytes (qI I q kGD)
  | _=>exact absurd (show false=true from c) eK
 | _=>cases y<;>exact absurd (show false=true from c) eK
def kAG:OpR X (compareOp .NotEq) rNe:=by
 intro f s g H x y v u Q I d a h;obtain⟨c,q⟩:=h
 cases x with
 | non =>
  cases d
  cases y with
  | non=>cases a;exact FG (qI I q (by simp))
  | bl j=>cases a;exact FH (qI I q (by simp))
  | int j=>obtain⟨b,rfl⟩:=a;exact FX (qI I q (by simp))
  | str j=>obtain⟨b,rfl⟩:=a;exact FY (qI I q (by simp))
  | _=>exact absurd (show false=true from c) eK
 | bl i =>
  cases d
  cases y with
  | non=>cases a;exact FJ (qI I q (by simp))
  | bl j=>cases a;exact ne_bool (qI I q (congrArg not kMU))
  | str j=>obtain⟨b,rfl⟩:=a;exact FK (qI I q (by simp))
  | _=>exact absurd (show false=true from c) eK
 | int i =>
  obtain⟨t,rfl⟩:=d
  cases y with
  | non=>cases a;exact FZ (qI I q (by simp))
  | int j=>obtain⟨b,rfl⟩:=a;exact ne_int (qI I q (congrArg not kGC))
  | str j=>obtain⟨b,rfl⟩:=a;exact Fb (qI I q (by simp))
  | _=>exact absurd (show false=true from c) eK
 | str i =>
  obtain⟨t,rfl⟩:=d
  cases y with
  | non=>cases a;exact Fd (qI I q (by simp))
  | bl j=>cases a;exact FL (qI I q (by simp))
  | int j=>obtain⟨b,rfl⟩:=a;exact Fe (qI I q (by simp))
  | str j=>obtain⟨b,rfl⟩:=a;exact ne_str (qI I q (congrArg not kGB))
  | _=>exact absurd (show false=true from c) eK
 | byt i =>
  obtain⟨t,rfl⟩:=d
  cases y with
  | byt j=>obtain⟨b,rfl⟩:=a;exact PySem.W.ne_bytes (qI I q (congrArg not kGD))
  | _=>exact absurd (show false=true from c) eK
 | _=>cases y<;>exact absurd (show false=true from c) eK
def kLI:OpR X (compareOp .Lt) (rI0 λ i j=>.bl (decide (i<j))):=kRP λ _ _ _ _ _ _ _ q=>lt_int q
def kTS:OpR X (compareOp .LtE) (rI0 λ i j=>.bl (decide (i<=j))):=kRP λ _ _ _ _ _ _ _ q=>le_int q
def kQC:OpR X (compareOp .Gt) (rI0 λ i j=>.bl (decide (j<i))):=kRP λ _ _ _ _ _ _ _ q=>gt_int q
inductive kFH(x:V)(y:V)(H:Hp)(Q:VK):Prop
 | mk:(y=.non)->(Q (.bl (decide (x=.non))) H)->kFH x y H Q
def kLJ:OpR X (compareOp .Is) kFH:=by
 intro b s d H x y v u Q I a c h;obtain⟨rfl,q⟩:=h;cases c
 refine is_none_gen (qI I q ?_)
 cases x<;>first
  | (cases a;rfl)
  | (obtain⟨t,rfl⟩:=a;rfl)
inductive kAF(x:V)(y:V)(H:Hp)(Q:VK):Prop
 | mk:(y=.non)->(Q (.bl (!decide (x=.non))) H)->kAF x y H Q
def kOK:OpR X (compareOp .IsNot) kAF:=by
 intro b s d H x y v u Q I a c h;obtain⟨rfl,q⟩:=h;cases c
 refine isnot_none_gen (qI I q ?_)
 cases x<;>first
  | (cases a;rfl)
  | (obtain⟨t,rfl⟩:=a;rfl)
def jC(b:iO){a:GR}(h:a≠.In:=by decide)(c:a≠.NotIn:=by decide):behindInMarks a b=false:=by
 have f:(a == CmpOp.In)=false:=by cases a<;>first | rfl | exact absurd rfl h
 have d:(a == CmpOp.NotIn)=false:=by cases a<;>first | rfl | exact absurd rfl c
 cases b<;>simp[behindInMarks,f,d]
def vB{d:GR}{r:R2}(p:OpR X (compareOp d) r)(j:PE X a ta)(n:PE X b tb)(l:behindInMarks d b=false):PE X (.Compare a [d] [b] pos) (tOp r ta tb):=by
 intro c s f H Q I h;exact wpAny_Compare1 (kSR j n I h λ v u g x y i A m o q=>p c g f i x y v u Q A m o q) l
inductive kJN(Q:Bool->Hp->Prop)(x:V)(H':Hp):Prop
 | mk:∀ k,(x=.bl k)->(Q k H')->kJN Q x H'
def kSX(t:TE):TT:=λ a H Q=>t a H λ x b=>kJN Q x b
def qK{g:GR}{r:R2}(M:OpR X (compareOp g) r)(o:PE X a ta)(G:PE X b tb)(B:behindInMarks g b=false):PT X (.Compare a [g] [b] pos) (kSX (tOp r ta tb)):=by
 intro d s f H Q I h
 refine Ck (thn (o d s f H _ I h) λ v j ⟨x,i,l,D,A⟩=>thn (G d j f i _ l A) λ u m ⟨y,n,N,q,p⟩ =>
  thn (M d m f n x y v u _ N D q p) λ c S ⟨z,J,C,L,k,e,O⟩=>?_) B
 subst e;cases L
 exact qb ⟨J,C,O⟩
inductive kEE(r':R2)(tc:TE)(σ:St)(Q:VK)(y:V)(z:V)(H3:Hp):Prop
 | mk:∀ k,(z=.bl k)->((if k=true then tc σ H3 λ w' H4=>r' y w' H4 Q else Q (.bl false) H3))->kEE r' tc σ Q y z H3
def kQV(r r':R2)(g c b:TE):TE:=λ a H Q=>g a H λ x d=>c a d λ y h=>r x y h λ z f=>kEE r' b a Q y z f
def kLG{l g:GR}{r r':R2}(ho:OpR X (compareOp l) r)(j:OpR X (compareOp g) r')(L:PE X a ta)(Z:PE X b tb)(T:PE X c tc)
  (S:lastMarks [l,g] [b,c]=false:=by with_unfolding_all rfl):PE X (.Compare a [l,g] [b,c] pos) (kQV r r' ta tb tc):=by
 intro f s i H Q I h
 refine Compare_chain (thn (L f s i H _ I h) λ v A ⟨x,q,B,Y,O⟩=>chain_link (thn (Z f A i q _ B O) λ u C ⟨y,G,I2,m,M⟩ =>
  thn (ho f C i G x y v u _ I2 Y m M) λ d D ⟨z,o,n,r3,k,e,p⟩=>?_)) S
 subst e;cases r3
 refine qb ?_
 cases k with
 | false=>exact ite_ff ⟨.bl false,o,n,rfl,p⟩
 | true=>exact ite_tt (chain_last (thn (T f D i o _ n p) λ U J ⟨z',H4,I4,r4,N⟩=>j f J i H4 y z' u U Q I4 m r4 N))
def kUN(K:ay)(x:V)(H:Hp)(k:Bool):Prop :=
 match x with
 | .non=>k=false
 | .bl b=>k=b
 | .int i=>k=(i != 0)
 | .str y=>y.length<=sizeLine/\k=((y.length:Int) != 0)
 | .byt y=>y.size<=sizeLine/\k=((y.size:Int) != 0)
 | .ref p=>(∃ c,SqL K H p c/\k = !c.isEmpty)\/(∃ c,SqT K H p c/\k = !c.isEmpty)\/∃ a,H p=some (.dK a)/\k = !a.isEmpty
 | _=>False
def kDH{a:Type}{kvs:List (a×V)}{b:List (a×ar)}(r:KV kvs b):(!b.isEmpty) = !kvs.isEmpty:=by
 cases r<;>rfl
def lJ{xs:List V}{a:List ar}(r:Vals xs a):(!a.toArray.isEmpty) = !xs.isEmpty:=by
 cases r<;>simp
def cK:(sizeLine:Nat)<2 ^ 63:=by rw[Ap];decide
def kQQ:kVM X (λ x H Q=>∃ k,kUN X.K x H k/\Q k H):=by
 intro B s G H x v Q I g h;obtain⟨k,e,q⟩:=h;have L:=cK;have J:sizeLine=16777216:=Ap
 cases x with
 | non =>
  cases g
  have a:k=false:=e;subst a;exact truthy_none ⟨H,I,q⟩
 | bl b =>
  cases g
  have a:k=b:=e;subst a;exact qb ⟨H,I,q⟩
 | int i =>
  obtain⟨t,rfl⟩:=g;have a:k=(i != 0):=e;subst a;exact PySem.P.truthy_int ⟨H,I,q⟩
 | str y =>
  obtain⟨t,rfl⟩:=g;obtain⟨D,a⟩ : y.length<=sizeLine/\k=((y.length:Int) != 0):=e;subst a;exact PySem.P.truthy_str (by omega) ⟨H,I.tok _,q⟩
 | byt y =>
  obtain⟨t,rfl⟩:=g;obtain⟨D,a⟩ : y.size<=sizeLine/\k=((y.size:Int) != 0):=e;subst a;exact PySem.W.truthy_bytes (by omega) ⟨H,I.tok _,q⟩
 | ref p =>
  cases g
  have a:(∃ f,SqL X.K H p f/\k = !f.isEmpty)\/(∃ f,SqT X.K H p f/\k = !f.isEmpty)\/∃ c,H p=some (.dK c)/\k = !c.isEmpty:=e;rcases a with⟨f,j,a⟩ | ⟨f,j,a⟩ | ⟨c,j,a⟩
  ·subst a
   obtain⟨o,r,n,u⟩:=I.list j;have d:=r.length;exact wpAny_truthy_list n.isList (by simp only[fj];omega) ⟨H,I.tok _,by rw[lJ r];exact q⟩
  ·subst a
   obtain⟨o,r,n,u⟩:=I.tuple j;have d:=r.length;exact truthy_tuple n (by simp only[fj];omega) ⟨H,I.tok _,by rw[lJ r];exact q⟩
  ·subst a
   obtain⟨u,C,l,r,m⟩ : c.length<=sizeLine/\(p == sysModules)=false/\∃ l,KV c l/\s.heap.DictOf (qD X.prog X.w) p l:=I.hok p _ j;have d:c.length=l.length:=vi r;exact wpAny_truthy_dict C m (by omega) ⟨H,I.tok _,by rw[kDH r];exact q⟩
 | _=>exact(show False from e).elim
def kKX(l:PE X a ta)(j:∀ vM,isTrue a X.env vM=(do let v <-vM;standAt a.pos;holding [v] (truthy v))) :
  PT X a (λ σ H Q=>ta σ H λ x H'=>∃ k,kUN X.K x H' k/\Q k H'):=by
 intro b s σ H Q I h;exact isTrue_plain (thn (l b s σ H _ I h) λ v g ⟨x,d,i,f,c⟩=>kQQ b g σ d x v Q i f c) (j _)
def wG{x:V}{a:List ar}(r:Vals [x] a):∃ u,a=[u]/\RelV x u:=by
 cases r with
 | cons r1 r2=>cases r2;exact⟨_,rfl,r1⟩
def kEA{x y:V}{a:List ar}(r:Vals [x,y] a):∃ u w',a=[u,w']/\RelV x u/\RelV y w':=by
 cases r with
 | cons r1 r2 =>
  cases r2 with
  | cons r3 r4=>cases r4;exact⟨_,_,rfl,r1,r3⟩
inductive oW(xs:List V)(H:Hp)(Q:VK):Prop
 | mk:∀ i,(xs=[.int i])->(Q (.int (if i<0 then -i else i)) H)->oW xs H Q
def kNA:yX X (.builtin "abs") oW:=by
 intro a s c H d b Q I r h;obtain⟨i,rfl,q⟩:=h;obtain⟨u,rfl,t,rfl⟩:=wG r;exact call_abs_int λ u f=>⟨.int (if i<0 then -i else i),H,I.tok _,⟨_,rfl⟩,q⟩
inductive mK(xs:List V)(H:Hp)(Q:VK):Prop
 | mk:∀ i j,(xs=[.int i,.int j])->(Q (.int (if j>i then j else i)) H)->mK xs H Q
def kIU(c:X.calm=true):yX X (.builtin "max") mK:=by
 intro b s d H n m Q I r h;obtain⟨i,j,rfl,q⟩:=h;obtain⟨u,g,rfl,⟨t,rfl⟩,⟨f,rfl⟩⟩:=kEA r;refine max_two_ints (I.ok.hd c) λ l o k=>⟨_,H,I.kept k,?_,q⟩;by_cases a:j>i
 ·rw[if_pos a,if_pos a];exact⟨_,rfl⟩
 ·rw[if_neg a,if_neg a];exact⟨_,rfl⟩
def kIV:yX X (.type "int") (λ xs H Q=>(∃ i,xs=[.int i]/\Q (.int i) H)\/∃ k,xs=[.bl k]/\Q (.int (if k then 1 else 0)) H):=by
 intro a s c H xs d Q I r h;rcases h with⟨i,rfl,q⟩ | ⟨k,rfl,q⟩
 ·obtain⟨u,rfl,t,rfl⟩:=wG r
  exact call_int_int ⟨.int i,H,I,⟨_,rfl⟩,q⟩
 ·obtain⟨u,rfl,b⟩:=wG r
  cases b
  exact call_int_bool ⟨.int (if k then 1 else 0),H,I.tok _,⟨_,rfl⟩,q⟩
end
structure ObjM(h:iS)(x dx C:au)(mA:Str->Option ar):Prop where
 obj:h.get? x=some (Cc C dx)
 ns:h.Ns1 dx mA
 ne:dx≠x
def kHY{h:iS}{d:au}{f:Str->Option ar}(n:h.Ns1 d f):∃ od,h.get? d=some od/\∀ name,Cr name od=some (f name):=by
 obtain⟨o,c,r,l,j,m,_,g⟩:=n;refine⟨o,l,λ name=>?_⟩;have e:=g name;unfold nsFind findBy at e;rw[<-Array.find?_toList]at e;unfold Cr;rw[j];dsimp only
 split
 ·rename_i y q
  rw[q]at e;exact congrArg some e
 ·rename_i q
  rw[q]at e
  have a:c.toList.any (·.refKey)=false:=by
   rw[List.any_eq_false];intro y p;obtain⟨z,t,b⟩:=m y (uu.mp p);simp[DictEntry.refKey,b]
  have i:¬ c.toList.any (·.refKey)=true:=by rw[a];exact eK
  rw[if_neg i];exact congrArg some e
def ObjM.look{h:iS}{x a C:au}{b:Str->Option ar}(I:ObjM h x a C b):∃ od,PySem.W.InstAt h x (Cc C a) C (some od)/\∀ name,Cr name od=some (b name) :=
 let ⟨od,ho,hl⟩:=kHY I.ns
 ⟨od,⟨I.obj,rfl,rfl,ho⟩,hl⟩
section
variable {prog:eo} {w:iJ} {A:gj} {E:ar->av->Prop} {s:av} {K:ay} {x dx C f:au} {mA:Str->Option ar} {name:Str} {v:ar}
end
def RelO.some_of{v:V}{o:Option ar}(r:RelO (some v) o):∃ u,o=some u/\RelV v u:=by
 cases o with
 | none=>exact(show False from r).elim
 | some u=>exact⟨u,rfl,r⟩
section
variable {P:eo} {w:iJ} {H H':Hp} {h h':iS} {a C dx:au} {fs fs':List (Str×V)}
def kPB(b:HOk P w H h)(e:H a=some (.ins C dx fs)):∃ mA,ObjM h a dx C mA/\(∀ f,RelO (fs.lookup f) (mA f))/\Fz mA (fs.map (·.1))/\fs.length<=1000/\H dx=some (.own a):=by
 obtain⟨d,z,g,c,mA,n,r,q⟩:=(show ObjOk P w H h a (.ins C dx fs) from b a _ e);exact⟨mA,⟨c,n,g⟩,r,q,z,d⟩
end
structure Cls(K:ay)(C:au):Prop where
 pg:EF K C Str.empty=true
 hd:PySem.W.hasDictIn K C=true
 po:PySem.W.plainOver K C=true
 sa:Ej K (.ref C) "__setattr__" = some (some (.builtin "object.__setattr__"))
def Cls.get{K:ay}{C:au}(c:Cls K C)(f:Str):EF K C f=true:=c.pg
section
variable {X:Cx} {pins:List (au×Obj)} {σ:St} {H:Hp} {s:av} {a C dx:au} {fs:List (Str×V)} {f:Str} {v:V} {A:gj} {E:ar->av->Prop}
end
section
variable {X:Cx} {o e value:iO} {f:Str} {pos pos' tpos:Pos} {ta tv:TE}
end
section
variable {X:Cx} {pins:List (au×Obj)} {σ:St} {H:Hp} {s:av} {A:gj} {E:ar->av->Prop} {Q:ar->av->Prop} {c:ar} {b:Bool}
inductive cU(K:ay)(H:Hp):V->ar->Prop where
 | non:cU K H .non (.type "NoneType")
 | bl (x:Bool):cU K H (.bl x) (.type "bool")
 | int (i:Int):cU K H (.int i) (.type "int")
 | str (x:Str):cU K H (.str x) (.type "str")
 | flt (x:UInt64):cU K H (.flt x) (.type "float")
 | lst {a:au} {xs:List V} (e:H a=some (.lst xs)):cU K H (.ref a) (.type "list")
 | frz {a:au} {o:Obj} {xs:List V} (e:H a=some (.frz o (.lst xs))):cU K H (.ref a) (.type "list")
 | tup {a:au} {xs:List V} (e:H a=some (.tup xs)):cU K H (.ref a) (.type "tuple")
 | dK {a:au} {kvs:List (Key×V)} (e:H a=some (.dK kvs)):cU K H (.ref a) (.type "dict")
 | dT {a:au} {kvs:List (List Key×V)} (e:H a=some (.dT kvs)):cU K H (.ref a) (.type "dict")
 | ins {a C dx:au} {fs:List (Str×V)} (e:H a=some (.ins C dx fs)) (cl:Cls K C) (ha:Ej K (.ref C) "__class__" = some (some (.builtin "object.__class__")))
   (hn:PySem.W.specialIn K (.builtin "object.__class__") "__get__" = some (some (.builtin "getset_descriptor.__get__"))) (htk:PySem.W.takesIn K (.builtin "object.__class__")=some true)
   (hm:PySem.W.mroIn K C (.type "object")=some true):cU K H (.ref a) (.ref C)
def kIF{x:V}{u t:ar}(I:Inv X pins σ H s)(d:RelV x u)(l:cU X.K H x t)(e:Ek X.K t c=some b)(h:∀ tk,Q (.bool b) {s with toks:=tk}) :
  dw (model X.prog X.w) A (call (.builtin "isinstance") [u,c]) Q E s:=by
 cases l with
 | non=>cases(show u=AA from d);exact me PySem.W.kitx_none I.kIn qc e (λ z=>nomatch z) h
 | bl y=>cases(show u=BP y from d);exact me PySem.W.kitx_bool I.kIn qc e (λ z=>nomatch z) h
 | int i=>obtain⟨t,q⟩:=(show ∃ t,u=uk i t from d);cases q;exact me PySem.W.kitx_int I.kIn qc e (λ z=>nomatch z) h
 | str y=>obtain⟨t,q⟩:=(show ∃ t,u=EB y t from d);cases q;exact me PySem.W.kitx_str I.kIn qc e (λ z=>nomatch z) h
 | flt y=>obtain⟨t,q⟩:=(show ∃ t,u=GQ y t from d);cases q;exact me PySem.W.kitx_float I.kIn qc e (λ z=>nomatch z) h
 | @lst a f ea =>
  cases(show u=jx a from d)
  obtain⟨_,_,n,_,h1⟩:=(show ObjOk X.prog X.w H s.heap a (.lst f) from I.hok a _ ea);exact me DX I.kIn ⟨_,h1,rfl⟩ e (λ z=>nomatch z) h
 | @frz a ob f ea =>
  cases(show u=jx a from d)
  obtain⟨_,_,_,n,_,h1⟩:=(show ObjOk X.prog X.w H s.heap a (.frz ob (.lst f)) from I.hok a _ ea);exact me DX I.kIn ⟨_,h1,rfl⟩ e (λ z=>nomatch z) h
 | @tup a f ea =>
  cases(show u=jx a from d)
  obtain⟨_,_,_,p⟩:=(show ObjOk X.prog X.w H s.heap a (.tup f) from I.hok a _ ea);obtain⟨o,h1,g,_⟩:=p;exact me PySem.W.kitx_tuple I.kIn ⟨o,h1,g⟩ e (λ z=>nomatch z) h
 | @dK a kvs ea =>
  cases(show u=jx a from d)
  obtain⟨_,_,r,_,p⟩:=(show ObjOk X.prog X.w H s.heap a (.dK kvs) from I.hok a _ ea);obtain⟨o,j,m,h1,g,_⟩:=p;exact me DY I.kIn ⟨o,h1,g.1⟩ e (λ z=>nomatch z) h
 | @dT a kvs ea =>
  cases(show u=jx a from d)
  obtain⟨_,_,f,_,o,j,m,h1,g,_⟩:=(show ObjOk X.prog X.w H s.heap a (.dT kvs) from I.hok a _ ea);exact me DY I.kIn ⟨o,h1,g.1⟩ e (λ z=>nomatch z) h
 | @ins a C dx fs ea cl ha hn htk hm =>
  cases(show u=jx a from d)
  obtain⟨v,O,_⟩:=kPB I.hok ea;obtain⟨B,J,_⟩:=O.look;exact me (PySem.W.kitx_own (cl.get _) cl.hd ha hn htk hm) I.kIn J e (λ z=>nomatch z) h
end
structure Room(k:Nat)(A:gj):Prop where
 hd:A.handled=none
 dp:A.depth+3*k+5<recursionLimit
 un:A.units+16*k+200<cLine
 gd:A.guards=some []
def Room.mono{j k:Nat}{A:gj}(r:Room k A)(h:j<=k):Room j A:=⟨r.hd,by have:=r.dp;omega,by have:=r.un;omega,r.gd⟩
theorem Room.deeper{k:Nat}{A:gj}(r:Room (k+1) A)(env:Env):Room k (A.deeper env) :=
 ⟨r.hd,by have:=r.dp;show A.depth+1+3*k+5<_;omega,by have:=r.un;show A.units+3+16*k+200<_;omega,r.gd⟩
theorem Room.depth{k:Nat}{A:gj}(r:Room k A):A.depth<recursionLimit:=by have:=r.dp;omega
theorem Room.units{k:Nat}{A:gj}(r:Room k A):A.units+64<cLine:=by have:=r.un;omega
def kQS:TA:=λ _ H Q=>Q [] H
def kED(c:TE)(g:TA):TA:=λ a H Q=>c a H λ x b=>g a b λ f d=>Q (x::f) d
section
variable {X:Cx} {e:iO} {es:List iO} {te:TE} {t:TA} {pos:Pos}
def kY:PA X [] kQS:=λ _ _ _ _ H Q I h=>Calls.spliced_nil ⟨[],H,I,.nil,h⟩
def kH(l:PE X e te)(v:PA X es t)(i:starEach (e::es) X.env=(false,eval e X.env)::starEach es X.env:=by rfl):PA X (e::es) (kED te t):=by
 intro b a s c H Q I h;rw[i];show dw _ _ (spliced ((false,eval e X.env)::backTo b (starEach es X.env))) _ _ s;refine Calls.spliced_cons (thn (l a s c H _ I h) λ u f ⟨x,d,g,p,o⟩=>?_);exact thn (v b a f c d _ g o) λ A y ⟨q,j,r,n,m⟩=>⟨x::q,j,r,.cons p n,m⟩
inductive kPN(Q:VK)(xs:List V)(H1:Hp):Prop
 | mk:(xs.length<=sizeLine)->(∀ p,H1 p=none->Q (.ref p) (upd H1 p (.tup xs)))->kPN Q xs H1
def kUU(t:TA):TE:=λ b H Q=>t b H λ c a=>kPN Q c a
inductive kPQ(Q:VK)(xs:List V)(H1:Hp):Prop
 | mk:(xs.length<=sizeLine)->(∀ p,H1 p=none->Q (.ref p) (upd H1 p (.lst xs)))->kPQ Q xs H1
def kVA(t:TA):TE:=λ b H Q=>t b H λ c a=>kPQ Q c a
def qT {x1} (h:PA X es t):PE X (.Tuple es x1 pos) (kUU t):=by
 intro a s j H Q I l;refine wpAny_Tuple_spliced (thn (h pos a s j H _ I l) λ m c ⟨g,d,f,r,z,q⟩=>⟨by rw[<-r.length];exact z,?_⟩);have i:d c.heap.objs.size=none:=f.hok.fresh (be _);refine⟨.ref c.heap.objs.size,upd d c.heap.objs.size (.tup g),f.laid (t':=c.toks) (λ b u e=>ao _ e) (be _) ?_,rfl,q _ i⟩;exact⟨z,m,r,⟨_,cg _ rfl,rfl,_,rfl,rfl⟩⟩
def qO(h:PA X es t):PE X (.List es pos) (kVA t):=by
 intro a s j H Q I l;refine wpAny_List_spliced (thn (h pos a s j H _ I l) λ m c ⟨g,d,f,r,z,q⟩=>⟨by rw[<-r.length];exact z,?_⟩);have i:d c.heap.objs.size=none:=f.hok.fresh (be _);refine⟨.ref c.heap.objs.size,upd d c.heap.objs.size (.lst g),f.laid (t':=c.toks) (λ b u e=>ao _ e) (be _) ?_,rfl,q _ i⟩;exact⟨z,m,0,r,cg _ rfl⟩
end
abbrev Sp:=List V->Hp->VK->XK->Prop
abbrev CXT:=List Env->Hp->av->XK->ar->av->Prop
structure Env0(P:eo)(w:iJ)(K:ay)(mg:Str->Option ar)(base:iS)(A:gj)(outer:List Env)(s:av)(H:Hp):Prop where
 frames:A.frames=some outer
 mod:Mod K mg base
 bs:∀ b o,base.get? b=some o->s.heap.get? b=some o/\H b=none
 bsz:base.objs.size<=s.heap.objs.size
 funs:s.heap.FunFrames base outer
 frf:∀ b∈frs outer,H b=none
 hok:HOk P w H s.heap
 bare:Bm s.gens
def CE(outer:List Env)(P:eo)(w:iJ)(H:Hp)(s:av)(Q:VK)(u:ar)(a:av):Prop :=
 ∃ v b,a.os=s.os/\Bm a.gens/\Un (frs outer) [] H b s.heap a.heap/\HOk P w b a.heap/\RelV v u/\Q v b
def CR(CX:CXT)(outer:List Env)(P:eo)(w:iJ)(H:Hp)(s:av)(Q:VK)(E:XK)(r:Result)(a:av):Prop :=
 match r with
 | .ok (.ret u)=>CE outer P w H s Q u a
 | .ok _=>False
 | .error e=>CX outer H s E e a
structure FnOk(P:eo)(w:iJ)(K:ay)(mg:Str->Option ar)(base:iS)(CX:CXT)(k:Nat)(f:au)(fd:tw)(ps:List Str)(sp:Sp):Prop where
 len:∀ vs H Q E,sp vs H Q E->vs.length=ps.length
 run:∀(A:gj)(outer:List Env)(s:av)(H:Hp)(args:Args)(us:List ar)(vs:List V)(Q:VK)(E:XK),Room k A->Env0 P w K mg base A outer s H->DZ s fd args (ps.zip us)->Vals vs us->sp vs H Q E ->
  codeAny (model P w) A (.call (.ref f) args) (CR CX outer P w H s Q E) s
section
variable {X:Cx} {pins:List (au×Obj)} {σ:St} {H:Hp} {s s':av}
def Inv.env0(I:Inv X pins σ H s):Env0 X.prog X.w X.K X.mg X.base X.A X.stack s H :=
 ⟨I.ok.frames,I.ok.mod,I.bs,jt I.ok.bsz I.sz,I.stack,I.stkFree,I.hok,I.bare⟩
def Inv.after{Q:VK}{u:ar}(I:Inv X pins σ H s)(h:CE X.stack X.prog X.w H s Q u s'):EP X pins σ Q u s':=by
 obtain⟨v,j,os,a,un,f,r,q⟩:=h;obtain⟨i,g,d,t,c⟩:=s';obtain rfl:c=s.os:=os;exact⟨v,j,I.call (h':=i) (g':=g) (d':=d) (t':=t) (ch:=[]) un f a (λ b z=>absurd z (by simp)),r,q⟩
end
def kJR(sp:Sp)(a:List V)(E:XK)(t:TA):TE:=λ d H Q=>t d H λ c b=>sp (c++a) b Q E
def Binds(K:ay)(d:tw)(b:List Str)(c:List ar):Prop :=
 ∀(s:av)(a:List ar),K.In s.heap->(a++c).length=b.length->DZ s d ⟨a,[]⟩ (b.zip (a++c))
def Binds.all{K:ay}{b:tw}{a:List Str}(h:∀ us:List ar,us.length=a.length->bindArgs b ⟨us,[]⟩=pure (a.zip us)):Binds K b a []:=λ s us _ c=>by
 rw[iW]at c ⊢;exact .of_eq (h us c)
def kDV(CX:CXT)(X:Cx)(E:XK):Prop:=∀(pins:List (au×Obj))(σ:St)(H:Hp)(s:av)(e:ar)(s':av),Inv X pins σ H s->CX X.stack H s E e s'->X.xe e s'
section
variable {X:Cx} {CX:CXT} {k:Nat} {f C:au} {fd:tw} {ps:List Str} {sp:Sp} {dvs:List V} {ds:List ar} {E:XK} {x m:Str} {p pos apos:Pos} {e o:iO} {es:List iO} {ta:TE} {t:TA}
def kQZ{a:List (au×Obj)}{g:St}{H:Hp}{s:av}{Q:VK}{b:List ar}{d:List V}(F:FnOk X.prog X.w X.K X.mg X.base CX k f fd ps sp)(p:Room k X.A)(m:Binds X.K fd ps ds)(l:Vals dvs ds)(o:kDV CX X E)
  (I:Inv X a g H s) (r:Vals d b) (h:sp (d++dvs) H Q E):dw (model X.prog X.w) X.A (call (.ref f) b) (EP X a g Q) X.xe s:=by
 have i:Vals (d++dvs) (b++ds):=r.append l;have n:(b++ds).length=ps.length:=by rw[<-i.length];exact F.len _ _ _ _ h
 refine wpAny_call (Da (F.run X.A X.stack s H ⟨b,[]⟩ (b++ds) (d++dvs) Q E p I.env0 (m s b I.kIn n) i h) λ r j c=>?_)
 cases r with
 | error e=>exact o a g H s e j I c
 | ok fl =>
  cases fl with
  | ret u=>exact I.after c
  | next=>exact xc c
  | brk=>exact xc c
  | cont=>exact xc c
def kOJ(F:FnOk X.prog X.w X.K X.mg X.base CX k f fd ps sp)(j:Room k X.A)(y:Gl X x)(n:X.mg x=some (.ref f))(m:AJ X.K (.ref f)=true)(o:Binds X.K fd ps ds)(g:Vals dvs ds)(v:kDV CX X E)
  (l:PA X (e::es) t) (b:(x == ("__debug__" : Str))=false:=by decide) (u:starEach (e::es) X.env=(false,eval e X.env)::starEach es X.env:=by rfl) (c:(backTo pos (starEach es X.env)).any (·.1)=false:=by rfl) :
  PE X (.Call (.Name x p) (e::es) [] pos) (kJR sp dvs E t):=by
 intro a s i H Q I h;refine BV (kOW I y n ?_ b);refine PySem.W.callWith_K (h₀:=X.base) I.ok.mod.kin m (thn (l pos a s i H _ I h) λ G C ⟨D,B,d,r,q⟩=>⟨d.kIn,?_⟩) u c;exact kQZ F j o g v d r q
end
section
variable {X:Cx} {CX:CXT} {k:Nat} {f C:au} {fd:tw} {ps ks:List Str} {sp:Sp} {E:XK} {x m:Str} {p pos apos kpos:Pos} {e o:iO} {es:List iO} {kws:List Ec} {te ta:TE} {t tk:TA} {nm:Option Str}
variable {g:List ar->List ar->List ar} {gV:List V->List V->List V}
end
structure FnScope(N P:List Str)(sc:wg):Prop where
 kind:sc.kind=.function
 co:sc.isCoroutine=false
 gen:sc.isGenerator=false
 nd:N.Nodup
 pre:N.take P.length=P
 par:∀ x∈P,sc.names.lookup x=some .local\/sc.names.lookup x=some .cell
 nofree:∀ y∈sc.names,y.2≠.free
theorem oX{kindOf:Str->Option tz}{x:Str}:∀{binds:List (Str×ar)}{m:Str->Option ar},(∀ v,(x,v)∉binds)->bindL kindOf binds m x=m x
 | [],_,_=>rfl
 | (n,v)::r,m,h=>by
  unfold bindL;rw[oX λ w a=>h w (eC _ a)]
  split
  ·have:x≠n:=by rintro rfl;exact h v eZ
   simp[this]
  ·rfl
theorem oZ{kindOf:Str->Option tz}{x:Str}:∀{binds:List (Str×ar)}{m:Str->Option ar},(∀ v,(x,v)∉binds)->bindC kindOf binds m x=m x
 | [],_,_=>rfl
 | (n,v)::r,m,h=>by
  unfold bindC;rw[oZ λ w a=>h w (eC _ a)]
  split
  ·rfl
  ·have:x≠n:=by rintro rfl;exact h v eZ
   simp[this]
theorem oY{kindOf:Str->Option tz}{x:Str}{v:ar}:∀{P:List Str}{a:List ar}{i:Nat}{m:Str->Option ar},P.Nodup->P[i]?=some x->a[i]?=some v->kindOf x=some .local ->
  bindL kindOf (P.zip a) m x=some v
 | [],_,_,_,_,h,_,_=>by simp at h
 | _::_,[],_,_,_,_,h,_=>by simp at h
 | p::P,w::a,0,m,nd,h1,h2,hk=>by
  simp at h1 h2;subst h1;subst h2;show bindL kindOf ((p,w)::P.zip a) m p=_;unfold bindL;rw[oX λ v b=>(gk.mp nd).1 (zt b).1,if_pos hk];simp
 | p::P,w::a,i+1,m,nd,h1,h2,hk=>by
  show bindL kindOf ((p,w)::P.zip a) m x=_;unfold bindL;exact oY (i:=i) (gk.mp nd).2 (by simpa using h1) (by simpa using h2) hk
theorem pD{kindOf:Str->Option tz}{x:Str}{v:ar}:∀{P:List Str}{a:List ar}{i:Nat}{m:Str->Option ar},P.Nodup->P[i]?=some x->a[i]?=some v->kindOf x≠some .local ->
  bindC kindOf (P.zip a) m x=some v
 | [],_,_,_,_,h,_,_=>by simp at h
 | _::_,[],_,_,_,_,h,_=>by simp at h
 | p::P,w::a,0,m,nd,h1,h2,hk=>by
  simp at h1 h2;subst h1;subst h2;show bindC kindOf ((p,w)::P.zip a) m p=_;unfold bindC;rw[oZ λ v b=>(gk.mp nd).1 (zt b).1,if_neg hk];simp
 | p::P,w::a,i+1,m,nd,h1,h2,hk=>by
  show bindC kindOf ((p,w)::P.zip a) m x=_;unfold bindC;exact pD (i:=i) (gk.mp nd).2 (by simpa using h1) (by simpa using h2) hk
def start(N:List Str)(a:List V):St:=a.map some++iD (N.length-a.length) none
def qY(CX:CXT)(P:eo)(w:iJ)(K:ay)(mg:Str->Option ar)(base:iS)(N:List Str)(b:Str)(a:wg)(f:au)(d:ar)(A:gj)(outer:List Env)(s:av)(H:Hp)(E:XK):Cx where
 prog:=P
 w:=w
 K:=K
 mg:=mg
 base:=base
 A:=A.deeper (envOfC b a s.heap.objs.size f d)
 N:=N
 s₀:=s
 H₀:=H
 env:=envOfC b a s.heap.objs.size f d
 outer:=outer
 stack:=envOfC b a s.heap.objs.size f d::outer
 ex:=[]
 calm:=true
 fn:=λ _=>true
 pn:=[]
 xe:=λ e g=>dw (model P w) (A.deeper (envOfC b a s.heap.objs.size f d)) (leaving (envOfC b a s.heap.objs.size f d) e) (λ _ c=>CX outer H s E e c) (λ h c=>CX outer H s E h c) g
def kBN{a:wg}{n:Nat}{x:Str}(h:a.names.lookup x=some .cell):∃ c,(cellsFrom n a.names []).lookup x=some c:=by
 have q:=CO a.names n [] (.inl h);exact zg.mp q
def kIG{CX:CXT}{P:eo}{w:iJ}{K:ay}{mg:Str->Option ar}{base:iS}{N o:List Str}{g:Str}{d:wg}{f:au}{G:ar}{A:gj}{outer:List Env}{s L:av}{H:Hp}{E:XK}{J:List ar}{m:List V}
  (S:FnScope N o d) (Q:A.handled=none) (l:Env0 P w K mg base A outer s H) (Z:m.length=o.length) (r:Vals m J)
  (x:InCallC s s.heap.objs.size (bindL (envOfC g d s.heap.objs.size f G).kindOf (o.zip J) λ _=>none) (cellsFrom (s.heap.objs.size+1) d.names []) (bindC (envOfC g d s.heap.objs.size f G).kindOf (o.zip J) λ _=>none) L) :
  Inv (qY CX P w K mg base N g d f G A outer s H E) [] (start N m) H L:=by
 have X:o.length<=N.length:=by have:=congrArg jr S.pre;rw[dc]at this;omega
 obtain⟨h1,tk,rfl,M⟩:=x.done;have C:∀ b:au,b∉(qY CX P w K mg base N g d f G A outer s H E).ex:=λ b z=>absurd (show b∈([]:List au) from z) (by simp)
 refine⟨⟨l.mod,S.kind,rfl,rfl,be _,λ y z c h1 j=>?_,λ y B=>?_,λ y c _ h=>?_,λ _=>Q,Around.frames_deeper l.frames,.inr ⟨rfl,rfl⟩,λ b z=>absurd z (C b),l.bs,l.bsz,λ b _ _=>C b,λ b z=>absurd z (C b),l.funs,l.frf⟩,
  rfl,l.bare,Un.kept M,⟨_,x.toInCall.ns,λ i y v h1 j Y=>?_⟩,λ y c h=>⟨_,x.cell y c h⟩,l.hok.fresh (be _),λ y c h=>?_,λ p hp=>absurd (show p∈([]:List (au×Obj)) from hp) (by simp),l.hok.kept M,?_⟩
 ·exact name_of_addr x.apart (mo h1) (mo j)
 ·have B:d.names.lookup y=some .cell\/d.names.lookup y=some .free:=B
  rcases B with B | B
  ·exact kBN B
  ·exact absurd rfl (S.nofree _ (mo B))
 ·exact gh (x.above y c (mo h))
 ·have I:i<m.length:=by
   unfold start at j;by_cases I:i<m.length
   ·exact I
   ·rw[bf (by simpa using I)]at j
    rw[List.getElem?_replicate]at j
    split at j<;>cases j
  have T:m[i]?=some v:=by
   unfold start at j;rw[az (by simpa using I),bg]at j
   cases e:m[i]? with
   | none=>rw[e]at j;cases j
   | some a=>rw[e]at j;cases j;rfl
  obtain⟨u,O,U⟩:=r.get T
  have hp:o[i]?=some y:=by
   rw[<-S.pre,qw (by omega)];exact h1
  have D:o.Nodup:=by rw[<-S.pre];exact S.nd.sublist (ye _ _)
  refine⟨u,U,?_⟩;rcases S.par y (cv hp) with k | k
  ·exact .inl ⟨k,oY D hp O k⟩
  ·obtain⟨c,e⟩:=kBN (n:=s.heap.objs.size+1) k
   refine .inr ⟨.inl k,c,e,?_⟩;have q:=x.cell y c e;rw[pD D hp O (by show d.names.lookup y≠_;rw[k];decide)]at q;exact q
 ·exact l.hok.fresh (gh (x.above y c (mo h)))
 ·unfold start
  show _=N.length;rw[bq,ai,ya];omega
def kUH{CX:CXT}{P:eo}{w:iJ}{K:ay}{mg:Str->Option ar}{base:iS}{k:Nat}{f:au}{name c:Str}{g:Arguments}{h:List ph}{a:wg}{dV kV C pm d ct oc:ar}{an od:Option au}
  {T:Array (Option ar)} {N L:List Str} {sp:Sp} (lk:K.lookup f=some ⟨oc,od,.func (uw name c g h a dV kV C pm an d ct),T⟩) (U:BW K d c=true) (S:FnScope N L a)
  (len:∀ j H Q E,sp j H Q E->j.length=L.length)
  (m:∀(A:gj)(outer:List Env)(s:av)(H:Hp)(j:List V)(Q:VK)(E:XK),Room k (A.deeper (envOfC c a s.heap.objs.size f d))->sp j H Q E ->
   ∃ t,PSs (qY CX P w K mg base N c a f d A outer s H E) h t/\t {nx:=λ _ H'=>Q .non H',rt:=Q} (start N j) H) :
  FnOk P w K mg base CX (k+1) f (uw name c g h a dV kV C pm an d ct) L sp:=by
 refine⟨len,λ A outer s H Z us j Q E O G hb r B=>?_⟩;have hl:=len _ _ _ _ B;have KX:K.In s.heap:=G.mod.kin.keeps λ b o e=>(G.bs b o e).1;have Y:s.heap.NoLimit:=G.mod.nolimit.keeps λ b o e=>(G.bs b o e).1
 have l:∀ y∈L.zip us,a.names.lookup y.1=some .local\/(a.names.lookup y.1=some .cell/\((cellsFrom (s.heap.objs.size+1) a.names []).lookup y.1).isSome=true):=λ⟨n,v⟩ hy=>by
  rcases S.par n (zt hy).1 with q | q
  ·exact .inl q
  ·exact .inr ⟨q,CO _ _ _ (.inl q)⟩
 refine codeAny_call_function O.depth (KX _ _ lk) rfl S.co S.gen rfl (PySem.W.codeRec_of KX U) (hb _ _ _ _ ?_);refine wpAny_newFunctionEnv_cells S.kind l λ a0 he s1 x=>?_;subst he;refine⟨Y.keeps x.toInCall.keep,codeAny_func ?_⟩;obtain⟨t,ht,hq⟩:=m A outer s H j Q E (O.deeper _) B;have I:Inv (qY CX P w K mg base N c a f d A outer s H E) [] (start N j) H s1:=kIG S O.hd G hl r x;refine vj (ht [] s1 (start N j) H _ I hq) (λ fl M p=>?_) λ e M p=>p
 have D:∀{i:St}{H':Hp}{v:V}{u:ar},Inv (qY CX P w K mg base N c a f d A outer s H E) [] i H' M->RelV v u->Q v H'->CE outer P w H s Q u M :=
  λ{i H' v u} J X q=>⟨v,H',J.os,J.bare,J.base,J.hok,X,q⟩
 cases fl with
 | ret u =>
  obtain⟨v,i,H',J,X,q⟩:=p;exact D J X q
 | next =>
  obtain⟨i,H',J,q⟩:=p;exact D (v:=V.non) (u:=AA) J rfl q
 | brk =>
  obtain⟨_,_,_,q⟩:=p;exact xc q
 | cont =>
  obtain⟨_,_,_,q⟩:=p;exact xc q
section
variable {X:Cx} {x:Str} {p pos:Pos} {e:iO} {es:List iO} {t:TA} {id T:String} {r:List V->Hp->VK->Prop}
def tCB(r:List V->Hp->VK->Prop)(t:TA):TE:=λ c H Q=>t c H λ b a=>r b a Q
def kR(q:yX X (.builtin id) r)(B:Gl X x)(o:X.mg x=none)(A:bootBuiltins x=some (.builtin id))(l:PA X (e::es) t)(j:x≠"__name__":=by decide)(b:(x == ("__debug__" : Str))=false:=by decide)
  (v:starEach (e::es) X.env=(false,eval e X.env)::starEach es X.env:=by rfl) (c:(backTo pos (starEach es X.env)).any (·.1)=false:=by rfl):PE X (.Call (.Name x p) (e::es) [] pos) (tCB r t):=by
 intro a s d H Q I h;refine BV (zM I B o A ?_ j b);exact EG (thn (l pos a s d H _ I h) λ y g ⟨m,f,i,u,n⟩=>q a g d f m y Q i u n) v c
def xI(q:yX X (.type T) r)(B:Gl X x)(o:X.mg x=none)(A:bootBuiltins x=some (.type T))(l:PA X (e::es) t)(j:x≠"__name__":=by decide)(b:(x == ("__debug__" : Str))=false:=by decide)
  (v:starEach (e::es) X.env=(false,eval e X.env)::starEach es X.env:=by rfl) (c:(backTo pos (starEach es X.env)).any (·.1)=false:=by rfl):PE X (.Call (.Name x p) (e::es) [] pos) (tCB r t):=by
 intro a s d H Q I h;refine BV (zM I B o A ?_ j b);exact iU (thn (l pos a s d H _ I h) λ y g ⟨m,f,i,u,n⟩=>q a g d f m y Q i u n) v c
end
end L2
namespace HT
open PySem PyProof.Rows
section
open PySem.SeqAt
open PySem.AutoSeq1 (wpAny_loadPart')
open PySem.MeetsSeq PySem.MeetsSeq2 PySem.MeetsSeq3
end
section
variable {prog:eo} {w:iJ} {A:gj} {E:ar->av->Prop} {s:av}
def cat_tup{t b:au}{d a:List ar}{Q:ar->av->Prop}(B:Ed s.heap t d.toArray)(y:Ed s.heap b a.toArray)(v:d≠[])
  (h1:a=[]->Q (.ref t) s) (x:a≠[]->Q (.ref s.heap.objs.size) {s with heap:=s.heap.push {cls:=.type "tuple",data:=.seq (d++a).toArray}})
  (hsz:d.length+a.length<=sizeLine):dw (model prog w) A (binaryOp .Add (.ref t) (.ref b)) Q E s:=by
 obtain⟨⟨cls,r,data,u⟩,l,p,n,o⟩:=id B;obtain⟨⟨m,h,data2,g⟩,c,f,q,i⟩:=id y;simp only at p o f i;subst p o f i;have e:d.toArray++a.toArray=(d++a).toArray:=by simp
 by_cases j:a=[]
 ·exact Dc ⟨_,l,rfl⟩ ⟨_,c,rfl⟩ CF DH AK AF (zh _ _)
   (tuple_addW1 t b d.toArray a.toArray n q r h u g (by simpa using v) (by simp[j])) ⟨l,c,h1 j⟩
 ·refine Dc ⟨_,l,rfl⟩ ⟨_,c,rfl⟩ CF DH AK AF (zh _ _)
   (tuple_addW2 t b d.toArray a.toArray n q r h u g (by simpa using v) (by simpa using j) (by rw[fj,fj];exact hsz)) ⟨l,c,?_⟩
  rw[e];exact x j
def sIx(n d:Nat):Option Int->Nat
 | none=>d
 | some v=>if v<0 then(v+(n:Int)).toNat else min v.toNat n
def sIx_none(n d:Nat):sIx n d none=d:=rfl
def sIx_nat(n d k:Nat):sIx n d (some (k:Int))=min k n:=by
 show(if(k:Int)<0 then((k:Int)+(n:Int)).toNat else min (k:Int).toNat n)=min k n;rw[if_neg (by omega),iL]
def kQX(n d:Nat)(b:d<=n)(o:Option Int):sIx n d o<=n:=by
 cases o with
 | none=>exact b
 | some v =>
  show(if v<0 then(v+(n:Int)).toNat else min v.toNat n)<=n;by_cases a:v<0
  ·rw[if_pos a];omega
  ·rw[if_neg a];exact Nat.min_le_right _ _
def kGF(v:Int)(n d:Nat):(if v<0 then max (v+(n:Int)) 0 else min v (n:Int))=((sIx n d (some v):Nat):Int):=by
 show(if v<0 then max (v+(n:Int)) 0 else min v (n:Int))=(((if v<0 then(v+(n:Int)).toNat else min v.toNat n):Nat):Int);by_cases a:v<0
 ·simp only[if_pos a];omega
 ·simp only[if_neg a];omega
def kDU(lo hi:Option Int)(n:Nat):yy lo hi 1 (n:Int)=(((sIx n 0 lo:Nat):Int),((sIx n n hi:Nat):Int)):=by
 have h1:¬ ((1:Int)<0):=by omega
 unfold yy;simp only[h1,if_false];refine wj ?_ ?_
 ·cases lo with
  | none=>rfl
  | some v=>exact kGF v n 0
 ·cases hi with
  | none=>rfl
  | some v=>exact kGF v n n
def kCS(i j:Nat):ui (i:Int) (j:Int) 1=j-i:=by
 unfold ui;have h1:(1:Int)>0:=by omega
 simp only[h1,if_true,Int.ediv_one]
 split<;>omega
def fW{v:ar}{o:Option Int}{Q:Option Int->av->Prop}(p:CP v o)(h:Q o s):dw (model prog w) A (EV v) Q E s:=by
 cases p with
 | none=>exact El h
 | int i t=>exact slicePart_int h
def sliceApplied_gen{f:au}{c d:ar}{lo hi:Option Int}{n:Nat}{Q:Int×Int×Nat->av->Prop}(l:s.heap.IsSliceOf f c d .none)(g:CP c lo)(i:CP d hi)
  (h:Q (((sIx n 0 lo:Nat):Int),1,sIx n n hi-sIx n 0 lo) s):dw (model prog w) A (BX (.ref f) (pure (n:Int))) Q E s:=by
 obtain⟨os,a,j,b⟩:=id l;unfold BX FM;refine ae (ae (ip a b (x:=c) rfl (ae (ip a b (x:=d) rfl (ae (ip a b (x:=.none) rfl (bj ?_)))))));refine ae (El ?_);show dw _ _ (if((1:Int) == 0)=true then _ else _) _ _ s;rw[if_neg (by decide)];refine ae (fW g (ae (fW i (ae (bj ?_)))));show dw _ _ (match yy lo hi 1 (n:Int) with | (lo,hi)=>pure (lo,(1:Int),ui lo hi 1)) _ _ s
 rw[kDU lo hi n];show dw _ _ (pure (((sIx n 0 lo:Nat):Int),(1:Int),ui ((sIx n 0 lo:Nat):Int) ((sIx n n hi:Nat):Int) 1)) _ _ s;rw[kCS];exact bj h
def kLB(xs:Array ar)(i k:Nat):((cw k).filterMap λ(m:Nat)=>xs[((i:Int)+(m:Int)*1).toNat]?).toArray=((xs.toList.drop i).take k).toArray:=by
 have e:(λ(m:Nat)=>xs[((i:Int)+(m:Int)*1).toNat]?)=λ m=>xs[i+m]?:=by
  funext m
  have:((i:Int)+(m:Int)*1).toNat=i+m:=by omega
  rw[this]
 rw[e];have:=pick_run xs i k;rw[List.filterMap_map]at this;have a:((λ x=>xs[x]?)∘λ x=>i+x)=λ m=>xs[i+m]?:=rfl;rw[a]at this;rw[this]
def getItem_tuple_cut{t c:au}{items:Array ar}{j l:ar}{lo hi:Option Int}{Q:ar->av->Prop}(b:Ed s.heap t items)(n:s.heap.IsSliceOf c j l .none)(o:CP j lo)(p:CP l hi)
  (u:¬ (sIx items.size 0 lo=0/\sIx items.size items.size hi=items.size))
  (h:Q (.ref s.heap.objs.size) {s with heap:=s.heap.push {cls:=.type "tuple",data:=.seq ((items.toList.drop (sIx items.size 0 lo)).take (sIx items.size items.size hi-sIx items.size 0 lo)).toArray}})
  (hsz:items.size<=sizeLine):dw (model prog w) A (getItem (.ref t) (.ref c)) Q E s:=by
 have a:sizeOk (.seq ((items.toList.drop (sIx items.size 0 lo)).take (sIx items.size items.size hi-sIx items.size 0 lo)).toArray):=by
  show((items.toList.drop (sIx items.size 0 lo)).take (sIx items.size items.size hi-sIx items.size 0 lo)).toArray.size<=sizeLine;rw[fj,dc,iR,iK];omega
 have x:sIx items.size items.size hi<=items.size:=kQX _ _ (be _) hi;obtain⟨os,g,i,r⟩:=id n;have f:s.TypeIs (.ref c) "slice":=⟨os,g,i⟩;unfold getItem
 try with_reducible refine md ?_
 first | refine ae (bj ?_) | skip
 refine ae (De b.typeIs (by decide) ?_)
 refine ae (jz (name:=xh "__getitem__") b.typeIs jq
  (mf jq b.typeIs DB ?_ (DN _ _)))
 show dw _ _ (BY (.ref t) >>= _) _ _ s;refine ae (tupleItemsOf_ b ?_);refine ae (AL f ?_);rw[if_pos (by decide)];refine ae (sliceApplied_gen n o p ?_)
 have d:¬ ((((sIx items.size 0 lo:Nat):Int) == 0 && (1:Int) == 1 && (sIx items.size items.size hi-sIx items.size 0 lo) == items.size)=true):=by
  intro q;rw[iQ,iQ]at q;have v:((sIx items.size 0 lo:Nat):Int)=0:=eq_of_beq q.1.1;have y:sIx items.size items.size hi-sIx items.size 0 lo=items.size:=eq_of_beq q.2;exact u ⟨by omega,by omega⟩
 show dw _ _ (if(((sIx items.size 0 lo:Nat):Int) == 0 && (1:Int) == 1 && (sIx items.size items.size hi-sIx items.size 0 lo) == items.size)=true then _ else _) _ _ s;rw[if_neg d,kLB]
 first
  | exact ae (m:=vw _) (iz (bj ⟨_,rfl,bj h⟩) a)
  | exact ae (m:=vw _) (iz (ae (bj (bj ⟨_,rfl,bj h⟩))) a)
  | exact ae (ae (m:=vw _) (iz (bj (bj ⟨_,rfl,bj h⟩)) a))
  | exact ae (ae (m:=vw _) (iz (bj ⟨_,rfl,bj h⟩) a))
end
end HT
namespace L2
open PySem PySem.Spec PyProof.Rows
abbrev TO:=St->Hp->(Option Int->Hp->Prop)->Prop
def PO(X:Cx)(e:Option iO)(t:TO):Prop :=
 ∀(pins:List (au×Obj))(s:av)(σ:St)(H:Hp)(Q:Option Int->Hp->Prop),Inv X pins σ H s->t σ H Q ->
  dw (model X.prog X.w) X.A (evalPart e X.env) (λ u b=>∃ o a,Inv X pins σ a b/\CP u o/\Q o a) X.xe s
def kNM:TO:=λ _ H Q=>Q none H
inductive kJO(Q:Option Int->Hp->Prop)(x:V)(H1:Hp):Prop
 | mk:∀ i,(x=.int i)->(Q (some i) H1)->kJO Q x H1
def kSY(t:TE):TO:=λ b H Q=>t b H λ x a=>kJO Q x a
section
variable {X:Cx} {e:iO} {te:TE} {lo hi:Option iO} {tl th:TO} {pos p2:Pos}
def qU:PO X none kNM:=by
 intro a s b H Q I h;rw[evalPart_none];exact bj ⟨none,H,I,.none,h⟩
def kZ(h:PE X e te):PO X (some e) (kSY te):=by
 intro a s f H Q I j;rw[evalPart_some];refine thn (h a s f H _ I j) λ u l ⟨x,c,g,d,b⟩=>?_;obtain⟨i,rfl,q⟩:=b;obtain⟨t,rfl⟩:=d;exact⟨some i,c,g,.int i t,q⟩
def SlR(X:Cx)(r:V->Option Int->Option Int->Hp->VK->Prop):Prop :=
 ∀(pins:List (au×Obj))(s:av)(σ:St)(H:Hp)(x:V)(v vl vu:ar)(lo hi:Option Int)(sl:au)(Q:VK),Inv X pins σ H s->RelV x v->s.heap.IsSliceOf sl vl vu .none->CP vl lo->CP vu hi->r x lo hi H Q ->
  ∃ T id,typeLookup (.type T) "__getitem__" = pure (some (.builtin id))/\s.TypeIs v T/\dw (model X.prog X.w) X.A (getItem v (.ref sl)) (EP X pins σ Q) X.xe s
def SlR.or{r r':V->Option Int->Option Int->Hp->VK->Prop}(h:SlR X r)(h':SlR X r'):SlR X (λ x lo hi H Q=>r x lo hi H Q\/r' x lo hi H Q):=by
 intro a s i H x v g j lo hi b Q I f l c d q;rcases q with q | q
 ·exact h a s i H x v g j lo hi b Q I f l c d q
 ·exact h' a s i H x v g j lo hi b Q I f l c d q
def tSl(r:V->Option Int->Option Int->Hp->VK->Prop)(b:TE)(h d:TO):TE:=λ a H Q=>b a H λ x c=>h a c λ l g=>d a g λ u f=>r x l u f Q
def qB{r:V->Option Int->Option Int->Hp->VK->Prop}(hr:SlR X r)(O:PE X e te)(G:PO X lo tl)(S:PO X hi th):PE X (.Subscript e (.Slice lo hi none p2) pos) (tSl r te tl th):=by
 intro a s d H Q I h;refine Em (thn (O a s d H _ I h) λ v o ⟨x,n,p,N,L⟩=>?_);refine wpAny_Slice (thn (G a o d n _ p L) λ f y ⟨l,B,U,j,D⟩=>thn (S a y d B _ U D) λ g c ⟨u,i,M,C,Y⟩=>?_);rw[evalPart_none];refine bj ?_;have Z:Inv X a d i {c with heap:=c.heap.push {cls:=.type "slice",data:=.fields #[f,g,.none]}}:=M.kept (t':=c.toks) λ b ob q=>ao _ q
 obtain⟨T,id,m,J,hg⟩:=hr a {c with heap:=c.heap.push {cls:=.type "slice",data:=.fields #[f,g,.none]}} d i x v f g l u c.heap.objs.size Q Z N (Ga ..) j C Y
 show dw (model X.prog X.w) X.A (subscriptTail e (.Slice lo hi none p2) v (.ref c.heap.objs.size)) (EP X a d Q) X.xe {c with heap:=c.heap.push {cls:=.type "slice",data:=.fields #[f,g,.none]}}
 exact tail_any (ops:=[.ref c.heap.objs.size,v]) J m hg (by with_unfolding_all rfl)
def jV(xs:List V)(lo hi:Option Int):List V:=(xs.drop (HT.sIx xs.length 0 lo)).take (HT.sIx xs.length xs.length hi-HT.sIx xs.length 0 lo)
def dI(xs:List V)(lo hi:Option Int):(jV xs lo hi).length<=xs.length:=by
 unfold jV;rw[dc,iR];omega
inductive kRB(K:ay)(x:V)(lo:Option Int)(hi:Option Int)(H:Hp)(Q:VK):Prop
 | mk:∀ a xs,(x=.ref a)->(SqT K H a xs)->(¬ (HT.sIx xs.length 0 lo=0/\HT.sIx xs.length xs.length hi=xs.length))->(∀ p,H p=none->Q (.ref p) (upd H p (.tup (jV xs lo hi))))->kRB K x lo hi H Q
def sl_tup:SlR X (kRB X.K):=by
 intro j s B H x v C G lo g J Q I y n m u h;obtain⟨a,d,rfl,A,p,q⟩:=h;cases y
 obtain⟨f,r,l,i⟩:=I.tuple A;have c:f.toArray.size=d.length:=by rw[fj];exact r.length.symm
 refine⟨"tuple",_,jq.lookup,l.typeIs,?_⟩;refine HT.getItem_tuple_cut l n m u (by rw[c];exact p) ?_ (by rw[c];exact i);rw[c];refine⟨.ref s.heap.objs.size,_,I.laid (t':=s.toks) (o:=.tup (jV d lo g)) (λ b D q=>ao _ q) (be _) ?_,rfl,q _ (I.hok.fresh (be _))⟩;exact⟨jt (dI d lo g) i,_,(r.drop (HT.sIx d.length 0 lo)).take (HT.sIx d.length d.length g-HT.sIx d.length 0 lo),IsTupN.new _ _⟩
inductive kQA(K:ay)(x:V)(y:V)(H:Hp)(Q:VK):Prop
 | mk:∀ a b xs ys,(x=.ref a)->(y=.ref b)->(SqT K H a xs)->(SqT K H b ys)->(xs≠[])->(xs.length+ys.length<=sizeLine)->((ys=[]->Q (.ref a) H))->((ys≠[]->∀ p,H p=none->Q (.ref p) (upd H p (.tup (xs++ys)))))->kQA K x y H Q
def Vals.nil_iff{xs:List V}{a:List ar}(r:Vals xs a):a=[]↔xs=[]:=by
 cases r with
 | nil=>simp
 | cons _ _=>simp
def kOL:OpR X (binaryOp .Add) (kQA X.K):=by
 intro i s G H x y v u Q I p C h;obtain⟨a,b,B,D,rfl,rfl,l,r,A,f,n,m⟩:=h;cases p
 cases C
 obtain⟨j,d,p1,_⟩:=I.tuple l;obtain⟨g,c,p2,_⟩:=I.tuple r;refine HT.cat_tup p1 p2 (λ z=>A (d.nil_iff.mp z)) (λ z=>⟨.ref a,H,I,rfl,n (c.nil_iff.mp z)⟩) (λ z=>?_) (by rw[<-d.length,<-c.length];exact f);refine⟨.ref s.heap.objs.size,_,I.laid (t':=s.toks) (o:=.tup (B++D)) (λ b J q=>ao _ q) (be _) ?_,rfl,m (λ w=>z (c.nil_iff.mpr w)) _ (I.hok.fresh (be _))⟩;exact⟨by rw[bq];exact f,_,d.append c,IsTupN.new _ _⟩
end
def ixN(n:Nat)(i:Int):Option Nat:=if 0<=i then(if i<n then some i.toNat else none) else if -(n:Int)<=i then some (i+n).toNat else none
def atI{α:Type}(xs:List α)(i:Int):Option α:=(ixN xs.length i).bind λ j=>xs[j]?
def kFM{n:Nat}{i:Int}{j:Nat}(h:ixN n i=some j):seqIndex? i n=some j/\j<n/\-(n:Int)<=i/\i<n:=by
 unfold ixN at h;by_cases h0:0<=i
 ·rw[if_pos h0]at h
  by_cases h1:i<n
  ·rw[if_pos h1]at h
   have e:i.toNat=j:=bh h;exact⟨by rw[ER h0 h1,e],by omega,by omega,h1⟩
  ·rw[if_neg h1]at h;cases h
 ·rw[if_neg h0]at h
  by_cases h1 : -(n:Int)<=i
  ·rw[if_pos h1]at h
   have e:(i+n).toNat=j:=bh h;exact⟨by rw[Df (by omega) h1,e],by omega,h1,by omega⟩
  ·rw[if_neg h1]at h;cases h
def kGJ{α:Type}{xs:List α}{i:Int}{v:α}(h:atI xs i=some v):∃ j,seqIndex? i xs.length=some j/\xs[j]?=some v/\j<xs.length/\-(xs.length:Int)<=i/\i<xs.length:=by
 unfold atI at h
 cases e:ixN xs.length i with
 | none=>rw[e]at h;cases h
 | some j =>
  rw[e]at h;obtain⟨h1,b,c,a⟩:=kFM e;exact⟨j,h1,h,b,c,a⟩
def qS{α:Type}{xs:List α}{j:Nat}{v:α}(h:xs[j]?=some v):atI xs (j:Int)=some v:=by
 have a:j<xs.length:=(aj.mp h).1
 have e:ixN xs.length (j:Int)=some j:=by
  unfold ixN;rw[if_pos (by omega),if_pos (by omega)];simp
 unfold atI;rw[e];exact h
def yJ{α:Type}(xs:List α)(v:α):atI (xs++[v]) (-1)=some v:=by
 have a:(xs++[v]).length=xs.length+1:=by simp
 have e:ixN (xs++[v]).length (-1)=some xs.length:=by
  unfold ixN;rw[a,if_neg (by decide),if_pos (by omega)]
  congr 1
  omega
 unfold atI;rw[e];show(xs++[v])[xs.length]?=some v;simp
def kGO(b:iO):Prop:=∀ o i,subscripted b false o i=operate [o,i] (getItem o i)
def IxR(X:Cx)(r:R2):Prop :=
 ∀(value a:iO)(pins:List (au×Obj))(s:av)(σ:St)(H:Hp)(x y:V)(v u:ar)(Q:VK),Inv X pins σ H s->RelV x v->RelV y u->r x y H Q ->
  subscripted a false v u=operate [v,u] (getItem v u)->dw (model X.prog X.w) X.A (subscriptTail value a v u) (EP X pins σ Q) X.xe s
def MtR(X:Cx)(id:String)(r:V->List V->Hp->VK->Prop):Prop :=
 ∀(pins:List (au×Obj))(s:av)(σ:St)(H:Hp)(x:V)(xs:List V)(v:ar)(us:List ar)(Q:VK),Inv X pins σ H s->RelV x v->Vals xs us->r x xs H Q ->
  dw (model X.prog X.w) X.A (call (.builtin id) (v::us)) (EP X pins σ Q) X.xe s
section
variable {X:Cx} {a b:iO} {ta tb:TE} {pos:Pos}
def kTQ{r:R2}(p:IxR X r)(j:PE X a ta)(m:PE X b tb)(f:kGO b):PE X (.Subscript a b pos) (tOp r ta tb):=by
 intro c s d H Q I h;exact Em (kSR j m I h λ v u g x y i o l n q=>p a b c g d i x y v u Q o l n q (f _ _))
inductive kRD(K:ay)(x:V)(y:V)(H:Hp)(Q:VK):Prop
 | mk:∀ p xs i v,(x=.ref p)->(y=.int i)->(SqL K H p xs)->(atI xs i=some v)->(Q v H)->kRD K x y H Q
inductive kCQ(K:ay)(x:V)(y:V)(H:Hp)(Q:VK):Prop
 | mk:∀ p xs i v,(x=.ref p)->(y=.int i)->(SqT K H p xs)->(atI xs i=some v)->(Q v H)->kCQ K x y H Q
def kW:IxR X (kRD X.K):=by
 intro value d a s m H x y v u Q I D M h n;obtain⟨p,U,i,z,rfl,rfl,N,J,q⟩:=h;cases D
 obtain⟨t,rfl⟩:=M;obtain⟨f,r,c,S⟩:=I.list N;obtain⟨j,h1,C,T,G,L⟩:=kGJ J;obtain⟨w,o,l⟩:=r.get C;have B:=r.length;have O:=cK;have b:EP X a m Q w s:=⟨z,H,I,l,q⟩;by_cases h0:0<=i
 ·have g:i.toNat=j:=by
   rw[ER h0 L]at h1;exact bh h1
  exact item_listR c.isList h0 (by omega) (by rw[g];simpa using o) b n
 ·have g:(i+(f.toArray.size:Int)).toNat=j:=by
   rw[Df (by omega) G]at h1;rw[fj,<-B];exact bh h1
  exact CQ (x:=w) c.isList.typeIs Dg.lookup
   (wpAny_getItem_list_neg (Q:=λ r A=>r=w/\EP X a m Q r A) c.isList (by omega) (by rw[fj]<;>omega) (by omega) (by rw[g];simpa using o) ⟨rfl,b⟩) n
def qC:IxR X (kCQ X.K):=by
 intro value b a s g H x y v u Q I C G h n;obtain⟨p,S,i,z,rfl,rfl,J,D,q⟩:=h;cases C
 obtain⟨t,rfl⟩:=G;obtain⟨m,r,f,M⟩:=I.tuple J;obtain⟨j,h1,A,N,O,T⟩:=kGJ D;obtain⟨w,B,d⟩:=r.get A;have o:=r.length;have L:=cK;have c:EP X a g Q w s:=⟨z,H,I,d,q⟩
 exact CQ (x:=w) f.typeIs slot_tuple_getitem.lookup
  (getItem_tuple (j:=j) (Q:=λ r l=>r=w/\EP X a g Q r l) f (by omega) (by omega) (by rw[fj,<-o];exact h1) (by simpa using B) ⟨rfl,c⟩) n
def kDE(a:List ar)(n j:Nat)(u:ar):ua (·.setIfInBounds j u) {cls:=.type "list",data:=.seq a.toArray n}={cls:=.type "list",data:=.seq (a.set j u).toArray n}:=by
 simp[ua]
theorem Inv.lst{b:List (au×Obj)}{c:St}{H:Hp}{s:av}{p:au}{xs:List V}(I:Inv X b c H s)(h:H p=some (.lst xs)) :
  ∃(a:List ar)(n:Nat),Vals xs a/\s.heap.get? p=some {cls:=.type "list",data:=.seq a.toArray n}/\xs.length<=sizeLine:=by
 obtain⟨z,a,n,r,e⟩:=I.hok p _ h;exact⟨a,n,r,e,z⟩
def Inv.lstUpd{a:List (au×Obj)}{i:St}{H:Hp}{s:av}{p:au}{xs ys:List V}{c its':List ar}{n d:Nat}{f:Obj->Obj}(I:Inv X a i H s)(h:H p=some (.lst xs))
  (j:s.heap.get? p=some {cls:=.type "list",data:=.seq c.toArray n}) (g:f {cls:=.type "list",data:=.seq c.toArray n}={cls:=.type "list",data:=.seq its'.toArray d}) (r:Vals ys its') (hz:ys.length<=sizeLine) (t:Nat) :
  Inv X a i (upd H p (.lst ys)) {s with heap:=s.heap.update p f,toks:=t}:=by
 have e:(s.heap.update p f).get? p=some {cls:=.type "list",data:=.seq its'.toArray d}:=by
  rw[qk f j (by rw[g]<;>rfl),g]
 refine I.write (x:=p) (e:=p) (by rw[h];trivial) (.inl rfl) (λ b u l q=>(CT _ _ (pe l)).trans q) ⟨_,e⟩ ?_;exact⟨hz,its',d,r,e⟩
inductive kPY(o:V)(i:V)(v:V)(H:Hp)(Q:Hp->Prop):Prop
 | mk:∀ p xs k j,(o=.ref p)->(i=.int k)->(H p=some (.lst xs))->(ixN xs.length k=some j)->(Q (upd H p (.lst (xs.set j v))))->kPY o i v H Q
def vV:kUO X kPY:=by
 intro b s x H o i v N M u Q I D G B h;obtain⟨p,C,k,j,rfl,rfl,hp,y,q⟩:=h;cases D
 obtain⟨t,rfl⟩:=G;obtain⟨a,n,r,f,A⟩:=I.lst hp;obtain⟨h1,L,g,m⟩:=kFM y;have d:=r.length;have J:=cK
 have l:Inv X b x (upd H p (.lst (C.set j v))) {s with heap:=s.heap.update p (ua (·.setIfInBounds j u))} :=
  I.lstUpd hp f (kDE a n j u) (r.set B j) (by rw[AB];exact A) s.toks
 by_cases h0:0<=k
 ·have c:k.toNat=j:=by
   rw[ER h0 m]at h1;exact bh h1
  exact PySem.W.ki_setAt f h0 (by omega) (by rw[fj,<-d];exact m) (by rw[c];exact⟨_,l,q⟩)
 ·have c:(k+(a.toArray.size:Int)).toNat=j:=by
   rw[Df (by omega) g]at h1;rw[fj,<-d];exact bh h1
  exact PySem.W.ki_setBack f (by omega) (by rw[fj,<-d];exact g) (by omega) (by rw[c];exact⟨_,l,q⟩)
def pK(lo hi:Option Int)(n:Nat):(sliceBounds lo hi none n).1=((HT.sIx n 0 lo:Nat):Int)/\(sliceBounds lo hi none n).2.1=((HT.sIx n n hi:Nat):Int)/\(sliceBounds lo hi none n).2.2=1:=by
 refine⟨?_,?_,rfl⟩
 ·cases lo with
  | none=>simp[sliceBounds,HT.sIx]
  | some i =>
   simp only[sliceBounds,HT.sIx,EH,show(1:Int)>0 by decide,if_true];by_cases h:i<0
   ·simp only[h,if_true]<;>omega
   ·simp only[h,if_false]<;>omega
 ·cases hi with
  | none=>simp[sliceBounds,HT.sIx]
  | some i =>
   simp only[sliceBounds,HT.sIx,EH,show(1:Int)>0 by decide,if_true];by_cases h:i<0
   ·simp only[h,if_true]<;>omega
   ·simp only[h,if_false]<;>omega
def mP(a:List ar)(lo hi:Option Int):slicePick a.toArray lo hi none=((a.drop (HT.sIx a.length 0 lo)).take (HT.sIx a.length a.length hi-HT.sIx a.length 0 lo)).toArray:=by
 obtain⟨h1,c,b⟩:=pK lo hi a.toArray.size;unfold slicePick;rw[h1,c,b];simp only[sliceRange_one,pick_run,fj]<;>rfl
inductive kTN(K:ay)(x:V)(lo:Option Int)(hi:Option Int)(H:Hp)(Q:VK):Prop
 | mk:∀ a xs,(x=.ref a)->(SqL K H a xs)->(∀ p,H p=none->Q (.ref p) (upd H p (.lst (jV xs lo hi))))->kTN K x lo hi H Q
def jE:SlR X (kTN X.K):=by
 intro g s A H x v B D lo f G Q I u m j n h;obtain⟨a,c,rfl,y,q⟩:=h;cases u
 obtain⟨l,r,i,p⟩:=I.list y;have d:=r.length;refine⟨"list",_,Dg.lookup,i.isList.typeIs,?_⟩;refine wpAny_getItem_list_slice i.isList m j n .none (by simp) ?_ (by rw[fj]<;>omega);rw[mP,<-d];refine⟨.ref s.heap.objs.size,_,I.laid (t':=s.toks) (o:=.lst (jV c lo f)) (λ b C q=>ao _ q) (be _) ?_,rfl,q _ (I.hok.fresh (be _))⟩;exact⟨jt (dI c lo f) p,_,0,(r.drop (HT.sIx c.length 0 lo)).take (HT.sIx c.length c.length f-HT.sIx c.length 0 lo),cg _ rfl⟩
def aB:V->Bool
 | .non=>true
 | .bl _=>true
 | .int _=>true
 | .str _=>true
 | _=>false
def eqV:V->V->Bool
 | .non,.non=>true
 | .bl a,.bl b=>a == b
 | .bl a,.int b=>(if a then 1 else 0) == b
 | .int a,.bl b=>a == (if b then 1 else 0)
 | .int a,.int b=>a == b
 | .str a,.str b=>a == b
 | _,_=>false
def kSO{A:gj}{s:av}{y x:V}{u v:ar}(f:RelV y u)(c:RelV x v)(h:aB y=true)(g:aB x=true):Eo A s u v (eqV y x):=by
 cases y with
 | non =>
  cases f
  cases x with
  | non=>cases c;exact SeqAt.EqAt.same _
  | bl b=>cases c;exact SeqAt.EqAt.none_bool b
  | int b=>obtain⟨t,rfl⟩:=c;exact SeqAt.EqAt.none_int b t
  | str b=>obtain⟨t,rfl⟩:=c;exact SeqAt.EqAt.none_str b t
  | _=>exact absurd (show false=true from g) eK
 | bl a =>
  cases f
  cases x with
  | non=>cases c;exact SeqAt.EqAt.bool_none a
  | bl b=>cases c;exact SeqAt.EqAt.bool_bool a b
  | int b=>obtain⟨t,rfl⟩:=c;exact SeqAt.EqAt.bool_int a b t
  | str b=>obtain⟨t,rfl⟩:=c;exact SeqAt.EqAt.bool_str a b t
  | _=>exact absurd (show false=true from g) eK
 | int a =>
  obtain⟨d,rfl⟩:=f
  cases x with
  | non=>cases c;exact SeqAt.EqAt.int_none a d
  | bl b=>cases c;exact SeqAt.EqAt.int_bool a d b
  | int b=>obtain⟨t,rfl⟩:=c;exact SeqAt.EqAt.int_int a d b t
  | str b=>obtain⟨t,rfl⟩:=c;exact DK a d b t
  | _=>exact absurd (show false=true from g) eK
 | str a =>
  obtain⟨d,rfl⟩:=f
  cases x with
  | non=>cases c;exact SeqAt.EqAt.str_none a d
  | bl b=>cases c;exact SeqAt.EqAt.str_bool a d b
  | int b=>obtain⟨t,rfl⟩:=c;exact DL a d b t
  | str b=>obtain⟨t,rfl⟩:=c;exact SeqAt.EqAt.str_str a d b t
  | _=>exact absurd (show false=true from g) eK
 | _=>exact absurd (show false=true from h) eK
def eqU(x:V)(u:ar):Bool:=match u with
 | .none=>eqV .non x
 | .bool b=>eqV (.bl b) x
 | .int i _=>eqV (.int i) x
 | .str z _=>eqV (.str z) x
 | _=>false
def kMP{x y:V}{u:ar}(r:RelV y u)(f:aB y=true):eqU x u=eqV y x:=by
 cases y with
 | non=>cases r;rfl
 | bl b=>cases r;rfl
 | int i=>obtain⟨t,rfl⟩:=r;rfl
 | str z=>obtain⟨t,rfl⟩:=r;rfl
 | _=>exact absurd (show false=true from f) eK
theorem bW{x:V}:∀{xs:List V}{a:List ar},Vals xs a->xs.all aB=true->a.any (eqU x)=xs.any λ y=>eqV y x
 | _,_,.nil,_=>rfl
 | y::xs,u::a,.cons r t,f=>by
  rw[Ff,iQ]at f;rw[An,An,kMP r f.1,bW t f.2]
theorem uJ{A:gj}{s:av}{x:V}{v:ar}(c:RelV x v)(d:aB x=true):∀{xs:List V}{b:List ar},Vals xs b->xs.all aB=true->∀ u∈b,Eo A s u v (eqU x u)
 | _,_,.nil,_=>λ u a=>by cases a
 | y::xs,u::b,.cons r t,f=>λ g a=>by
  rw[Ff,iQ]at f;rcases dr.mp a with rfl | a
  ·rw[kMP r f.1];exact kSO r c f.1 d
  ·exact uJ c d t f.2 g a
def inV(x:V)(xs:List V):Bool:=xs.any λ y=>eqV y x
inductive rIn(K:ay)(neg:Bool)(x:V)(y:V)(H:Hp)(Q:VK):Prop
 | mk:∀ p xs,(y=.ref p)->((SqL K H p xs\/SqT K H p xs))->(aB x=true)->(xs.all aB=true)->(Q (.bl (if neg then !inV x xs else inV x xs)) H)->rIn K neg x y H Q
def zF:OpR X (compareOp .In) (rIn X.K false):=by
 intro g s m H x y v u Q I f l h;obtain⟨p,n,rfl,b,i,fs,q⟩:=h;cases l
 rcases b with b | b
 ·obtain⟨a,r,c,j⟩:=I.list b
  refine SeqAt.in_listAt (eqU x) c.isList (λ w d=>uJ f i r fs w (by simpa using d)) ⟨.bl _,H,I,rfl,?_⟩;rw[show a.toArray.any (eqU x)=a.any (eqU x) by simp,bW r fs];exact q
 ·obtain⟨a,r,c,j⟩:=I.tuple b
  refine SeqAt.in_tupleAt (eqU x) c (λ w d=>uJ f i r fs w (by simpa using d)) ⟨.bl _,H,I,rfl,?_⟩;rw[show a.toArray.any (eqU x)=a.any (eqU x) by simp,bW r fs];exact q
def vC:OpR X (compareOp .NotIn) (rIn X.K true):=by
 intro g s m H x y v u Q I f l h;obtain⟨p,n,rfl,b,i,fs,q⟩:=h;cases l
 rcases b with b | b
 ·obtain⟨a,r,c,j⟩:=I.list b
  refine SeqAt.notIn_listAt (eqU x) c.isList (λ w d=>uJ f i r fs w (by simpa using d)) ⟨.bl _,H,I,rfl,?_⟩;rw[show a.toArray.any (eqU x)=a.any (eqU x) by simp,bW r fs];exact q
 ·obtain⟨a,r,c,j⟩:=I.tuple b
  refine SeqAt.notIn_tupleAt (eqU x) c (λ w d=>uJ f i r fs w (by simpa using d)) ⟨.bl _,H,I,rfl,?_⟩;rw[show a.toArray.any (eqU x)=a.any (eqU x) by simp,bW r fs];exact q
inductive yO(K:ay)(xs:List V)(H:Hp)(Q:VK):Prop
 | mk:∀ p ys,(xs=[.ref p])->((SqL K H p ys\/SqT K H p ys))->(Q (.int ys.length) H)->yO K xs H Q
def kP:yX X (.builtin "len") (yO X.K):=by
 intro g s m H v o Q I r h;obtain⟨p,i,rfl,b,q⟩:=h;obtain⟨u,rfl,l⟩:=wG r;cases l
 have n:=cK;rcases b with b | b
 ·obtain⟨d,f,c,j⟩:=I.list b
  have a:=f.length;exact Calls.call_len_list c.isList (by simp only[fj]<;>omega) ⟨.int i.length,H,I.tok _,⟨s.toks+1,by rw[fj,a]⟩,q⟩
 ·obtain⟨d,f,c,j⟩:=I.tuple b
  have a:=f.length;exact len_tuple c (by simp only[fj]<;>omega) ⟨.int i.length,H,I.tok _,⟨s.toks+1,by rw[fj,a]⟩,q⟩
inductive aD(K:ay)(xs:List V)(H:Hp)(Q:VK):Prop
 | mk:∀ p ys,(xs=[.ref p])->((SqL K H p ys\/SqT K H p ys))->(∀ l,H l=none->Q (.ref l) (upd H l (.lst ys)))->aD K xs H Q
def sN:yX X (.type "list") (aD X.K):=by
 intro l s G H M L Q I r h;obtain⟨p,B,rfl,v,q⟩:=h;obtain⟨u,rfl,J⟩:=wG r;cases J
 have j:∀(a:List ar),Vals B a->B.length<=sizeLine->∀(c:iS)(d:Nat),(∀ b D,s.heap.get? b=some D->c.get? b=some D) ->
   c.get? s.heap.objs.size=some {cls:=.type "list",dict:=none,data:=.seq a.toArray d,slots:=#[]}->EP X l G Q (.ref s.heap.objs.size) {s with heap:=c}:=λ a f i c d m e =>
  ⟨.ref s.heap.objs.size,_,I.laid (t':=s.toks) m (be _) (show ObjOk X.prog X.w _ c _ (.lst B) from⟨i,a,d,f,e⟩),rfl,q _ (I.hok.fresh (be _))⟩
 rcases v with v | v
 ·obtain⟨a,f,x,i⟩:=I.list v
  have g:=f.length;obtain⟨o,C,A,n,y⟩:=x.isList;exact call_list_seq p (.inl rfl) C A y (λ c d m e=>j a f i c d m e) (by simp only[fj]<;>omega)
 ·obtain⟨a,f,x,i⟩:=I.tuple v
  have g:=f.length;obtain⟨o,C,A,n,y⟩:=x;exact call_list_seq p (.inr rfl) C A y (λ c d m e=>j a f i c d m e) (by simp only[fj]<;>omega)
inductive uN(K:ay)(xs:List V)(H:Hp)(Q:VK):Prop
 | mk:∀ p ys,(xs=[.ref p])->(((SqL K H p ys/\∀ l,H l=none->Q (.ref l) (upd H l (.tup ys)))\/(SqT K H p ys/\Q (.ref p) H)))->uN K xs H Q
def jK:yX X (.type "tuple") (uN X.K):=by
 intro a s j H C B Q I r h;obtain⟨p,v,rfl,h⟩:=h;obtain⟨u,rfl,x⟩:=wG r;cases x
 rcases h with⟨i,q⟩ | ⟨i,q⟩
 ·obtain⟨c,g,f,n⟩:=I.list i
  have m:=g.length;refine call_tuple_list f.isList (λ d y=>?_) (by simp only[fj]<;>omega);have l:Inv X a j H {s with heap:=d}:=I.kept (t':=s.toks) y
  have A:Inv X a j (upd H d.objs.size (.tup v)) {s with heap:=d.push {cls:=.type "tuple",data:=.seq c.toArray}} :=
   l.laid (t':=s.toks) (λ b o e=>ao _ e) (be _) (show ObjOk X.prog X.w _ _ _ (.tup v) from⟨n,c,g,IsTupN.new _ _⟩)
  exact⟨.ref d.objs.size,_,A,rfl,q _ (l.hok.fresh (be _))⟩
 ·obtain⟨c,g,f,n⟩:=I.tuple i
  exact call_tuple_same f ⟨.ref p,H,I,rfl,q⟩
def tyV(K:ay)(T:String)(x:V)(H:Hp):Prop:=match x with
 | .str _=>T = "str"
 | .int _=>T = "int"
 | .ref p=>(T = "list"/\∃ b,SqL K H p b)\/(T = "tuple"/\((∃ o,K.lookup p=some o/\o.cls=.type "tuple"/\o.dict=none)\/∃ b,H p=some (.tup b))) \/
   (T = "dict"/\((∃ a,H p=some (.dK a))\/∃ a,H p=some (.dT a)))\/(T = "set"/\∃ S n,H p=some (.set S n))
 | _=>False
def kQP{h:List (au×Obj)}{B:St}{H:Hp}{s:av}{T:String}{x:V}{v:ar}(I:Inv X h B H s)(r:RelV x v)(j:tyV X.K T x H) :
  s.TypeIs v T/\∀ a,v=.ref a->∃ ob,s.heap.get? a=some ob/\ob.dict=none:=by
 cases x with
 | str z =>
  obtain⟨t,rfl⟩:=r
  cases(show T = "str" from j)
  exact⟨typeIs_str s z t,λ _ e=>nomatch e⟩
 | int i =>
  obtain⟨t,rfl⟩:=r
  cases(show T = "int" from j)
  exact⟨Ep s i t,λ _ e=>nomatch e⟩
 | ref p =>
  cases r
  rcases j with⟨rfl,y,q⟩ | ⟨rfl,⟨o,b,A,f⟩ | ⟨y,q⟩⟩ | ⟨rfl,b⟩ | ⟨rfl,S,n,b⟩
  ·obtain⟨l,_,u,_⟩:=I.list q
   refine⟨u.isList.typeIs,λ a e=>?_⟩;cases e
   obtain⟨o,n,e,c,f,_⟩:=u;exact⟨o,e,f⟩
  ·refine⟨⟨o,I.kIn p o b,A⟩,λ a e=>?_⟩
   cases e
   exact⟨o,I.kIn _ o b,f⟩
  ·obtain⟨_,l,_,o,e,c,n,_,f⟩:=(show ObjOk X.prog X.w H s.heap p (.tup y) from I.hok p _ q)
   refine⟨⟨o,e,c⟩,λ a g=>?_⟩;cases g
   exact⟨o,e,f⟩
  ·have z:∃ o,s.heap.get? p=some o/\o.ExactDict:=by
    rcases b with⟨m,b⟩ | ⟨m,b⟩
    ·obtain⟨_,_,_,_,o,_,_,e,d,_⟩:=I.hok p _ b
     exact⟨o,e,d⟩
    ·obtain⟨_,_,_,_,o,_,_,e,d,_⟩:=I.hok p _ b
     exact⟨o,e,d⟩
   obtain⟨o,e,d⟩:=z;refine⟨⟨o,e,d.1⟩,λ a g=>?_⟩;cases g
   exact⟨o,e,d.2.1⟩
  ·obtain⟨o,_,_,_,e,d,_⟩:=I.hok p _ b
   refine⟨⟨o,e,d.1⟩,λ a g=>?_⟩;cases g
   exact⟨o,e,d.2.1⟩
 | _=>exact xc j
inductive kTF(K:ay)(T:String)(r:V->List V->Hp->VK->Prop)(t:TA)(σ:St)(Q:VK)(x:V)(H1:Hp):Prop
 | mk:(tyV K T x H1)->(t σ H1 λ xs H2=>r x xs H2 Q)->kTF K T r t σ Q x H1
def tBM(K:ay)(T:String)(r:V->List V->Hp->VK->Prop)(to:TE)(t:TA):TE:=λ a H Q=>to a H λ x b=>kTF K T r t a Q x b
variable {o e:iO} {es:List iO} {to:TE} {t:TA} {name:Str} {apos cpos:Pos} {T id:String} {r:V->List V->Hp->VK->Prop}
def kAE(G:PlainAttrs T)(g:Slot T name id)(j:typeOf (.builtin id)=pure (.type "method_descriptor"))(L:MtR X id r)(S:PE X o to)(A:PA X (e::es) t)
  (d:attributeBase o name X.env (eval o X.env)=eval o X.env:=by rfl)
  (f:((backTo cpos (starEach (e::es) X.env)).all (λ x=>!x.1) && (backToKw cpos (keywordEach [] X.env)).all (λ x=>x.1.isSome)
   && decide ((e::es).length+([]:List Ec).length+(if([]:List Ec).isEmpty then 0 else 1)<30))=true:=by rfl)
  (c:(apos.endLine == cpos.line)=true:=by rfl) (q:starEach (e::es) X.env=(false,eval e X.env)::starEach es X.env:=by rfl) (b:(backTo cpos (starEach es X.env)).any (·.1)=false:=by rfl) :
  PE X (.Call (.Attribute o name apos) (e::es) [] cpos) (tBM X.K T r to t):=by
 intro a s i H Q I h;refine wpAny_Call_method_late d f c rfl (thn (S a s i H _ I h) λ v p ⟨x,n,l,m,O,M⟩=>?_);obtain⟨h1,J⟩:=kQP l m O;refine⟨T,id,G,g,j,h1,J,?_⟩;have hA:=A cpos a p i n _ l M;rw[q]at hA ⊢;refine CU (by show(false || (backTo cpos (starEach es X.env)).any (·.1))=false;rw[b]<;>rfl) (Calls.evalArgs_plain ?_);exact thn hA λ N u ⟨B,y,U,D,C⟩=>L a u i y x B v N Q U m D C
end
def MtM(X:Cx)(id:String)(r:V->List V->Hp->VK->Prop):Prop :=
 ∀(pins:List (au×Obj))(s:av)(σ:St)(H:Hp)(x:V)(xs:List V)(v:ar)(us:List ar)(Q:VK),Inv X pins σ H s->RelV x v->Vals xs us->r x xs H Q ->
  dw (model X.prog X.w) X.A (call (.builtin id) (v::us)) (EP X pins σ Q) X.xe s
def Vals.one:∀{x:V}{a:List ar},Vals [x] a->∃ u,a=[u]/\RelV x u
 | _,_,.cons r .nil=>⟨_,rfl,r⟩
def Vals.two:∀{x y:V}{a:List ar},Vals [x,y] a->∃ u v,a=[u,v]/\RelV x u/\RelV y v
 | _,_,_,.cons r (.cons q .nil)=>⟨_,_,rfl,r,q⟩
theorem Vals.eraseIdx:∀{xs:List V}{a:List ar}(i:Nat),Vals xs a->Vals (xs.eraseIdx i) (a.eraseIdx i)
 | _,_,_,.nil=>.nil
 | _,_,0,.cons _ t=>t
 | _,_,i+1,.cons r t=>.cons r (Vals.eraseIdx i t)
theorem Vals.rep{xs:List V}{a:List ar}(h:Vals xs a):∀ k:Nat,Vals (iD k xs).flatten (iD k a).flatten
 | 0=>.nil
 | k+1=>by
  rw[wk,wk,yf,yf];exact Vals.append h (Vals.rep h k)
theorem oE{α:Type}:∀(l:List α)(i:Nat),(l.eraseIdx i).length<=l.length
 | [],_=>be _
 | _::_,0=>Aq _
 | _::r,i+1=>Nat.succ_le_succ (oE r i)
theorem oO(b:List ar):∀(k:Nat)(a:List ar),
  Er (λ x1 x2=>x1++x2) a.toArray (iD k b.toArray)=(a++(iD k b).flatten).toArray
 | 0,a=>by simp
 | k+1,a=>by
  have e:a.toArray++b.toArray=(a++b).toArray:=by simp
  have c:(a++b)++(iD k b).flatten=a++(iD (k+1) b).flatten:=by
   rw[wk,yf,cx]
  rw[<-c,<-oO b k (a++b),<-e,wk,vy]
section
variable {X:Cx} {pins:List (au×Obj)} {σ:St} {H:Hp} {s:av} {l b:au} {xs ys zs:List V}
def Inv.lset{a its':List ar}{n:Nat}{f:Array ar->Array ar}{t':Nat}(I:Inv X pins σ H s)(g:H l=some (.lst xs))
  (e:s.heap.get? l=some {cls:=.type "list",data:=.seq a.toArray n}) (b:f a.toArray=its'.toArray) (d:Vals ys its') (hz:ys.length<=sizeLine) :
  Inv X pins σ (upd H l (.lst ys)) {s with heap:=s.heap.update l (ua f),toks:=t'}:=by
 have q:=PySem.IsL.update e f;rw[b]at q;refine I.write (x:=l) (e:=l) (by rw[g];exact trivial) (.inl rfl) (λ i u c h=>(CT s.heap (ua f) (pe c)).trans h) ⟨_,q⟩ ?_;exact⟨hz,its',_,d,q⟩
def Inv.lnew{a:List ar}{t':Nat}(I:Inv X pins σ H s)(b:Vals ys a)(hz:ys.length<=sizeLine) :
  Inv X pins σ (upd H s.heap.objs.size (.lst ys)) {s with heap:=s.heap.push {cls:=.type "list",data:=.seq a.toArray},toks:=t'} :=
 I.laid (λ _ _ q=>ao _ q) (be _) ⟨hz,a,0,b,cg _ rfl⟩
theorem Inv.fresh(I:Inv X pins σ H s):H s.heap.objs.size=none:=I.hok.fresh (be _)
def Inv.lstM(I:Inv X pins σ H s)(b:H l=some (.lst xs)):xs.length<=sizeLine/\∃(a:List ar)(n:Nat),Vals xs a/\xs.length=a.length/\s.heap.get? l=some {cls:=.type "list",data:=.seq a.toArray n}:=by
 obtain⟨z,a,n,r,e⟩:=I.hok l _ b;exact⟨z,a,n,r,r.length,e⟩
def kLP{n:Nat}(h:n<=sizeLine):zi n=false:=by
 unfold zi;exact decide_eq_false (by omega)
end
section
variable {X:Cx}
inductive kFC(x:V)(vs:List V)(H:Hp)(Q:VK):Prop
 | mk:∀ l xs y,(x=.ref l)->(vs=[y])->(H l=some (.lst xs))->(xs.length<sizeLine)->(Q .non (upd H l (.lst (xs++[y]))))->kFC x vs H Q
def jZ:MtM X "list.append" kFC:=by
 intro c s i H x j v p Q I d f h;obtain⟨l,A,y,rfl,rfl,b,m,q⟩:=h;cases d
 obtain⟨u,rfl,g⟩:=f.one;obtain⟨z,a,n,r,o,e⟩:=I.lstM b;refine Ae F.slot_list_append ⟨_,e,rfl⟩ F.entry_list_append (F.args_list_append_2 _ _) (PySem.list_append l a.toArray n u (by rw[fj];omega)) ⟨e,?_⟩;refine⟨.non,_,I.lset (its':=a++[u]) b e (by simp) (r.append (.cons g .nil)) ?_,rfl,q⟩;rw[bq,fk];omega
inductive kTP(x:V)(y:V)(H:Hp)(Q:VK):Prop
 | mk:∀ l b xs zs,(x=.ref l)->(y=.ref b)->(H l=some (.lst xs))->(H b=some (.lst zs))->(xs.length+zs.length<=sizeLine)->(∀ p,H p=none->Q (.ref p) (upd H p (.lst (xs++zs))))->kTP x y H Q
def wC:OpR X (binaryOp .Add) kTP:=by
 intro d s A H x y v u Q I m p h;obtain⟨l,b,G,J,rfl,rfl,f,hB,B,q⟩:=h;cases m
 cases p
 obtain⟨z,c,n,r,C,e⟩:=I.lstM f;obtain⟨L,a,D,j,g,o⟩:=I.lstM hB;refine PySem.P.add_list e o ?_ (by rw[fj,fj];omega);have i:c.toArray++a.toArray=(c++a).toArray:=by simp
 rw[i];exact⟨.ref _,_,I.lnew (t':=s.toks) (r.append j) (by rw[bq];omega),rfl,q _ I.fresh⟩
inductive kTO(x:V)(y:V)(H:Hp)(Q:VK):Prop
 | mk:∀ l k xs,(x=.ref l)->(y=.int k)->(H l=some (.lst xs))->(-(2 ^ 63)<=k)->(k<2 ^ 63)->(xs.length*k.toNat<=sizeLine)->(∀ p,H p=none->Q (.ref p) (upd H p (.lst (iD k.toNat xs).flatten)))->kTO x y H Q
def kOT{α:Type}(xs:List α)(k:Nat):(iD k xs).flatten.length=k*xs.length:=by
 induction k with
 | zero=>simp
 | succ k ih=>rw[wk,yf,bq,ih,Nat.succ_mul,AM]
def kRN:OpR X (binaryOp .Mult) kTO:=by
 intro A s N H x y v u Q I L M h;obtain⟨l,k,O,rfl,rfl,D,h1,J,p,q⟩:=h;cases L
 obtain⟨t,rfl⟩:=M;obtain⟨z,b,n,r,G,e⟩:=I.lstM D;have d:b.toArray.size*k.toNat<=sizeLine:=by rw[fj,<-G];exact p
 have i:¬ b.toArray.size*k.toNat>(2 ^ 63-1) / 8:=by
  have:(sizeLine:Nat)<=(2 ^ 63-1) / 8:=by decide
  omega
 have g:¬ (!Builtin.List.listFitsIndex k)=true:=by
  rw[Es h1 J];exact eK
 have c:¬ zi (b.toArray.size*k.toNat)=true:=by
  rw[kLP d];exact eK
 have f:Er (λ j o=>j++o) #[] (iD (if b.toArray.isEmpty=true then 0 else k.toNat) b.toArray)=(iD k.toNat b).flatten.toArray:=by
  have C:∀ m:Nat,Er (λ j o=>j++o) #[] (iD m b.toArray)=(iD m b).flatten.toArray:=λ m=>by
   have:=oO b m [];rw[kq]at this;exact this
  rw[C]
  cases b with
  | nil=>simp
  | cons a r'=>rw[if_neg (by simp)]
 refine wpAny_binaryOp_repeat_ref (T:="list") (U:="int") (by decide) ⟨_,e,rfl⟩ (λ B=>Ep B k t) noFill_list_mul F.fills_int_mul EW repeat_list F.slot_int_index.lookup
  (Ae EW (Ep s k t) F.entry_int_rmul (F.args_int_rmul_2 _ _) (int___rmul___int_list k t l b.toArray n)
   ⟨e,rfl,⟨_,e,rfl⟩,Ae F.slot_list_mul ⟨_,e,rfl⟩ F.entry_list_mul (F.args_list_mul_2 _ _) (AutoListH.list___mul___list_int_3 l b.toArray n k t g i c) ⟨e,?_⟩⟩)
 rw[f];exact⟨.ref _,_,I.lnew (t':=s.toks) (r.rep k.toNat) (by rw[kOT,Nat.mul_comm];exact p),rfl,q _ I.fresh⟩
end
section
variable {prog:eo} {w:iJ} {A:gj} {E:ar->av->Prop} {s:av}
end
section
variable {X:Cx}
end
end L2
namespace Att
open PySem PySem.W PySem.Calls PyProof.Rows
def fE{P:Gb}{h:iS}:∀(c:List Int)(d:List ar),WellAll P h d (c.map Gm)->Dh d c:=by
 intro c
 induction c with
 | nil =>
  intro d w;rw[BK]at w;cases w
  exact .nil
 | cons n c ih =>
  intro d w;rw[gv]at w
  cases w with
  | cons a b =>
   cases a
   exact .cons _ _ (ih _ b)
def kHI{l:OpenLaw}{n:Nat}(v:l.most=some n){P:Gb}{h:iS}{args:List WData}{b:List ar}
  (c:l.row.toRowW.claim.pre args=true) (m:WellAll P h b args) :
  ∃ a vs ns,b=[jx a]/\args=[WData.list (ns.map Gm)]/\h.get? a=some {cls:=.type "list",data:=.seq vs.toArray}/\Dh vs ns/\ns.length<=n:=by
 have j:WShape.hasAll [] args [.list .int]=true:=(pre_splitW c).1;have o:l.pre.holds [] {args:=args}=true:=(pre_splitW c).2;obtain⟨d,r,rfl,h1,p⟩:=hasAllW_cons j;obtain rfl:=hasAllW_nil p;obtain⟨x,rfl,u⟩:=hasW_list h1;obtain⟨ns,rfl⟩:=items_int u
 have f:ns.length<=n:=by
  unfold OpenLaw.pre at o
  have g:(WTm.not (.lt (.lit (.int (n:Int))) (.len (.arg 0)))).holds [] {args:=[.list (ns.map .int)]}=true:=by
   have g:=(holds_andW o).1;rw[v]at g;exact g
  have i:=condW_of g (w_not (w_lt w_lit (w_len_list (w_arg rfl))));rw[ai]at i;refine Nat.le_of_not_lt λ q=>?_;have s:(n:Int)<((ns.length:Nat):Int):=by omega
  first
   | (rw[decide_eq_true s]at i;exact absurd i (by decide))
   | (simp at i;omega)
 cases m with
 | cons w1 w2 =>
  cases w2
  cases w1 with
  | list ho hall=>exact⟨_,_,ns,rfl,rfl,ho,fE ns _ hall,f⟩
def kHQ(l:OpenLaw)(args:List WData):l.row.toRowW.claim.post args (.bool true) args=true :=
 postW_of (r:=l.row.toRowW) (X:=(true == true))
  (show Gc [] (.bool true) .bool=true by first | rfl | decide | simp[Gc,WShape.arms,WShape.armsAll])
  (show(WTm.eq .res (.lit (.bool true))).value [] {args:=args,res:=some (.bool true),after:=args}=some (.bool (true == true)) from w_eq_bool (w_res rfl) w_lit) rfl
def attach_call{l:OpenLaw}{n:Nat}{q:eo}{c:List Str}{L:(Str->Option ar)->iS->Prop}{N:iJ->iS->Prop}{d:DefRec}
  (Q:l.most=some n) (A:d.params.defaults=[])
  (call:∀(w:iJ)(s₀ b:av)(mg C:Str->Option ar)(s:au)(o:Obj)(B u g:ar)(a:au)(i:List ar)(v:List Int),
   Ground q c [] L w s₀ mg C b.heap->N w b.heap ->
   b.heap.get? s=some o->o.data=.func (docDef d.name d.params d.body d.scope B u g)->b.heap.CodeRec u d.name->mg d.name=some (.ref s) ->
   b.heap.get? a=some {cls:=.type "list",data:=.seq i.toArray}->Dh i v->v.length<=n->b.gens = #[] ->
   codeAny (model l.prog w) callerA (.call (.ref s) ⟨[.ref a],[]⟩) (λ r s'=>r=.ok (.ret (.bool true))/\OldK b.heap s'.heap/\s'.os=b.os/\Bm s'.gens) b) :
  WalkO q c L N l.row.toRowW d [] (λ f i=>Et f i):=by
 intro w s₀ b mg C G Y s o B u g T kV ho O x I y hg J H as p M S D a0;obtain rfl:T=.none:=Dflts.none I A;obtain rfl:kV=.none:=Dflts.noKw I;obtain⟨a,i,v,rfl,rfl,j,h,m⟩:=kHI Q p D;refine enter_call (Da (call w s₀ b mg C s o B u g a i v G Y ho (fd_plain O) x y j h m hg) λ r s' hq=>?_);obtain⟨rfl,X,U,h4⟩:=hq;exact⟨.inl ⟨.bool true,.bool true,[],rfl,λ _=>rfl,.bool true,kHQ l _,λ _=>⟨Bo,λ _ Z=>(nomatch Z)⟩⟩,X,U,h4⟩
section
variable {prog:eo} {w:iJ} {A:gj} {E:ar->av->Prop} {s:av} {K:Frag}
end
end Att
namespace L2
open PySem PySem.Spec PyProof.Rows
theorem mV:∀{a:List ar}{b:List Int},Dh a b->Vals (b.map V.int) a
 | _,_,.nil=>.nil
 | _,_,.cons n t h=>.cons ⟨t,rfl⟩ (mV h)
def kSU(H:Hp):Prop:=∀ b,H b=none\/∃ o a,H b=some (.frz o (.lst a))
def kLU{P:eo}{w:iJ}{K:ay}{mg U:Str->Option ar}{CX:CXT}{k:Nat}{Y a:au}{fd:tw}{x:Str}{sp:Sp}{c:av}{l:List ar}{I:List Int}
  (KX:K.In c.heap) (B:c.heap.Ns gm mg) (g:c.heap.Ns builtinsNs U) (S:∀ x:Str,x≠"__name__"->U x=bootBuiltins x) (L:c.heap.NoLimit) (hg:c.gens = #[])
  (O:c.heap.get? a=some {cls:=.type "list",data:=.seq l.toArray}) (hi:Dh l I) (hl:I.length<=sizeLine) (hr:Room k callerA)
  (F:∀ base:iS,K.In base->base.Ns gm mg->FnOk P w K mg base CX k Y fd [x] sp) (p:∀(s:av)(u:ar),DZ s fd ⟨[u],[]⟩ [(x,u)])
  (Q:∀ H:Hp,kSU H->SqL K H a (I.map V.int)->sp [.ref a] H (λ v _=>v=.bl true) λ _ _ _=>False)
  (T:∀ H e s',CX [] H c (λ _ _ _=>False) e s'->False) :
  codeAny (model P w) callerA (.call (.ref Y) ⟨[.ref a],[]⟩) (λ r s'=>r=.ok (.ret (.bool true))/\OldK c.heap s'.heap/\s'.os=c.os/\Bm s'.gens) c:=by
 have rv:=mV hi
 have C:=hi.length
 have j:∀ H:Hp,kSU H->SqL K H a (I.map V.int)->HOk P w H c.heap->(∀ b,H b≠none->b=a)->(H a≠none->K.lookup a=none) ->
   codeAny (model P w) callerA (.call (.ref Y) ⟨[.ref a],[]⟩) (λ r s'=>r=.ok (.ret (.bool true))/\OldK c.heap s'.heap/\s'.os=c.os/\Bm s'.gens) c:=by
  intro H hO hS J hA hK;have f:∀{b:au}{o:Obj},c.heap.get? b=some o->H b=none->(rR c.heap H).get? b=some o:=λ e n=>kMF e n
  have X:∀{b:au}{o:Obj}{D:Array CG}{A:Nat},c.heap.get? b=some o->o.data=.dict D A->H b=none:=λ{b o D A} e d=>by
   cases q:H b with
   | none=>rfl
   | some u =>
    have Z:b=a:=hA b (by rw[q];simp);subst Z;rw[O]at e;cases e;have d':Data.seq l.toArray _=Data.dict D A:=d
    cases d'
  have i:∀{b:au}{m:Str->Option ar},c.heap.Ns b m->(rR c.heap H).Ns b m:=λ{b m} ⟨o,D,A,e,d,r⟩=>⟨o,D,A,f e (X e d),d,r⟩
  have y:K.In (rR c.heap H):=λ b o e=>f (KX b o e) (by
   cases q:H b with
   | none=>rfl
   | some u =>
    have Z:b=a:=hA b (by rw[q];simp);subst Z;rw[hK (by rw[q];simp)]at e;cases e)
  have hM:Mod K mg (rR c.heap H):=⟨y,i B,⟨U,i g,S⟩,let ⟨mc,h1,h2⟩:=L;⟨mc,i h1,h2⟩⟩;have e0:Env0 P w K mg (rR c.heap H) callerA [] c H:=⟨rfl,hM,λ b o e=>kOQ e,GB (kIJ _ _),trivial,λ b g=>absurd (show b∈([]:List au) from g) (by simp),J,.of_eq hg⟩;refine Da ((F _ y (i B)).run callerA [] c H ⟨[.ref a],[]⟩ [.ref a] [.ref a] _ _ hr e0 (p c (.ref a)) (.cons rfl .nil) (Q H hO hS)) λ r s' h=>?_
  cases r with
  | error e=>exact(T H e s' h).elim
  | ok fl =>
   cases fl with
   | next=>exact xc h
   | brk=>exact xc h
   | cont=>exact xc h
   | ret u =>
    obtain⟨v,H',os,G,un,M,r',q⟩:=h;have q':v=.bl true:=q;subst q';obtain rfl:u=BP true:=r';refine⟨rfl,OldK.of_keep λ b o e=>?_,os,G⟩
    cases q:H b with
    | none=>exact un.keep b o e q (by intro z;exact absurd (show b∈([]:List au) from z) (by simp)) (by simp)
    | some u =>
     rcases hO b with z | ⟨ob,xs,z⟩
     ·rw[q]at z;cases z
     ·have z2:=un.frzs b ob _ z
      obtain⟨e1,_⟩:=J b _ z;obtain⟨e2,_⟩:=M b _ z2;rw[e]at e1;cases e1;exact e2
 cases hk:K.lookup a with
 | some o =>
  have e:=KX a o hk;rw[O]at e;cases e
  refine j (λ _=>none) (λ _=>.inl rfl) (.inr ⟨_,l.toArray,_,hk,rfl,rfl,rfl,by rw[fj,C];exact hl,by simpa using rv⟩) (λ b u z=>by have N:(none:Option HO)=some u:=z;cases N) (λ b z=>absurd rfl z) λ z=>absurd rfl z
 | none =>
  refine j (λ b=>if b=a then some (.frz {cls:=.type "list",data:=.seq l.toArray} (.lst (I.map V.int))) else none) (λ b=>?_) (.inl (.inr ⟨{cls:=.type "list",data:=.seq l.toArray},if_pos rfl⟩)) (λ b u z=>?_) (λ b z=>?_) λ _=>hk
  ·by_cases g:b=a
   ·exact .inr ⟨_,_,if_pos g⟩
   ·exact .inl (if_neg g)
  ·by_cases g:b=a
   ·have N:=(if_pos g).symm.trans z
    cases N
    subst g;exact⟨O,by rw[ai];exact hl,l,_,rv,O⟩
   ·have N:=(if_neg g).symm.trans z
    cases N
  ·by_cases g:b=a
   ·exact g
   ·exact absurd (if_neg g) z
def walk_of{l:Cd}{n k:Nat}{q:eo}{i:List Str}{U:(Str->Option ar)->iS->Prop}{N:iJ->iS->Prop}{d:DefRec}{K:Gb->ay}{CX:iJ->CXT}{sp:iJ->Sp}{x:Str}
  (O:l.most=some n) (I:n<=sizeLine) (J:d.params.defaults=[]) (hr:Room k callerA)
  (hY:∀(w:iJ)(h:iS),N w h->(K w.params).In h)
  (F:∀(w:iJ)(mg:Str->Option ar)(y:au)(h:iS),(K w.params).In h->h.Ns gm mg->mg d.name=some (.ref y) ->
   ∃ fd:tw,(∀(s:av)(u:ar),DZ s fd ⟨[u],[]⟩ [(x,u)]) /\
    ∀ base:iS,(K w.params).In base->base.Ns gm mg->FnOk l.prog w (K w.params) mg base (CX w) k y fd [x] (sp w))
  (B:∀(w:iJ)(H:Hp)(a:au)(r:List Int),r.length<=n->kSU H->SqL (K w.params) H a (r.map V.int)->sp w [.ref a] H (λ v _=>v=.bl true) λ _ _ _=>False)
  (C:∀(w:iJ)(H:Hp)(s:av)(e:ar)(A:av),CX w [] H s (λ _ _ _=>False) e A->False) :
  Fg q i U N l.row.toRowW d [] (λ f vs=>Et f vs):=by
 refine Att.attach_call O J λ w L p mg mb y o pm cd X a vs r G Y ho hd a0 D m j c hg=>?_;have M:=hY w _ Y;obtain⟨fd,hb,S⟩:=F w mg y _ M G.T.g D;exact kLU M G.T.g G.T.b G.T.builtins G.T.nolimit hg m j (jt c I) hr S hb (λ H Z Q=>B w H a r c Z Q) λ H e A=>C w H p e A
def vH(s:ph):Arguments:=match s with
 | .FunctionDef _ a _ _ _ _ _ _ _ _=>a
 | _=>{posonlyargs:=[],args:=[],vararg:=none,kwonlyargs:=[],kw_defaults:=[],kwarg:=none,defaults:=[]}
def zD(s:ph):List ph:=match s with
 | .FunctionDef _ _ b _ _ _ _ _ _ _=>b
 | _=>[]
def kO(s:ph):wg:=match s with
 | .FunctionDef _ _ _ _ _ _ sc _ _ _=>sc
 | _=>{kind:=.function,names:=[],isGenerator:=false,isCoroutine:=false}
abbrev CX0:CXT:=λ _ _ _ _ _ _=>False
abbrev E0:XK:=λ _ _ _=>False
def kTR{X:Cx}:kDV CX0 X E0:=λ _ _ _ _ _ _ _ h=>h.elim
structure Fun(K:ay)(x qual:Str)(st:ph)(f:au)(fd:tw):Prop where
 ex:∃(oc:ar)(od:Option au)(kV doc pm:ar)(an:Option au)(cdv ct:ar)(osl:Array (Option ar)),
  fd=uw x qual (vH st) (zD st) (kO st) .none kV doc pm an cdv ct/\K.lookup f=some ⟨oc,od,.func fd,osl⟩/\BW K cdv qual=true
 kp:AJ K (.ref f)=true
section
variable {P:eo} {w:iJ} {K:ay} {mg:Str->Option ar} {base:iS}
def Fun.ok{x a:Str}{st:ph}{f:au}{l:tw}{N i:List Str}{k:Nat}{sp:Sp}(F:Fun K x a st f l)(S:FnScope N i (kO st))(len:∀ c H Q E,sp c H Q E->c.length=i.length)
  (d:∀(b:ar)(A:gj)(outer:List Env)(s:av)(H:Hp)(c:List V)(Q:VK)(E:XK),Room k (A.deeper (envOfC a (kO st) s.heap.objs.size f b))->sp c H Q E ->
   ∃ t,PSs (qY CX0 P w K mg base N a (kO st) f b A outer s H E).nox (zD st) t/\t {nx:=λ _ H'=>Q .non H',rt:=Q} (start N c) H):FnOk P w K mg base CX0 (k+1) f l i sp:=by
 obtain⟨v,r,kV,n,B,y,b,u,o,rfl,m,j⟩:=F.ex;refine kUH m j S len λ A outer s H c Q E p g=>?_;obtain⟨t,h,q⟩:=d b A outer s H c Q E p g;exact⟨t,h.nox,q⟩
def Fun.binds{x a:Str}{st:ph}{f:au}{l:tw}{g:List Str}(F:Fun K x a st f l)
  (h:∀(kV c d:ar)(j:Option au)(b ct:ar)(i:List ar),i.length=g.length->bindArgs (uw x a (vH st) (zD st) (kO st) .none kV c d j b ct) ⟨i,[]⟩=pure (g.zip i)):Binds K l g []:=by
 obtain⟨p,q,kV,c,d,j,b,ct,n,rfl,o,m⟩:=F.ex;exact .all (h kV c d j b ct)
def kSL{x a:Str}{st:ph}{f:au}{j:ar}{m i:Option au}{g:Array (Option ar)}{kV d h b ct:ar}(l:K.lookup f=some ⟨j,m,.func (uw x a (vH st) (zD st) (kO st) .none kV d h i b ct),g⟩)
  (c:BW K b a=true) (k:AJ K (.ref f)=true):Fun K x a st f (uw x a (vH st) (zD st) (kO st) .none kV d h i b ct):=⟨⟨j,m,kV,d,h,i,b,ct,g,rfl,l,c⟩,k⟩
end
def xG{A:gj}{k:Nat}(a:Room k A):A.units+1<cLine:=jj (Nat.add_le_add_left (by decide:1<=64) _) a.units
def kQ{n:Nat}(h:n<=1000):n<sizeLine:=jj h (by decide)
section
variable {X:Cx}
def pv(i:Nat){x:Str}{a:Pos}(d:X.N[i]?=some x:=by rfl)(f:Vis X.env.scope x:=by first | exact zd rfl | exact EI (zd rfl) | exact EI (EI rfl))(c:(x == ("__debug__" : Str))=false:=by decide)
  (b:(x == ("__classdict__" : Str))=false:=by decide):PE X (.Name x a) (kQR i):=kRK d f c b
end
def yK{A B:Prop}(h:B):if false=true then A else B:=by
 rw[if_neg eK];exact h
def wN{A B:Prop}(h:A):if true=true then A else B:=by
 rw[if_pos rfl];exact h
def kIE{c A B:Prop}[Decidable c](h1:c->A)(a:¬ c->B):if c then A else B:=by
 by_cases h:c
 ·rw[if_pos h]
  exact h1 h
 ·rw[if_neg h]
  exact a h
def Same(H H':Hp):Prop:=∀ b o,H b=some o->H' b=some o
def Same.refl(H:Hp):Same H H:=λ _ _ h=>h
def Same.trans{H d f:Hp}(a:Same H d)(b:Same d f):Same H f:=λ c o h=>b c o (a c o h)
def Same.free{H H':Hp}(e:Same H H'){l:au}(h:H' l=GT):H l=GT:=by
 cases q:H l with
 | none=>rfl
 | some o =>
  rw[e l o q]at h;cases h
end L2
namespace Own
open PySem PySem.Spec PyProof.Rows L2
def Has(P:eo)(w:iJ)(K:ay)(mg:Str->Option ar)(base:iS)(x:Str)(b:List Str)(k:Nat)(sp:Sp):Prop :=
 ∃(f:au)(a:tw),FnOk P w K mg base CX0 k f a b sp/\Binds K a b []/\AJ K (.ref f)=true/\mg x=some (.ref f)
section
variable {X:Cx} {k:Nat} {ps:List Str} {sp:Sp} {x:Str} {p pos:Pos} {e:iO} {es:List iO} {t:TA}
def pe_has(h:Has X.prog X.w X.K X.mg X.base x ps k sp)(j:Room k X.A)(i:Gl X x)
  (l:PA X (e::es) t) (a:(x == ("__debug__" : Str))=false:=by decide) (g:starEach (e::es) X.env=(false,eval e X.env)::starEach es X.env:=by rfl) (c:(backTo pos (starEach es X.env)).any (·.1)=false:=by rfl) :
  PE X (.Call (.Name x p) (e::es) [] pos) (kJR sp [] E0 t):=by
 obtain⟨f,n,F,b,d,m⟩:=h;exact kOJ F j i m d b .nil kTR l a g c
end
def kUR(i j:Int):Prop:=i.natAbs<2 ^ 9000/\j.natAbs<2 ^ 9000
def kUS(i j:Int):Prop:=j≠0/\j.natAbs<2 ^ 9000
def kGI{i:Int}(h:i.natAbs<2 ^ 9000):GY i<=2 ^ 20 :=
 jt (intBits_le h) (by decide)
section
variable {X:Cx}
def op_mulW:OpR X (binaryOp .Mult) (rI kUR λ i j=>.int (i*j)):=opI λ _ _ _ _ _ _ _ a q=>mul_int q (IntMulOk.of_bits (kGI a.1) (kGI a.2))
theorem log2_lt{n:Nat}(h:n<2 ^ 9000):n.log2<9000:=by
 by_cases h0:n=0
 ·subst h0;decide
 ·exact(Nat.log2_lt h0).mpr h
def op_fdivW:OpR X (binaryOp .FloorDiv) (rI kUS λ i j=>.int (i.fdiv j)):=opI λ _ _ _ _ _ _ _ a q=>floordiv_int a.1 q (.inl (PyProof.noPylong_of_log2 (log2_lt a.2)))
inductive oU(K:ay)(xs:List V)(H:Hp)(Q:VK):Prop
 | mk:∀ x t T b,(xs=[x,.ty T])->(cU K H x t)->(Ek K t (.type T)=some b)->(Q (.bl b) H)->oU K xs H Q
def call_isi:yX X (.builtin "isinstance") (oU X.K):=by
 intro a s g H l j Q I r h;obtain⟨x,t,T,b,rfl,f,e,q⟩:=h;obtain⟨u,i,rfl,d,c⟩:=kEA r;cases c
 exact kIF I d f e λ m=>⟨.bl b,H,I.tok _,rfl,q⟩
end
end Own
namespace L2
open PySem
def jQ(K:ay)(n:Str)(st:ph):Prop:=∃(f:au)(a:tw),jd K gm n=some (some (.ref f))/\Fun K n n st f a
def df_mk{K:ay}{n:Str}{st:ph}{f:au}{i:ar}{j m:Option au}{g:Array (Option ar)}{kV d h b ct:ar}(a:jd K gm n=some (some (.ref f)))(l:K.lookup f=some ⟨i,j,.func (uw n n (vH st) (zD st) (kO st) .none kV d h m b ct),g⟩)(c:BW K b n=true)(k:AJ K (.ref f)=true):jQ K n st:=⟨f,_,a,kSL l c k⟩
def kSI{P:eo}{w:iJ}{K:ay}{mg:Str->Option ar}{h base:iS}(X:K.In h)(G:h.Ns gm mg){n:Str}{st:ph}{g:List Str}{m:Nat}{sp:Sp}(d:jQ K n st)
  (ok:∀(f:au)(c:tw),Fun K n n st f c->FnOk P w K mg base CX0 m f c g sp) (b:∀(kV j o:ar)(p:Option au)(i ct:ar)(l:List ar),l.length=g.length->bindArgs (uw n n (vH st) (zD st) (kO st) .none kV j o p i ct) ⟨l,[]⟩=pure (g.zip l)):Own.Has P w K mg base n g m sp:=by
 obtain⟨f,c,a,F⟩:=d;exact⟨f,c,ok f c F,F.binds b,F.kp,Fh X G a⟩
open PySem PySem.Spec PyProof.Rows
section
variable {κ:Type} [DecidableEq κ]
def jO(kvs:List (κ×V))(k:κ):Option V:=(kvs.find? λ a=>decide (a.1=k)).map (·.2)
def jF(kvs:List (κ×V))(k:κ)(v:V):List (κ×V) :=
 if(kvs.any λ a=>decide (a.1=k))=true then kvs.map (λ a=>if a.1=k then(a.1,v) else a) else kvs++[(k,v)]
def jM{p:κ×V}{r:List (κ×V)}{k:κ}(e:p.1=k):jO (p::r) k=some p.2:=by simp[jO,uo,e]
def jN{p:κ×V}{r:List (κ×V)}{k:κ}(e:¬ p.1=k):jO (p::r) k=jO r k:=by simp[jO,uo,e]
theorem vQ(k:κ):∀ kvs:List (κ×V),(kvs.any λ kv=>decide (kv.1=k))=(jO kvs k).isSome
 | []=>rfl
 | p::r=>by
  rw[An];by_cases e:p.1=k
  ·simp only[jM e,decide_eq_true e,Bool.true_or,Option.isSome_some]
  ·rw[jN e,decide_eq_false e,Bool.false_or];exact vQ k r
theorem sZ(k j:κ)(y:V):∀ kvs:List (κ×V),jO (kvs.map λ kv=>if kv.1=k then(kv.1,y) else kv) j=(jO kvs j).map λ x=>if j=k then y else x
 | []=>rfl
 | p::r=>by
  have a:=sZ k j y r;rw[gv];by_cases h:p.1=k
  ·rw[if_pos h]
   by_cases e:p.1=j
   ·rw[jM (p:=(p.1,y)) e,jM e,xm,if_pos (e.symm.trans h)]
   ·rw[jN (p:=(p.1,y)) e,jN e,a]
  ·rw[if_neg h]
   by_cases e:p.1=j
   ·rw[jM (p:=p) e,jM e,xm,if_neg (λ z=>h (e.trans z))]
   ·rw[jN (p:=p) e,jN e,a]
theorem mW(k j:κ)(y:V):∀ kvs:List (κ×V),jO kvs k=none->jO (kvs++[(k,y)]) j=if j=k then some y else jO kvs j
 | [],_=>by
  by_cases e:k=j
  ·rw[if_pos e.symm];exact jM (p:=(k,y)) e
  ·rw[if_neg (λ z=>e z.symm)];exact jN (p:=(k,y)) e
 | p::r,hn=>by
  rw[iq];have a:¬ p.1=k:=λ z=>by rw[jM z]at hn;cases hn
  rw[jN a]at hn;have b:=mW k j y r hn;by_cases e:p.1=j
  ·rw[jM e,jM e,if_neg (λ z=>a (e.trans z))]
  ·rw[jN e,jN e,b]
def wH(kvs:List (κ×V))(k j:κ)(y:V):jO (jF kvs k y) j=if j=k then some y else jO kvs j:=by
 unfold jF;by_cases a:(kvs.any λ b=>decide (b.1=k))=true
 ·rw[if_pos a,sZ]
  rw[vQ]at a;by_cases e:j=k
  ·obtain⟨x,c⟩:=zg.mp a
   rw[if_pos e,e,c,xm,if_pos rfl]
  ·rw[if_neg e]
   cases jO kvs j with
   | none=>rfl
   | some x=>rw[xm,if_neg e]
 ·rw[if_neg a]
  refine mW k j y kvs ?_;rw[vQ]at a
  cases q:jO kvs k with
  | none=>rfl
  | some x=>rw[q]at a;exact(a rfl).elim
def xE(kvs:List (κ×V))(k:κ)(v:V):(jF kvs k v).length<=kvs.length+1:=by
 unfold jF
 split
 ·rw[ai];omega
 ·rw[bq,gn,qm];omega
def kAB{kvs:List (κ×V)}{k:κ}(v:V)(h:jO kvs k=none):jF kvs k v=kvs++[(k,v)]:=by
 unfold jF;rw[vQ,h];exact if_neg (by decide)
def RelO.isSome_eq{o:Option V}{u:Option ar}(r:RelO o u):o.isSome=u.isSome:=by
 cases o with
 | none=>cases u with
  | none=>rfl
  | some _=>exact(show False from r).elim
 | some _=>cases u with
  | none=>exact(show False from r).elim
  | some _=>rfl
def KV.val{kvs:List (κ×V)}{c:List (κ×ar)}(r:KV kvs c)(k:κ):RelO (jO kvs k) (valueAt c k):=by
 unfold KV at r
 induction r with
 | nil=>exact qc
 | @cons p q ps qs h t ih =>
  obtain⟨h1,d⟩:=h;by_cases e:p.1=k
  ·have a:q.1=k:=h1.symm.trans e
   have b:valueAt (q::qs) k=some q.2:=by simp[valueAt,uo,a]
   rw[jM e,b];exact d
  ·have a:¬ q.1=k:=λ z=>e (h1.trans z)
   have b:valueAt (q::qs) k=valueAt qs k:=by simp[valueAt,uo,a]
   rw[jN e,b];exact ih
theorem KV.any{kvs:List (κ×V)}{a:List (κ×ar)}(r:KV kvs a)(k:κ):(kvs.any λ kv=>decide (kv.1=k))=a.any λ kv=>decide (kv.1=k):=by
 unfold KV at r
 induction r with
 | nil=>rfl
 | cons h t ih=>rw[An,An,ih,h.1]
def KV.repl{kvs:List (κ×V)}{a:List (κ×ar)}(r:KV kvs a)(k:κ){y:V}{u:ar}(b:RelV y u) :
  KV (kvs.map λ kv=>if kv.1=k then(kv.1,y) else kv) (a.map λ kv=>if kv.1=k then(kv.1,u) else kv):=by
 unfold KV at r ⊢
 induction r with
 | nil=>exact .nil
 | @cons p q ps qs h t ih =>
  rw[gv,gv];refine .cons ?_ ih;obtain⟨h1,c⟩:=h;by_cases e:p.1=k
  ·rw[if_pos e,if_pos (h1.symm.trans e)];exact⟨h1,b⟩
  ·rw[if_neg e,if_neg (λ z=>e (h1.trans z))];exact⟨h1,c⟩
def KV.put{kvs:List (κ×V)}{a:List (κ×ar)}(r:KV kvs a)(k:κ){y:V}{u:ar}(b:RelV y u):KV (jF kvs k y) (stored a k u):=by
 unfold jF stored;rw[r.any k];by_cases e:(a.any λ c=>decide (c.1=k))=true
 ·rw[if_pos e,if_pos e];exact r.repl k b
 ·rw[if_neg e,if_neg e];exact GU r ⟨rfl,b⟩
theorem KV.length{kvs:List (κ×V)}{a:List (κ×ar)}(r:KV kvs a):kvs.length=a.length:=vi r
end
def oG{P:eo}{w:iJ}{k:Key}{u:ar}(r:RelV (kV k) u):(qD P w).is k u=true:=by
 cases k with
 | inl i=>obtain⟨t,e⟩:=(show ∃ t,u=uk i t from r);subst e;exact kAQ P w i t
 | inr x=>obtain⟨t,e⟩:=(show ∃ t,u=EB x t from r);subst e;exact kAP P w x t
theorem oH{P:eo}{w:iJ}:∀{a:List Key}{b:List ar},Vals (a.map kV) b->ItemsAre (qD P w) a b
 | [],_,r=>by rw[BK]at r;cases r;exact .nil
 | k::a,_,r=>by
  rw[gv]at r
  cases r with
  | cons h t=>exact .cons (oG h) (oH t)
abbrev KT(H:Hp):List (List Key×V)->List (List Key×au×ar)->Prop:=ED λ p q=>p.1=q.1/\H q.2.1=some (.tup (p.1.map kV))/\RelV p.2 q.2.2
def KT.val{H:Hp}{kvs:List (List Key×V)}{xs:List (List Key×au×ar)}(r:KT H kvs xs)(k:List Key):RelO (jO kvs k) ((atKey xs k).map (·.2)):=by
 induction r with
 | nil=>exact qc
 | @cons p q ps qs h t ih =>
  obtain⟨h1,_,c⟩:=h;by_cases e:p.1=k
  ·have a:q.1=k:=h1.symm.trans e
   have b:atKey (q::qs) k=some q.2:=by simp[atKey,uo,a]
   rw[jM e,b];exact c
  ·have a:¬ q.1=k:=λ z=>e (h1.trans z)
   have b:atKey (q::qs) k=atKey qs k:=by simp[atKey,uo,a]
   rw[jN e,b];exact ih
def KT.repl{H:Hp}{kvs:List (List Key×V)}{xs:List (List Key×au×ar)}(r:KT H kvs xs)(k:List Key){y:V}{u:ar}(b:RelV y u) :
  KT H (kvs.map λ kv=>if kv.1=k then(kv.1,y) else kv) (xs.map (putAt k u)):=by
 induction r with
 | nil=>exact .nil
 | @cons p q ps qs h t ih =>
  rw[gv,gv];refine .cons ?_ ih;obtain⟨h1,a,c⟩:=h;unfold putAt;by_cases e:p.1=k
  ·rw[if_pos e,if_pos (h1.symm.trans e)];exact⟨h1,a,b⟩
  ·rw[if_neg e,if_neg (λ z=>e (h1.trans z))];exact⟨h1,a,c⟩
def KT.put{H:Hp}{kvs:List (List Key×V)}{xs:List (List Key×au×ar)}(r:KT H kvs xs)(k:List Key){b:au}{y:V}{u:ar}(d:H b=some (.tup (k.map kV)))(a:RelV y u) :
  KT H (jF kvs k y) (storedH xs k b u):=by
 have e:(kvs.any λ c=>decide (c.1=k))=(atKey xs k).isSome:=by
  rw[vQ,(r.val k).isSome_eq,Di]
 unfold jF storedH;rw[e];by_cases q:(atKey xs k).isSome=true
 ·rw[if_pos q,if_pos q];exact r.repl k a
 ·rw[if_neg q,if_neg q];exact GU r ⟨rfl,d,a⟩
def KT.keeps{H H':Hp}{kvs:List (List Key×V)}{xs:List (List Key×au×ar)}(r:KT H kvs xs)(a:∀ b ys,H b=some (.tup ys)->H' b=some (.tup ys)):KT H' kvs xs :=
 Paired.mapP r λ _ _ z=>⟨z.1,a _ _ z.2.1,z.2.2⟩
section
variable {P:eo} {w:iJ} {H:Hp} {h:iS} {a:au}
def kPW{u:HO}(ok:HOk P w H h)(e:Rd H a u):ObjOk P w H h a u:=e.ok ok
def kFZ{kvs:List (Key×V)}(ok:HOk P w H h)(e:Rd H a (.dK kvs)):kvs.length<=sizeLine/\(a == sysModules)=false/\∃ vs,KV kvs vs/\h.DictOf (qD P w) a vs :=
 show ObjOk P w H h a (.dK kvs) from kPW ok e
def kGA{kvs:List (Key×V)}(ok:HOk P w H h)(e:H a=some (.dK kvs)):kvs.length<=sizeLine/\(a == sysModules)=false/\∃ vs,KV kvs vs/\h.DictOf (qD P w) a vs:=kFZ ok (.inl e)
def lH{c:List Key}(ok:HOk P w H h)(e:H a=some (.tup (c.map kV))):(tupleKind (qD P w)).is h c a:=by
 obtain⟨_,b,r,o,h1,d,n,f,_⟩:=(show ObjOk P w H h a (.tup (c.map kV)) from ok a _ e);exact⟨o,b.toArray,n,h1,d,f,by simpa using oH r⟩
def kFW{kvs:List (List Key×V)}(ok:HOk P w H h)(e:Rd H a (.dT kvs)):kvs.length<=sizeLine/\(a == sysModules)=false /\
  ∃ xs,KT H kvs xs/\h.DictOfH (tupleKind (qD P w)) a xs:=by
 obtain⟨z,y,xs,r,o,c,d,h1,f,i,g,j⟩:=(show ObjOk P w H h a (.dT kvs) from kPW ok e);refine⟨z,y,xs,r,o,c,d,h1,f,i,g,λ x b=>?_,j⟩
 have all:∀{l:List (List Key×V)}{m:List (List Key×au×ar)},KT H l m->∀ x∈m,(tupleKind (qD P w)).is h x.1 x.2.1:=by
  intro l m q
  induction q with
  | nil=>intro x b;exact nomatch b
  | @cons p q ps qs hq t ih =>
   intro x b;rcases dr.mp b with e | b
   ·subst e
    exact lH ok (by rw[<-hq.1];exact hq.2.1)
   ·exact ih x b
 exact all r x b
def kFX{kvs:List (List Key×V)}(ok:HOk P w H h)(e:H a=some (.dT kvs)):kvs.length<=sizeLine/\(a == sysModules)=false /\
  ∃ xs,KT H kvs xs/\h.DictOfH (tupleKind (qD P w)) a xs:=kFW ok (.inl e)
end
def DGet(H:Hp)(a:au)(y:V)(r:Option V):Prop :=
 (∃ c k,Rd H a (.dK c)/\y=kV k/\r=jO c k)\/∃ c k b,Rd H a (.dT c)/\y=.ref b/\H b=some (.tup (k.map kV))/\r=jO c k
def DPut(H:Hp)(a:au)(y v:V)(H':Hp):Prop :=
 (∃ c k,H a=some (.dK c)/\y=kV k/\c.length<sizeLine/\H'=upd H a (.dK (jF c k v))) \/
 ∃ c k b,H a=some (.dT c)/\y=.ref b/\H b=some (.tup (k.map kV))/\c.length<sizeLine/\H'=upd H a (.dT (jF c k v))
theorem DGet.k{H:Hp}{a:au}{kvs:List (Key×V)}{k:Key}(e:H a=some (.dK kvs)):DGet H a (kV k) (jO kvs k):=.inl ⟨kvs,k,.inl e,rfl,rfl⟩
def DGet.t{H:Hp}{a b:au}{kvs:List (List Key×V)}{k:List Key}(e:H a=some (.dT kvs))(c:H b=some (.tup (k.map kV))):DGet H a (.ref b) (jO kvs k):=.inr ⟨kvs,k,b,.inl e,rfl,c,rfl⟩
theorem DPut.k{H:Hp}{a:au}{kvs:List (Key×V)}{k:Key}{v:V}(e:H a=some (.dK kvs))(b:kvs.length<sizeLine):DPut H a (kV k) v (upd H a (.dK (jF kvs k v))):=.inl ⟨kvs,k,e,rfl,b,rfl⟩
def DPut.t{H:Hp}{a b:au}{kvs:List (List Key×V)}{k:List Key}{v:V}(e:H a=some (.dT kvs))(c:H b=some (.tup (k.map kV)))(d:kvs.length<sizeLine) :
  DPut H a (.ref b) v (upd H a (.dT (jF kvs k v))):=.inr ⟨kvs,k,b,e,rfl,c,d,rfl⟩
section
variable {X:Cx} {pins:List (au×Obj)} {σ:St} {H:Hp} {s:av} {a:au} {y v:V} {u r:ar} {o:Option V} {A:gj} {E:ar->av->Prop}
def Inv.big(I:Inv X pins σ H s):sysModules<s.heap.objs.size:=by
 have h:gm<s.heap.objs.size:=(I.mod.glob.keeps I.bk).lt;exact Nat.lt_trans (by decide) h
def kIQ{Q:ar->av->Prop}(D:A.units+1<cLine)(I:Inv X pins σ H s)(g:DGet H a y (some v))(q:RelV y u)(h:∀ w' s',Inv X pins σ H s'->RelV v w'->Q w' s') :
  dw (model X.prog X.w) A (getItem (.ref a) u) Q E s:=by
 rcases g with⟨j,k,e,i,l⟩ | ⟨j,k,b,e,i,B,l⟩
 ·subst i
  obtain⟨z,r,x,d,m⟩:=kFZ I.hok e;obtain⟨w',n,c⟩:=RelO.some_of (v:=v) (o:=valueAt x k) (by rw[l];exact d.val k);exact wpAny_getItem_of (oG q) m.mapOf n (h w' _ (I.tok _) c)
 ·subst i
  cases(show u=jx b from q)
  obtain⟨z,r,C,d,m⟩:=kFW I.hok e;obtain⟨w',n,c⟩:=RelO.some_of (v:=v) (o:=(atKey C k).map (·.2)) (by rw[l];exact d.val k);obtain⟨p,hp,f⟩:=cu.mp n;refine wpAny_getItem_heap (AC D) (lH I.hok B) m hp ?_;rw[f];exact h w' _ (I.tok _) c
def kPJ{Q:ar->av->Prop}(p:A.units+1<cLine)(I:Inv X pins σ H s)(g:DGet H a y o)(m:RelV y u)(h:∀ s',Inv X pins σ H s'->Q (.bool (!o.isSome)) s') :
  dw (model X.prog X.w) A (compareOp .NotIn u (.ref a)) Q E s:=by
 rcases g with⟨i,k,e,f,l⟩ | ⟨i,k,b,e,f,n,l⟩
 ·subst f
  obtain⟨z,d,r,c,j⟩:=kFZ I.hok e;refine wpAny_notIn_of (oG m) d j.mapOf ?_;rw[<-(c.val k).isSome_eq,<-l];exact h _ (I.tok _)
 ·subst f
  cases(show u=jx b from m)
  obtain⟨z,d,v,c,j⟩:=kFW I.hok e;refine wpAny_notIn_heap (AC p) (lH I.hok n) d j ?_;have q:=(c.val k).isSome_eq;rw[Di]at q;rw[<-q,<-l];exact h _ (I.tok _)
def vI{h':iS}{t':Nat}{ob:HO}(I:Inv X pins σ H s)(c:Mut (H a))(f:jb a s.heap h')(g:∃ q,h'.get? a=some q)(new:ObjOk X.prog X.w (upd H a ob) h' a ob) :
  Inv X pins σ (upd H a ob) {s with heap:=h',toks:=t'} :=
 I.write (x:=a) (e:=a) c (.inl rfl) (λ b q d z=>(f.2 b d).trans z) g new
def kDO{P:eo}{w:iJ}{H':Hp}{h':iS}{kvs:List (Key×V)}{c:List (Key×ar)}(z:kvs.length<=sizeLine)(d:(a == sysModules)=false)(b:KV kvs c)(f:h'.DictOf (qD P w) a c) :
  ObjOk P w H' h' a (.dK kvs):=⟨z,d,c,b,f⟩
def kIP{H':Hp}{Q:Unit->av->Prop}(hu:A.units+1<cLine)(I:Inv X pins σ H s)(g:DPut H a y v H')(M:RelV y u)(L:RelV v r)(h:∀ s',Inv X pins σ H' s'->Q () s') :
  dw (model X.prog X.w) A (setItem (.ref a) u r) Q E s:=by
 rcases g with⟨d,k,e,B,l,C⟩ | ⟨d,k,b,e,B,D,l,C⟩
 ·subst B C
  obtain⟨z,m,O,f,x⟩:=kGA I.hok e;have o:O.length<=sizeLine:=by rw[<-f.length];exact z
  have p:(jF d k v).length<=sizeLine:=by have:=xE d k v;omega
  refine wpAny_setItem_pairs (hsz:=o) (oG M) x λ J i n=>h _ ?_;have Z:∃ q,J.get? a=some q:=let ⟨q,_,_,j,_⟩:=i;⟨q,j⟩;exact vI I (by rw[e];exact qc) n Z (kDO p m (f.put k L) i)
 ·subst B C
  cases(show u=jx b from M)
  obtain⟨z,m,xs,f,x⟩:=kFX I.hok e;have o:xs.length<=sizeLine:=by rw[<-vi f];exact z
  have p:(jF d k v).length<=sizeLine:=by have:=xE d k v;omega
  refine wpAny_setItem_heap (hsz:=o) (AC hu) (lH I.hok D) x λ J i n=>h _ ?_;obtain⟨q,T,N,j,U,S,Y,_,h5⟩:=i;refine vI I (by rw[e];exact qc) n ⟨q,j⟩ ⟨p,m,_,(f.put k D L).keeps λ c ys G=>?_,q,T,N,j,U,S,Y,h5⟩;rw[kM (wM G e (λ z=>nomatch z))];exact G
end
section
variable {X:Cx} {pins:List (au×Obj)} {σ:St} {H:Hp} {s:av} {a:au} {kvs:List (Key×V)} {k:Key} {u:ar} {A:gj} {E:ar->av->Prop}
end
def kUP(i:iO):Prop:=∀ b a,subscripted i false b a=operate [b,a] (getItem b a)
def kNO{prog:eo}{w:iJ}{A:gj}{E:ar->av->Prop}{s:av}{env:Env}{value a:iO}{j:Pos}{T id:String}{Q:ar->av->Prop}
  (n:typeLookup (.type T) "__getitem__" = pure (some (.builtin id))) (m:kUP a)
  (h:dw (model prog w) A (eval value env) (λ o s₁=>dw (model prog w) A (eval a env) (λ i s₂=>s₂.TypeIs o T/\dw (model prog w) A (getItem o i) Q E s₂) E s₁) E s) :
  dw (model prog w) A (eval (.Subscript value a j) env) Q E s:=by
 refine Em (vj h (λ o s₁ f=>vj f (λ i s₂ b=>?_) λ _ _ x=>x) λ _ _ x=>x);obtain⟨l,b⟩:=b;unfold subscriptTail;refine ae ?_;rw[getitemInPython_of_ne l.not_modules];refine ae (Ce l n ?_)
 have d:dw (model prog w) A (subscripted a false o i) (λ r c=>dw (model prog w) A (letTemporaryGo value o r >>= λ _=>pure r) Q E c) E s₂:=by
  rw[m o i];exact wpAny_operating (vj b (λ r c g=>ae (wpAny_letTemporaryGo (bj g))) λ _ _ x=>x)
 first
  | exact bj (ae d)
  | exact ae (bj (ae d))
  | exact ae d
def kBI{X:Cx}{c:List (au×Obj)}{h:St}{H:Hp}{s:av}{a:au}{y:V}{o:Option V}(I:Inv X c h H s)(g:DGet H a y o):s.TypeIs (.ref a) "dict":=by
 rcases g with⟨d,k,e,_,_⟩ | ⟨d,k,b,e,_,_,_⟩
 ·obtain⟨_,_,i,_,f⟩:=kFZ I.hok e
  exact f.typeIs
 ·obtain⟨_,_,j,_,f⟩:=kFW I.hok e
  exact f.typeIs
inductive kJQ(Q:VK)(x:V)(y:V)(H2:Hp):Prop
 | mk:∀ a v,(x=.ref a)->(DGet H2 a y (some v))->(Q v H2)->kJQ Q x y H2
def kTE(c f:TE):TE:=λ a H Q=>c a H λ x b=>f a b λ y d=>kJQ Q x y d
inductive tG(Q:VK)(y:V)(x:V)(H2:Hp):Prop
 | mk:∀ a o,(x=.ref a)->(DGet H2 a y o)->(Q (.bl (!o.isSome)) H2)->tG Q y x H2
def kNN(f c:TE):TE:=λ a H Q=>f a H λ y b=>c a b λ x d=>tG Q y x d
inductive kKN(D:Ends)(σ:St)(v:V)(x:V)(y:V)(H3:Hp):Prop
 | mk:∀ a H4,(x=.ref a)->(DPut H3 a y v H4)->(D.nx σ H4)->kKN D σ v x y H3
def kTJ(g h b:TE):TS:=λ D a H=>b a H λ v d=>g a d λ x c=>h a c λ y f=>kKN D a v x y f
section
variable {X:Cx} {o i e value:iO} {pos pos' tpos:Pos} {td ty tv:TE}
def xU(D:X.A.units+1<cLine)(J:PE X o td)(hi:PE X i ty)(n:kUP i):PE X (.Subscript o i pos) (kTE td ty):=by
 intro b s d H Q I h;refine kNO PySem.F.slot_dict_getitem.lookup n (thn (J b s d H _ I h) λ u l ⟨x,j,m,C,r⟩=>thn (hi b l d j _ m r) λ O M ⟨y,p,f,G,a,v,L,g,q⟩=>?_);subst L;obtain rfl:u=jx a:=C;exact⟨kBI f g,kIQ D f g G λ S N B c=>⟨v,p,B,c,q⟩⟩
def kHR(r:X.A.units+1<cLine)(hi:PE X i ty)(B:PE X o td):PC X .NotIn i o (kNN ty td):=by
 intro b s c H Q I h;refine thn (hi b s c H _ I h) λ M f ⟨y,d,j,v,n⟩=>thn (B b f c d _ j n) λ u J ⟨x,l,D,q,a,C,G,g,m⟩=>?_;subst G;obtain rfl:u=jx a:=q;exact kPJ r D g v λ L p=>⟨.bl (!C.isSome),l,p,rfl,m⟩
def aV(L:X.A.units+1<cLine)(N:PE X o td)(hi:PE X i ty)(O:PE X value tv)(l:swapsWith value (some (.Subscript o i pos')) pos.line X.env=pure false) :
  PS X (.Assign [.Subscript o i pos'] value pos) (kTJ td ty tv):=by
 intro b s c H D I h;refine wpAny_Assign_Subscript (thn (O b s c H _ I h) λ r f ⟨v,d,j,G,q⟩=>thn (N b f c d _ j q) λ u m ⟨x,n,Q,C,p⟩=>thn (hi b m c n _ Q p) λ iv Y ⟨y,H3,B,M,a,J,S,g,T⟩=>?_) l;subst S;obtain rfl:u=jx a:=C;exact kIP L B g M G λ Z U=>⟨c,J,U,T⟩
end
def kBH{P:eo}{w:iJ}{H:Hp}(h:iS)(a:sysModules<h.objs.size):ObjOk P w H (h.push {cls:=.type "dict",data:=.dict #[]}) h.objs.size (.dK []) :=
 ⟨gy _,beq_eq_false_iff_ne.mpr (pe (dq a)),[],.nil,Cf h⟩
def kMT{P:eo}{w:iJ}{H:Hp}(h:iS)(a:sysModules<h.objs.size):ObjOk P w H (h.push {cls:=.type "dict",data:=.dict #[]}) h.objs.size (.dT []) :=
 ⟨gy _,beq_eq_false_iff_ne.mpr (pe (dq a)),[],.nil,_,#[],0,cg _ rfl,⟨rfl,rfl,rfl⟩,rfl,rfl,yr⟩
def kQU:TE:=λ _ H Q=>∀ p,H p=none->Q (.ref p) (upd H p (.dK []))
def kQT:TE:=λ _ H Q=>∀ p,H p=none->Q (.ref p) (upd H p (.dT []))
section
variable {X:Cx} {pos:Pos}
def kLF:PE X (.Dict [] [] pos) kQU:=λ b s c H Q I h =>
 EJ ⟨.ref s.heap.objs.size,_,I.laid (a:=s.heap.objs.size) (o:=.dK []) (t':=s.toks) (λ _ _ q=>ao _ q) (be _) (kBH s.heap I.big),rfl,h _ (I.hok.fresh (be _))⟩
def kLE:PE X (.Dict [] [] pos) kQT:=λ b s c H Q I h =>
 EJ ⟨.ref s.heap.objs.size,_,I.laid (a:=s.heap.objs.size) (o:=.dT []) (t':=s.toks) (λ _ _ q=>ao _ q) (be _) (kMT s.heap I.big),rfl,h _ (I.hok.fresh (be _))⟩
end
def kCD:List (TE×TE)->St->Hp->(List (V×V)->Hp->Prop)->Prop
 | [],_,H,Q=>Q [] H
 | (tk,tv)::r,σ,H,Q=>tk σ H λ x a=>tv σ a λ y c=>kCD r σ c λ d b=>Q ((x,y)::d) b
abbrev VV:List (V×V)->List (ar×ar)->Prop:=ED λ p q=>RelV p.1 q.1/\RelV p.2 q.2
def PPs(X:Cx)(c:Pos)(b:List (Option iO))(a:List iO)(d:List (TE×TE)):Prop :=
 ∀(pins:List (au×Obj))(s:av)(σ:St)(H:Hp)(Q:List (V×V)->Hp->Prop),Inv X pins σ H s->kCD d σ H Q ->
  dw (model X.prog X.w) X.A (evalPairs (pairTrees b a X.env c)) (λ i h=>∃ f g,Inv X pins σ g h/\VV f i/\Q f g) X.xe s
def kOD{X:Cx}{a:Pos}:PPs X a [] [] []:=λ b s c H Q I h=>pairTrees_nil_walk ⟨[],H,I,.nil,h⟩
def kAC{X:Cx}{b:Pos}{k v:iO}{g:List (Option iO)}{j:List iO}{tk i:TE}{c:List (TE×TE)}(q:PE X k tk)(L:PE X v i)(O:PPs X b g j c) :
  PPs X b (some k::g) (v::j) ((tk,i)::c):=λ a s d H Q I h =>
 pairTrees_cons_walk (thn (q a s d H _ I h) λ u m ⟨x,l,n,D,B⟩=>thn (L a m d l _ n B) λ T o ⟨y,p,M,J,r⟩ =>
  thn (O a o d p _ M r) λ U S ⟨A,G,C,f,N⟩=>⟨(x,y)::A,G,C,.cons ⟨D,J⟩ f,N⟩)
def wD(kvs more:List (Key×V)):List (Key×V):=more.foldl (λ a b=>jF a b.1 b.2) kvs
def KV.merge:∀{more:List (Key×V)}{b:List (Key×ar)}{kvs:List (Key×V)}{a:List (Key×ar)},KV more b->KV kvs a->KV (wD kvs more) (merged a b):=by
 intro more b kvs a r;unfold KV at r
 induction r generalizing kvs a with
 | nil=>intro q;exact q
 | @cons p q ps qs h t ih =>
  intro c
  have e:KV (jF kvs p.1 p.2) (stored a q.1 q.2):=by
   have:=c.put p.1 h.2;rw[<-h.1];exact this
  exact ih e
theorem uZ:∀(more kvs:List (Key×V)),(wD kvs more).length<=kvs.length+more.length
 | [],kvs=>by show kvs.length<=kvs.length+0;omega
 | p::r,kvs=>by
  have h1:=uZ r (jF kvs p.1 p.2);have a:=xE kvs p.1 p.2;show(wD (jF kvs p.1 p.2) r).length<=_;rw[gn];omega
theorem mG{P:eo}{w:iJ}:∀{kvs:List (Key×V)}{d:List (ar×ar)},VV (kvs.map λ kv=>(kV kv.1,kv.2)) d->∃ rs,Carries (qD P w) d rs/\KV kvs rs
 | [],_,r=>by rw[BK]at r;cases r;exact⟨[],qc,.nil⟩
 | p::kvs,_,r=>by
  rw[gv]at r
  cases r with
  | @cons a b as bs h t =>
   obtain⟨rs,c,q⟩:=mG (P:=P) (w:=w) t;obtain⟨g,f⟩:=b;exact⟨(p.1,f)::rs,⟨oG h.1,rfl,c⟩,.cons ⟨rfl,h.2⟩ q⟩
def kTD(b:List (TE×TE)):TE:=λ f H Q=>∀ p,H p=none->kCD b f (upd H p (.dK [])) λ g d=>d p=some (.dK [])/\∃ a:List (Key×V),g=a.map (λ c=>(kV c.1,c.2))/\a.length<=15/\Q (.ref p) (upd d p (.dK (wD [] a)))
def kOH{X:Cx}{i:Pos}{b:List (Option iO)}{d:List iO}{j:List (TE×TE)}(h:PPs X i b d j)(g:b.all (·.isSome)=true)(L:b.length=d.length)(h0:b≠[])
  (n:b.length<=15):PE X (.Dict b d i) (kTD j):=by
 intro m s B H Q I q;have D:=I.hok.fresh (be s.heap.objs.size);have A:=I.laid (a:=s.heap.objs.size) (o:=.dK []) (h':=s.heap.push {cls:=.type "dict",data:=.dict #[]}) (t':=s.toks) (λ _ _ q=>ao _ q) (be _) (kBH s.heap I.big);refine wpAny_Dict_walk (knd:=qD X.prog X.w) g L h0 n (thn (h m _ B _ _ A (q _ D)) λ ws Y ⟨ps,Z,u,p,e,l,v,U,J⟩=>?_);subst v;obtain⟨S,c,T⟩:=mG (P:=X.prog) (w:=X.w) p;obtain⟨z,x,y,O,M⟩:=kGA u.hok e;cases O
 refine⟨S,c,M,λ r f C=>⟨.ref s.heap.objs.size,_,?_,rfl,J⟩⟩
 have G:(wD [] l).length<=sizeLine:=by
  have h1:=uZ l [];rw[qm]at h1;rw[Ap];omega
 have N:∃ q,r.get? s.heap.objs.size=some q:=let ⟨q,_,_,hq,_⟩:=f;⟨q,hq⟩;exact vI u (by rw[e];exact qc) C N (kDO G x (T.merge .nil) f)
section
variable {X:Cx} {pins:List (au×Obj)} {σ:St} {H:Hp} {s:av} {a:au} {y d:V} {u r:ar} {o:Option V} {A:gj} {E:ar->av->Prop}
end
section
variable {X:Cx} {o e f:iO} {apos cpos:Pos} {td ty tx:TE}
end
section
variable {X:Cx} {pins:List (au×Obj)} {σ:St} {H:Hp} {s:av} {a:au} {kvs:List (Key×V)} {A:gj} {E:ar->av->Prop}
end
section
variable {X:Cx} {pins:List (au×Obj)} {σ:St} {H:Hp} {s:av} {a:au} {y:V} {u:ar} {A:gj} {E:ar->av->Prop}
end
section
variable {κ:Type} [DecidableEq κ]
end
end L2
set_option maxHeartbeats 4000000
namespace L2
open PySem PySem.Spec PyProof.Rows
abbrev TB:=(St->Hp->Prop)->St->Hp->Prop
def PBd(X:Cx)(code:Sem Unit)(b:TB):Prop :=
 ∀(pins:List (au×Obj))(s:av)(σ:St)(H:Hp)(N:St->Hp->Prop),Inv X pins σ H s->b N σ H ->
  dw (model X.prog X.w) X.A code (λ _ d=>∃ a c,Inv X pins a c d/\N a c) X.xe s
def PTl(X:Cx)(tail:Sem uq)(L:Gn)(b:TB):Prop :=
 ∀(pins:List (au×Obj))(s:av)(σ:St)(H:Hp)(N:St->Hp->Prop),Inv X pins σ H s->b N σ H ->
  dw (model X.prog X.w) X.A tail (λ c f=>c=.again L/\∃ a d,Inv X pins a d f/\N a d) X.xe s
def yB(b:List iO)(env:Env)(a:Sem Unit)(L:Gn):Sem uq :=
 (forIn b true λ c r=>if r=true then do let ok <-isTrue c env (eval c env);pure (jg ok) else pure (jg r)) >>= λ ok=>if ok=true then a >>= λ _=>again L else again L
def vS(J:It)(g:TG)(b:TB)(j:St->Hp->Prop)(c:St)(H:Hp):Prop :=
 ∃ W:Nat->Nat->St->Hp->Prop,(∃ m,W 0 m c H)/\∀ i m c H,W i m c H ->
  (J.stop i H/\j c H)\/(J.go i H/\∃ N:St->Hp->Prop,(∀ a d,N a d->∃ h,h<m/\W (i+1) h a d)/\∀ x d,J.yld i H x d->g x c d λ f l=>b N f l)
section
variable {X:Cx} {e tg:iO} {gens:List DI} {sc:wg} {cpos:Pos} {d:Nat} {it:au} {acc:ar} {tail:Sem uq} {p:Pos} {g:TG} {b:TB} {J:It} {fp:List au} {tn:Nat->iS->Prop} {N0:St->Hp->Prop} {R:Result->av->Prop}
def yL(he:(∃ el,e=.ListComp el gens sc cpos)\/∃ k v,e=.DictComp k v gens sc cpos)(hx:X.xe=λ _ _=>False)(hc:X.calm=true)
  (ht:compTurn e d (.ref it) acc X.env=(standAt p >>= λ _=>pyNext (.ref it) >>= λ r=>match r with
   | none=>pure (.done .next)
   | some v=>letOwnedTupleGo tg (.ref it) v >>= λ _=>assign tg X.env v >>= λ _=>tail))
  (T:Turn X.prog X.w X.K tg J fp it tn) (hg:PG X tg g) (f:PTl X tail (.compLoop e d (.ref it) acc X.env) b) {a:List (au×Obj)} {G:St} {H:Hp} {s:av}
  (I:Inv X a G H s) (st:tn 0 s.heap) (f2:∀ b∈fp,yV X a H b) (hw:vS J g b N0 G H)
  (hR:∀ σ' H' s',Inv X a σ' H' s'->N0 σ' H'->R (.ok .next) s') :
  codeAny (model X.prog X.w) X.A (.compLoop e d (.ref it) acc X.env) R s:=by
 obtain⟨W,⟨m0,w0⟩,turn⟩:=hw;have c:∀{H':Hp},(∀ b∈fp,H' b=none)->∀ b∈fp,yV X a H' b:=λ hn b f=>⟨hn b f,(f2 b f).2⟩;refine codeAny_loop rfl (λ n s'=>∃ i σ' H',Inv X a σ' H' s'/\tn i s'.heap/\(∀ b∈fp,H' b=none)/\W i n σ' H') ?_ m0 ⟨0,G,H,I,st,λ b f=>(f2 b f).1,w0⟩;rintro n L ⟨i,j,U,I3,D,B,w3⟩
 have l:(model X.prog X.w).den (.compLoop e d (.ref it) acc X.env)=((compTurn e d (.ref it) acc X.env).onRaise (λ x=>do noteFrame x X.env;theTreesLotGoes x))/\X.A.under (.compLoop e d (.ref it) acc X.env)=X.A:=by
  rcases he with⟨el,rfl⟩ | ⟨k,v,rfl⟩<;>exact⟨rfl,rfl⟩
 rw[l.1,l.2];show dw _ _ ((compTurn e d (.ref it) acc X.env).onRaise (λ x=>do noteFrame x X.env;theTreesLotGoes x)) _ _ L;refine wpAny_noted ?_;rw[ht]
 have y:∀{α:Type}{t:Sem α}{Q:α->av->Prop}{E:ar->av->Prop}{s:av},dw (model X.prog X.w) X.A t Q X.xe s->dw (model X.prog X.w) X.A t Q E s :=
  λ h=>vj h (λ _ _ q=>q) λ _ _ q=>by rw[hx]at q;exact q.elim
 refine ae (vk (ae ?_));rcases turn i n j U w3 with⟨stop,qn⟩ | ⟨go,N,hN,step⟩
 ·refine y (thn (T.done X rfl rfl rfl hc i a L j U X.xe I3 (c B) D stop) λ r s4 ⟨M,I4⟩=>?_)
  subst M;exact bj (hR _ _ _ I4 qn)
 ·refine y (thn (T.item X rfl rfl rfl hc i a L j U X.xe I3 (c B) D go) λ r s4 ⟨u,M,h4⟩=>?_)
  subst M;refine ae (y (thn h4 λ _ s5 ⟨x,H5,I5,r5,y5,m,Z⟩=>?_));have S:=I5.pinned (c Z) (T.obj _ _ m);refine ae (y (thn (hg _ s5 j H5 x u _ S r5 (step x H5 y5)) λ _ s6 ⟨O,H6,I6,q6⟩=>?_));refine y (thn (f _ s6 O H6 _ I6 q6) λ a0 s7 ⟨hf,C,H7,Y,n7⟩=>?_);subst hf;obtain⟨m',hm,w7⟩:=hN C H7 n7;refine⟨rfl,m',hm,i+1,C,H7,Y.unpinned,T.keep _ _ _ m λ b f o e=>(Y.pin (b,o) (ck _ (ck _ (vD f e)))).1,λ b f=>?_,w7⟩;obtain⟨o,e,d⟩:=T.obj _ _ m b f;exact(Y.pin (b,o) (ck _ (ck _ (vD f e)))).2.1
end
def bIf(t:TT)(b:TB):TB:=λ N a H=>t a H λ c d=>if c=true then b N a d else N a d
def jG{X:Cx}{a:Sem Unit}{L:Gn}{b:TB}(d:PBd X a b):PTl X (yB [] X.env a L) L b:=by
 intro c s f H N I h;unfold yB;refine ae (EX ?_);show dw _ _ (a >>= λ _=>again L) _ _ s;exact ae (thn (d c s f H N I h) λ _ g q=>bj ⟨rfl,q⟩)
def zL{X:Cx}{c:iO}{t:TT}{d:Sem Unit}{L:Gn}{b:TB}(j:PT X c t)(l:PBd X d b):PTl X (yB [c] X.env d L) L (bIf t b):=by
 intro a s f H N I h;unfold yB;refine ae (wpAny_tests_one (thn (j a s f H _ I h) λ ok m ⟨g,i,q⟩=>?_))
 cases ok with
 | true=>exact ae (thn (l a m f g N i (by simpa using q)) λ _ n q=>bj ⟨rfl,q⟩)
 | false=>exact bj ⟨rfl,f,g,i,by simpa using q⟩
def kVK(D:au)(d:TE):TB:=λ N c H=>d c H λ x b=>∃ a,b D=some (.lst a)/\a.length<sizeLine/\N c (upd b D (.lst (a++[x])))
def xD{X:Cx}{d:iO}{f:TE}{D:au}(o:PE X d f):PBd X (do let _ <-call (.builtin "list.append") [.ref D,<-eval d X.env]) (kVK D f):=by
 intro a s b H N I h;refine ae (thn (o a s b H _ I h) λ u j ⟨x,i,l,r,p,g,m,q⟩=>?_);refine ae (thn (jZ a j b i (.ref D) [x] (.ref D) [u] (λ _ c=>N b c) l rfl (.cons r .nil) ⟨D,p,x,rfl,rfl,g,m,q⟩) λ _ y ⟨_,c,v,_,n⟩=>?_);exact bj ⟨b,c,v,n⟩
def kEB(f d iter:iO)(b:List iO)(g:wg)(a:Pos)(it c:ar)(env:Env) :
  compTurn (.ListComp f [⟨d,iter,b,0⟩] g a) 0 it c env=(standAt iter.pos >>= λ _=>pyNext it >>= λ r=>match r with
   | none=>pure (.done .next)
   | some v=>letOwnedTupleGo d it v >>= λ _=>assign d env v >>= λ _=>yB b env (do let _ <-call (.builtin "list.append") [c,<-eval f env]) (.compLoop (.ListComp f [⟨d,iter,b,0⟩] g a) 0 it c env)):=by rfl
def kJL(b:List iO)(env:Env)(a:iO)(next:ar->Gn)(L:Gn):Sem uq :=
 (forIn b true λ c r=>if r=true then do let ok <-isTrue c env (eval c env);pure (jg ok) else pure (jg r)) >>= λ ok=>if ok=true then
  (eval a env >>= λ x=>standAt a.pos >>= λ _=>foldedSetIterable a env x >>= λ x=>holding [x] (pyIter x) >>= λ i=>runOwn (next i) env >>= λ _=>again L) else again L
def kJG(j h iter f a:iO)(d b:List iO)(l:wg)(c:Pos)(it g:ar)(env:Env) :
  compTurn (.ListComp j [⟨h,iter,d,0⟩,⟨f,a,b,0⟩] l c) 0 it g env=(standAt iter.pos >>= λ _=>pyNext it >>= λ r=>match r with
   | none=>pure (.done .next)
   | some v=>letOwnedTupleGo h it v >>= λ _=>assign h env v >>= λ _=>kJL d env a (λ i=>.compStart (.ListComp j [⟨h,iter,d,0⟩,⟨f,a,b,0⟩] l c) 1 i g env) (.compLoop (.ListComp j [⟨h,iter,d,0⟩,⟨f,a,b,0⟩] l c) 0 it g env)):=by rfl
def kJF(h i iter c a:iO)(g b:List iO)(j:wg)(d:Pos)(it f:ar)(env:Env) :
  compTurn (.ListComp h [⟨i,iter,g,0⟩,⟨c,a,b,0⟩] j d) 1 it f env=(standAt a.pos >>= λ _=>pyNext it >>= λ r=>match r with
   | none=>pure (.done .next)
   | some v=>letOwnedTupleGo c it v >>= λ _=>assign c env v >>= λ _=>yB b env (do let _ <-call (.builtin "list.append") [f,<-eval h env]) (.compLoop (.ListComp h [⟨i,iter,g,0⟩,⟨c,a,b,0⟩] j d) 1 it f env)):=by rfl
def vJ(env:Env)(a:List (Str×au))(y:Str×tz):List (Str×au) :=
 if(y.2 == .free)=true then(match env.cells.lookup y.1 with | some c=>(y.1,c)::a | none=>a) else a
def uU(a:wg)(env:Env):List (Str×au):=a.names.foldl (vJ env) []
def sK(env:Env)(x:Str×tz)(r:List (Str×au)):Sem (ForInStep (List (Str×au))) :=
 match x with | (name,kind)=>if(kind == .free)=true then(do let a <-cellOf env name;pure (jg ((name,a)::r))) else pure (jg r)
def kIS{env:Env}{y:Str×tz}{b:List (Str×au)}(h:y.2=.free->∃ c,env.cells.lookup y.1=some c):sK env y b=pure (jg (vJ env b y)):=by
 obtain⟨n,k⟩:=y;unfold sK vJ
 cases hk:k == Bu with
 | false=>simp[hk]
 | true =>
  obtain⟨c,d⟩:=h (by simpa using hk);have a:List.lookup n env.cells=some c:=d;simp only[hk,if_true,cellOf,a,pure_bind]
theorem mE{env:Env}:∀(l:List (Str×tz))(a:List (Str×au)),(∀ y∈l,y.2=.free->∃ c,env.cells.lookup y.1=some c) ->
  (forIn l a (sK env):Sem (List (Str×au)))=pure (l.foldl (vJ env) a)
 | [],a,_=>rfl
 | y::r,a,h=>by
  rw[zu,kIS (h y eZ),pure_bind,vy];exact mE r _ λ y b=>h y (eC _ b)
def yM{a:wg}{env:Env}(h:∀ y∈a.names,y.2=.free->∃ c,env.cells.lookup y.1=some c):closureFor a env=pure (uU a env):=by
 have q:=mE (env:=env) a.names [] h;have z:closureFor a env=(forIn a.names [] (sK env) >>= λ r=>pure r):=rfl;rw[z,q]
 rfl
theorem bS{env:Env}{x:Str}{c:au}:∀(l:List (Str×tz))(a:List (Str×au)),(a.lookup x=some c->env.cells.lookup x=some c)->(l.foldl (vJ env) a).lookup x=some c->env.cells.lookup x=some c
 | [],a,h,e=>h e
 | (n,k)::r,a,h,e=>by
  rw[vy]at e;refine bS r _ (λ z=>?_) e;unfold vJ at z
  split at z
  ·split at z
   ·rename_i c' hc
    rw[Af]at z
    split at z
    ·rename_i hx
     have:x=n:=by simpa using hx
     subst this;cases z
     exact hc
    ·exact h z
   ·exact h z
  ·exact h z
theorem kDQ{env:Env}{x:Str}:∀(l:List (Str×tz))(a:List (Str×au)),(∃ c,env.cells.lookup x=some c)->((∃ c,a.lookup x=some c)\/(x,Bu)∈l)->∃ c,(l.foldl (vJ env) a).lookup x=some c
 | [],a,_,h=>h.elim id (λ z=>nomatch z)
 | (n,k)::r,a,he,h=>by
  rw[vy];refine kDQ r _ he ?_;rcases h with⟨c,h⟩ | h
  ·left
   unfold vJ
   split
   ·split
    ·rename_i c' b
     rw[Af]
     split
     ·exact⟨_,rfl⟩
     ·exact⟨c,h⟩
    ·exact⟨c,h⟩
   ·exact⟨c,h⟩
  ·rcases dr.mp h with z | z
   ·cases z
    obtain⟨c,b⟩:=he
    left
    refine⟨c,?_⟩;unfold vJ;simp[b]
   ·exact .inr z
structure CS(sc S0:wg):Prop where
 kind:sc.kind=.function
 names:∀ y∈sc.names,y.2=.local->sc.names.lookup y.1=some .local
 nocell:∀ y∈sc.names,y.2≠.cell
 free:∀ y∈sc.names,y.2=.free->S0.names.lookup y.1=some .cell
def zK(env:Env)(y:Str×tz):Str×tz:=if(y.2 == .free && env.scope.kind == .function && env.kindOf y.1 == some .cell)=true then(y.1,.cell) else(y.1,y.2)
def kCP(env:Env)(y:Str×tz):(zK env y).1=y.1:=by
 unfold zK
 split<;>rfl
theorem gO{env:Env}{x:Str}:∀(l:List (Str×tz)),(l.map (zK env)).lookup x=(l.lookup x).map λ k=>(zK env (x,k)).2
 | []=>rfl
 | (n,k)::r=>by
  rw[gv];have e:zK env (n,k)=(n,(zK env (n,k)).2):=wj (kCP env (n,k)) rfl;rw[e,Af,Af]
  cases hx:x == n with
  | true =>
   have:x=n:=by simpa using hx
   subst this
   rfl
  | false=>exact gO r
def cxC(X:Cx)(Nc:List Str)(d:wg)(C:au)(c:av)(a:Hp)(f:List au)(b:List (au×Obj)):Cx :=
 {X with N:=Nc,s₀:=c,H₀:=a,env:=compEnvC d (uU d X.env) C X.env,outer:=X.stack,ex:=f,fn:=λ _=>false,pn:=X.pn++b}
def cP(js:List (Option Nat))(a:St):St:=js.map λ o=>o.bind λ j=>(a[j]?).join
def bU(js:List (Option Nat))(Nc N:List Str)(names:List (Str×tz)):Bool :=
 decide (js.length=Nc.length) && (js.zip Nc).all λ(o,x)=>match o with | none=>true | some j=>decide (N[j]?=some x) && decide (names.lookup x=some .free)
def kSQ{js:List (Option Nat)}{Nc N:List Str}{names:List (Str×tz)}(h:bU js Nc N names=true):js.length=Nc.length/\∀(i j:Nat)(x:Str),js[i]?=some (some j)->Nc[i]?=some x->N[j]?=some x/\names.lookup x=some .free:=by
 unfold bU at h;rw[iQ]at h;refine⟨of_decide_eq_true h.1,λ i j x b a=>?_⟩
 have z:(js.zip Nc)[i]?=some (some j,x):=by
  rw[uj];exact⟨b,a⟩
 have q:=wz.mp h.2 _ (cv z);dsimp only at q;rw[iQ]at q;exact⟨of_decide_eq_true q.1,of_decide_eq_true q.2⟩
section
variable {X:Cx} {pins:List (au×Obj)} {σ:St} {H:Hp} {s:av} {sc:wg} {Nc:List Str} {js:List (Option Nat)} {fp:List au}
def kOP(I:Inv X pins σ H s)(S:CS sc X.env.scope)(f:∀ b∈fp,yV X pins H b)(j:∀ b∈fp,b<s.heap.objs.size){C:au}(hC:s.heap.objs.size<=C):(cxC X Nc sc C s H fp pins).Ok:=by
 have d:∀ x c,(uU sc X.env).lookup x=some c->X.env.cells.lookup x=some c:=λ x c e=>bS sc.names [] (λ z=>nomatch z) e;refine⟨I.ok.mod,S.kind,I.ok.glob,I.ok.blt,hC,λ x y c J v=>I.ok.inj x y c (d x c J) (d y c v),λ x A=>?_,λ x c z=>(nomatch z),I.ok.hd,I.ok.frames,.inl rfl,λ b g=>⟨?_,λ x c e=>(f b g).2.2.2.2.1 x c (d x c e)⟩,I.bs,jt I.ok.bsz I.sz,λ b o e g=>?_,λ b g q=>?_,I.stack,I.stkFree⟩
 ·have a:(sc.names.map (zK X.env)).lookup x=some .cell\/(sc.names.map (zK X.env)).lookup x=some .free:=A
  rw[gO]at a
  cases e:sc.names.lookup x with
  | none=>rw[e]at a;rcases a with z | z<;>cases z
  | some k =>
   rw[e]at a;have m:(x,k)∈sc.names:=mo e
   have D:k=.free:=by
    have G:=S.nocell _ m;unfold zK at a;by_cases l:(k == Bu)=true
    ·simpa using l
    ·have h:(k == Bu)=false:=by simpa using l
     simp only[h,Eg,xm]at a;rcases a with z | z
     ·exact absurd (by simpa using z) G
     ·simpa using z
   subst D;have i:=S.free _ m rfl;obtain⟨c,r⟩:=I.ok.has x (.inl i);exact kDQ sc.names [] ⟨c,r⟩ (.inr m)
 ·exact dq (cy (j b g) hC)
 ·obtain⟨h0,h1,p,n,u,B⟩:=f b g
  rcases n with z | z
  ·exact I.ok.noex b o e z
  ·exact absurd (cy (bz (I.ok.bs b o e).1) z) (qa _)
 ·obtain⟨h0,h1,p,n,u,B⟩:=f b g
  rcases dr.mp (I.stkSub b q) with z | z
  ·exact h1 z
  ·exact p z
def wO(I:Inv X pins σ H s)(S:CS sc X.env.scope)(f:∀ b∈fp,yV X pins H b)(T:∀ b∈fp,b<s.heap.objs.size)(O:bU js Nc X.N sc.names=true){C D:au}{o:HO}{g:iS}{m:Str->Option ar}{tk:Nat}
  (hC:s.heap.objs.size<=C) (n:s.heap.objs.size<=D) (M:D≠C) (y:∀ b ob,s.heap.get? b=some ob->g.get? b=some ob) (J:g.Ns C m) (new:ObjOk X.prog X.w (upd H D o) g D o) :
  Inv (cxC X Nc sc C s H fp pins) [] (cP js σ) (upd H D o) {s with heap:=g,toks:=tk}:=by
 have l:∀ x c,(uU sc X.env).lookup x=some c->X.env.cells.lookup x=some c:=λ x c e=>bS sc.names [] (λ z=>nomatch z) e;have fresh:∀ a,s.heap.objs.size<=a->H a=none:=λ a ha=>I.hok.fresh ha;obtain⟨cl,cp⟩:=kSQ O;refine⟨kOP I S f T hC,rfl,I.bare,Un.laid y n (fresh D n),⟨m,J,λ i x v e1 h e3=>?_⟩,λ x c e=>?_,?_,λ x c e=>?_,λ p hp=>?_,I.hok.laid y n new,?_⟩
 ·-- a name of the frame's
  unfold cP at h;rw[bg]at h
  cases ej:js[i]? with
  | none=>rw[ej]at h;cases h
  | some oj =>
   rw[ej]at h
   cases oj with
   | none=>cases h
   | some j =>
    obtain⟨hN,d⟩:=cp i j x ej e1
    have hv:σ[j]?=some (some v):=by
     simp only[xm,Option.bind_some,Gi]at h
     cases e:σ[j]? with
     | none=>rw[e]at h;cases h
     | some w=>rw[e]at h;exact congrArg some h
    have Q:X.env.kindOf x=some .cell:=S.free _ (mo d) rfl;obtain⟨m',a0,hl⟩:=I.loc;obtain⟨u,r,lk⟩:=hl j x v hN hv (.inr (.inl Q));refine⟨u,r,.inr ⟨.inl ?_,?_⟩⟩
    ·show(sc.names.map (zK X.env)).lookup x=some .cell
     rw[gO,d];unfold zK;simp[I.ok.kind,Q]
    ·rcases lk with⟨z,_⟩ | ⟨_,c,U,B⟩
     ·rw[Q]at z;cases z
     ·obtain⟨G,A⟩:=kDQ sc.names [] ⟨c,U⟩ (.inr (mo d))
      have:G=c:=bh ((l x G A).symm.trans U);subst this;exact⟨G,A,B.keeps y⟩
 ·obtain⟨v,B⟩:=I.cell x c (l x c e)
  exact⟨v,B.keeps y⟩
 ·show upd H D o C=none
  rw[kM M.symm];exact fresh C hC
 ·have q:=l x c e
  obtain⟨v,B⟩:=I.cell x c q;show upd H D o c=none;rw[kM (dq (cy B.lt n))];exact I.freeC x c q
 ·have L:p∈X.pn++pins:=by
   rcases cf.mp hp with z | z
   ·exact z
   ·exact absurd z (by simp)
  obtain⟨Y,a2,a3,a4,Z⟩:=I.pin p L;have lt:=bz Y;refine⟨y _ _ Y,?_,dq (cy lt hC),λ z=>?_,Z⟩
  ·rw[kM (dq (cy lt n))]
   exact a2
  ·rcases dr.mp (I.stkSub _ z) with z | z
   ·exact a3 z
   ·exact a4 z
 ·unfold cP
  rw[ai];exact cl
def wP{C:au}{j:St}{H':Hp}{i:av}{h':iS}(I:Inv X pins σ H s)(f:∀ b∈fp,yV X pins H b)(hC:s.heap.objs.size<=C)(J:Inv (cxC X Nc sc C s H fp pins) [] j H' i)(x:jb C i.heap h') :
  Inv X pins σ H' {i with heap:=h'}:=by
 have u:=J.base;have p:H' C=none:=J.free;have stay:∀ b a,b≠C->i.heap.get? b=some a->h'.get? b=some a:=λ b a g e=>x.extBut b a g e;have d:∀ b a,s.heap.get? b=some a->b≠C:=λ b a e=>dq (cy (bz e) hC);refine I.call' (ch:=fp) J.os ?_ (λ b v e=>?_) J.bare λ b g=>⟨(f b g).2.2.2.1,(f b g).2.1,(f b g).2.2.2.2.1,(f b g).2.2.2.2.2⟩
 ·refine⟨λ b a e n h1 h=>stay b a (d b a e) (u.keep b a e n h1 h),λ b a e n h1 h=>?_,u.free,λ b a e h=>?_,u.tups,u.frzs,u.tbls⟩
  ·obtain⟨m,q⟩:=u.slot b a e n h1 h
   exact⟨m,stay b _ (d b a e) q⟩
  ·obtain⟨r,q⟩:=u.there b a e h
   exact⟨r,stay b _ (d b a e) q⟩
 ·have l:∀ c w,H' c=some w->c≠C:=λ c w e z=>by rw[z,p]at e;cases e
  refine(J.hok b v e).stay (λ c w o q=>stay c w ?_ q) (λ _ q=>q) λ _ _ q=>q;rcases o with z | z
  ·rw[z];exact l b v e
  ·exact l c _ z
end
section
variable {X:Cx} {e tg iter el:iO} {ifs:List iO} {gens rest:List DI} {sc:wg} {pos:Pos} {Nc:List Str} {js:List (Option Nat)} {wi:TI}
def xX{prog:eo}{w:iJ}{A:gj}{env:Env}{R:Result->av->Prop}{s:av}{d:Nat}{it a:ar}{g:DI}(i:(∃ el,e=.ListComp el gens sc pos)\/∃ k v,e=.DictComp k v gens sc pos)
  (j:(clausesOf e)[d]?=some g) (l:g.is_async=0)
  (h0:codeAny (model prog w) A (.compLoop e d it a env) R s)
  (h:dw (model prog w) A (pyIter it) (λ it' s'=>codeAny (model prog w) A (.compLoop e d it' a env) R s') (λ _ _=>False) s) :
  codeAny (model prog w) A (.compStart e d it a env) R s:=by
 refine codeAny_of_tree ?_
 have b:(model prog w).den (.compStart e d it a env)=((compStart e d it a env).onRaise (λ x=>do noteFrame x env;standAt theWindowsPlace))/\A.under (.compStart e d it a env)=A:=by
  rcases i with⟨el,rfl⟩ | ⟨k,v,rfl⟩<;>exact⟨rfl,rfl⟩
 have m:∀ d it a,(Code.compLoop e d it a env).quiet=true:=λ _ _ _=>rfl;rw[b.1,b.2];refine wpAny_notedAt ?_;unfold compStart;rw[j];have c:((some g).elim false λ x=>x.is_async != 0)=false:=by show(g.is_async != 0)=false;rw[l];rfl
 rw[c];show dw _ _ (ask >>= _) _ _ s;refine ae (wpAny_askSetting (wpAny_ite ?_))
 split
 ·first
   | exact ae (bj (bj (Fw rfl h0)))
   | exact bj (Fw rfl h0)
 ·refine ae (vt ?_)
  show dw _ _ (standAt g.iter.pos >>= _) _ _ s;exact ae (vk (ae (vj h (λ it' s' f=>bj (Fw rfl f)) λ _ _ x=>x.elim)))
def tLC(js:List (Option Nat))(c:TI)(g:TG)(bd:au->TB):TE:=λ b H Q=>c b H λ J a=>∀ D,a D=none->vS J g (bd D) (λ _ d=>Q (.ref D) d) (cP js b) (upd a D (.lst []))
def zB{g:TG}{bd:au->TB}(hx:X.xe=λ _ _=>False)(hc:X.calm=true)(hi:PI X tg iter wi)(S:CS sc X.env.scope)(a2:bU js Nc X.N sc.names=true)
  (hg:∀ C s₂ H₂ fp pins,PG (cxC X Nc sc C s₂ H₂ fp pins) tg g)
  (l:∀ C s₂ H₂ fp pins D L,PTl (cxC X Nc sc C s₂ H₂ fp pins) (yB ifs (cxC X Nc sc C s₂ H₂ fp pins).env (do let _ <-call (.builtin "list.append") [.ref D,<-eval el (cxC X Nc sc C s₂ H₂ fp pins).env]) L) L (bd D))
  (hs:∀ x,foldedSetIterable iter X.env x=pure x:=by intro _;rfl) :
  PE X (.ListComp el [⟨tg,iter,ifs,0⟩] sc pos) (tLC js wi g bd):=by
 intro pins s σ H Q I h;rw[eval_ListComp];have a3:closureFor sc X.env=pure (uU sc X.env):=yM λ y hy hf=>I.ok.has y.1 (.inl (S.free y hy hf));refine om (use:=none) rfl hs a3 S.kind S.names (thn (hi pins s σ H _ I h) λ v s1 h1=>thn h1 λ a4 d h2=>?_);obtain⟨it,fp,tn,J,B,e,Z,T,O,f2,hw⟩:=h2;subst e;have r:∀ b∈fp,b<d.heap.objs.size:=λ b l=>let ⟨o,ho,_⟩:=T.obj _ _ O b l;bz ho;refine iz (rh S.nocell (by intro y hy;simp at hy) (λ i f a=>?_) S.kind);dsimp only at f a ⊢;generalize n:d.heap.push {cls:=.type "list",dict:=none,data:=.seq ([]:List ar).toArray}=G at f a ⊢;have a6:G.objs.size=d.heap.objs.size+1:=by rw[<-n,iX]
 have M:d.heap.objs.size≠G.objs.size:=by omega
 have j:d.heap.objs.size<=G.objs.size:=by omega
 have Y:∀ b o,d.heap.get? b=some o->i.get? b=some o:=λ b o e=>a.extBut b o (dq (cy (bz e) j)) (ao _ (n ▸ ao _ e));have u:i.get? d.heap.objs.size=some {cls:=.type "list",dict:=none,data:=.seq ([]:List ar).toArray}:=a.extBut _ _ M (ao _ (n ▸ cg _ rfl));have new:ObjOk X.prog X.w (upd B d.heap.objs.size (.lst [])) i d.heap.objs.size (.lst []):=⟨gy _,[],_,.nil,u⟩;have I4:=wO (js:=js) (Nc:=Nc) (tk:=d.toks+([]:List (Str×ar)).length) Z S f2 r a2 j (be _) M Y f new;have hn:B d.heap.objs.size=none:=Z.fresh
 have f4:∀ b∈fp,yV (cxC X Nc sc G.objs.size d B fp pins) [] (upd B d.heap.objs.size (.lst [])) b:=λ b l=>by
  obtain⟨h0,h1,h2,h3,h4,h5⟩:=f2 b l;refine⟨?_,dq (cy (r b l) j),λ z=>?_,.inl l,λ x c z=>?_,λ p hp=>?_⟩
  ·rw[kM (dq (r b l))];exact h0
  ·rcases dr.mp (Z.stkSub b z) with q | q
   ·exact h1 q
   ·exact h2 q
  ·exact h4 x c (bS sc.names [] (λ z=>nomatch z) z)
  ·rcases cf.mp hp with z | z
   ·exact h5 p z
   ·exact absurd z (by simp)
 have U:tn 0 i:=T.keep _ _ _ O λ b l o e=>Y b o e
 have m:codeAny (model X.prog X.w) X.A (.compLoop (.ListComp el [⟨tg,iter,ifs,0⟩] sc pos) 0 (.ref it) (.ref d.heap.objs.size) (compEnvC sc (uU sc X.env) G.objs.size X.env))
   (compPost (model X.prog X.w) X.A X.xe none (EP X pins σ Q) (.ref d.heap.objs.size) G.objs.size) {d with heap:=i,toks:=d.toks+([]:List (Str×ar)).length}:=by
  refine yL (X:=cxC X Nc sc G.objs.size d B fp pins) (.inl ⟨el,rfl⟩) hx hc (kEB _ _ _ _ _ _ _ _ _) T (hg _ _ _ _ _) (l _ _ _ _ _ _ _) I4 U f4 (hw _ hn) λ a5 H' s' I' q=>?_;obtain⟨m',a0,_⟩:=I'.loc;exact⟨m',a0,λ h' a1=>⟨.ref d.heap.objs.size,H',wP Z f2 j I' a1,rfl,q⟩⟩
 exact xX (.inl ⟨el,rfl⟩) rfl rfl m (T.self _ _ _ _ _ U m)
end
section
variable {X:Cx}
inductive kFA(x:V)(vs:List V)(H:Hp)(Q:VK):Prop
 | mk:∀ l xs i y,(x=.ref l)->(vs=[.int i,y])->(H l=some (.lst xs))->(0<=i)->(i<2 ^ 62)->(xs.length<sizeLine)->(Q .non (upd H l (.lst (xs.take i.toNat++y::xs.drop i.toNat))))->kFA x vs H Q
def oA:MtM X "list.insert" kFA:=by
 intro f s p H x A v J Q I m o h;obtain⟨l,G,i,y,rfl,rfl,d,h1,D,B,q⟩:=h;cases m
 obtain⟨u,w,rfl,⟨t,rfl⟩,c⟩:=o.two;obtain⟨z,a,n,r,C,e⟩:=I.lstM d
 refine Ae F.slot_list_insert ⟨_,e,rfl⟩ F.entry_list_insert (F.args_list_insert_3 _ _ _)
  (AutoSeq1.list_insert_list_int_val_1 l a.toArray n i t w (by rw[Es (by omega) (by omega)];decide) (by rw[fj];omega)) ⟨e,?_⟩
 refine⟨.non,_,I.lset (its':=a.take i.toNat++w::a.drop i.toNat) d e ?_ ((r.take i.toNat).append (.cons c (r.drop i.toNat))) ?_,rfl,q⟩
 ·have g:¬ i<0:=by omega
  simp only[g,if_false,fj];apply Array.toList_inj.mp;simp;by_cases j:i.toNat<=a.length
  ·rw[jw j,jh (l:=Gp i.toNat a) (by rw[iR];omega)]
  ·have b:a.length<=i.toNat:=by omega
   rw[Nat.min_eq_right b,jh (be _),jh b,nj (be _),nj b,List.take_nil]
 ·simp only[bq,dc,gn,iR]
  omega
def vL(a:List Int)(n:Int)(j:Nat):Prop:=a[j]?=some n/\∀ m:Nat,m<j->a[m]?≠some n
def zY{b:List Int}{a:List ar}(r:Vals (b.map V.int) a){m:Nat}(f:m<a.length):∃ k t,b[m]?=some k/\a[m]=uk k t:=by
 have g:=r.length;rw[ai]at g;have c:m<b.length:=by omega
 obtain⟨u,d,q⟩:=r.get (i:=m) (x:=.int b[m]) (by rw[bg,aa c];rfl);obtain⟨t,rfl⟩:=q;refine⟨b[m],t,aa c,?_⟩;rw[aa f]at d;exact bh d
def dH(n:Int)(v:ar):Bool:=match v with | .int k _=>k == n | _=>false
def wV{c:List Int}{a:List ar}(r:Vals (c.map V.int) a)(n:Int)(t:Tok):∀ y,y∈a.toArray->MeetsSeq.EqGives y (.int n t) (dH n y):=λ y d=>by
 obtain⟨m,b,rfl⟩:=eY.mp (List.mem_toArray.mp d);obtain⟨k,f,_,e⟩:=zY r b;rw[e];exact GV _ _ _ _
def cO{f:List Int}{a:List ar}(r:Vals (f.map V.int) a){n:Int}{j:Nat}(h:vL f n j):∃ hj:j<a.toArray.size,dH n a.toArray[j]=true/\∀ m (d:m<a.toArray.size),m<j->dH n a.toArray[m]=false:=by
 have l:=r.length;rw[ai]at l;have hj:j<f.length:=(aj.mp h.1).1;have b:j<a.length:=by omega
 refine⟨by rw[fj];exact b,?_,λ m d i=>?_⟩
 ·obtain⟨k,t,c,g⟩:=zY r b
  rw[h.1]at c;cases c
  simp[g,dH]
 ·rw[fj]at d
  obtain⟨k,t,c,g⟩:=zY r d;have:k≠n:=λ z=>h.2 m i (by rw[c,z]);simp[g,dH,this]
inductive kKV(x:V)(vs:List V)(H:Hp)(Q:VK):Prop
 | mk:∀(l:au)(ns:List Int)(n:Int)(j:Nat),(x=.ref l)->(vs=[.int n])->(H l=some (.lst (ns.map V.int)))->(vL ns n j)->(Q (.int j) H)->kKV x vs H Q
def yG:MtM X "list.index" kKV:=by
 intro b s y H x A v D Q I o p h;obtain⟨l,C,n,j,rfl,rfl,f,d,q⟩:=h;cases o
 obtain⟨u,rfl,t,rfl⟩:=p.one;obtain⟨z,a,m,r,B,e⟩:=I.lstM f;obtain⟨h1,i,g⟩:=cO r d
 have c:(j:Int)<2 ^ 63-1:=by
  have:=cK;rw[fj]at h1;omega
 refine Ae F.slot_list_index ⟨_,e,rfl⟩ F.entry_list_index (F.args_list_index_2 _ _) (MeetsSeq.list_index l a.toArray m (.int n t) (dH n) (wV r n t) j h1 c i g) ⟨e,?_⟩;exact⟨.int j,H,I.tok _,⟨_,rfl⟩,q⟩
inductive kEZ(x:V)(vs:List V)(H:Hp)(Q:VK):Prop
 | mk:∀(l:au)(ns:List Int)(n:Int)(j:Nat),(x=.ref l)->(vs=[.int n])->(H l=some (.lst (ns.map V.int)))->(vL ns n j)->(Q .non (upd H l (.lst ((ns.eraseIdx j).map V.int))))->kEZ x vs H Q
theorem vE{α β:Type}(f:α->β):∀(l:List α)(j:Nat),(l.eraseIdx j).map f=(l.map f).eraseIdx j
 | [],j=>by simp
 | x::r,0=>by simp
 | x::r,j+1=>by simp[vE f r j]
def nZ:MtM X "list.remove" kEZ:=by
 intro c s y H x A v C Q I i p h;obtain⟨l,o,n,j,rfl,rfl,b,d,q⟩:=h;cases i
 obtain⟨u,rfl,t,rfl⟩:=p.one;obtain⟨z,a,m,r,B,e⟩:=I.lstM b;obtain⟨h1,g,f⟩:=cO r d;refine Ae F.slot_list_remove ⟨_,e,rfl⟩ F.entry_list_remove (F.args_list_remove_2 _ _) (MeetsSeq.list_remove l a.toArray m (.int n t) (dH n) (wV r n t) j h1 g f (by rw[fj];omega)) ⟨e,?_⟩;refine⟨.non,_,I.lset (its':=a.eraseIdx j) b e ?_ (by rw[vE];exact r.eraseIdx j) ?_,rfl,q⟩
 ·show a.toArray.eraseIdxIfInBounds j=(a.eraseIdx j).toArray
  rw[List.eraseIdxIfInBounds_toArray]
 ·rw[ai]
  have:=oE o j;rw[ai]at z;omega
end
def wU{lo:Int}{n:Nat}{g:TG}{b:TB}{c:St->Hp->Prop}{a:St}{H:Hp}(Pv:Nat->St->Hp->Prop)(h0:Pv 0 a H)
  (j:∀ i a H,i<n->Pv i a H->g (.int (lo+i)) a H λ σ2 H2=>b (Pv (i+1)) σ2 H2) (f:∀ a H,Pv n a H->c a H):vS (Itr lo n) g b c a H:=by
 refine⟨λ i m a H=>m=n-i/\i<=n/\Pv i a H,⟨n,by simp,gy _,h0⟩,?_⟩;rintro i m a H ⟨rfl,r,p⟩;by_cases d:i<n
 ·refine .inr ⟨d,Pv (i+1),λ h o q=>⟨n-(i+1),by omega,rfl,by omega,q⟩,λ x o l=>?_⟩
  obtain⟨rfl,rfl⟩:=l;exact j i a _ d p
 ·have:i=n:=by omega
  subst this;exact .inl ⟨be _,f a H p⟩
def jX{K:ay}{a:au}{xs:List V}{g:TG}{b:TB}{j:St->Hp->Prop}{c:St}{H:Hp}(Pv:Nat->St->Hp->Prop)(h0:Pv 0 c H)(h:∀ i c H,i<=xs.length->Pv i c H->SqL K H a xs)
  (o:∀ i x c H,xs[i]?=some x->Pv i c H->g x c H λ σ2 H2=>b (Pv (i+1)) σ2 H2) (l:∀ c H,Pv xs.length c H->j c H):vS (Itl K a) g b j c H:=by
 refine⟨λ i m c H=>m=xs.length-i/\i<=xs.length/\Pv i c H,⟨xs.length,by simp,gy _,h0⟩,?_⟩;rintro i m c H ⟨rfl,d,p⟩;by_cases r:i<xs.length
 ·refine .inr ⟨⟨xs,xs[i],h i c H d p,by simp[r]⟩,Pv (i+1),λ n s q=>⟨xs.length-(i+1),by omega,rfl,by omega,q⟩,λ x s f=>?_⟩
  obtain⟨rfl,f⟩:=f;exact o i x c _ (f xs (h i c _ d p)) p
 ·have:i=xs.length:=by omega
  subst this;exact .inl ⟨⟨xs,h _ c H d p,be _⟩,l c H p⟩
def zH{K:ay}{a:au}{xs:List V}{g:TG}{b:TB}{j:St->Hp->Prop}{c:St}{H:Hp}(Pv:Nat->St->Hp->Prop)(h0:Pv 0 c H)(h:∀ i c H,i<=xs.length->Pv i c H->SqT K H a xs)
  (o:∀ i x c H,xs[i]?=some x->Pv i c H->g x c H λ σ2 H2=>b (Pv (i+1)) σ2 H2) (l:∀ c H,Pv xs.length c H->j c H):vS (Itt K a) g b j c H:=by
 refine⟨λ i m c H=>m=xs.length-i/\i<=xs.length/\Pv i c H,⟨xs.length,by simp,gy _,h0⟩,?_⟩;rintro i m c H ⟨rfl,d,p⟩;by_cases r:i<xs.length
 ·refine .inr ⟨⟨xs,xs[i],h i c H d p,by simp[r]⟩,Pv (i+1),λ n s q=>⟨xs.length-(i+1),by omega,rfl,by omega,q⟩,λ x s f=>?_⟩
  obtain⟨rfl,f⟩:=f;exact o i x c _ (f xs (h i c _ d p)) p
 ·have:i=xs.length:=by omega
  subst this;exact .inl ⟨⟨xs,h _ c H d p,be _⟩,l c H p⟩
section
variable {prog:eo} {w:iJ} {A:gj} {E:ar->av->Prop}
end
section
variable {X:Cx} {pos:Pos}
theorem bJ:∀{b:List Int}{a:List ar},Vals (b.map V.int) a->Dh a b
 | [],_,r=>by cases r;exact .nil
 | n::b,_,r=>by
  cases r with
  | cons r1 r2 =>
   obtain⟨t,rfl⟩:=r1;exact .cons n t (bJ r2)
end
mutual
def Dt(K:ay)(H:Hp):Cs->V->Prop
 | .none,v=>v=.non
 | .bool b,v=>v=.bl b
 | .int i,v=>v=.int i
 | .str x,v=>v=.str x
 | .tuple xs,v=>∃ a c,v=.ref a/\SqT K H a c/\DtAll K H xs c
 | .list xs,v=>∃ a c,v=.ref a/\SqL K H a c/\DtAll K H xs c
 | .dict _,_=>False
def DtAll(K:ay)(H:Hp):List Cs->List V->Prop
 | [],vs=>vs=[]
 | d::ds,vs=>∃ v a,vs=v::a/\Dt K H d v/\DtAll K H ds a
end
section
variable {X:Cx} {pins:List (au×Obj)} {σ:St} {H:Hp} {s:av}
mutual
theorem Dt.reads(I:Inv X pins σ H s):∀(d:Cs)(v:V)(u:ar),RelV v u->Dt X.K H d v->∃ as,Reads s.heap u d as
 | .none,v,u,r,h=>by unfold Dt at h;subst h;cases r;exact⟨_,.none⟩
 | .bool b,v,u,r,h=>by unfold Dt at h;subst h;cases r;exact⟨_,.bool b⟩
 | .int i,v,u,r,h=>by unfold Dt at h;subst h;obtain⟨t,rfl⟩:=r;exact⟨_,.int i t⟩
 | .str x,v,u,r,h=>by unfold Dt at h;subst h;obtain⟨t,rfl⟩:=r;exact⟨_,.str x t⟩
 | .tuple xs,v,u,r,h=>by
  unfold Dt at h;obtain⟨a,j,rfl,m,g⟩:=h;cases r
  obtain⟨c,l,⟨o,y,p,n,f⟩,A⟩:=I.tuple m;obtain⟨as,q⟩:=DtAll.reads I xs j c l g;exact⟨_,.tuple y p f (by simpa using q)⟩
 | .list xs,v,u,r,h=>by
  unfold Dt at h;obtain⟨a,j,rfl,m,g⟩:=h;cases r
  obtain⟨c,l,B,A⟩:=I.list m;obtain⟨as,q⟩:=DtAll.reads I xs j c l g;obtain⟨o,y,p,n,f⟩:=B.isList;exact⟨_,.list y p f (by simpa using q)⟩
 | .dict _,v,u,r,h=>by unfold Dt at h;exact h.elim
theorem DtAll.reads(I:Inv X pins σ H s):∀(c:List Cs)(a:List V)(b:List ar),Vals a b->DtAll X.K H c a->∃ as,ReadsAll s.heap b c as
 | [],a,b,r,h=>by unfold DtAll at h;subst h;cases r;exact⟨_,.nil⟩
 | d::c,a,b,r,h=>by
  unfold DtAll at h;obtain⟨v,i,rfl,h1,f⟩:=h
  cases r with
  | cons r1 r2 =>
   obtain⟨as,g⟩:=Dt.reads I d v _ r1 h1;obtain⟨bs,j⟩:=DtAll.reads I c i _ r2 f;exact⟨_,.cons g j⟩
end
end
section
variable {X:Cx}
inductive kRE(K:ay)(neg:Bool)(x:V)(y:V)(H:Hp)(Q:VK):Prop
 | mk:∀ d e,(Dt K H d x)->(Dt K H e y)->(mh d=true)->(mh e=true)->(Q (.bl (if neg then !PyData.eqv d e else jl d e)) H)->kRE K neg x y H Q
def kCW(i:X.A.units+64<cLine):OpR X (compareOp .Eq) (kRE X.K false):=by
 intro a s l H x y v u Q I g j h;obtain⟨d,e,h1,f,b,c,q⟩:=h;obtain⟨m,p1⟩:=Dt.reads I d x v g h1;obtain⟨bs,p2⟩:=Dt.reads I e y u j f;exact SeqAt.compareEq_shaped p1 p2 b c i ⟨.bl _,H,I,rfl,q⟩
def rD(i:X.A.units+64<cLine):OpR X (compareOp .NotEq) (kRE X.K true):=by
 intro a s l H x y v u Q I g j h;obtain⟨d,e,h1,f,b,c,q⟩:=h;obtain⟨m,p1⟩:=Dt.reads I d x v g h1;obtain⟨bs,p2⟩:=Dt.reads I e y u j f;exact SeqAt.compareNe_shaped p1 p2 b c i ⟨.bl _,H,I,rfl,q⟩
end
def kVJ(a b:wg):Bool:=(a.names.all λ y=>(y.2 != .local || a.names.lookup y.1 == some .local) && y.2 != .cell && (y.2 != .free || b.names.lookup y.1 == some .cell))
def CS.of{a g:wg}(k:a.kind=.function)(h:kVJ a g=true):CS a g:=by
 have q:∀ y∈a.names,_:=wz.mp h;refine⟨k,λ y b e=>?_,λ y b e=>?_,λ y b e=>?_⟩<;>have z:=q y b<;>rw[iQ,iQ]at z<;>obtain⟨⟨c,f⟩,d⟩:=z
 ·rw[e]at c;simpa using c
 ·rw[e]at f;simp at f
 ·rw[e]at d;simpa using d
section
variable {prog:eo} {w:iJ} {A:gj} {E:ar->av->Prop} {s:av}
def kDC{it t:au}{i:Nat}{items:Array ar}{x:ar}{Q:ar->av->Prop}(a:s.heap.IsTupleIter it t i)(l:s.heap.IsTuple t items)(h:items[i]?=some x)
  (j:∀ h',h'.IsTupleIter it t (i+1)->jb it s.heap h'->Q x {s with heap:=h'}):dw (model prog w) A (iA (.ref it)) Q E s:=by
 obtain⟨o,c,g,b⟩:=id a;obtain⟨n,f,_,m,d⟩:=l;unfold iA;refine ae (jz (name:=xh "__next__") a.typeIs ub (mf ub a.typeIs BL ?_ (Az _)));show dw _ _ (field (.ref it) 0 >>= _) _ _ s;refine ae (ip c b (x:=.ref t) rfl ?_);show dw _ _ (if(jx t == AA)=true then _ else _) _ _ s;rw[if_neg (show ¬ ((jx t == AA)=true) from eK)];show dw _ _ (field (.ref it) 1 >>= _) _ _ s;refine ae (ip c b (x:=.int i 0) rfl ?_);show dw _ _ (seqItems? (.ref t) >>= _) _ _ s;refine ae (ka f d ?_);simp only[iL,h];refine ae (Eu c b (by simp) (bj ⟨x,rfl,bj (j _ ?_ (ju ..))⟩));refine⟨_,qk _ c (Obj.isFreed_of_fields (DO b _)),(Obj.cls_mapFields ..).trans g,?_⟩;rw[DO b];simp[rawInt]
def lC{it t:au}{i:Nat}{items:Array ar}{Q:ar->av->Prop}(h:A.handled=none)(b:s.heap.IsTupleIter it t i)(n:s.heap.IsTuple t items)(l:items[i]?=none)
  (j:∀ h' e,Heap.ExtBut it s.heap h'->(∃ o,h'.get? e=some o/\o.cls=.type "StopIteration")->E (.ref e) {s with heap:=h'}):dw (model prog w) A (iA (.ref it)) Q E s:=by
 obtain⟨o,d,q,c⟩:=id b;obtain⟨r,g,_,p,f⟩:=n;unfold iA;refine ae (jz (name:=xh "__next__") b.typeIs ub (mf ub b.typeIs BL ?_ (Az _)));show dw _ _ (field (.ref it) 0 >>= _) _ _ s;refine ae (ip d c (x:=.ref t) rfl ?_);show dw _ _ (if(jx t == AA)=true then _ else _) _ _ s;rw[if_neg (show ¬ ((jx t == AA)=true) from eK)];show dw _ _ (field (.ref it) 1 >>= _) _ _ s;refine ae (ip d c (x:=.int i 0) rfl ?_);show dw _ _ (seqItems? (.ref t) >>= _) _ _ s;refine ae (ka g f ?_);simp only[iL,l];refine ae (vt (ae (Eu d c (by simp) ?_)));show dw _ _ (newExc (.type "StopIteration") [] >>= _) _ _ _;refine ae ?_;simp only[newExc,newTuple];refine ae (iz ?_ (by size_fits));refine ae (m:=firstArgMember _ _) (wpAny_of_eq (a:=AA) (by first | rfl | (simp only[firstArgMember];rfl)) ?_);refine iz ?_ (by size_fits);simp only[raiseNew];refine ae (wpAny_handled ?_)
 first | rw[show A.in1.handled=none from h] | rw[h]
 refine ae (bj (wpAny_throw ?_));exact j _ _ (((ju ..).extBut.push _).push _) ⟨_,cg _ rfl,rfl⟩
end
def ItOf(k:Bool)(h:iS)(it a:au)(i:Nat):Prop:=match k with | true=>h.IsListIter it a i | false=>h.IsTupleIter it a i
def SqOf(k:Bool)(h:iS)(a:au)(items:Array ar):Prop:=match k with | true=>h.IsList a items | false=>h.IsTuple a items
def yU(k:Bool):String:=match k with | true=>"list_iterator" | false=>"tuple_iterator"
def SqX(K:ay)(k:Bool)(H:Hp)(a:au)(xs:List V):Prop:=match k with | true=>SqL K H a xs | false=>SqT K H a xs
def ItOf.at{k:Bool}{h h':iS}{it a:au}{i:Nat}(x:ItOf k h it a i)(g:∀ o,h.get? it=some o->h'.get? it=some o):ItOf k h' it a i:=by
 cases k
 ·obtain⟨o,e,r⟩:=x;exact⟨o,g o e,r⟩
 ·obtain⟨o,e,r⟩:=x;exact⟨o,g o e,r⟩
def ItOf.live{k:Bool}{h:iS}{it a:au}{i:Nat}(x:ItOf k h it a i):∃ o,h.get? it=some o/\∀ v,o.data≠.cell v:=by
 cases k
 ·obtain⟨o,e,c,d⟩:=x;exact⟨o,e,λ v z=>by rw[d]at z;cases z⟩
 ·obtain⟨o,e,c,d⟩:=x;exact⟨o,e,λ v z=>by rw[d]at z;cases z⟩
def SqOf.at{k:Bool}{h h':iS}{a:au}{items:Array ar}(x:SqOf k h a items)(g:∀ o,h.get? a=some o->h'.get? a=some o):SqOf k h' a items:=by
 cases k
 ·obtain⟨o,e,r⟩:=x;exact⟨o,g o e,r⟩
 ·obtain⟨o,e,r⟩:=x;exact⟨o,g o e,r⟩
def SqOf.there{k:Bool}{h:iS}{a:au}{items:Array ar}(x:SqOf k h a items):∃ o,h.get? a=some o:=by
 cases k
 ·obtain⟨o,e,r⟩:=x;exact⟨o,e⟩
 ·obtain⟨o,e,r⟩:=x;exact⟨o,e⟩
def SqOf.lt{k:Bool}{h:iS}{a:au}{items:Array ar}(x:SqOf k h a items):a<h.objs.size:=let ⟨_,e⟩:=x.there;bz e
def ItOf.new(k:Bool)(h:iS)(a:au):ItOf k (h.push {cls:=.type (yU k),data:=.fields #[.ref a,.int 0 0]}) h.objs.size a 0:=by
 cases k
 ·exact⟨_,cg _ rfl,rfl,rfl⟩
 ·exact⟨_,cg _ rfl,rfl,rfl⟩
def Inv.sq{X:Cx}{b:List (au×Obj)}{c:St}{H:Hp}{s:av}{k:Bool}{a:au}{xs:List V}(I:Inv X b c H s)(h:SqX X.K k H a xs):∃ its:List ar,Vals xs its/\SqOf k s.heap a its.toArray:=by
 cases k
 ·obtain⟨its,r,p,_⟩:=I.tuple h
  exact⟨its,r,p⟩
 ·obtain⟨its,r,p,_⟩:=I.list h
  exact⟨its,r,p.isList⟩
def Inv.sq_inj{X:Cx}{b:List (au×Obj)}{c:St}{H:Hp}{s:av}{k:Bool}{a:au}{xs ys:List V}(I:Inv X b c H s)(h:SqX X.K k H a xs)(h':SqX X.K k H a ys):xs=ys:=by
 cases k
 ·exact I.tuple_inj h h'
 ·exact I.list_inj h h'
section
variable {prog:eo} {w:iJ} {A:gj} {E:ar->av->Prop} {s:av}
def bI{k:Bool}{a:au}{items:Array ar}{Q:ar->av->Prop}(h:SqOf k s.heap a items)(b:Q (.ref s.heap.objs.size) {s with heap:=s.heap.push {cls:=.type (yU k),data:=.fields #[.ref a,.int 0 0]}}) :
  dw (model prog w) A (pyIter (.ref a)) Q E s:=by
 cases k
 ·exact xg h b
 ·exact AI h b
def xS(j:A.handled=none)(k:Bool)(it a:au)(d:a≠it)(items:Array ar):ES prog w A it [it,a] items.size (λ i v=>items[i]?=some v) (λ i h=>ItOf k h it a i/\SqOf k h a items) where
 live:=λ _ _ st=>let ⟨o,ho,_⟩:=st.1.live;⟨o,ho⟩
 frame:=λ _ _ _ st l=>⟨st.1.at λ o e=>l it (by simp) o e,st.2.at λ o e=>l a (by simp) o e⟩
 item:=λ i s Q E p st n=>by
  have f:items[i]?=some items[i]:=by simp[p]
  cases k
  ·exact kDC st.1 st.2 f λ g b c=>n _ g s.toks f ⟨b,st.2.at λ o e=>c.extBut a o d e⟩ c
  ·exact wpAny_nextOf_list_item st.1 st.2 f λ g b c=>n _ g s.toks f ⟨b,st.2.at λ o e=>c.extBut a o d e⟩ c
 done:=λ s Q E st m=>by
  cases k
  ·exact lC j st.1 st.2 (by simp) m
  ·exact wpAny_nextOf_list_end j st.1 st.2 (by simp) m
end
def Inv.turnedL{X:Cx}{a:List (au×Obj)}{h:St}{H:Hp}{s:av}{h':iS}{t':Nat}{ch:List au}(I:Inv X a h H s)(k:∀ b o,b∉ch->s.heap.get? b=some o->h'.get? b=some o)(g:∀ b∈ch,yV X a H b) :
  Inv X a h H {s with heap:=h',toks:=t'}:=by
 have f:∀ b u,H b=some u->b∉ch:=λ b u e z=>by rw[(g b z).1]at e;cases e
 refine I.step (g':=s.gens) (d':=s.drawn) (ch:=ch) (λ b y=>?_) (λ b o _ _ d e _=>k b o d e) (λ b o _ _ d e _=>⟨o.slots,k b o d e⟩) (λ _ _ _ _ n=>n)
  (λ b o d e=>⟨o,k b o d e⟩) (λ _ _ e=>e) (λ _ _ _ e=>e) (λ b J e=>⟨#[],by rw[e];simp⟩) (λ m x=>?_) (λ b u e=>?_) I.bare
 ·obtain⟨D,j,G,l,C,B⟩:=g b y
  exact⟨l,j,C,B⟩
 ·obtain⟨o,p,i,A,r⟩:=x
  exact⟨o,p,i,k _ o (λ z=>(g _ z).2.1 rfl) A,r⟩
 ·refine(I.hok b u e).stay (λ c v d q=>k c v ?_ q) (λ _ q=>q) λ _ _ q=>q
  rcases d with z | z
  ·rw[z];exact f b u e
  ·exact f c _ z
open AutoSeq1 (wpAny_loadPart')
def rZ(l:au)(items:Array ar)(n:Nat)(f:Option au)(m:Array (Option ar)) :
  Meets (zw.«enumerate.__new__» ⟨[.type "enumerate",.ref l],[]⟩) (λ _ R s=>s.heap.get? l=some {cls:=.type "tuple",dict:=f,data:=.seq items n,slots:=m} /\
   R (.ok (.ret (.ref (s.heap.push {cls:=.type "tuple_iterator",data:=.fields #[.ref l,.int 0 0]}).objs.size)))
    {s with heap:=(s.heap.push {cls:=.type "tuple_iterator",data:=.fields #[.ref l,.int 0 0]}).push {cls:=.type "enumerate",data:=.fields #[.none,.bool false,.ref s.heap.objs.size,rawInt 0,.none,.none]}}) :=
 .of_wp λ j w A R s h=>by
  obtain⟨hp,g,d,o,os⟩:=s;obtain⟨a,h⟩:=h;have i:=sub_enumerate;have b:Heap.IsTuple (Ar ⟨hp,g,d,o,os⟩) l items:=⟨_,a,rfl,n,rfl⟩
  wp_walk using zx a
  refine wpAny_stack_any λ st=>bj ?_
  split
  ·rename_i c _ _ _ _ _
   cases(c == BQ "enumerate")
   ·wp_walk using zx a,xg b
    exact⟨_,rfl,h⟩
   ·wp_walk using zx a,xg b
    exact⟨_,rfl,h⟩
  ·wp_walk using zx a,xg b
   exact⟨_,rfl,h⟩
section
variable {prog:eo} {w:iJ} {A:gj} {E:ar->av->Prop} {s:av}
def sO{k:Bool}{l:au}{items:Array ar}{Q:ar->av->Prop}(i:SqOf k s.heap l items)
  (h:∀ h',IsEnum h' (s.heap.objs.size+1) s.heap.objs.size 0 .none->ItOf k h' s.heap.objs.size l 0->(∀ b o,s.heap.get? b=some o->h'.get? b=some o)->Q (.ref (s.heap.objs.size+1)) {s with heap:=h'}) :
  dw (model prog w) A (call (.type "enumerate") [.ref l]) Q E s:=by
 cases k
 ·obtain⟨⟨c,g,dt,m⟩,r,d,n,f⟩:=i
  replace d:c=.type "tuple":=d
  replace f:dt=.seq items n:=f
  subst d f;refine Dj F.called_enumerate (by decide) (F.typeCall_enumerate_1 _) (F.newCall_enumerate_1 _) (λ obj=>F.args_object_init_2 obj _) F.entry_enumerate_new (rZ l items n g m) ⟨r,?_⟩;have j:(s.heap.push {cls:=.type "tuple_iterator",data:=.fields #[.ref l,.int 0 0]}).objs.size=s.heap.objs.size+1:=iX ..;show _/\_;rw[j];have a:=cg (s.heap.push {cls:=.type "tuple_iterator",data:=.fields #[.ref l,.int 0 0]}) (o:={cls:=.type "enumerate",data:=.fields #[.none,.bool false,.ref s.heap.objs.size,rawInt 0,.none,.none]}) rfl;rw[j]at a;exact⟨⟨_,a,rfl⟩,h _ a ⟨_,ao _ (cg _ rfl),rfl,rfl⟩ λ b o x=>ao _ (ao _ x)⟩
 ·exact call_enumerate_list i λ h' a q _ p=>h h' a q p
end
def uV{k f:Bool}{h:iS}{a it b:au}{i:Nat}{items:Array ar}(x:SqOf k h a items)(y:ItOf f h it b i):a≠it:=by
 intro z;subst z
 cases k<;>cases f<;>obtain⟨o,e,c,_⟩:=x<;>obtain⟨j,g,d,_⟩:=y<;>rw[e]at g<;>cases g<;>rw[c]at d<;>revert d<;>decide
def kMZ{h:iS}{a b:au}{o u:Obj}{m n:String}(h1:h.get? a=some o)(c:h.get? b=some u)(g:o.cls=.type m)(f:u.cls=.type n)(d:m≠n):a≠b:=by
 intro z;subst z;rw[h1]at c;cases c
 rw[g]at f;injection f with e
 exact d e
theorem ItOf.cls{k:Bool}{h:iS}{it a:au}{i:Nat}(x:ItOf k h it a i):∃ o,h.get? it=some o/\o.cls=.type (yU k):=by
 cases k<;>obtain⟨o,e,c,_⟩:=x<;>exact⟨o,e,c⟩
def kQW(k:Bool):String:=match k with | true=>"list" | false=>"tuple"
theorem SqOf.cls{k:Bool}{h:iS}{a:au}{items:Array ar}(x:SqOf k h a items):∃ o,h.get? a=some o/\o.cls=.type (kQW k):=by
 cases k<;>obtain⟨o,e,c,_⟩:=x<;>exact⟨o,e,c⟩
def Inv.handed{X:Cx}{a:List (au×Obj)}{d:St}{H:Hp}{s:av}{h':iS}{t':Nat}{ch:List au}{x y:V}{u v:ar}(I:Inv X a d H s)(l:RelV x u)(i:RelV y v)
  (j:h'.get? s.heap.objs.size=some {cls:=.type "tuple",data:=.seq #[u,v]}) (k:∀ b o,b∉ch->s.heap.get? b=some o->h'.get? b=some o) (g:∀ b∈ch,yV X a H b) (f:∀ b∈ch,b<s.heap.objs.size) :
  Inv X a d (upd H s.heap.objs.size (.tup [x,y])) {s with heap:=h',toks:=t'}/\(∀ b∈ch,upd H s.heap.objs.size (.tup [x,y]) b=none):=by
 have h:∀ b∈ch,upd H s.heap.objs.size (.tup [x,y]) b=none:=λ b c=>by rw[kM (dq (f b c))];exact(g b c).1
 have n:Inv X a d (upd H s.heap.objs.size (.tup [x,y])) {s with heap:=s.heap.push {cls:=.type "tuple",data:=.seq #[u,v]},toks:=s.toks} :=
  I.laid (λ b o e=>ao _ e) (be _) ⟨by simp only[gn,qm];rw[Ap];decide,[u,v],.cons l (.cons i .nil),⟨_,cg _ rfl,rfl,0,rfl,rfl⟩⟩
 have q:=Inv.turnedL (h':=h') (t':=t') (ch:=ch) n (λ b o c e=>by
  rcases Ct e with⟨rfl,rfl⟩ | e
  ·exact j
  ·exact k b o c e) (λ b c=>by
  obtain⟨C,r,A,m,B,p⟩:=g b c;exact⟨h b c,r,A,m,B,p⟩)
 exact⟨q,h⟩
def Ite(k:Bool)(K:ay)(a:au):It :=
 ⟨λ i H=>∃ b x,SqX K k H a b/\b[i]?=some x,λ i H v c=>∃ T x,H T=none/\v=.ref T/\(∀ b,SqX K k H a b->b[i]?=some x)/\c=upd H T (.tup [.int i,x]),λ i H=>∃ b,SqX K k H a b/\b.length=i⟩
def kHA{P:eo}{w:iJ}{K:ay}{n:List iO} {x1} {a0:Pos} (k:Bool) (a e it:au):Turn P w K (.Tuple n x1 a0) (Ite k K a) [e,it] e (λ i h=>(∃ old,IsEnum h e it i old)/\ItOf k h it a i) where
 mem:=by simp
 obj:=λ i h st b c=>by
  obtain⟨⟨old,f⟩,g⟩:=st;rcases dr.mp c with rfl | c
  ·exact⟨_,f,λ v z=>by cases z⟩
  ·have:b=it:=by simpa using c
   subst this;exact g.live
 keep:=λ i h h' st kk=>by
  obtain⟨⟨old,f⟩,g⟩:=st;exact⟨⟨old,kk e (by simp) _ f⟩,g.at λ o q=>kk it (by simp) o q⟩
 item:=by
  intro X T O S Y i r s σ H E I U st hg;subst T O S;obtain⟨⟨old,f⟩,g⟩:=st;obtain⟨xs,x,L,G⟩:=hg;obtain⟨d,rv,p⟩:=I.sq L;obtain⟨u,hu,ru⟩:=rv.get G;have l:=uV p g;obtain⟨oi,ei,ci⟩:=g.cls;obtain⟨oa,ea,ca⟩:=p.cls;have j:e≠it:=kMZ f ei rfl ci (by cases k<;>decide);have a1:e≠a:=kMZ f ea rfl ca (by cases k<;>decide);have D:=xS (prog:=X.prog) (w:=X.w) (A:=X.A.in1) (I.ok.hd Y) k it a l d.toArray
  have Z:i<d.toArray.size:=by
   have:=(aj.mp hu).1;simpa using this
  refine wpAny_pyNext_enum_itemD D f ⟨g,p⟩ Z j (by simp[j,a1]) λ y h' J hy ho a2 hT hz hk=>?_
  have ey:y=u:=by
   have B:d[i]?=some y:=by simpa using hy
   rw[hu]at B;exact(bh B).symm
  subst ey;refine⟨_,rfl,wpAny_letOwnedTupleGo_enum ho λ h2 a3 m=>?_⟩;have C:e<s.heap.objs.size:=bz f;have N:it<s.heap.objs.size:=bz ei;have M:h2.get? s.heap.objs.size=some {cls:=.type "tuple",data:=.seq #[.int i J,y]}:=m.extBut _ _ (jc C) hT
  obtain⟨I2,n2⟩:=I.handed (x:=.int i) (u:=.int i J) (t':=J+1) (ch:=[e,it]) ⟨J,rfl⟩ ru M (λ b o c q=>m.extBut b o (λ z=>c (by simp[z])) (hk b o (λ z=>c (by simp[z])) (λ z=>c (by simp[z])) q)) U
   (λ b c=>by rcases dr.mp c with rfl | c;exact C;rw[bu.mp c];exact N)
  refine⟨.ref s.heap.objs.size,_,I2,rfl,⟨_,x,I.hok.fresh (be _),rfl,λ ys Q=>by rw[I.sq_inj Q L];exact G,rfl⟩,⟨⟨_,by simpa using a3⟩,a2.1.at λ o q=>m.extBut it o j.symm q⟩,n2⟩
 done:=by
  intro X T O S Y i r s σ H E I U st hg;subst T O S;obtain⟨⟨old,f⟩,g⟩:=st;obtain⟨xs,L,G⟩:=hg;obtain⟨d,rv,p⟩:=I.sq L;have l:=uV p g;have D:=xS (prog:=X.prog) (w:=X.w) (A:=X.A.in1) (I.ok.hd Y) k it a l d.toArray;have hl:d.toArray.size=i:=by rw[<-G,rv.length];simp
  refine wpAny_pyNext_enum_endD D f ⟨hl ▸ g,p⟩ λ h' eb=>⟨rfl,I.turnedL (t':=s.toks) (ch:=[it]) (λ b o c q=>eb b o (λ z=>c (by simp[z])) q) λ b c=>U b (by simp at c ⊢;exact .inr c)⟩
 self:=λ _ _ _ _ _ st h=>by
  obtain⟨⟨old,f⟩,_⟩:=st;exact Dk f h
section
variable {X:Cx}
inductive kME(k:Bool)(K:ay)(R:It->Hp->Prop)(vs:List V)(H1:Hp):Prop
 | mk:∀ a,(vs=[.ref a])->((∃ xs,SqX K k H1 a xs))->(R (Ite k K a) H1)->kME k K R vs H1
def kUE(k:Bool)(K:ay)(d:TA):TI:=λ c H R=>d c H λ b a=>kME k K R b a
def kFE(k:Bool){a:iO}{x:TA}{p j m:Pos}{i:List iO} {x1} (S:Gl X "enumerate") (L:X.mg "enumerate" = none) (C:PA X [a] x) (B:starEach [a] X.env=[(false,eval a X.env)]:=by rfl) :
  PI X (.Tuple i x1 m) (.Call (.Name "enumerate" p) [a] [] j) (kUE k X.K x):=by
 intro c s y H R I h;refine Eh (zM I S L boot_enumerate (iU (thn (C j c s y H _ I h) λ Y g ⟨T,o,n,M,J⟩=>?_) B rfl));obtain⟨l,rfl,⟨Z,Q⟩,q⟩:=J;obtain⟨u,rfl,r⟩:=wG M;cases r
 obtain⟨A,U,N⟩:=n.sq Q;refine sO N λ O v G D=>?_;refine Dk (s:={g with heap:=O}) v ?_
 have f:∀ b,g.heap.objs.size<=b->yV X c o b:=λ b d=>n.fpOk d (n.hok.fresh d);refine⟨_,[g.heap.objs.size+1,g.heap.objs.size],_,_,o,rfl,n.kept (t':=g.toks) D,kHA k l _ _,⟨⟨_,v⟩,G⟩,λ b d=>?_,q⟩;rcases dr.mp d with rfl | d
 ·exact f _ (by omega)
 ·rw[bu.mp d];exact f _ (be _)
end
end L2
namespace L2
open PySem PySem.Spec PyProof.Rows
structure ZAp(z TI TO i1 i2:au)(fp1 fp2:List au):Prop where
 zTI:z≠TI
 zTO:z≠TO
 zi1:z≠i1
 zi2:z≠i2
 TOi1:TO≠i1
 TOi2:TO≠i2
 i12:i1≠i2
 TITO:TI≠TO
 TIi1:TI≠i1
 TIi2:TI≠i2
 z1:z∉fp1
 z2:z∉fp2
 t1:TO∉fp1
 t2:TO∉fp2
 i2f:i2∉fp1
 i1f:i1∉fp2
section
variable {prog:eo} {w:iJ} {A:gj} {E:ar->av->Prop} {s:av} {z TI TO i1 i2:au} {fp1 fp2:List au} {n1 n2 j:Nat} {P1 P2:Nat->ar->Prop} {S1 S2:Nat->iS->Prop} {a b:ar}
def kGP{Q:ar->av->Prop}(D1:ES prog w A i1 fp1 n1 P1 S1)(U:ES prog w A i2 fp2 n2 P2 S2)(d:ZAp z TI TO i1 i2 fp1 fp2)
  (hz:xa s.heap z TI TO .none) (a2:yc s.heap TI (.ref i1) (.ref i2)) (a1:yc s.heap TO a b) (h1:S1 j s.heap) (h2:S2 j s.heap) (l1:j<n1) (l2:j<n2)
  (hQ:∀ x y h' tk,P1 j x->P2 j y->xa h' z TI TO (rawInt s.heap.objs.size)->yc h' TO x y->S1 (j+1) h'->S2 (j+1) h'->yc h' s.heap.objs.size x y ->
   (∀ c o,c≠z->c≠TO->c≠i1->c≠i2->s.heap.get? c=some o->h'.get? c=some o)->Q (.ref s.heap.objs.size) {s with heap:=h',toks:=tk}) :
  dw (model prog w) A (zw.«zip.__next__» ⟨[.ref z],[]⟩) (λ fin s'=>∃ v,fin=.done (.ret v)/\Q v s') E s:=by
 have g:∀{i:Nat}{h h':iS}{c:au},S1 i h->jb c h h'->c∉fp1->S1 i h':=λ st O Z=>D1.frame _ _ _ st λ b m o e=>O.extBut b o (λ q=>Z (q ▸ m)) e;have l:∀{i:Nat}{h h':iS}{c:au},S2 i h->jb c h h'->c∉fp2->S2 i h':=λ st O Z=>U.frame _ _ _ st λ b m o e=>O.extBut b o (λ q=>Z (q ▸ m)) e;show dw _ _ (field (.ref z) 2 >>= _) _ _ _;refine ae (ip hz rfl (x:=.bool false) rfl ?_);show dw _ _ (field (.ref z) 3 >>= _) _ _ _;refine ae (ip hz rfl (x:=.ref TI) rfl ?_);refine ae (ka a2 rfl ?_);show dw _ _ (iE (.ref z) >>= _) _ _ _;refine ae ?_;unfold iE;refine ae (ip hz rfl (x:=.none) rfl (bj ?_));simp only[if_true];refine ae (vt ?_);refine ae (ip hz rfl (x:=.ref TO) rfl ?_);refine ae (ki hz (by simp) λ g1 H p=>?_)
 replace H:xa g1 z TI TO .ellipsis:=H
 refine ae ?_
 simp only[yt,BA,zu,BZ]
 refine ae (ae (wb ?_));show dw _ _ (iA (.ref i1) >>= _) _ _ _;refine ae (D1.item j _ _ _ l1 (g h1 p d.z1) λ x g2 a4 px Y r=>bj ?_);have o2:yc g2 TO a b:=r.extBut _ _ d.TOi1 (p.extBut _ _ d.zTO.symm a1);refine ae (ka o2 rfl ?_);refine ae (As o2 λ g3 o3 u=>?_)
 replace o3:yc g3 TO x b:=o3
 refine ae (Au (bj ?_))
 refine ae (ae (wb ?_));show dw _ _ (iA (.ref i2) >>= _) _ _ _;refine ae (U.item j _ _ _ l2 (l (l (l h2 p d.z2) r d.i1f) u d.t2) λ y g4 a3 py a0 B=>bj ?_);have o4:yc g4 TO x b:=B.extBut _ _ d.TOi2 o3;refine ae (ka o4 rfl ?_);refine ae (As o4 λ f M C=>?_)
 replace M:yc f TO x y:=M
 refine ae (Au (bj (bj ?_)))
 refine ae (ka M rfl ?_);refine ae (Cu ?_);have sz:f.objs.size=s.heap.objs.size:=by rw[C.1,B.1,u.1,r.1,p.1]
 have z5:xa f z TI TO .ellipsis:=C.extBut _ _ d.zTO (B.extBut _ _ d.zi2 (u.extBut _ _ d.zTO (r.extBut _ _ d.zi1 H)))
 have k5:∀ c o,c≠z->c≠TO->c≠i1->c≠i2->s.heap.get? c=some o->f.get? c=some o:=λ c o n L S c4 e =>
  C.extBut _ _ L (B.extBut _ _ c4 (u.extBut _ _ L (r.extBut _ _ S (p.extBut _ _ n e))))
 have T:S1 (j+1) f:=g (g (g Y u d.t1) B d.i2f) C d.t1;have G:S2 (j+1) f:=l a0 C d.t2;have D:z<f.objs.size:=bz z5;show dw _ _ (ni (.ref z) (.ref f.objs.size) >>= _) _ _ _;refine ae ?_;unfold ni;have z6:xa (f.push {cls:=.type "tuple",data:=.seq #[x,y]}) z TI TO .ellipsis:=ao _ z5;refine ae (ki z6 (by simp) λ g7 X s7=>?_)
 replace X:xa g7 z TI TO (rawInt f.objs.size):=X
 refine ki X (by simp) λ I N s8=>?_
 replace N:xa I z TI TO (rawInt f.objs.size):=N
 have J:∀ c o,c≠z->f.get? c=some o->I.get? c=some o:=λ c o n e=>s8.extBut _ _ n (s7.extBut _ _ n (ao _ e));have t8:yc I f.objs.size x y:=s8.extBut _ _ (jc D) (s7.extBut _ _ (jc D) (cg _ rfl));rw[sz]at N t8;refine bj ⟨_,rfl,?_⟩;show Q (.ref f.objs.size) _;rw[sz];exact hQ x y I _ px py N (J _ _ d.zTO.symm M) (D1.frame _ _ _ T λ b m o e=>J b o (λ q=>d.z1 (q ▸ m)) e) (U.frame _ _ _ G λ b m o e=>J b o (λ q=>d.z2 (q ▸ m)) e) t8 λ c o n L S c4 e=>J c o n (k5 c o n L S c4 e)
end
def kBT(c i:Bool)(a b:au)(xs ys:Array ar) :
  Meets (zw.«zip.__new__» ⟨[.type "zip",.ref a,.ref b],[]⟩) (λ _ R s=>SqOf c s.heap a xs/\SqOf i s.heap b ys /\
   ∀(g1 q p f r:iS),g1=s.heap.push {cls:=.type (yU c),data:=.fields #[.ref a,.int 0 0]}->q=g1.push {cls:=.type (yU i),data:=.fields #[.ref b,.int 0 0]} ->
    p=q.push {cls:=.type "tuple",data:=.seq #[.ref s.heap.objs.size,.ref g1.objs.size]}->f=p.push {cls:=.type "tuple",data:=.seq #[.none,.none]} ->
    r=f.push {cls:=.type "zip",data:=.fields #[.none,.bool false,.bool false,.ref q.objs.size,.ref p.objs.size]}->R (.ok (.ret (.ref f.objs.size))) {s with heap:=r}) :=
 .of_wp λ u w A R s h=>by
  obtain⟨hp,g,d,v,os⟩:=s;obtain⟨j,l,h⟩:=h;have x:=sub_zip;have m:SqOf c (Ar ⟨hp,g,d,v,os⟩) a xs:=j;have n:SqOf i (Ar ⟨hp.push {cls:=.type (yU c),data:=.fields #[.ref a,.int 0 0]},g,d,v,os⟩) b ys:=l.at λ o e=>ao _ e;have h:=h _ _ _ _ _ rfl rfl rfl rfl rfl
  wp_walk using bI m,bI n
  exact⟨_,rfl,h⟩
section
variable {prog:eo} {w:iJ} {A:gj} {E:ar->av->Prop} {s:av}
def kBO{m i:Bool}{g b:au}{xs ys:Array ar}{Q:ar->av->Prop}(h1:SqOf m s.heap g xs)(T:SqOf i s.heap b ys)
  (h:∀ h',xa h' (s.heap.objs.size+4) (s.heap.objs.size+2) (s.heap.objs.size+3) .none->yc h' (s.heap.objs.size+2) (.ref s.heap.objs.size) (.ref (s.heap.objs.size+1)) ->
   yc h' (s.heap.objs.size+3) .none .none->ItOf m h' s.heap.objs.size g 0->ItOf i h' (s.heap.objs.size+1) b 0->(∀ c o,s.heap.get? c=some o->h'.get? c=some o)->Q (.ref (s.heap.objs.size+4)) {s with heap:=h'}) :
  dw (model prog w) A (call (.type "zip") [.ref g,.ref b]) Q E s:=by
 refine Dj GC (by decide) (F.typeCall_zip_2 _ _) (F.newCall_zip_2 _ _) (λ obj=>F.args_object_init_3 obj _ _) EY (kBT m i g b xs ys) ⟨h1,T,?_⟩;intro a f l n d G u q r I;have y:a.objs.size=s.heap.objs.size+1:=by rw[G];exact iX ..
 have C:f.objs.size=s.heap.objs.size+2:=by rw[u,iX,y]
 have B:l.objs.size=s.heap.objs.size+3:=by rw[q,iX,C]
 have N:n.objs.size=s.heap.objs.size+4:=by rw[r,iX,B]
 have O:∀ c o,s.heap.get? c=some o->a.get? c=some o:=λ c o e=>by rw[G];exact ao _ e
 have J:∀ c o,a.get? c=some o->f.get? c=some o:=λ c o e=>by rw[u];exact ao _ e
 have D:∀ c o,f.get? c=some o->l.get? c=some o:=λ c o e=>by rw[q];exact ao _ e
 have p:∀ c o,l.get? c=some o->n.get? c=some o:=λ c o e=>by rw[r];exact ao _ e
 have j:∀ c o,n.get? c=some o->d.get? c=some o:=λ c o e=>by rw[I];exact ao _ e
 have v:xa d n.objs.size f.objs.size l.objs.size .none:=by rw[I];exact cg _ rfl
 have H:yc d l.objs.size .none .none:=j _ _ (by rw[r];exact cg _ rfl);have M:yc d f.objs.size (.ref s.heap.objs.size) (.ref a.objs.size):=j _ _ (p _ _ (by rw[q];exact cg _ rfl));have S:ItOf m d s.heap.objs.size g 0:=ItOf.at (h:=a) (by rw[G];exact ItOf.new m s.heap g) λ o e=>j _ _ (p _ _ (D _ _ (J _ _ e)));have L:ItOf i d a.objs.size b 0:=ItOf.at (h:=f) (by rw[u];exact ItOf.new i a b) λ o e=>j _ _ (p _ _ (D _ _ e));show _/\_;rw[C,B,N]at v;rw[y,C]at M;rw[B]at H;rw[y]at L;rw[N];exact⟨⟨_,v,rfl⟩,h _ v M H S L λ c o x=>j _ _ (p _ _ (D _ _ (J _ _ (O _ _ x))))⟩
end
def zap(n a b:Nat)(i:a<n)(g:b<n):ZAp (n+4) (n+2) (n+3) n (n+1) [n,a] [n+1,b]:=by
 have q:∀{x y u:Nat},x≠y->x≠u->¬ x∈[y,u]:=λ h1 c f=>by
  rcases dr.mp f with e | e
  ·exact h1 e
  ·exact c (bu.mp e)
 have d:∀{x y:Nat},x<y->y≠x:=λ h=>jc h;have e:∀{x y:Nat},x<y->x≠y:=λ h=>dq h
 exact⟨d (by omega),d (by omega),d (by omega),d (by omega),d (by omega),d (by omega),e (by omega),e (by omega),d (by omega),d (by omega),
  q (d (by omega)) (d (by omega)),q (d (by omega)) (d (by omega)),q (d (by omega)) (d (by omega)),q (d (by omega)) (d (by omega)),q (d (by omega)) (d (by omega)),q (e (by omega)) (d (by omega))⟩
section
variable {X:Cx}
end
section
variable {X:Cx} {tg iter el:iO} {ifs:List iO} {sc:wg} {pos py spos:Pos} {Nc:List Str} {js:List (Option Nat)} {wi:TI} {i:Nat} {y:Str}
def aU{g:TG}{bd:au->TB}(hx:X.xe=λ _ _=>False)(hc:X.calm=true)(hN:X.N.Nodup)(a5:X.N[i]?=some y)(hy:Loc X.env.scope y)(hi:PI X tg iter wi)(S:CS sc X.env.scope)(a8:bU js Nc X.N sc.names=true)
  (hg:∀ C s₂ H₂ fp pins,PG (cxC X Nc sc C s₂ H₂ fp pins) tg g)
  (n:∀ C s₂ H₂ fp pins D L,PTl (cxC X Nc sc C s₂ H₂ fp pins) (yB ifs (cxC X Nc sc C s₂ H₂ fp pins).env (do let _ <-call (.builtin "list.append") [.ref D,<-eval el (cxC X Nc sc C s₂ H₂ fp pins).env]) L) L (bd D))
  (hs:∀ x,foldedSetIterable iter X.env x=pure x:=by intro _;rfl)
  (a6:swapsWith (.ListComp el [⟨tg,iter,ifs,0⟩] sc pos) (some (.Name y py)) spos.line X.env=pure true:=by rfl)
  (hf:X.fn y=true\/X.env.scope.names.lookup y=some .local:=by first | exact .inl rfl | exact .inr rfl | assumption) :
  PS X (.Assign [.Name y py] (.ListComp el [⟨tg,iter,ifs,0⟩] sc pos) spos) (kJS (tLC js wi g bd) (lY i)):=by
 intro pins s σ H D0 I h;have ab:closureFor sc X.env=pure (uU sc X.env):=yM λ y hy hf=>I.ok.has y.1 (.inl (S.free y hy hf));rw[Cm _ _ _ _ a6];refine ae (vk (ae ?_));show dw _ X.A (do let _ <-comprehension (.ListComp el [⟨tg,iter,ifs,0⟩] sc pos) sc X.env _ (newList []) false (eval iter X.env) (some (assign (.Name y py) X.env))) _ _ s
 refine ae (vj (om (use:=some (assign (.Name y py) X.env)) (Q:=λ _ r=>SP X pins D0 .next r) rfl hs ab S.kind S.names
  (thn (hi pins s σ H _ I h) λ v s1 h1=>thn h1 λ ac f h2=>?_)) (λ _ r hq=>bj (bj hq)) λ _ _ e=>e)
 obtain⟨it,fp,tn,J,Y,e,I2,T,a0,f2,hw⟩:=h2;subst e;have O:∀ b∈fp,b<f.heap.objs.size:=λ b n=>let ⟨o,ho,_⟩:=T.obj _ _ a0 b n;bz ho;refine iz (rh S.nocell (by intro y hy;simp at hy) (λ l j d=>?_) S.kind);dsimp only at j d ⊢;generalize M:f.heap.push {cls:=.type "list",dict:=none,data:=.seq ([]:List ar).toArray}=G at j d ⊢;have ag:G.objs.size=f.heap.objs.size+1:=by rw[<-M,iX]
 have Z:f.heap.objs.size≠G.objs.size:=by omega
 have m:f.heap.objs.size<=G.objs.size:=by omega
 have a2:∀ b o,f.heap.get? b=some o->l.get? b=some o:=λ b o e=>d.extBut b o (dq (cy (bz e) m)) (ao _ (M ▸ ao _ e));have U:l.get? f.heap.objs.size=some {cls:=.type "list",dict:=none,data:=.seq ([]:List ar).toArray}:=d.extBut _ _ Z (ao _ (M ▸ cg _ rfl));have new:ObjOk X.prog X.w (upd Y f.heap.objs.size (.lst [])) l f.heap.objs.size (.lst []):=⟨gy _,[],_,.nil,U⟩;have I4:=wO (js:=js) (Nc:=Nc) (tk:=f.toks+([]:List (Str×ar)).length) I2 S f2 O a8 m (be _) Z a2 j new;have hn:Y f.heap.objs.size=none:=I2.fresh
 have f4:∀ b∈fp,yV (cxC X Nc sc G.objs.size f Y fp pins) [] (upd Y f.heap.objs.size (.lst [])) b:=λ b n=>by
  obtain⟨h0,h1,h2,h3,h4,h5⟩:=f2 b n;refine⟨?_,dq (cy (O b n) m),λ z=>?_,.inl n,λ x c z=>?_,λ p hp=>?_⟩
  ·rw[kM (dq (O b n))];exact h0
  ·rcases dr.mp (I2.stkSub b z) with q | q
   ·exact h1 q
   ·exact h2 q
  ·exact h4 x c (bS sc.names [] (λ z=>nomatch z) z)
  ·rcases cf.mp hp with z | z
   ·exact h5 p z
   ·exact absurd z (by simp)
 have a1:tn 0 l:=T.keep _ _ _ a0 λ b n o e=>a2 b o e
 have u:codeAny (model X.prog X.w) X.A (.compLoop (.ListComp el [⟨tg,iter,ifs,0⟩] sc pos) 0 (.ref it) (.ref f.heap.objs.size) (compEnvC sc (uU sc X.env) G.objs.size X.env))
   (compPost (model X.prog X.w) X.A X.xe (some (assign (.Name y py) X.env)) (λ _ r=>SP X pins D0 .next r) (.ref f.heap.objs.size) G.objs.size) {f with heap:=l,toks:=f.toks+([]:List (Str×ar)).length}:=by
  refine yL (X:=cxC X Nc sc G.objs.size f Y fp pins) (.inl ⟨el,rfl⟩) hx hc (kEB _ _ _ _ _ _ _ _ _) T (hg _ _ _ _ _) (n _ _ _ _ _ _ _) I4 a1 f4 (hw _ hn) λ af H' r I' q=>?_;obtain⟨m',a7,_⟩:=I'.loc;have IB:Inv X pins σ H' {r with heap:=r.heap}:=wP I2 f2 m I' (AN ..)
  have nC:H' G.objs.size=none:=I'.free;have fC:yV X pins H' G.objs.size:=I2.fpOk m nC;show dw _ X.A (assign (.Name y py) X.env (.ref f.heap.objs.size)) _ _ r;refine Bn (cB (v:=.ref f.heap.objs.size) IB hN a5 hy rfl (λ a3 IC a4=>?_) hf);obtain⟨a,sb,ha⟩:=a4
  have aC:G.objs.size≠a:=by
   rcases ha with rfl | ha
   ·exact fC.2.1
   ·exact λ z=>fC.2.2.2.2.1 y a ha z.symm
  refine⟨m',a7.sameBut sb aC,λ h' a9=>?_⟩;exact⟨_,H',IC.turnedL (t':=a3.toks) (ch:=[G.objs.size]) (λ b o B e=>a9.extBut b o (λ z=>B (by simp[z])) e) (λ b B=>by rw[bu.mp B];exact fC),q⟩
 exact xX (.inl ⟨el,rfl⟩) rfl rfl u (T.self _ _ _ _ _ a1 u)
end
def kML{k:Bool}{K:ay}{a:au}{xs:List V}{g:TG}{f:TS}{D:Ends}{b:St}{H:Hp}(Pv:Nat->St->Hp->Prop)(h0:Pv 0 b H)(s:∀ i b H,i<=xs.length->Pv i b H->SqX K k H a xs)
  (n:∀ i x T b H,xs[i]?=some x->H T=none->Pv i b H->g (.ref T) b (upd H T (.tup [.int i,x])) λ σ2 H2=>f {D with nx:=Pv (i+1),ct:=Pv (i+1),bk:=D.nx} σ2 H2) (j:∀ b H,Pv xs.length b H->D.nx b H) :
  ∃ W:Nat->Nat->St->Hp->Prop,(∃ m,W 0 m b H)/\∀ i m b H,W i m b H ->
   ((Ite k K a).stop i H/\D.nx b H)\/((Ite k K a).go i H/\∃ N:St->Hp->Prop,(∀ σ' H',N σ' H'->∃ m',m'<m/\W (i+1) m' σ' H')/\∀ x H',(Ite k K a).yld i H x H'->g x b H' λ σ2 H2=>f {D with nx:=N,ct:=N,bk:=D.nx} σ2 H2):=by
 refine⟨λ i m b H=>m=xs.length-i/\i<=xs.length/\Pv i b H,⟨xs.length,by simp,gy _,h0⟩,?_⟩;rintro i m b H ⟨rfl,d,p⟩;have c:=s i b H d p;by_cases r:i<xs.length
 ·refine .inr ⟨⟨xs,xs[i],c,by simp[r]⟩,Pv (i+1),λ σ' H' q=>⟨xs.length-(i+1),by omega,rfl,by omega,q⟩,λ x H' o=>?_⟩
  obtain⟨T,l,h,rfl,u,rfl⟩:=o;exact n i l T b H (u xs c) h p
 ·have:i=xs.length:=by omega
  subst this;exact .inl ⟨⟨xs,c,rfl⟩,j b H p⟩
def kHN(bs:List Bool):(cw bs.length).all (λ i=>bs.getD i false)=bs.all id:=by
 rw[iV,wz,wz];constructor
 ·intro h b d
  obtain⟨i,a,rfl⟩:=eY.mp d;have:=h i (jo.mpr a);simpa[ak,a] using this
 ·intro h i a
  have c:i<bs.length:=jo.mp a;have:=h bs[i] (iY c);simpa[ak,c] using this
theorem kDZ:∀{bs:List Bool}{a:List ar},Vals (bs.map V.bl) a->a=bs.map BP
 | [],_,r=>by cases r;rfl
 | b::bs,_,r=>by
  cases r with
  | cons r1 r2 =>
   cases r1
   rw[kDZ r2]
   rfl
section
variable {X:Cx}
def kJH{prog:eo}{w:iJ}{A:gj}{bs:List Bool}{items:Array ar}(e:items=(bs.map BP).toArray):TruthOf prog w A (λ i v=>items[i]?=some v) (λ i=>bs.getD i false):=by
 intro i v s Q E h q;rw[e]at h;have a:(bs.map BP)[i]?=some v:=by simpa using h
 rw[bg]at a
 cases z:bs[i]? with
 | none=>rw[z]at a;cases a
 | some b =>
  rw[z]at a
  cases a
  refine qb ?_;simpa[ak,z] using q
inductive mL(K:ay)(xs:List V)(H:Hp)(Q:VK):Prop
 | mk:∀(a:au)(bs:List Bool),(xs=[.ref a])->(SqL K H a (bs.map V.bl))->(Q (.bl (bs.all id)) H)->mL K xs H Q
def oV(n:X.calm=true):yX X (.builtin "all") (mL X.K):=by
 intro j s y H G D Q I r h;obtain⟨a,bs,rfl,l,q⟩:=h;obtain⟨u,rfl,p⟩:=wG r;cases p
 obtain⟨d,v,x,B⟩:=I.list l;have f:=x.isList;have g:a≠s.heap.objs.size:=by obtain⟨o,e,_⟩:=f;exact dq (bz e)
 have c:=kDZ v;refine call_all_walk (AI f ⟨_,_,_,_,_,_,_,rfl,Gd (A:=X.A.in1) (I.ok.hd n) _ a g d.toArray,⟨⟨_,cg _ rfl,rfl,rfl⟩,f.push _⟩,kJH (bs:=bs) (by rw[c]),λ C J m=>?_⟩);have e:d.toArray.size=bs.length:=by rw[c];simp
 rw[e,kHN];refine⟨.bl _,H,I.kept λ b o i=>m b o (λ z=>?_) (ao _ i),rfl,q⟩;rw[bu.mp z]at i;exact absurd (bz i) (qa _)
inductive mJ(K:ay)(xs:List V)(H:Hp)(Q:VK):Prop
 | mk:∀(a:au)(ns:List Int),(xs=[.ref a])->(SqL K H a (ns.map V.int))->(0<ns.length)->(∀ M,M∈ns->(∀ i∈ns,M<=i)->Q (.int M) H)->mJ K xs H Q
def kIT(B:X.calm=true):yX X (.builtin "min") (mJ X.K):=by
 intro n s M H c S Q I r h;obtain⟨a,D,rfl,p,f,q⟩:=h;obtain⟨u,rfl,C⟩:=wG r;cases C
 obtain⟨o,G,L,N⟩:=I.list p;have l:=bJ G;obtain⟨c,e⟩:=l.allInts.items;have b:D=c.toList.map (·.1):=by rw[<-l.numsOf,<-nums_intItems,<-e]
 have d:0<c.size:=by
  have i:=f;rw[b,ai,iK]at i;exact i
 have m:=L.isList;rw[e]at m;refine min_intList (I.ok.hd B) m d λ v O T J y=>?_;obtain⟨t,rfl⟩:=intItems_at J;obtain⟨h1,A⟩:=argBest_lt (numAt c) (c.size-1);refine⟨.int _,H,I.kept y,⟨_,rfl⟩,q _ ?_ λ a g=>?_⟩
 ·rw[b,numAt_eq];exact getD_mem (by rw[ai,iK];omega)
 ·rw[b]at g
  obtain⟨j,x,rfl⟩:=mem_getD g;rw[ai,iK]at x;rw[<-numAt_eq];exact A j (by omega)
end
section
variable {X:Cx} {tg iter el tg2 iter2:iO} {ifs ifs2:List iO} {sc:wg} {pos:Pos} {Nc:List Str} {js:List (Option Nat)} {wi wi2:TI} {g g2:TG}
def kQI(a:TI)(c:TG)(d:TB):TB:=λ N b H=>a b H λ J f=>vS J c d N b f
def kKY{D:au}{l:TB}{L:Gn}{e:iO}(y:e=.ListComp el [⟨tg,iter,[],0⟩,⟨tg2,iter2,ifs2,0⟩] sc pos)(Q:X.xe=λ _ _=>False)(M:X.calm=true)(hi:PI X tg2 iter2 wi2)(U:PG X tg2 g2)
  (O:∀ L,PTl X (yB ifs2 X.env (do let _ <-call (.builtin "list.append") [.ref D,<-eval el X.env]) L) L l) (o:∀ x,foldedSetIterable iter2 X.env x=pure x) :
  PTl X (kJL [] X.env iter2 (λ i=>.compStart e 1 i (.ref D) X.env) L) L (kQI wi2 g2 l):=by
 subst y;intro c s n H N I h;unfold kJL;refine ae (EX ?_);show dw _ _ (eval iter2 X.env >>= _) _ _ s;refine ae (thn (hi c s n H _ I h) λ v Y h1=>?_);refine ae (vk (ae (wpAny_of_eq (o v) (ae (md (thn h1 λ m p G=>?_))))));obtain⟨it,fp,tn,J,Z,e,S,T,f,B,u⟩:=G;subst e;refine ae (wpAny_runOwn ?_)
 have b:codeAny (model X.prog X.w) X.A (.compLoop (.ListComp el [⟨tg,iter,[],0⟩,⟨tg2,iter2,ifs2,0⟩] sc pos) 1 (.ref it) (.ref D) X.env)
   (λ r d=>match r with | .ok _=>dw (model X.prog X.w) X.A (again L) (λ j d=>j=.again L/\∃ a g,Inv X c a g d/\N a g) X.xe d | .error e=>cameBackBy (model X.prog X.w) X.A X.env X.xe e d) p :=
  yL (.inl ⟨el,rfl⟩) Q M (kJF _ _ _ _ _ _ _ _ _ _ _ _) T U (O _) S f B u λ a g d C q=>bj ⟨rfl,a,g,C,q⟩
 exact xX (.inl ⟨el,rfl⟩) rfl rfl b (T.self _ _ _ _ _ f b)
def rA{bd:au->TB}(hx:X.xe=λ _ _=>False)(hc:X.calm=true)(hi:PI X tg iter wi)(S:CS sc X.env.scope)(a4:bU js Nc X.N sc.names=true)
  (hg:∀ C s₂ H₂ fp pins,PG (cxC X Nc sc C s₂ H₂ fp pins) tg g) (a1:∀ C s₂ H₂ fp pins,PI (cxC X Nc sc C s₂ H₂ fp pins) tg2 iter2 wi2) (a5:∀ C s₂ H₂ fp pins,PG (cxC X Nc sc C s₂ H₂ fp pins) tg2 g2)
  (l:∀ C s₂ H₂ fp pins D L,PTl (cxC X Nc sc C s₂ H₂ fp pins) (yB ifs2 (cxC X Nc sc C s₂ H₂ fp pins).env (do let _ <-call (.builtin "list.append") [.ref D,<-eval el (cxC X Nc sc C s₂ H₂ fp pins).env]) L) L (bd D))
  (hs:∀ x,foldedSetIterable iter X.env x=pure x:=by intro _;rfl) (a0:∀ C s₂ H₂ fp pins x,foldedSetIterable iter2 (cxC X Nc sc C s₂ H₂ fp pins).env x=pure x:=by intro _ _ _ _ _ _;rfl) :
  PE X (.ListComp el [⟨tg,iter,[],0⟩,⟨tg2,iter2,ifs2,0⟩] sc pos) (tLC js wi g λ D=>kQI wi2 g2 (bd D)):=by
 intro pins s σ H Q I h;rw[eval_ListComp];have a6:closureFor sc X.env=pure (uU sc X.env):=yM λ y hy hf=>I.ok.has y.1 (.inl (S.free y hy hf));refine om (use:=none) rfl hs a6 S.kind S.names (thn (hi pins s σ H _ I h) λ v s1 h1=>thn h1 λ a7 d h2=>?_);obtain⟨it,fp,tn,J,u,e,Z,T,O,f2,hw⟩:=h2;subst e;have r:∀ b∈fp,b<d.heap.objs.size:=λ b l=>let ⟨o,ho,_⟩:=T.obj _ _ O b l;bz ho;refine iz (rh S.nocell (by intro y hy;simp at hy) (λ i f a=>?_) S.kind);dsimp only at f a ⊢;generalize n:d.heap.push {cls:=.type "list",dict:=none,data:=.seq ([]:List ar).toArray}=G at f a ⊢;have a9:G.objs.size=d.heap.objs.size+1:=by rw[<-n,iX]
 have M:d.heap.objs.size≠G.objs.size:=by omega
 have j:d.heap.objs.size<=G.objs.size:=by omega
 have Y:∀ b o,d.heap.get? b=some o->i.get? b=some o:=λ b o e=>a.extBut b o (dq (cy (bz e) j)) (ao _ (n ▸ ao _ e));have B:i.get? d.heap.objs.size=some {cls:=.type "list",dict:=none,data:=.seq ([]:List ar).toArray}:=a.extBut _ _ M (ao _ (n ▸ cg _ rfl));have new:ObjOk X.prog X.w (upd u d.heap.objs.size (.lst [])) i d.heap.objs.size (.lst []):=⟨gy _,[],_,.nil,B⟩;have I4:=wO (js:=js) (Nc:=Nc) (tk:=d.toks+([]:List (Str×ar)).length) Z S f2 r a4 j (be _) M Y f new;have hn:u d.heap.objs.size=none:=Z.fresh
 have f4:∀ b∈fp,yV (cxC X Nc sc G.objs.size d u fp pins) [] (upd u d.heap.objs.size (.lst [])) b:=λ b l=>by
  obtain⟨h0,h1,h2,h3,h4,h5⟩:=f2 b l;refine⟨?_,dq (cy (r b l) j),λ z=>?_,.inl l,λ x c z=>?_,λ p hp=>?_⟩
  ·rw[kM (dq (r b l))];exact h0
  ·rcases dr.mp (Z.stkSub b z) with q | q
   ·exact h1 q
   ·exact h2 q
  ·exact h4 x c (bS sc.names [] (λ z=>nomatch z) z)
  ·rcases cf.mp hp with z | z
   ·exact h5 p z
   ·exact absurd z (by simp)
 have U:tn 0 i:=T.keep _ _ _ O λ b l o e=>Y b o e
 have m:codeAny (model X.prog X.w) X.A (.compLoop (.ListComp el [⟨tg,iter,[],0⟩,⟨tg2,iter2,ifs2,0⟩] sc pos) 0 (.ref it) (.ref d.heap.objs.size) (compEnvC sc (uU sc X.env) G.objs.size X.env))
   (compPost (model X.prog X.w) X.A X.xe none (EP X pins σ Q) (.ref d.heap.objs.size) G.objs.size) {d with heap:=i,toks:=d.toks+([]:List (Str×ar)).length}:=by
  refine yL (X:=cxC X Nc sc G.objs.size d u fp pins) (.inl ⟨el,rfl⟩) hx hc (kJG _ _ _ _ _ _ _ _ _ _ _ _) T (hg _ _ _ _ _)
   (kKY (X:=cxC X Nc sc G.objs.size d u fp pins) rfl hx hc (a1 _ _ _ _ _) (a5 _ _ _ _ _) (λ L=>l _ _ _ _ _ _ L) (a0 _ _ _ _ _)) I4 U f4 (hw _ hn) λ a8 H' s' I' q=>?_
  obtain⟨m',a2,_⟩:=I'.loc;exact⟨m',a2,λ h' a3=>⟨.ref d.heap.objs.size,H',wP Z f2 j I' a3,rfl,q⟩⟩
 exact xX (.inl ⟨el,rfl⟩) rfl rfl m (T.self _ _ _ _ _ U m)
end
open AutoSeq1 (wpAny_loadPart')
def kHB(l:au)(items:Array ar)(n:Nat)(I:Option au)(M:Array (Option ar))(x:ar)(e:ar->Bool)(j:Nat)(O:j<items.size)(q:e items[j]=true)(v:∀ m (S:m<items.size),m<j->e items[m]=false) :
  Meets (zw.«tuple.index» ⟨[.ref l,x],[]⟩) (λ A R s=>s.heap.get? l=some {cls:=.type "tuple",dict:=I,data:=.seq items n,slots:=M}/\(∀ y,y∈items->Eo A.in1 s y x (e y))/\R (.ok (.ret (.int j s.toks))) {s with toks:=s.toks+1}) :=
 .of_wp λ a w A R s h=>by
  obtain⟨hp,g,d,L,os⟩:=s;obtain⟨G,J,h⟩:=h
  wp_walk using zx G
  have C:∀(f:Nat->Option uq×PUnit->Sem (ForInStep (Option uq×PUnit)))(Q:Option uq×PUnit->av->Prop)(E:ar->av->Prop)(B:av),
    dw (model a w) A.in1 (forIn (AG 0 items.size) ((none:Option uq),Ge) f) Q E B->dw (model a w) A.in1 (forIn [:min items.size items.size] ((none:Option uq),Ge) f) Q E B:=λ f Q E B z=>by
   rw[rm];simpa[Aa] using z
  refine C (λ i __s=>match items[i]? with
      | some y=>do
       if <-eqBool y x then do
         let r <-retInt (i:Nat)
         pure (yj (some r,()))
        else pure (jg (none,()))
      | _=>pure (jg (none,()))) _ _ _ ?_
  refine Ag _ (λ rest b u=>b.1=none/\u=⟨hp,g,d,L,os⟩/\∃ i,i<=j/\rest=AG i (items.size-i)) _ ?_ ?_ _ _ ⟨rfl,rfl,0,gy _,by simp⟩
  ·rintro y rest b u ⟨H,rfl,i,D,p⟩
   have o:i<items.size:=by omega
   rw[show items.size-i=(items.size-(i+1))+1 by omega,wm]at p;injection p with e1 e2
   subst e1;have N:items[y]?=some items[y]:=by simp[o]
   simp only[N];refine ae (J _ (Bp o) a w _ _ ?_);by_cases c:y=j
   ·subst c
    rw[q]
    wp_walk
    exact⟨_,rfl,h⟩
   ·rw[v y o (by omega)]
    wp_walk
    exact⟨rfl,rfl,y+1,by omega,e2⟩
  ·rintro b u ⟨H,rfl,i,D,p⟩
   have:jr ([]:List Nat)=items.size-i:=by rw[p,List.length_range']
   simp at this;omega
section
variable {X:Cx}
inductive kFB(K:ay)(x:V)(vs:List V)(H:Hp)(Q:VK):Prop
 | mk:∀(l:au)(ns:List Int)(n:Int)(j:Nat),(x=.ref l)->(vs=[.int n])->(SqT K H l (ns.map V.int))->(vL ns n j)->(Q (.int j) H)->kFB K x vs H Q
def cI:MtM X "tuple.index" (kFB X.K):=by
 intro d s J H x L v O Q I A B h;obtain⟨l,N,n,j,rfl,rfl,i,g,q⟩:=h;cases A
 obtain⟨u,rfl,t,rfl⟩:=B.one;obtain⟨a,r,⟨⟨cls,D,dt,G⟩,f,c,m,b⟩,M⟩:=I.tuple i;simp only at c b;subst c b;obtain⟨h1,p,o⟩:=cO r g;refine Ae F.slot_tuple_index ⟨_,f,rfl⟩ F.entry_tuple_index (F.args_tuple_index_2 _ _) (kHB l a.toArray m D G (.int n t) (dH n) j h1 p o) ⟨f,λ y C=>(wV r n t y C).at _ _,?_⟩;exact⟨.int j,H,I.tok _,⟨_,rfl⟩,q⟩
end
def qN{N P:List Str}{f:wg}(a:f.kind=.function:=by rfl)(b:f.isCoroutine=false:=by rfl)(c:f.isGenerator=false:=by rfl)(d:N.Nodup:=by decide +kernel)(e:N.take P.length=P:=by rfl)
  (g:∀ x∈P,f.names.lookup x=some .local\/f.names.lookup x=some .cell:=by decide +kernel) (h:∀ y∈f.names,y.2≠.free:=by decide +kernel):FnScope N P f:=⟨a,b,c,d,e,g,h⟩
def kTY{α:Type}{a:List α}(h:a.length=0):a=[]:=ox.mp h
def kOU{α:Type}{b:List α}{n:Nat}(h:b.length=n+1):∃ a r,b=a::r/\r.length=n:=by
 cases b with
 | nil=>exact nomatch h
 | cons a r=>exact⟨a,r,rfl,Nat.succ.inj h⟩
def kTX{α:Type}{b:List α}(h:b.length=1):∃ a,b=[a]:=by
 obtain⟨a,r,rfl,g⟩:=kOU h;exact⟨a,by rw[kTY g]⟩
def kTW{α:Type}{c:List α}(h:c.length=2):∃ a b,c=[a,b]:=by
 obtain⟨a,r,rfl,g⟩:=kOU h;obtain⟨b,rfl⟩:=kTX g;exact⟨a,b,rfl⟩
def kTV{α:Type}{d:List α}(h:d.length=3):∃ a b c,d=[a,b,c]:=by
 obtain⟨a,r,rfl,g⟩:=kOU h;obtain⟨b,c,rfl⟩:=kTW g;exact⟨a,b,c,rfl⟩
def kVF{α:Type}{f:List α}(h:f.length=4):∃ a b c d,f=[a,b,c,d]:=by
 obtain⟨a,r,rfl,g⟩:=kOU h;obtain⟨b,c,d,rfl⟩:=kTV g;exact⟨a,b,c,d,rfl⟩
section
variable {P:eo} {w:iJ} {K:ay} {mg:Str->Option ar} {base:iS}
def qP{n:Str}{st:ph}{N j:List Str}{k:Nat}{sp:Sp}(X:∃ h:iS,K.In h/\h.Ns gm mg)(d:jQ K n st)(S:FnScope N j (kO st))
  (c:∀(f:au)(a:ar)(A:gj)(outer:List Env)(s:av)(H:Hp)(i:List V)(Q:VK)(E:XK),N.Nodup->Room k (A.deeper (envOfC n (kO st) s.heap.objs.size f a))->sp i H Q E ->
   ∃ t,PSs (qY CX0 P w K mg base N n (kO st) f a A outer s H E).nox (zD st) t/\t {nx:=λ _ H'=>Q .non H',rt:=Q} (start N i) H)
  (len:∀ i H Q E,sp i H Q E->i.length=j.length:=by intro _ _ _ _ h;first | (cases h;subst_vars;rfl) | (rcases h with h | h<;>cases h<;>subst_vars<;>rfl))
  (b:∀(kV m o:ar)(p:Option au)(a ct:ar)(l:List ar),l.length=j.length->bindArgs (uw n n (vH st) (zD st) (kO st) .none kV m o p a ct) ⟨l,[]⟩=pure (j.zip l):=by
   intro _ _ _ _ _ _ l hl;first | (obtain⟨_,rfl⟩:=kTX hl;rfl) | (obtain⟨_,_,rfl⟩:=kTW hl;rfl) | (obtain⟨_,_,_,rfl⟩:=kTV hl;rfl) | (obtain⟨_,_,_,_,rfl⟩:=kVF hl;rfl) | (obtain⟨_,_,_,_,_,rfl⟩:=len5 hl;rfl) | (obtain rfl:=kTY hl;rfl)):Own.Has P w K mg base n j (k+1) sp:=by
 obtain⟨h,x,g⟩:=X;exact kSI x g d (λ f q F=>F.ok S len λ a A outer s H i Q E=>c f a A outer s H i Q E S.nd) b
end
inductive nE(K:ay)(vs:List V)(H:Hp)(Q:VK)(E:XK):Prop
 | mk (a:au) (ns:List Int):vs=[.ref a]->SqL K H a (ns.map V.int)->ns.length<=63->(∀ H',Q (.bl true) H')->nE K vs H Q E
structure Cn where
 P:eo
 w:iJ
 K:ay
 mg:Str->Option ar
 base:iS
instance:Nonempty Cn:=⟨⟨default,⟨λ _ _=>0,{strHash:=λ _=>0,shareClass:=id,mergeTok:=id,idOf:=λ _=>0,idOfShared:=λ _ _=>0,followText:=λ _=>true,idOfImm:=λ _=>0}⟩,default,λ _=>none,default⟩⟩
section
variable {X:Cx} {e:iO} {es:List iO} {te:TE} {t:TA} {p pos pos':Pos} {x:Str}
def pf{j k:Nat}{f:List Str}{sp:Sp}(h:Own.Has X.prog X.w X.K X.mg X.base x f j sp)(i:Room k X.A)(l:PA X (e::es) t)(c:j<=k:=by decide)(g:Gl X x:=by rfl)
  (a:(x == ("__debug__" : Str))=false:=by decide) (d:starEach (e::es) X.env=(false,eval e X.env)::starEach es X.env:=by rfl) (b:(backTo pos (starEach es X.env)).any (·.1)=false:=by rfl) :
  PE X (.Call (.Name x p) (e::es) [] pos) (kJR sp [] E0 t):=Own.pe_has h (i.mono c) g l a d b
def pst(i:Nat)(b:X.N.Nodup)(d:PE X e te)(hi:X.N[i]?=some x:=by rfl)(f:Loc X.env.scope x:=by first | exact zd rfl | exact EI rfl)(c:swapsWith e (some (.Name x pos')) pos.line X.env=pure false:=by rfl)
  (a:X.fn x=true\/X.env.scope.names.lookup x=some .local:=by first | exact .inl rfl | exact .inr rfl):PS X (.Assign [.Name x pos'] e pos) (kJS te (lY i)):=kRG b hi f d c a
def pgn(i:Nat)(c:X.N.Nodup)(hi:X.N[i]?=some x:=by rfl)(a:Loc X.env.scope x:=by first | exact zd rfl | exact EI rfl)(b:X.fn x=true\/X.env.scope.names.lookup x=some .local:=by first | exact .inl rfl | exact .inr rfl):PG X (.Name x pos) (lY i):=zS c hi a b
def dU{b iter:iO}{a:List ph}{c:TI}{g:TG}{d:TS}(hi:PI X b iter c)(j:PG X b g)(h:PSs X a d)(hp:Fo (model X.prog X.w) X.A X.env X.xe:=by exact EZ)(f:X.calm=true:=by rfl)
  (i:∀ x,foldedSetIterable iter X.env x=pure x:=by intro _;rfl):PS X (.For b iter a [] pos) (kTB c g d):=kRH hp f hi j h i
variable {a b c d:iO} {ta tb tc td:TE}
def pix{r:R2}(f:IxR X r)(g:PE X a ta)(d:PE X b tb)(c:kGO b:=by exact λ _ _=>rfl):PE X (.Subscript a b pos) (tOp r ta tb):=kTQ f g d c
def p1(b:PE X a ta)(h1:starEach [a] X.env=(false,eval a X.env)::starEach [] X.env:=by rfl):PA X [a] (kED ta kQS):=kH b kY h1
def p2(f:PE X a ta)(d:PE X b tb)(h1:starEach [a,b] X.env=(false,eval a X.env)::starEach [b] X.env:=by rfl)(c:starEach [b] X.env=(false,eval b X.env)::starEach [] X.env:=by rfl):PA X [a,b] (kED ta (kED tb kQS)):=kH f (kH d kY c) h1
def nd1{a:Str}:[a].Nodup:=gk.mpr ⟨og,yr⟩
def nd2{a b:Str}(h:a≠b):[a,b].Nodup:=gk.mpr ⟨λ m=>h (bu.mp m),nd1⟩
def nd3{a b c:Str}(h:a≠b)(h':a≠c)(d:b≠c):[a,b,c].Nodup:=gk.mpr ⟨λ m=>(dr.mp m).elim h λ m=>h' (bu.mp m),nd2 d⟩
def pgc(i:Nat)(c:X.N.Nodup:=by first | exact nd1 | exact nd2 (by decide) | exact nd3 (by decide) (by decide) (by decide))(hi:X.N[i]?=some x:=by rfl)(a:Loc X.env.scope x:=by first | exact zd rfl | exact EI rfl)(b:X.fn x=true\/X.env.scope.names.lookup x=some .local:=by first | exact .inl rfl | exact .inr rfl):PG X (.Name x pos) (lY i):=zS c hi a b
section
variable {o:iO} {to:TE} {r:V->List V->Hp->VK->Prop} {apos cpos:Pos}
def jD{n:Str}{id:String}(f:Slot "list" n id)(g:typeOf (.builtin id)=pure (.type "method_descriptor"))(h:MtR X id r)(i:PE X o to)(l:PA X (e::es) t)
  (c:attributeBase o n X.env (eval o X.env)=eval o X.env:=by rfl)
  (d:((backTo cpos (starEach (e::es) X.env)).all (λ x=>!x.1) && (backToKw cpos (keywordEach [] X.env)).all (λ x=>x.1.isSome)
   && decide ((e::es).length+([]:List Ec).length+(if([]:List Ec).isEmpty then 0 else 1)<30))=true:=by rfl)
  (b:(apos.endLine == cpos.line)=true:=by rfl) (j:starEach (e::es) X.env=(false,eval e X.env)::starEach es X.env:=by rfl) (a:(backTo cpos (starEach es X.env)).any (·.1)=false:=by rfl) :
  PE X (.Call (.Attribute o n apos) (e::es) [] cpos) (tBM X.K "list" r to t):=kAE PySem.F.plainAttrs_list f g h i l c d b j a
end
end
def snoc{α:Type}{xs:List α}{x y:α}{i:Nat}(h:(xs++[x])[i]?=some y):(i<xs.length/\xs[i]?=some y)\/(i=xs.length/\some x=some y):=by
 rcases iH i xs.length with c | c
 ·rw[az c]at h
  exact .inl ⟨c,h⟩
 ·have e:i=xs.length:=by
   have:=(aj.mp h).1;rw[bq,fk]at this;omega
  rw[e,di]at h;exact .inr ⟨e,h⟩
def fH{X:Cx}{st:ph}:PS X st (λ _ _ _=>False):=λ _ _ _ _ _ _ h=>h.elim
section
variable {X:Cx} {tg iter kx vx:iO} {ifs:List iO} {sc:wg} {pos:Pos} {Nc:List Str} {js:List (Option Nat)} {wi:TI}
def oS(c a:iO)(env:Env)(b:ar):Sem Unit:=do
 let kv <-eval c env
 let vv <-holding [kv] (eval a env)
 match b with
 | .ref d=>do
  standAt (have __src:=c.pos;{line:=__src.line,col:=__src.col,endLine:=a.pos.endLine,endCol:=a.pos.endCol})
  holding [kv,vv] (dictSet d kv vv)
 | _=>unsupported "internal:dictcomp"
def pF(g f d iter:iO)(b:List iO)(h:wg)(a:Pos)(it c:ar)(env:Env) :
  compTurn (.DictComp g f [⟨d,iter,b,0⟩] h a) 0 it c env=(standAt iter.pos >>= λ _=>pyNext it >>= λ r=>match r with
   | none=>pure (.done .next)
   | some v=>letOwnedTupleGo d it v >>= λ _=>assign d env v >>= λ _=>yB b env (oS g f env c) (.compLoop (.DictComp g f [⟨d,iter,b,0⟩] h a) 0 it c env)):=by rfl
def tDC(js:List (Option Nat))(c:TI)(g:TG)(bd:au->TB):TE:=λ b H Q=>c b H λ J a=>∀ D,a D=none->vS J g (bd D) (λ _ d=>Q (.ref D) d) (cP js b) (upd a D (.dK []))
def kFF{g:TG}{bd:au->TB}(hx:X.xe=λ _ _=>False)(hc:X.calm=true)(hi:PI X tg iter wi)(S:CS sc X.env.scope)(a1:bU js Nc X.N sc.names=true)
  (hg:∀ C s₂ H₂ fp pins,PG (cxC X Nc sc C s₂ H₂ fp pins) tg g)
  (l:∀ C s₂ H₂ fp pins D L,PTl (cxC X Nc sc C s₂ H₂ fp pins) (yB ifs (cxC X Nc sc C s₂ H₂ fp pins).env (oS kx vx (cxC X Nc sc C s₂ H₂ fp pins).env (.ref D)) L) L (bd D))
  (hs:∀ x,foldedSetIterable iter X.env x=pure x:=by intro _;rfl) :
  PE X (.DictComp kx vx [⟨tg,iter,ifs,0⟩] sc pos) (tDC js wi g bd):=by
 intro pins s σ H Q I h;rw[Dl];have a3:closureFor sc X.env=pure (uU sc X.env):=yM λ y hy hf=>I.ok.has y.1 (.inl (S.free y hy hf));refine om (use:=none) rfl hs a3 S.kind S.names (thn (hi pins s σ H _ I h) λ v s1 h1=>thn h1 λ a4 d O=>?_);obtain⟨it,fp,tn,J,B,e,I2,T,U,f2,hw⟩:=O;subst e;have r:∀ b∈fp,b<d.heap.objs.size:=λ b l=>let ⟨o,ho,_⟩:=T.obj _ _ U b l;bz ho;refine iz (rh S.nocell (by intro y hy;simp at hy) (λ i f a=>?_) S.kind);dsimp only at f a ⊢;generalize n:d.heap.push {cls:=.type "dict",dict:=none,data:=.dict #[]}=G at f a ⊢;have a6:G.objs.size=d.heap.objs.size+1:=by rw[<-n,iX]
 have M:d.heap.objs.size≠G.objs.size:=by omega
 have j:d.heap.objs.size<=G.objs.size:=by omega
 have Z:∀ b o,d.heap.get? b=some o->i.get? b=some o:=λ b o e=>a.extBut b o (dq (cy (bz e) j)) (ao _ (n ▸ ao _ e));have u:i.get? d.heap.objs.size=some {cls:=.type "dict",dict:=none,data:=.dict #[]}:=a.extBut _ _ M (ao _ (n ▸ cg _ rfl))
 have new:ObjOk X.prog X.w (upd B d.heap.objs.size (.dK [])) i d.heap.objs.size (.dK []):=by
  refine⟨gy _,beq_eq_false_iff_ne.mpr (pe (dq I2.big)),[],.nil,?_⟩;obtain⟨o,es,ep,h1,rest⟩:=Cf (knd:=qD X.prog X.w) d.heap;have O:(d.heap.push {cls:=.type "dict",dict:=none,data:=.dict #[]}).get? d.heap.objs.size=some {cls:=.type "dict",dict:=none,data:=.dict #[]}:=cg _ rfl;have h3:=h1.symm.trans O;exact⟨o,es,ep,u.trans h3.symm,rest⟩
 have I4:=wO (js:=js) (Nc:=Nc) (tk:=d.toks+([]:List (Str×ar)).length) I2 S f2 r a1 j (be _) M Z f new;have hn:B d.heap.objs.size=none:=I2.fresh
 have f4:∀ b∈fp,yV (cxC X Nc sc G.objs.size d B fp pins) [] (upd B d.heap.objs.size (.dK [])) b:=λ b l=>by
  obtain⟨h0,h1,O,h3,h4,h5⟩:=f2 b l;refine⟨?_,dq (cy (r b l) j),λ z=>?_,.inl l,λ x c z=>?_,λ p hp=>?_⟩
  ·rw[kM (dq (r b l))];exact h0
  ·rcases dr.mp (I2.stkSub b z) with q | q
   ·exact h1 q
   ·exact O q
  ·exact h4 x c (bS sc.names [] (λ z=>nomatch z) z)
  ·rcases cf.mp hp with z | z
   ·exact h5 p z
   ·exact absurd z (by simp)
 have Y:tn 0 i:=T.keep _ _ _ U λ b l o e=>Z b o e
 have m:codeAny (model X.prog X.w) X.A (.compLoop (.DictComp kx vx [⟨tg,iter,ifs,0⟩] sc pos) 0 (.ref it) (.ref d.heap.objs.size) (compEnvC sc (uU sc X.env) G.objs.size X.env))
   (compPost (model X.prog X.w) X.A X.xe none (EP X pins σ Q) (.ref d.heap.objs.size) G.objs.size) {d with heap:=i,toks:=d.toks+([]:List (Str×ar)).length}:=by
  refine yL (X:=cxC X Nc sc G.objs.size d B fp pins) (.inr ⟨kx,vx,rfl⟩) hx hc (pF _ _ _ _ _ _ _ _ _ _) T (hg _ _ _ _ _) (l _ _ _ _ _ _ _) I4 Y f4 (hw _ hn) λ a5 H' s' I' q=>?_;obtain⟨m',a0,_⟩:=I'.loc;exact⟨m',a0,λ h' a2=>⟨.ref d.heap.objs.size,H',wP I2 f2 j I' a2,rfl,q⟩⟩
 exact xX (.inr ⟨kx,vx,rfl⟩) rfl rfl m (T.self _ _ _ _ _ Y m)
def bO{prog:eo}{w:iJ}{A:gj}{E:ar->av->Prop}{s:av}{t b:au}{items:Array ar}{g i:ar}{lo hi:Option Int}{Q:ar->av->Prop}(a:Ed s.heap t items)(j:s.heap.IsSliceOf b g i .none)(m:CP g lo)(n:CP i hi)
  (l:HT.sIx items.size 0 lo=0/\HT.sIx items.size items.size hi=items.size) (h:Q (.ref t) s):dw (model prog w) A (getItem (.ref t) (.ref b)) Q E s:=by
 obtain⟨os,d,f,o⟩:=id j;have c:s.TypeIs (.ref b) "slice":=⟨os,d,f⟩;unfold getItem
 try with_reducible refine md ?_
 first | refine ae (bj ?_) | skip
 refine ae (De a.typeIs (by decide) ?_)
 refine ae (jz (name:=xh "__getitem__") a.typeIs jq
  (mf jq a.typeIs DB ?_ (DN _ _)))
 show dw _ _ (BY (.ref t) >>= _) _ _ s;refine ae (tupleItemsOf_ a ?_);refine ae (AL c ?_);rw[if_pos (by decide)];refine ae (HT.sliceApplied_gen j m n ?_);show dw _ _ (if(((HT.sIx items.size 0 lo:Nat):Int) == 0 && (1:Int) == 1 && (HT.sIx items.size items.size hi-HT.sIx items.size 0 lo) == items.size)=true then _ else _) _ _ s;rw[if_pos (by rw[l.1,l.2];simp)];unfold Ew
 first
  | refine ae (ae (AL a.typeIs (bj ?_)))
  | refine ae (AL a.typeIs (bj ?_))
 rw[if_pos (by decide)];exact ae (vt (bj ⟨_,rfl,bj h⟩))
inductive kRC(K:ay)(x:V)(lo:Option Int)(hi:Option Int)(H:Hp)(Q:VK):Prop
 | mk:∀ a xs,(x=.ref a)->(SqT K H a xs)->((HT.sIx xs.length 0 lo=0/\HT.sIx xs.length xs.length hi=xs.length))->(Q (.ref a) H)->kRC K x lo hi H Q
def kNS:SlR X (kRC X.K):=by
 intro d s p H x v u B lo A C Q I m i g l h;obtain⟨a,o,rfl,n,j,q⟩:=h;cases m
 obtain⟨c,r,f,y⟩:=I.tuple n;have b:c.toArray.size=o.length:=by rw[fj];exact r.length.symm
 refine⟨"tuple",_,jq.lookup,f.typeIs,?_⟩;exact bO f i g l (by rw[b];exact j) ⟨.ref a,H,I,rfl,q⟩
def kVE(K:ay):V->Option Int->Option Int->Hp->VK->Prop:=λ x lo a H Q=>kRB K x lo a H Q\/kRC K x lo a H Q
def kNR:SlR X (kVE X.K):=sl_tup.or kNS
end
end L2
namespace Cyc
def Adj:List Nat->Nat->Nat->Prop
 | x::y::r,a,b=>(a=x/\b=y)\/Adj (y::r) a b
 | _,_,_=>False
def Nx(row:List Nat)(a b:Nat):Prop:=Adj (row++row.head?.toList) a b
def kGM(x a b:Nat):¬ Adj [x] a b:=id
def bX(x y:Nat)(r:List Nat)(a b:Nat):Adj (x::y::r) a b↔(a=x/\b=y)\/Adj (y::r) a b:=Bq
theorem jA:∀(l:List Nat)(x:Nat)(r:List Nat)(a b:Nat),Adj (l++x::r) a b↔Adj (l++[x]) a b\/Adj (x::r) a b
 | [],x,r,a,b=>⟨.inr,λ h=>h.elim (λ z=>(kGM x a b z).elim) id⟩
 | [y],x,r,a,b=>by
  show(a=y/\b=x)\/Adj (x::r) a b↔((a=y/\b=x)\/Adj [x] a b)\/Adj (x::r) a b;have:=kGM x a b;exact⟨λ h=>h.elim (λ z=>.inl (.inl z)) .inr,λ h=>h.elim (λ z=>z.elim .inl λ q=>(this q).elim) .inr⟩
 | y::z::l,x,r,a,b=>by
  have c:=jA (z::l) x r a b;show(a=y/\b=z)\/Adj (z::l++x::r) a b↔((a=y/\b=z)\/Adj (z::l++[x]) a b)\/Adj (x::r) a b;rw[c];exact⟨λ h=>h.elim (λ q=>.inl (.inl q)) λ q=>q.elim (λ q=>.inl (.inr q)) .inr,λ h=>h.elim (λ q=>q.elim .inl λ q=>.inr (.inl q)) λ q=>.inr (.inr q)⟩
theorem qH:∀{l:List Nat}{a b:Nat},Adj l a b->a∈l/\b∈l.tail
 | [],_,_,h=>h.elim
 | [_],_,_,h=>h.elim
 | x::y::r,a,b,h=>by
  rcases h with⟨rfl,rfl⟩ | h
  ·exact⟨eZ,eZ⟩
  ·have:=qH h
   exact⟨eC _ this.1,eC _ this.2⟩
def rM(x:Nat)(r:List Nat)(a b:Nat):Nx (x::r) a b↔Adj (x::r++[x]) a b:=Bq
def jJ(A C:List Nat)(a b:Nat):Nx (A++C) a b↔Nx (C++A) a b:=by
 cases A with
 | nil=>rw[kq,iW]
 | cons a0 A' =>
  cases C with
  | nil=>rw[kq,iW]
  | cons c0 C' =>
   have d:Nx (a0::A'++c0::C') a b↔Adj ((a0::A')++c0::(C'++[a0])) a b:=by
    show Adj ((a0::A'++c0::C')++[a0]) a b↔_;rw[cx];exact Bq
   have c:Nx (c0::C'++a0::A') a b↔Adj ((c0::C')++a0::(A'++[c0])) a b:=by
    show Adj ((c0::C'++a0::A')++[c0]) a b↔_;rw[cx];exact Bq
   rw[d,c,jA (a0::A') c0,jA (c0::C') a0];exact Or.comm
def zT(v:Nat)(R:List Nat)(a b:Nat):Nx (v::R) a b↔(a=v/\b=(R++[v]).headD 0)\/Adj (R++[v]) a b:=by
 rw[rM]
 cases R with
 | nil=>exact Bq
 | cons y r=>exact Bq
theorem yA:∀{R:List Nat}{v a b:Nat},v∉R->Adj (R++[v]) a b->a≠v
 | [],_,_,_,_,h=>h.elim
 | x::r,v,a,b,hv,h=>by
  have c:v∉r:=λ z=>hv (eC _ z);have d:x≠v:=λ z=>hv (by rw[z];exact eZ)
  cases r with
  | nil =>
   rcases h with⟨rfl,_⟩ | h
   ·exact d
   ·exact h.elim
  | cons y r' =>
   rcases h with⟨rfl,_⟩ | h
   ·exact d
   ·exact yA c h
def kRS{A B:List Nat}{v w:Nat}(nd:(A++v::B).Nodup)(i:w∉A++v::B)(a b:Nat) :
  Nx (A++v::w::B) a b↔(a=v/\b=w)\/(a=w/\Nx (A++v::B) v b)\/(a≠v/\Nx (A++v::B) a b):=by
 rw[jJ A (v::w::B),jJ A (v::B),jJ A (v::B)];simp only[iq]
 have d:v∉B++A:=λ z=>by
  rw[de]at nd;rcases cf.mp z with z | z
  ·exact(gk.mp nd.2.1).1 z
  ·exact nd.2.2 v z v eZ rfl
 have j:w≠v:=λ z=>i (by rw[z];simp);generalize l:B++A=R at d;rw[zT,zT,zT];have f:(w::R++[v]).headD 0=w:=rfl
 have g:Adj (w::R++[v]) a b↔(a=w/\b=(R++[v]).headD 0)\/Adj (R++[v]) a b:=by
  cases R with
  | nil=>exact Bq
  | cons y r=>exact Bq
 rw[f,g];constructor
 ·rintro(h | h | h)
  ·exact .inl h
  ·exact .inr (.inl ⟨h.1,.inl ⟨rfl,h.2⟩⟩)
  ·exact .inr (.inr ⟨yA d h,.inr h⟩)
 ·rintro(h | ⟨h,c⟩ | ⟨h,c⟩)
  ·exact .inl h
  ·rcases c with⟨_,z⟩ | z
   ·exact .inr (.inl ⟨h,z⟩)
   ·exact(yA d z rfl).elim
  ·rcases c with⟨z,_⟩ | z
   ·exact(h z).elim
   ·exact .inr (.inr z)
theorem dO:∀{l:List Nat}{a f b:Nat},l.tail.Nodup->Adj l a b->Adj l f b->a=f
 | [],_,_,_,_,h,_=>h.elim
 | [_],_,_,_,_,h,_=>h.elim
 | x::y::r,a,f,b,nd,h,d=>by
  have c:(y::r).Nodup:=nd;rcases h with⟨rfl,rfl⟩ | h
  ·rcases d with⟨rfl,_⟩ | d
   ·rfl
   ·exact((gk.mp c).1 (qH d).2).elim
  ·rcases d with⟨rfl,rfl⟩ | d
   ·exact((gk.mp c).1 (qH h).2).elim
   ·exact dO (l:=y::r) (gk.mp c).2 h d
def vU{row:List Nat}{v:Nat}(h:v∈row):∃ A B,row=A++v::B:=xu h
def uQ{A B:List Nat}{v:Nat}(nd:(A++v::B).Nodup):v∉B++A/\(B++A).Nodup:=by
 rw[de]at nd;obtain⟨h,d,c⟩:=nd;obtain⟨f,i⟩:=gk.mp d;refine⟨λ z=>?_,?_⟩
 ·rcases cf.mp z with z | z
  ·exact f z
  ·exact c v z v eZ rfl
 ·rw[de]
  exact⟨i,h,λ a j b g e=>c b g a (eC _ j) e.symm⟩
def kU{row:List Nat}{a b:Nat}(h:Nx row a b):a∈row/\b∈row:=by
 cases row with
 | nil=>exact h.elim
 | cons x r =>
  have q:=qH h;constructor
  ·rcases cf.mp q.1 with z | z
   ·exact z
   ·exact dr.mpr (.inl (by simpa using z))
  ·rcases cf.mp q.2 with z | z
   ·exact eC _ z
   ·exact dr.mpr (.inl (by simpa using z))
def jT{row:List Nat}{a b c:Nat}(nd:row.Nodup)(h:Nx row a b)(h':Nx row a c):b=c:=by
 obtain⟨A,B,rfl⟩:=vU (kU h).1;rw[jJ]at h h';simp only[iq]at h h';obtain⟨d,f⟩:=uQ nd;rw[zT]at h h';rcases h with⟨_,rfl⟩ | h
 ·rcases h' with⟨_,rfl⟩ | h'
  ·rfl
  ·exact(yA d h' rfl).elim
 ·exact(yA d h rfl).elim
def yE{row:List Nat}{a c b:Nat}(nd:row.Nodup)(h:Nx row a b)(h':Nx row c b):a=c:=by
 obtain⟨A,B,rfl⟩:=vU (kU h).2;rw[jJ]at h h';simp only[iq]at h h';obtain⟨g,f⟩:=uQ nd;rw[rM]at h h';refine dO ?_ h h';show(B++A++[b]).Nodup;rw[de];exact⟨f,by simp,λ x i y d e=>g (by simp at d;rw[<-d,<-e];exact i)⟩
def kRT{A B:List Nat}{q:Nat}(nd:(A++q::B).Nodup)(a b:Nat) :
  Nx (A++B) a b↔(a≠q/\b≠q/\Nx (A++q::B) a b)\/(a≠q/\b≠q/\Nx (A++q::B) a q/\Nx (A++q::B) q b):=by
 rw[jJ A B,jJ A (q::B),jJ A (q::B),jJ A (q::B)];simp only[iq];obtain⟨i,l⟩:=uQ nd;generalize B++A=R at i l;clear nd
 cases R with
 | nil =>
  constructor
  ·intro h;exact h.elim
  ·rintro(⟨h1,f,g⟩ | ⟨h1,f,g,_⟩)
   ·rcases g with⟨z,_⟩ | z
    ·exact(h1 z).elim
    ·exact z.elim
   ·rcases g with⟨z,_⟩ | z
    ·exact(h1 z).elim
    ·exact z.elim
 | cons x T =>
  rw[zT q (x::T) a b,zT q (x::T) a q,zT q (x::T) q b,rM x T];have p:(x::T++[q]).headD 0=x:=rfl;rw[p]
  have m:x≠q:=λ z=>i (by rw[z];exact eZ)
  have key:∀(T:List Nat)(x z a b:Nat),Adj (x::T++[z]) a b↔Adj (x::T) a b\/(a=(x::T).getLast (by simp)/\b=z):=by
   intro T
   induction T with
   | nil=>intro x z a b;exact⟨λ h=>h.elim .inr λ q=>q.elim,λ h=>h.elim (λ q=>q.elim) .inl⟩
   | cons y r ih =>
    intro x z a b;show(a=x/\b=y)\/Adj (y::r++[z]) a b↔((a=x/\b=y)\/Adj (y::r) a b)\/_;rw[ih y z a b,List.getLast_cons (yk y r)];exact or_assoc.symm
  rw[key T x x,key T x q,key T x q,key T x q]
  have mem:∀{c d},Adj (x::T) c d->c≠q/\d≠q:=λ{c d} h=>by
   have:=qH h;exact⟨λ z=>i (z ▸ this.1),λ z=>i (z ▸ eC _ this.2)⟩
  have j:(x::T).getLast (by simp)≠q:=λ z=>i (z ▸ EK _);constructor
  ·rintro(h | ⟨h1,f⟩)
   ·exact .inl ⟨(mem h).1,(mem h).2,.inr (.inl h)⟩
   ·refine .inr ⟨by rw[h1];exact j,by rw[f];exact m,.inr (.inr ⟨h1,rfl⟩),.inl ⟨rfl,f⟩⟩
  ·rintro(⟨h1,f,g⟩ | ⟨h1,f,g,n⟩)
   ·rcases g with⟨z,_⟩ | z | ⟨_,z⟩
    ·exact(h1 z).elim
    ·exact .inl z
    ·exact(f z).elim
   ·have s:a=(x::T).getLast (by simp):=by
     rcases g with⟨z,_⟩ | z | ⟨z,_⟩
     ·exact(h1 z).elim
     ·exact((mem z).2 rfl).elim
     ·exact z
    have o:b=x:=by
     rcases n with⟨_,z⟩ | z | ⟨z,_⟩
     ·exact z
     ·exact((mem z).1 rfl).elim
     ·exact(j z.symm).elim
    exact .inr ⟨s,o⟩
end Cyc
namespace Tri
open Cyc
abbrev Rows:=List (List Nat)
def R(L:Rows)(q a b:Nat):Prop:=∃ row,L[q]?=some row/\Nx row a b
def E(L:Rows)(a b:Nat):Prop:=∃ row,L[a]?=some row/\b∈row
inductive Reach(L:Rows):Nat->Nat->Prop
 | here (a:Nat):Reach L a a
 | more {a b c:Nat}:Reach L a b->E L b c->Reach L a c
def Reach.trans{L:Rows}{a b c:Nat}(h:Reach L a b)(h':Reach L b c):Reach L a c:=by
 induction h' with
 | here=>exact h
 | more _ e ih=>exact .more ih e
theorem Reach.by{L c:Rows}(h:∀ a b,E L a b->Reach c a b){a b:Nat}(r:Reach L a b):Reach c a b:=by
 induction r with
 | here=>exact .here _
 | more _ e ih=>exact ih.trans (h _ _ e)
structure Good(L:Rows):Prop where
 three:3<=L.length
 ne:∀(p:Nat)(row:List Nat),L[p]?=some row->row≠[]
 nd:∀(p:Nat)(row:List Nat),L[p]?=some row->row.Nodup
 rng:∀(p:Nat)(row:List Nat)(a:Nat),L[p]?=some row->a∈row->a<L.length/\a≠p
 tri:∀ q a b,R L q a b->R L a b q
 con:∀ p,p<L.length->Reach L 0 p
 tot:(L.map jr).sum+12=6*L.length
def gQ{L:Rows}{p:Nat}{row:List Nat}(hp:p<L.length)(x a b:Nat):R (L.set p row) x a b↔(x=p/\Nx row a b)\/(x≠p/\R L x a b):=by
 unfold R;by_cases h:x=p
 ·subst h
  simp[kh hp]
 ·simp[fe (pe h),h]
def kTL{L:Rows}{row:List Nat}(x a b:Nat):R (L++[row]) x a b↔R L x a b\/(x=L.length/\Nx row a b):=by
 unfold R;rcases yg x L.length with h | h | h
 ·rw[az h]
  constructor
  ·exact .inl
  ·rintro(z | ⟨z,_⟩)
   ·exact z
   ·omega
 ·subst h
  rw[bf (be _),uh (be _)];simp
 ·rw[uh (by simp;omega),uh (by omega)]
  constructor
  ·rintro⟨_,z,_⟩;cases z
  ·rintro(⟨_,z,_⟩ | ⟨z,_⟩)
   ·cases z
   ·omega
def zQ{L:Rows}{q a b:Nat}(h:R L q a b):E L q a/\E L q b:=by
 obtain⟨row,e,n⟩:=h;exact⟨⟨row,e,(kU n).1⟩,⟨row,e,(kU n).2⟩⟩
def yC{L:Rows}(G:Good L){q a b d:Nat}(h:R L q a b)(h':R L q a d):b=d:=by
 obtain⟨row,e,n⟩:=h;obtain⟨c,f,g⟩:=h';rw[e]at f
 cases f
 exact jT (G.nd q row e) n g
def kKU{L:Rows}(G:Good L){q a d b:Nat}(h:R L q a b)(h':R L q d b):a=d:=by
 obtain⟨row,e,n⟩:=h;obtain⟨c,f,g⟩:=h';rw[e]at f
 cases f
 exact yE (G.nd q row e) n g
def wL{L:Rows}(G:Good L){q a b:Nat}(h:R L q a b):q<L.length/\a<L.length/\b<L.length/\a≠q/\b≠q:=by
 obtain⟨row,e,n⟩:=h;have m:=kU n;have:=G.rng q row a e m.1;have:=G.rng q row b e m.2;have:q<L.length:=(aj.mp e).1;omega
def kQD{row:List Nat}{b:Nat}(h:b∈row):∃ a,Nx row a b:=by
 obtain⟨A,B,rfl⟩:=vU h
 have key:∀(R:List Nat),∃ a,Nx (b::R) a b:=by
  intro R
  cases R with
  | nil=>exact⟨b,.inl ⟨rfl,rfl⟩⟩
  | cons y r =>
   have:∀(r:List Nat)(y:Nat),∃ a,Adj (y::r++[b]) a b:=by
    intro r
    induction r with
    | nil=>intro y;exact⟨y,.inl ⟨rfl,rfl⟩⟩
    | cons z r ih=>intro y;obtain⟨a,q⟩:=ih z;exact⟨a,.inr q⟩
   obtain⟨a,q⟩:=this r y;exact⟨a,.inr q⟩
 obtain⟨a,q⟩:=key (B++A);exact⟨a,(jJ A (b::B) a b).mpr q⟩
def cH{row:List Nat}{a:Nat}(h:a∈row):∃ b,Nx row a b:=by
 obtain⟨A,B,rfl⟩:=vU h;refine⟨(B++A++[a]).headD 0,(jJ A (a::B) _ _).mpr ?_⟩;exact(zT a (B++A) a _).mpr (.inl ⟨rfl,rfl⟩)
def Good.sym{L:Rows}(G:Good L){a b:Nat}(h:E L a b):E L b a:=by
 obtain⟨row,e,m⟩:=h;obtain⟨c,n⟩:=cH m;have:=G.tri a b c ⟨row,e,n⟩;exact(zQ this).2
def jH(row:List Nat)(v w:Nat):List Nat:=row.take (row.idxOf v+1)++w::row.drop (row.idxOf v+1)
def jU(row:List Nat)(q:Nat):List Nat:=row.eraseIdx (row.idxOf q)
def cM{A B:List Nat}{v:Nat}(h:v∉A):(A++v::B).idxOf v=A.length:=by
 rw[yu,if_neg h];simp
def xC{row:List Nat}{v:Nat}(h:v∈row)(nd:row.Nodup):∃ A B,row=A++v::B/\v∉A/\v∉B:=by
 obtain⟨A,B,rfl⟩:=vU h;have q:=uQ nd;exact⟨A,B,rfl,λ z=>q.1 (ck _ z),λ z=>q.1 (cq _ z)⟩
def rQ{A B:List Nat}{v w:Nat}(h:v∉A):jH (A++v::B) v w=A++v::w::B:=by
 unfold jH;rw[cM h];have e:A++v::B=(A++[v])++B:=by simp
 rw[e,xi (by simp),BB (by simp)];simp
def rY{A B:List Nat}{q:Nat}(h:q∉A):jU (A++q::B) q=A++B:=by
 unfold jU;rw[cM h,AH (be _)];simp
def xR{row:List Nat}{v w:Nat}(h:v∈row):(jH row v w).length=row.length+1:=by
 unfold jH;simp only[bq,dc,gn,iR];have:=gw h;omega
def kBD{row:List Nat}{q:Nat}(h:q∈row):(jU row q).length+1=row.length:=by
 unfold jU;have:=gw h;rw[List.length_eraseIdx_of_lt this];omega
def xQ{row:List Nat}{v w x:Nat}(h:v∈row)(nd:row.Nodup):x∈jH row v w↔x∈row\/x=w:=by
 obtain⟨A,B,rfl,hA,hB⟩:=xC h nd;rw[rQ hA];simp only[cf,dr]
 grind
def wS{row:List Nat}{q x:Nat}(h:q∈row)(nd:row.Nodup):x∈jU row q↔x∈row/\x≠q:=by
 obtain⟨A,B,rfl,hA,hB⟩:=xC h nd;rw[rY hA];simp only[cf,dr]
 grind
def bK{row:List Nat}{v w:Nat}(h:v∈row)(nd:row.Nodup)(a:w∉row):(jH row v w).Nodup:=by
 obtain⟨A,B,rfl,hA,hB⟩:=xC h nd;rw[rQ hA];simp only[de,gk,dr,cf]at nd a ⊢
 grind
def kFT{row:List Nat}{q:Nat}(h:q∈row)(nd:row.Nodup):(jU row q).Nodup:=by
 obtain⟨A,B,rfl,hA,hB⟩:=xC h nd;rw[rY hA];simp only[de,gk,dr]at nd ⊢
 grind
def bB{row:List Nat}{v w:Nat}(h:v∈row)(nd:row.Nodup)(c:w∉row)(a b:Nat):Nx (jH row v w) a b↔(a=v/\b=w)\/(a=w/\Nx row v b)\/(a≠v/\Nx row a b):=by
 obtain⟨A,B,rfl,hA,hB⟩:=xC h nd;rw[rQ hA];exact kRS nd c a b
def kFI{row:List Nat}{q:Nat}(h:q∈row)(nd:row.Nodup)(a b:Nat):Nx (jU row q) a b↔(a≠q/\b≠q/\Nx row a b)\/(a≠q/\b≠q/\Nx row a q/\Nx row q b):=by
 obtain⟨A,B,rfl,hA,hB⟩:=xC h nd;rw[rY hA];exact kRT nd a b
theorem yY:∀(L:Rows)(p:Nat)(row new:List Nat),L[p]?=some row->((L.set p new).map jr).sum+row.length=(L.map jr).sum+new.length
 | [],p,row,new,h=>by simp at h
 | x::r,0,row,new,h=>by
  simp at h;subst h;simp;omega
 | x::r,p+1,row,new,h=>by
  simp at h;have q:=yY r p row new h;simp only[List.set_cons_succ,gv,AO];omega
def aM(L:Rows)(p q r:Nat)(b c a:List Nat):Rows :=
 ((L.set p (jH b q L.length)).set q (jH c r L.length)).set r (jH a p L.length)++[[p,q,r]]
def nx3(p q r a b:Nat):Nx [p,q,r] a b↔(a=p/\b=q)\/(a=q/\b=r)\/(a=r/\b=p):=by
 show((a=p/\b=q)\/(a=q/\b=r)\/(a=r/\b=p)\/False)↔_;simp
def zV{L:Rows}{p:Nat}{new:List Nat}(hp:p<L.length){x:Nat}{row:List Nat}(h:(L.set p new)[x]?=some row):(x=p/\row=new)\/(x≠p/\L[x]?=some row):=by
 by_cases e:x=p
 ·subst e
  rw[kh hp]at h;exact .inl ⟨rfl,(bh h).symm⟩
 ·rw[fe (pe e)]at h
  exact .inr ⟨e,h⟩
def mC{L:Rows}{p:Nat}{new:List Nat}(hp:p<L.length)(x b:Nat):E (L.set p new) x b↔(x=p/\b∈new)\/(x≠p/\E L x b):=by
 unfold E;by_cases h:x=p
 ·subst h
  simp[kh hp]
 ·simp[fe (pe h),h]
def kSP{L:Rows}{row:List Nat}{x b:Nat}(h:E L x b):E (L++[row]) x b:=by
 obtain⟨r,e,m⟩:=h;exact⟨r,by rw[az (aj.mp e).1];exact e,m⟩
section
variable {L:Rows} {p q r:Nat} {rp rq rr:List Nat}
def kND(G:Good L)(hp:L[p]?=some rp)(A:L[q]?=some rq)(B:L[r]?=some rr)(f:Nx rq r p):Good (aM L p q r rp rq rr):=by
 have Y:R L q r p:=⟨rq,A,f⟩;have Fr:R L r p q:=G.tri _ _ _ Y;have Fp:R L p q r:=G.tri _ _ _ Fr;have O:Nx rr p q:=by obtain⟨x,e,n⟩:=Fr;rw[B]at e;cases e;exact n
 have S:Nx rp q r:=by obtain⟨x,e,n⟩:=Fp;rw[hp]at e;cases e;exact n
 obtain⟨U,lr,lp,l,j⟩:=wL G Y;obtain⟨-,-,-,o,-⟩:=wL G Fr;have H:=G.nd p rp hp;have J:=G.nd q rq A;have I:=G.nd r rr B;have Z:L.length∉rp:=λ z=>qa _ (G.rng p rp _ hp z).1;have vq:L.length∉rq:=λ z=>qa _ (G.rng q rq _ A z).1;have X:L.length∉rr:=λ z=>qa _ (G.rng r rr _ B z).1;have mp:=(kU S).1;have C:=(kU f).1;have D:=(kU O).1;have T:p<L.length:=lp;have N:q<(L.set p (jH rp q L.length)).length:=by simpa using U
 have Q:r<((L.set p (jH rp q L.length)).set q (jH rq r L.length)).length:=by simpa using lr
 have len:(aM L p q r rp rq rr).length=L.length+1:=by simp[aM]
 have g:(((L.set p (jH rp q L.length)).set q (jH rq r L.length)).set r (jH rr p L.length)).length=L.length:=by simp
 have look:∀(x:Nat)(row:List Nat),(aM L p q r rp rq rr)[x]?=some row->(x=L.length/\row=[p,q,r])\/(x=r/\row=jH rr p L.length)\/(x=q/\row=jH rq r L.length)\/(x=p/\row=jH rp q L.length)\/(x≠p/\x≠q/\x≠r/\L[x]?=some row):=by
  intro x row h;unfold aM at h;by_cases hx:x<L.length
  ·rw[az (by rw[g];exact hx)]at h
   rcases zV Q h with z | ⟨n3,h⟩
   ·exact .inr (.inl z)
   ·rcases zV N h with z | ⟨n2,h⟩
    ·exact .inr (.inr (.inl z))
    ·rcases zV T h with z | ⟨n1,h⟩
     ·exact .inr (.inr (.inr (.inl z)))
     ·exact .inr (.inr (.inr (.inr ⟨n1,n2,n3,h⟩)))
  ·rw[bf (by rw[g];omega),g]at h
   have:x-L.length=0:=by
    rcases Nat.eq_zero_or_pos (x-L.length) with z | z
    ·exact z
    ·rw[uh (by simp;omega)]at h;cases h
   rw[this]at h;exact .inl ⟨by omega,(bh h).symm⟩
 have s:∀ x a b,R (aM L p q r rp rq rr) x a b↔(x=L.length/\((a=p/\b=q)\/(a=q/\b=r)\/(a=r/\b=p)))\/(x=r/\((a=p/\b=L.length)\/(a=L.length/\b=q)\/(a≠p/\R L r a b)))\/(x=q/\((a=r/\b=L.length)\/(a=L.length/\b=p)\/(a≠r/\R L q a b)))\/(x=p/\((a=q/\b=L.length)\/(a=L.length/\b=r)\/(a≠q/\R L p a b)))\/(x≠p/\x≠q/\x≠r/\R L x a b):=by
  intro x a b;have e1:Nx rp q b↔b=r:=⟨λ z=>jT H z S,λ z=>z ▸ S⟩;have e2:Nx rq r b↔b=p:=⟨λ z=>jT J z f,λ z=>z ▸ f⟩;have e3:Nx rr p b↔b=q:=⟨λ z=>jT I z O,λ z=>z ▸ O⟩;have g1:R L p a b↔Nx rp a b:=⟨λ⟨z,e,n⟩=>by rw[hp]at e;cases e;exact n,λ n=>⟨rp,hp,n⟩⟩;have g2:R L q a b↔Nx rq a b:=⟨λ⟨z,e,n⟩=>by rw[A]at e;cases e;exact n,λ n=>⟨rq,A,n⟩⟩;have g3:R L r a b↔Nx rr a b:=⟨λ⟨z,e,n⟩=>by rw[B]at e;cases e;exact n,λ n=>⟨rr,B,n⟩⟩;unfold aM;rw[kTL,gQ Q,gQ N,gQ T,bB mp H Z,bB C J vq,bB D I X,nx3,g,e1,e2,e3,g1,g2,g3];have no:¬ R L L.length a b:=λ z=>by have:=wL G z;omega
  clear Y Fr Fp O S H J I Z vq X mp C D T N Q len g look hp A B f e1 e2 e3 g1 g2 g3 G;by_cases x0:x=L.length
  ·subst x0
   have n1:¬ L.length=p:=jc lp;have n2:¬ L.length=q:=jc U;have n3:¬ L.length=r:=jc lr;simp only[n1,n2,n3,no,ne_eq,not_false_eq_true,false_and,true_and,and_false,or_false,false_or,not_true_eq_false]
  ·by_cases y:x=r
   ·subst y
    have n1:¬ x=q:=l;have n2:¬ x=p:=λ z=>o z.symm;simp only[x0,n1,n2,ne_eq,not_false_eq_true,false_and,true_and,and_false,or_false,false_or,not_true_eq_false]
   ·by_cases M:x=q
    ·subst M
     have n2:¬ x=p:=λ z=>j z.symm;simp only[x0,y,n2,ne_eq,not_false_eq_true,false_and,true_and,and_false,or_false,false_or,not_true_eq_false]
    ·by_cases x1:x=p
     ·subst x1
      simp only[x0,y,M,ne_eq,not_false_eq_true,false_and,true_and,and_false,or_false,false_or,not_true_eq_false]
     ·simp only[x0,y,M,x1,ne_eq,not_false_eq_true,false_and,true_and,and_false,or_false,false_or,not_true_eq_false]
 have v1:L.length≠p:=jc lp;have v2:L.length≠q:=jc U
 have v3:L.length≠r:=jc lr
 have u:∀ x a b,R L x a b->¬ (x=p/\a=q)->¬ (x=q/\a=r)->¬ (x=r/\a=p)->R (aM L p q r rp rq rr) x a b:=by
  intro x a b h h1 h2 h3;rw[s];clear Y Fr Fp O S U lr lp l j o H J I Z vq X mp C D T N Q len g look hp A B f s G v1 v2 v3;by_cases y:x=r
  ·subst y;exact .inr (.inl ⟨rfl,.inr (.inr ⟨λ z=>h3 ⟨rfl,z⟩,h⟩)⟩)
  ·by_cases M:x=q
   ·subst M;exact .inr (.inr (.inl ⟨rfl,.inr (.inr ⟨λ z=>h2 ⟨rfl,z⟩,h⟩)⟩))
   ·by_cases x1:x=p
    ·subst x1;exact .inr (.inr (.inr (.inl ⟨rfl,.inr (.inr ⟨λ z=>h1 ⟨rfl,z⟩,h⟩)⟩)))
    ·exact .inr (.inr (.inr (.inr ⟨x1,M,y,h⟩)))
 have d:∀ x a b,R L x a b->¬ (x=p/\a=q)->¬ (x=q/\a=r)->¬ (x=r/\a=p)->R (aM L p q r rp rq rr) a b x:=by
  intro x a b h h1 h2 h3;have i:=G.tri _ _ _ h;clear O S U lr lp l j o H J I Z vq X mp C D T N Q len g look hp A B f s v1 v2 v3;refine u _ _ _ i (λ z=>?_) (λ z=>?_) (λ z=>?_)
  ·obtain⟨rfl,rfl⟩:=z
   exact h3 ⟨yC G i Fp,rfl⟩
  ·obtain⟨rfl,rfl⟩:=z
   exact h1 ⟨yC G i Y,rfl⟩
  ·obtain⟨rfl,rfl⟩:=z
   exact h2 ⟨yC G i Fr,rfl⟩
 have c:∀ x a b,((x=L.length/\((a=p/\b=q)\/(a=q/\b=r)\/(a=r/\b=p)))\/(x=r/\((a=p/\b=L.length)\/(a=L.length/\b=q)))\/(x=q/\((a=r/\b=L.length)\/(a=L.length/\b=p)))\/(x=p/\((a=q/\b=L.length)\/(a=L.length/\b=r))))->R (aM L p q r rp rq rr) x a b:=by
  intro x a b h;rw[s];rcases h with h | ⟨h,i | i⟩ | ⟨h,i | i⟩ | ⟨h,i | i⟩
  ·exact .inl h
  ·exact .inr (.inl ⟨h,.inl i⟩)
  ·exact .inr (.inl ⟨h,.inr (.inl i)⟩)
  ·exact .inr (.inr (.inl ⟨h,.inl i⟩))
  ·exact .inr (.inr (.inl ⟨h,.inr (.inl i)⟩))
  ·exact .inr (.inr (.inr (.inl ⟨h,.inl i⟩)))
  ·exact .inr (.inr (.inr (.inl ⟨h,.inr (.inl i)⟩)))
 have v:∀ a b,E L a b->E (aM L p q r rp rq rr) a b:=by
  intro a b h;unfold aM;refine kSP ?_;rw[mC Q,mC N,mC T,xQ mp H,xQ C J,xQ D I];obtain⟨row,e,m⟩:=h;clear Y Fr Fp O S U lr lp l j o H J I Z vq X mp C D T N Q len g look f s u d c G v1 v2 v3;by_cases y:a=r
  ·subst y;rw[B]at e;cases e;exact .inl ⟨rfl,.inl m⟩
  ·by_cases M:a=q
   ·subst M;rw[A]at e;cases e;exact .inr ⟨y,.inl ⟨rfl,.inl m⟩⟩
   ·by_cases x1:a=p
    ·subst x1;rw[hp]at e;cases e;exact .inr ⟨y,.inr ⟨M,.inl ⟨rfl,.inl m⟩⟩⟩
    ·exact .inr ⟨y,.inr ⟨M,.inr ⟨x1,row,e,m⟩⟩⟩
 refine⟨by rw[len];have:=G.three;omega,?_,?_,?_,?_,?_,?_⟩
 ·intro x row h
  rcases look x row h with⟨_,rfl⟩ | ⟨_,rfl⟩ | ⟨_,rfl⟩ | ⟨_,rfl⟩ | ⟨_,_,_,h⟩
  ·simp
  ·intro z;have:=xR (w:=L.length) D;rw[z]at this;simp at this
  ·intro z;have:=xR (w:=L.length) C;rw[z]at this;simp at this
  ·intro z;have:=xR (w:=L.length) mp;rw[z]at this;simp at this
  ·exact G.ne _ _ h
 ·intro x row h
  rcases look x row h with⟨_,rfl⟩ | ⟨_,rfl⟩ | ⟨_,rfl⟩ | ⟨_,rfl⟩ | ⟨_,_,_,h⟩
  ·simp only[gk,dr,og,or_false,yr,and_true,not_false_eq_true]
   exact⟨λ z=>z.elim j o,λ z=>l z.symm⟩
  ·exact bK D I X
  ·exact bK C J vq
  ·exact bK mp H Z
  ·exact G.nd _ _ h
 ·intro x row a h m
  rw[len]
  replace h:=look x row h
  clear Y Fr Fp O S Z vq X T N Q len g look f s u d c v;rcases h with⟨rfl,rfl⟩ | ⟨rfl,rfl⟩ | ⟨rfl,rfl⟩ | ⟨rfl,rfl⟩ | ⟨_,_,_,h⟩
  ·simp only[dr,og,or_false]at m
   clear l j o v1 v2 v3;omega
  ·rcases(xQ D I).mp m with z | z
   ·have:=G.rng _ _ _ B z
    exact⟨ux this.1,this.2⟩
   ·subst z
    exact⟨Ah _,jc lr⟩
  ·rcases(xQ C J).mp m with z | z
   ·have:=G.rng _ _ _ A z
    exact⟨ux this.1,this.2⟩
   ·subst z
    exact⟨Ah _,jc U⟩
  ·rcases(xQ mp H).mp m with z | z
   ·have:=G.rng _ _ _ hp z
    exact⟨ux this.1,this.2⟩
   ·subst z
    exact⟨Ah _,jc lp⟩
  ·have:=G.rng _ _ _ h m
   exact⟨ux this.1,this.2⟩
 ·intro x a b h
  rw[s]at h;clear Y Fr Fp O S U lr lp H J I Z vq X mp C D T N Q len g look hp A B f s u v G v1 v2 v3;rcases h with⟨rfl,⟨rfl,rfl⟩ | ⟨rfl,rfl⟩ | ⟨rfl,rfl⟩⟩ | ⟨rfl,⟨rfl,rfl⟩ | ⟨rfl,rfl⟩ | ⟨h,i⟩⟩ | ⟨rfl,⟨rfl,rfl⟩ | ⟨rfl,rfl⟩ | ⟨h,i⟩⟩ | ⟨rfl,⟨rfl,rfl⟩ | ⟨rfl,rfl⟩ | ⟨h,i⟩⟩ | ⟨h1,h2,h3,i⟩
  ·exact c _ _ _ (.inr (.inr (.inr ⟨rfl,.inl ⟨rfl,rfl⟩⟩)))
  ·exact c _ _ _ (.inr (.inr (.inl ⟨rfl,.inl ⟨rfl,rfl⟩⟩)))
  ·exact c _ _ _ (.inr (.inl ⟨rfl,.inl ⟨rfl,rfl⟩⟩))
  ·exact c _ _ _ (.inr (.inr (.inr ⟨rfl,.inr ⟨rfl,rfl⟩⟩)))
  ·exact c _ _ _ (.inl ⟨rfl,.inr (.inl ⟨rfl,rfl⟩)⟩)
  ·exact d _ _ _ i (λ z=>o z.1.symm) (λ z=>l z.1) λ z=>h z.2
  ·exact c _ _ _ (.inr (.inl ⟨rfl,.inr ⟨rfl,rfl⟩⟩))
  ·exact c _ _ _ (.inl ⟨rfl,.inl ⟨rfl,rfl⟩⟩)
  ·exact d _ _ _ i (λ z=>j z.1.symm) (λ z=>h z.2) λ z=>l z.1.symm
  ·exact c _ _ _ (.inr (.inr (.inl ⟨rfl,.inr ⟨rfl,rfl⟩⟩)))
  ·exact c _ _ _ (.inl ⟨rfl,.inr (.inr ⟨rfl,rfl⟩)⟩)
  ·exact d _ _ _ i (λ z=>h z.2) (λ z=>j z.1) λ z=>o z.1
  ·exact d _ _ _ i (λ z=>h1 z.1) (λ z=>h2 z.1) λ z=>h3 z.1
 ·intro x hx
  rw[len]at hx;by_cases h:x=L.length
  ·subst h
   refine .more ((G.con p lp).by λ a b e=>.more (.here _) (v a b e)) ?_;exact(zQ (c p q L.length (.inr (.inr (.inr ⟨rfl,.inl ⟨rfl,rfl⟩⟩))))).2
  ·exact(G.con x (by omega)).by λ a b e=>.more (.here _) (v a b e)
 ·rw[len]
  unfold aM;have t:=G.tot;have s1:=yY L p rp (jH rp q L.length) hp;have a1:(L.set p (jH rp q L.length))[q]?=some rq:=by rw[fe j];exact A
  have s2:=yY _ q rq (jH rq r L.length) a1;have a0:((L.set p (jH rp q L.length)).set q (jH rq r L.length))[r]?=some rr:=by rw[fe (λ z=>l z.symm),fe o];exact B
  have s3:=yY _ r rr (jH rr p L.length) a0;rw[xR mp]at s1;rw[xR C]at s2;rw[xR D]at s3;rw[eE,AD];simp only[gv,BK,AO,List.sum_nil,gn,qm];omega
end
def zP(L:Rows)(p q r s:Nat)(b d c a:List Nat):Rows :=
 (((L.set p (jU b q)).set q (jU d p)).set r (jH c p s)).set s (jH a q r)
section
variable {L:Rows} {p q r s:Nat} {rp rq rr rs:List Nat}
def kIL(G:Good L)(hp:L[p]?=some rp)(T:L[q]?=some rq)(Q:L[r]?=some rr)(S:L[s]?=some rs)(f:Nx rq r p)(g:Nx rp s q)(C:r≠s)(sr:s∉rr):Good (zP L p q r s rp rq rr rs):=by
 have B:R L q r p:=⟨rq,T,f⟩;have u:R L r p q:=G.tri _ _ _ B;have H:R L p q r:=G.tri _ _ _ u;have D:R L p s q:=⟨rp,hp,g⟩;have o:R L s q p:=G.tri _ _ _ D;have I:R L q p s:=G.tri _ _ _ o;have un:∀{x row a b},L[x]?=some row->R L x a b->Nx row a b:=λ{x row a b} e ⟨z,e',n⟩=>by rw[e]at e';cases e';exact n
 obtain⟨lq,lr,lp,l,v⟩:=wL G B;obtain⟨-,-,-,A,-⟩:=wL G u;obtain⟨-,ls,-,i,-⟩:=wL G D;obtain⟨-,-,-,y,-⟩:=wL G o;have np:=G.nd p rp hp;have nq:=G.nd q rq T;have nr:=G.nd r rr Q;have ns:=G.nd s rs S;have mp:q∈rp:=(kU (un hp H)).1;have Y:p∈rq:=(kU f).2;have U:p∈rr:=(kU (un Q u)).1;have X:q∈rs:=(kU (un S o)).1
 have J:r∉rs:=λ z=>by
  obtain⟨row,e,m⟩:=G.sym (a:=s) (b:=r) ⟨rs,S,z⟩;rw[Q]at e;cases e;exact sr m
 have l1:p<L.length:=lp;have l2:q<(L.set p (jU rp q)).length:=by simpa using lq
 have l3:r<((L.set p (jU rp q)).set q (jU rq p)).length:=by simpa using lr
 have l4:s<(((L.set p (jU rp q)).set q (jU rq p)).set r (jH rr p s)).length:=by simpa using ls
 have len:(zP L p q r s rp rq rr rs).length=L.length:=by simp[zP]
 have look:∀(x:Nat)(row:List Nat),(zP L p q r s rp rq rr rs)[x]?=some row->(x=s/\row=jH rs q r)\/(x=r/\row=jH rr p s)\/(x=q/\row=jU rq p)\/(x=p/\row=jU rp q)\/(x≠p/\x≠q/\x≠r/\x≠s/\L[x]?=some row):=by
  intro x row h;unfold zP at h;rcases zV l4 h with z | ⟨n4,h⟩
  ·exact .inl z
  ·rcases zV l3 h with z | ⟨n3,h⟩
   ·exact .inr (.inl z)
   ·rcases zV l2 h with z | ⟨n2,h⟩
    ·exact .inr (.inr (.inl z))
    ·rcases zV l1 h with z | ⟨n1,h⟩
     ·exact .inr (.inr (.inr (.inl z)))
     ·exact .inr (.inr (.inr (.inr ⟨n1,n2,n3,n4,h⟩)))
 have M:∀ x a b,R (zP L p q r s rp rq rr rs) x a b↔(x=s/\((a=q/\b=r)\/(a=r/\b=p)\/(a≠q/\R L s a b)))\/(x=r/\((a=p/\b=s)\/(a=s/\b=q)\/(a≠p/\R L r a b)))\/(x=q/\((a≠p/\b≠p/\R L q a b)\/(a=r/\b=s)))\/(x=p/\((a≠q/\b≠q/\R L p a b)\/(a=s/\b=r)))\/(x≠p/\x≠q/\x≠r/\x≠s/\R L x a b):=by
  intro x a b;have g1:∀ a b,Nx rp a b↔R L p a b:=λ a b=>⟨λ n=>⟨rp,hp,n⟩,un hp⟩;have g2:∀ a b,Nx rq a b↔R L q a b:=λ a b=>⟨λ n=>⟨rq,T,n⟩,un T⟩;have g3:∀ a b,Nx rr a b↔R L r a b:=λ a b=>⟨λ n=>⟨rr,Q,n⟩,un Q⟩;have g4:∀ a b,Nx rs a b↔R L s a b:=λ a b=>⟨λ n=>⟨rs,S,n⟩,un S⟩;have e1:R L p a q↔a=s:=⟨λ z=>kKU G z D,λ z=>z ▸ D⟩;have e2:R L p q b↔b=r:=⟨λ z=>yC G z H,λ z=>z ▸ H⟩;have e3:R L q a p↔a=r:=⟨λ z=>kKU G z B,λ z=>z ▸ B⟩;have e4:R L q p b↔b=s:=⟨λ z=>yC G z I,λ z=>z ▸ I⟩;have e5:R L r p b↔b=q:=⟨λ z=>yC G z u,λ z=>z ▸ u⟩;have e6:R L s q b↔b=p:=⟨λ z=>yC G z o,λ z=>z ▸ o⟩;unfold zP;rw[gQ l4,gQ l3,gQ l2,gQ l1,kFI mp np,kFI Y nq,bB U nr sr,bB X ns J];simp only[g1,g2,g3,g4,e1,e2,e3,e4,e5,e6];have c1:(a≠q/\b≠q/\a=s/\b=r)↔(a=s/\b=r):=⟨λ z=>z.2.2,λ z=>⟨λ h=>y (h.symm.trans z.1),λ h=>l (z.2.symm.trans h),z⟩⟩;have c2:(a≠p/\b≠p/\a=r/\b=s)↔(a=r/\b=s):=⟨λ z=>z.2.2,λ z=>⟨λ h=>A (h.symm.trans z.1),λ h=>i (z.2.symm.trans h),z⟩⟩;rw[c1,c2];clear look g1 g2 g3 g4 e1 e2 e3 e4 e5 e6 c1 c2 B u H D o I un np nq nr ns mp Y U X J l1 l2 l3 l4 len hp T Q S f g sr lq lr lp ls;by_cases O:x=s
  ·subst O
   have n1:¬ x=r:=λ z=>C z.symm;have n2:¬ x=q:=λ z=>y z.symm;have n3:¬ x=p:=i;simp only[n1,n2,n3,ne_eq,not_false_eq_true,false_and,true_and,and_false,or_false,false_or,not_true_eq_false]
  ·by_cases Z:x=r
   ·subst Z
    have n1:¬ x=q:=l;have n2:¬ x=p:=λ z=>A z.symm;simp only[O,n1,n2,ne_eq,not_false_eq_true,false_and,true_and,and_false,or_false,false_or,not_true_eq_false]
   ·by_cases x2:x=q
    ·subst x2
     have n2:¬ x=p:=λ z=>v z.symm;simp only[O,Z,n2,ne_eq,not_false_eq_true,false_and,true_and,and_false,or_false,false_or,not_true_eq_false]
    ·by_cases x1:x=p
     ·subst x1
      simp only[O,Z,x2,ne_eq,not_false_eq_true,false_and,true_and,and_false,or_false,false_or,not_true_eq_false]
     ·simp only[O,Z,x2,x1,ne_eq,not_false_eq_true,false_and,true_and,and_false,or_false,false_or,not_true_eq_false]
 have N:∀ x a b,R L x a b->¬ (x=p/\a=q)->¬ (x=p/\b=q)->¬ (x=q/\a=p)->¬ (x=q/\b=p)->¬ (x=r/\a=p)->¬ (x=s/\a=q)->R (zP L p q r s rp rq rr rs) x a b:=by
  intro x a b h h1 h2 h3 h4 h5 h6;rw[M];clear B u H D o I un np nq nr ns mp Y U X J l1 l2 l3 l4 len hp T Q S f g sr lq lr lp ls C l v A i y look M G;by_cases O:x=s
  ·subst O;exact .inl ⟨rfl,.inr (.inr ⟨λ z=>h6 ⟨rfl,z⟩,h⟩)⟩
  ·by_cases Z:x=r
   ·subst Z;exact .inr (.inl ⟨rfl,.inr (.inr ⟨λ z=>h5 ⟨rfl,z⟩,h⟩)⟩)
   ·by_cases x2:x=q
    ·subst x2;exact .inr (.inr (.inl ⟨rfl,.inl ⟨λ z=>h3 ⟨rfl,z⟩,λ z=>h4 ⟨rfl,z⟩,h⟩⟩))
    ·by_cases x1:x=p
     ·subst x1;exact .inr (.inr (.inr (.inl ⟨rfl,.inl ⟨λ z=>h1 ⟨rfl,z⟩,λ z=>h2 ⟨rfl,z⟩,h⟩⟩)))
     ·exact .inr (.inr (.inr (.inr ⟨x1,x2,Z,O,h⟩)))
 have c:∀ x a b,R L x a b->¬ (x=p/\a=q)->¬ (x=p/\b=q)->¬ (x=q/\a=p)->¬ (x=q/\b=p)->¬ (x=r/\a=p)->¬ (x=s/\a=q)->R (zP L p q r s rp rq rr rs) a b x:=by
  intro x a b h h1 h2 h3 h4 h5 h6;have j:=G.tri _ _ _ h;clear B D un np nq nr ns mp Y U X J l1 l2 l3 l4 len hp T Q S f g sr lq lr lp ls C l v A i y look M;refine N _ _ _ j (λ z=>?_) (λ z=>?_) (λ z=>?_) (λ z=>?_) (λ z=>?_) (λ z=>?_)
  ·obtain⟨rfl,rfl⟩:=z
   exact h5 ⟨yC G j H,rfl⟩
  ·obtain⟨rfl,rfl⟩:=z
   exact h3 ⟨rfl,rfl⟩
  ·obtain⟨rfl,rfl⟩:=z
   exact h6 ⟨yC G j I,rfl⟩
  ·obtain⟨rfl,rfl⟩:=z
   exact h1 ⟨rfl,rfl⟩
  ·obtain⟨rfl,rfl⟩:=z
   exact h4 ⟨yC G j u,rfl⟩
  ·obtain⟨rfl,rfl⟩:=z
   exact h2 ⟨yC G j o,rfl⟩
 have d:∀ x a b,((x=s/\((a=q/\b=r)\/(a=r/\b=p)))\/(x=r/\((a=p/\b=s)\/(a=s/\b=q)))\/(x=q/\(a=r/\b=s))\/(x=p/\(a=s/\b=r)))->R (zP L p q r s rp rq rr rs) x a b:=by
  intro x a b h;rw[M];rcases h with⟨h,j | j⟩ | ⟨h,j | j⟩ | ⟨h,j⟩ | ⟨h,j⟩
  ·exact .inl ⟨h,.inl j⟩
  ·exact .inl ⟨h,.inr (.inl j)⟩
  ·exact .inr (.inl ⟨h,.inl j⟩)
  ·exact .inr (.inl ⟨h,.inr (.inl j)⟩)
  ·exact .inr (.inr (.inl ⟨h,.inr j⟩))
  ·exact .inr (.inr (.inr (.inl ⟨h,.inr j⟩)))
 have a1:∀ a b,E L a b->¬ (a=p/\b=q)->¬ (a=q/\b=p)->E (zP L p q r s rp rq rr rs) a b:=by
  intro a b h h1 h2;unfold zP;rw[mC l4,mC l3,mC l2,mC l1,wS mp np,wS Y nq,xQ U nr,xQ X ns];obtain⟨row,e,m⟩:=h;clear B u H D o I un np nq nr ns mp Y U X J l1 l2 l3 l4 len f g sr lq lr lp ls C l v A i y look M N c d G;by_cases O:a=s
  ·subst O;rw[S]at e;cases e;exact .inl ⟨rfl,.inl m⟩
  ·by_cases Z:a=r
   ·subst Z;rw[Q]at e;cases e;exact .inr ⟨O,.inl ⟨rfl,.inl m⟩⟩
   ·by_cases x2:a=q
    ·subst x2;rw[T]at e;cases e;exact .inr ⟨O,.inr ⟨Z,.inl ⟨rfl,m,λ z=>h2 ⟨rfl,z⟩⟩⟩⟩
    ·by_cases x1:a=p
     ·subst x1;rw[hp]at e;cases e;exact .inr ⟨O,.inr ⟨Z,.inr ⟨x2,.inl ⟨rfl,m,λ z=>h1 ⟨rfl,z⟩⟩⟩⟩⟩
     ·exact .inr ⟨O,.inr ⟨Z,.inr ⟨x2,.inr ⟨x1,row,e,m⟩⟩⟩⟩
 have a0:∀ a b,E L a b->Reach (zP L p q r s rp rq rr rs) a b:=by
  intro a b h;clear B u H D o I un np nq nr ns mp Y U X J l1 l2 l3 l4 len hp T Q S f g sr lq lr lp ls C l v A i y look M N c G;by_cases h1:a=p/\b=q
  ·obtain⟨rfl,rfl⟩:=h1
   refine Reach.more (b:=r) (Reach.more (Reach.here _) ?_) ?_
   ·exact(zQ (d a s r (.inr (.inr (.inr ⟨rfl,rfl,rfl⟩))))).2
   ·exact(zQ (d r s b (.inr (.inl ⟨rfl,.inr ⟨rfl,rfl⟩⟩)))).2
  ·by_cases h2:a=q/\b=p
   ·obtain⟨rfl,rfl⟩:=h2
    refine Reach.more (b:=r) (Reach.more (Reach.here _) ?_) ?_
    ·exact(zQ (d a r s (.inr (.inr (.inl ⟨rfl,rfl,rfl⟩))))).1
    ·exact(zQ (d r b s (.inr (.inl ⟨rfl,.inl ⟨rfl,rfl⟩⟩)))).1
   ·exact .more (.here _) (a1 a b h h1 h2)
 refine⟨by rw[len];exact G.three,?_,?_,?_,?_,?_,?_⟩
 ·intro x row h
  rcases look x row h with⟨_,rfl⟩ | ⟨_,rfl⟩ | ⟨_,rfl⟩ | ⟨_,rfl⟩ | ⟨_,_,_,_,h⟩
  ·intro z;have:=xR (w:=r) X;rw[z]at this;simp at this
  ·intro z;have:=xR (w:=s) U;rw[z]at this;simp at this
  ·intro z
   have:s∈jU rq p:=(wS Y nq).mpr ⟨(kU (un T I)).2,i⟩;rw[z]at this;cases this
  ·intro z
   have:r∈jU rp q:=(wS mp np).mpr ⟨(kU (un hp H)).2,l⟩;rw[z]at this;cases this
  ·exact G.ne _ _ h
 ·intro x row h
  rcases look x row h with⟨_,rfl⟩ | ⟨_,rfl⟩ | ⟨_,rfl⟩ | ⟨_,rfl⟩ | ⟨_,_,_,_,h⟩
  ·exact bK X ns J
  ·exact bK U nr sr
  ·exact kFT Y nq
  ·exact kFT mp np
  ·exact G.nd _ _ h
 ·intro x row a h m
  rw[len]
  replace h:=look x row h
  clear B u H D o I un J l1 l2 l3 l4 len f g sr lq lp l v A i y look M N c d a1 a0;rcases h with⟨rfl,rfl⟩ | ⟨rfl,rfl⟩ | ⟨rfl,rfl⟩ | ⟨rfl,rfl⟩ | ⟨_,_,_,_,h⟩
  ·rcases(xQ X ns).mp m with z | z
   ·exact G.rng _ _ _ S z
   ·subst z
    exact⟨lr,C⟩
  ·rcases(xQ U nr).mp m with z | z
   ·exact G.rng _ _ _ Q z
   ·subst z
    exact⟨ls,λ h=>C h.symm⟩
  ·exact G.rng _ _ _ T ((wS Y nq).mp m).1
  ·exact G.rng _ _ _ hp ((wS mp np).mp m).1
  ·exact G.rng _ _ _ h m
 ·intro x a b h
  rw[M]at h;clear B u H D o I un np nq nr ns mp Y U X J l1 l2 l3 l4 len hp T Q S f g sr lq lr lp ls look M N a1 a0 G;rcases h with⟨rfl,⟨rfl,rfl⟩ | ⟨rfl,rfl⟩ | ⟨h,j⟩⟩ | ⟨rfl,⟨rfl,rfl⟩ | ⟨rfl,rfl⟩ | ⟨h,j⟩⟩ | ⟨rfl,⟨h,k,j⟩ | ⟨rfl,rfl⟩⟩ | ⟨rfl,⟨h,k,j⟩ | ⟨rfl,rfl⟩⟩ | ⟨h1,h2,h3,h4,j⟩
  ·exact d _ _ _ (.inr (.inr (.inl ⟨rfl,rfl,rfl⟩)))
  ·exact d _ _ _ (.inr (.inl ⟨rfl,.inl ⟨rfl,rfl⟩⟩))
  ·exact c _ _ _ j (λ z=>i z.1) (λ z=>i z.1) (λ z=>y z.1.symm) (λ z=>y z.1.symm) (λ z=>C z.1.symm) λ z=>h z.2
  ·exact d _ _ _ (.inr (.inr (.inr ⟨rfl,rfl,rfl⟩)))
  ·exact d _ _ _ (.inl ⟨rfl,.inl ⟨rfl,rfl⟩⟩)
  ·exact c _ _ _ j (λ z=>A z.1.symm) (λ z=>A z.1.symm) (λ z=>l z.1) (λ z=>l z.1) (λ z=>h z.2) λ z=>C z.1
  ·exact c _ _ _ j (λ z=>v z.1.symm) (λ z=>v z.1.symm) (λ z=>h z.2) (λ z=>k z.2) (λ z=>l z.1.symm) λ z=>y z.1
  ·exact d _ _ _ (.inr (.inl ⟨rfl,.inr ⟨rfl,rfl⟩⟩))
  ·exact c _ _ _ j (λ z=>h z.2) (λ z=>k z.2) (λ z=>v z.1) (λ z=>v z.1) (λ z=>A z.1) λ z=>i z.1.symm
  ·exact d _ _ _ (.inl ⟨rfl,.inr ⟨rfl,rfl⟩⟩)
  ·exact c _ _ _ j (λ z=>h1 z.1) (λ z=>h1 z.1) (λ z=>h2 z.1) (λ z=>h2 z.1) (λ z=>h3 z.1) λ z=>h4 z.1
 ·intro x hx
  rw[len]at hx;exact(G.con x hx).by a0
 ·rw[len]
  unfold zP;have t:=G.tot;have s1:=yY L p rp (jU rp q) hp;have a3:(L.set p (jU rp q))[q]?=some rq:=by rw[fe v];exact T
  have s2:=yY _ q rq (jU rq p) a3;have a4:((L.set p (jU rp q)).set q (jU rq p))[r]?=some rr:=by rw[fe (λ z=>l z.symm),fe A];exact Q
  have s3:=yY _ r rr (jH rr p s) a4;have a2:(((L.set p (jU rp q)).set q (jU rq p)).set r (jH rr p s))[s]?=some rs:=by rw[fe C,fe y,fe (λ z=>i z.symm)];exact S
  have s4:=yY _ s rs (jH rs q r) a2;have k1:=kBD mp;have k2:=kBD Y;rw[xR U]at s3;rw[xR X]at s4;clear C l v A i y l1 l2 l3 l4 lp lq lr ls;omega
def kDM:Good [[1,2],[2,0],[0,1]]:=by
 have look:∀(x:Nat)(row:List Nat),([[1,2],[2,0],[0,1]]:Rows)[x]?=some row->(x=0/\row=[1,2])\/(x=1/\row=[2,0])\/(x=2/\row=[0,1]):=by
  intro x row h
  match x,h with
  | 0,h=>exact .inl ⟨rfl,(bh h).symm⟩
  | 1,h=>exact .inr (.inl ⟨rfl,(bh h).symm⟩)
  | 2,h=>exact .inr (.inr ⟨rfl,(bh h).symm⟩)
  | n+3,h=>simp at h
 have c:∀ x y a b:Nat,Nx [x,y] a b↔(a=x/\b=y)\/(a=y/\b=x):=by
  intro x y a b;show((a=x/\b=y)\/(a=y/\b=x)\/False)↔_;simp
 refine⟨by decide,?_,?_,?_,?_,?_,by decide⟩
 ·intro x row h
  rcases look x row h with⟨_,rfl⟩ | ⟨_,rfl⟩ | ⟨_,rfl⟩<;>simp
 ·intro x row h
  rcases look x row h with⟨_,rfl⟩ | ⟨_,rfl⟩ | ⟨_,rfl⟩<;>decide
 ·intro x row a h m
  rcases look x row h with⟨rfl,rfl⟩ | ⟨rfl,rfl⟩ | ⟨rfl,rfl⟩<;>simp at m ⊢<;>omega
 ·rintro x a b ⟨row,h,n⟩
  rcases look x row h with⟨rfl,rfl⟩ | ⟨rfl,rfl⟩ | ⟨rfl,rfl⟩<;>rw[c]at n<;>rcases n with⟨rfl,rfl⟩ | ⟨rfl,rfl⟩
  ·exact⟨[2,0],rfl,(c _ _ _ _).mpr (.inl ⟨rfl,rfl⟩)⟩
  ·exact⟨[0,1],rfl,(c _ _ _ _).mpr (.inr ⟨rfl,rfl⟩)⟩
  ·exact⟨[0,1],rfl,(c _ _ _ _).mpr (.inl ⟨rfl,rfl⟩)⟩
  ·exact⟨[1,2],rfl,(c _ _ _ _).mpr (.inr ⟨rfl,rfl⟩)⟩
  ·exact⟨[1,2],rfl,(c _ _ _ _).mpr (.inl ⟨rfl,rfl⟩)⟩
  ·exact⟨[2,0],rfl,(c _ _ _ _).mpr (.inr ⟨rfl,rfl⟩)⟩
 ·intro x d
  match x,d with
  | 0,_=>exact .here _
  | 1,_=>exact .more (.here _) ⟨[1,2],rfl,by decide⟩
  | 2,_=>exact .more (.here _) ⟨[1,2],rfl,by decide⟩
end
def xK(row:List Nat)(p:Nat):Option Nat:=if row.idxOf p=0 then row.getLast? else row[row.idxOf p-1]?
def yZ{row:List Nat}{p v:Nat}(nd:row.Nodup)(hp:p∈row)(h:xK row p=some v):Nx row v p:=by
 obtain⟨A,B,rfl,hA,hB⟩:=xC hp nd;unfold xK at h;rw[cM hA]at h;by_cases h0:A.length=0
 ·have:A=[]:=ox.mp h0
  subst this;rw[if_pos h0,kq]at h;show Adj (p::B++[p]) v p
  have e:p::B=(p::B).dropLast++[v]:=by
   rw[eW (yk p B)]at h;rw[<-bh h];exact(eO (yk p B)).symm
  rw[e,cx];exact(jA _ v [p] v p).mpr (.inr (.inl ⟨rfl,rfl⟩))
 ·rw[if_neg h0]at h
  rw[az (by omega)]at h;have a:A≠[]:=λ z=>h0 (by rw[z];rfl)
  have e:A=A.dropLast++[v]:=by
   have z:A.getLast?=some v:=by rw[ml];exact h
   rw[eW a]at z;rw[<-bh z];exact(eO a).symm
  rw[e,cx];rw[jJ];show Nx (v::(p::B)++A.dropLast) v p;exact .inl ⟨rfl,rfl⟩
def wY{row:List Nat}{p:Nat}(hp:p∈row):∃ v,xK row p=some v:=by
 have b:=gw hp;unfold xK
 split
 ·have a:row≠[]:=λ z=>by rw[z]at hp;cases hp
  exact⟨_,eW a⟩
 ·exact⟨_,aa (show row.idxOf p-1<row.length by omega)⟩
end Tri
namespace Rnd
open Cyc Tri
section
variable {α:Type} [DecidableEq α]
def it(f:α->α):Nat->α->α
 | 0,x=>x
 | n+1,x=>f (it f n x)
def aK(f:α->α)(m n:Nat)(x:α):it f (m+n) x=it f m (it f n x):=by
 induction m with
 | zero=>rw[AQ];rfl
 | succ m ih=>rw[Nat.succ_add];show f _=f _;rw[ih]
structure Perm(f:α->α)(S:List α):Prop where
 to:∀ x,x∈S->f x∈S
 one:∀ x y,x∈S->y∈S->f x=f y->x=y
theorem Perm.it{f:α->α}{S:List α}(h:Perm f S)(n:Nat){x:α}(a:x∈S):it f n x∈S:=by
 induction n with
 | zero=>exact a
 | succ n ih=>exact h.to _ ih
def Perm.back{f:α->α}{S:List α}(h:Perm f S)(n:Nat){x y:α}(a:x∈S)(b:y∈S)(e:Rnd.it f n x=Rnd.it f n y):x=y:=by
 induction n with
 | zero=>exact e
 | succ n ih=>exact ih (h.one _ _ (h.it n a) (h.it n b) e)
theorem cJ{f:Nat->α}:∀(n:Nat),(∀ i j,i<j->j<n->f i≠f j)->((cw n).map f).Nodup
 | 0,_=>by simp
 | n+1,h=>by
  rw[Ba,eE,de];refine⟨cJ n λ i j a b=>h i j a (by omega),by simp,λ a g b c=>?_⟩;obtain⟨i,d,rfl⟩:=iP.mp g;have:b=f n:=by simpa using c
  subst this;exact h i n (jo.mp d) (by omega)
def Perm.comes{f:α->α}{S:List α}(h:Perm f S){x:α}(d:x∈S):∃ k,0<k/\k<=S.length/\Rnd.it f k x=x/\∀ j,0<j->j<k->Rnd.it f j x≠x:=by
 have some:∃ k,0<k/\k<=S.length/\Rnd.it f k x=x:=by
  refine fb λ p=>?_
  have nd:((cw (S.length+1)).map λ i=>Rnd.it f i x).Nodup:=cJ _ λ i j v B e=>by
   refine p ⟨j-i,by omega,by omega,?_⟩
   have q:Rnd.it f i (Rnd.it f (j-i) x)=Rnd.it f i x:=by
    rw[<-aK,show i+(j-i)=j by omega];exact e.symm
   exact h.back i (h.it _ d) d q
  have le:=fc nd (l₂:=S) λ y r=>by
   obtain⟨i,_,rfl⟩:=iP.mp r;exact h.it i d
  rw[ai,iI]at le;omega
 obtain⟨u,p0,l,s⟩:=some
 have kLS:∀ n,(∃ k,0<k/\k<=n/\Rnd.it f k x=x)->∃ k,0<k/\k<=n/\Rnd.it f k x=x/\∀ j,0<j->j<k->Rnd.it f j x≠x:=λ n=>by
  induction n with
  | zero=>rintro⟨k,a,b,_⟩;omega
  | succ n ih =>
   intro o;by_cases c:∃ k,0<k/\k<=n/\Rnd.it f k x=x
   ·obtain⟨k,a,b,e,m⟩:=ih c
    exact⟨k,a,by omega,e,m⟩
   ·obtain⟨k,a,b,e⟩:=o
    refine⟨k,a,b,e,λ j g C A=>c ⟨j,g,by omega,A⟩⟩
 exact kLS S.length ⟨u,p0,l,s⟩
def Perm.round_nodup{f:α->α}{S:List α}(h:Perm f S){x:α}(a:x∈S){k:Nat}(m:∀ j,0<j->j<k->Rnd.it f j x≠x):((cw k).map λ i=>Rnd.it f i x).Nodup:=cJ _ λ i j c d e=>by
 refine m (j-i) (by omega) (by omega) ?_
 have b:Rnd.it f i (Rnd.it f (j-i) x)=Rnd.it f i x:=by
  rw[<-aK,show i+(j-i)=j by omega];exact e.symm
 exact h.back i (h.it _ a) a b
end
def kN(W:Rows):List (Nat×Nat):=(cw W.length).flatMap λ p=>(W.getD p []).map λ q=>(p,q)
def mem_steps{W:Rows}{p q:Nat}:(p,q)∈kN W↔E W p q:=by
 unfold kN E;rw[xb];constructor
 ·rintro⟨d,hp,h⟩
  obtain⟨c,b,e⟩:=iP.mp h;cases e
  have a:=jo.mp hp;refine⟨W[p],aa a,?_⟩;simpa[ak,a] using b
 ·rintro⟨row,e,h⟩
  have a:=(aj.mp e).1;refine⟨p,jo.mpr a,iP.mpr ⟨q,?_,rfl⟩⟩;rw[ak,e];exact h
def nxt(W:Rows)(s:Nat×Nat):Nat×Nat:=(s.2,(xK (W.getD s.2 []) s.1).getD 0)
def hX{W:Rows}(nd:∀(p:Nat)(row:List Nat),W[p]?=some row->row.Nodup)(sym:∀ a b,E W a b->E W b a):Perm (nxt W) (kN W):=by
 have look:∀ p q,(p,q)∈kN W->∃ row v,W[q]?=some row/\p∈row/\xK row p=some v/\nxt W (p,q)=(q,v)/\Nx row v p:=λ p q h=>by
  obtain⟨row,e,m⟩:=sym p q (mem_steps.mp h);obtain⟨v,g⟩:=wY m;refine⟨row,v,e,m,g,?_,yZ (nd q row e) m g⟩;unfold nxt;rw[ak,e];show(q,(xK row p).getD 0)=(q,v);rw[g]
  rfl
 refine⟨λ s h=>?_,λ s t n D e=>?_⟩
 ·obtain⟨p,q⟩:=s
  obtain⟨row,v,c,A,r,f,d⟩:=look p q h;rw[f];exact mem_steps.mpr ⟨row,c,(kU d).1⟩
 ·obtain⟨p,q⟩:=s
  obtain⟨y,j⟩:=t;obtain⟨row,v,c,A,r,f,d⟩:=look p q n;obtain⟨i,o,l,G,H,C,B⟩:=look y j D;rw[f,C]at e;have u:q=j:=congrArg Dm e;have x:v=o:=congrArg Av e;subst u x;rw[c]at l;cases l
  rw[jT (nd q row c) d B]
end Rnd
namespace Tri
section
variable {R R':Nat->Nat->Nat->Prop} {N N' K:Nat->Nat->Prop} {inP:Nat->Prop} {f l w:Nat}
end
open Cyc
section
variable {A M C:List Nat} {f l w:Nat}
def nxP(M:List Nat)(f l a b:Nat):Nx (f::M++[l]) a b↔Adj (f::M++[l]) a b\/(a=l/\b=f):=by
 show Adj (f::M++[l]++[f]) a b↔_;rw[show f::M++[l]++[f]=(f::M)++l::[f] by simp,jA];simp only[Adj,or_false]
end
section
variable {L L2:Rows} {A M C:List Nat} {f l:Nat}
end
section
variable {L:Rows} {A M C:List Nat} {f l u:Nat}
theorem kBR:∀{P:List Nat}{l x:Nat},x∈P->∃ y,Adj (P++[l]) x y
 | [z],l,x,h=>⟨l,.inl ⟨by simpa using h,rfl⟩⟩
 | z::z'::r,l,x,h=>by
  rcases dr.mp h with e | h
  ·exact⟨z',.inl ⟨e,rfl⟩⟩
  ·obtain⟨y,a⟩:=kBR (l:=l) h
   exact⟨y,.inr a⟩
end
open Cyc Rnd
section
variable {W:Rows}
def pX{row:List Nat}{p v:Nat}(nd:row.Nodup)(h:Nx row v p):xK row p=some v:=by
 obtain⟨u,a⟩:=wY (kU h).2;rw[a,yE nd h (yZ nd (kU h).2 a)]
def hZ(nd:∀(p:Nat)(row:List Nat),W[p]?=some row->row.Nodup){p q v:Nat}(h:R W q v p):nxt W (p,q)=(q,v):=by
 obtain⟨row,e,n⟩:=h;unfold nxt;rw[ak,e];show(q,(xK row p).getD 0)=(q,v);rw[pX (nd q row e) n]
 rfl
def cV(nd:∀(p:Nat)(row:List Nat),W[p]?=some row->row.Nodup):(kN W).Nodup:=by
 unfold kN;rw[Bb,Co];refine⟨λ p hp=>?_,?_⟩
 ·have c:=jo.mp hp
  have e:W[p]?=some (W.getD p []):=by rw[ak,aa c];rfl
  have n:=nd p _ e;refine Gj _ (λ x y (z:x≠y) e=>z (congrArg Av e)) n
 ·refine uy.imp λ{p q} a=>?_
  intro x d y b e;obtain⟨_,_,rfl⟩:=iP.mp d;obtain⟨_,_,rfl⟩:=iP.mp b;exact a (congrArg Dm e)
def yN:∀(W:Rows) ,(kN W).length=(W.map jr).sum:=by
 intro W;unfold kN;rw[wc]
 congr 1
 refine Ai (by simp) λ i h1 a=>?_;simp at h1 a;simp[ak,h1]
end
theorem kGN(f:Nat->Nat):∀(l:List Nat)(a b:Nat),Adj (l.map f) a b↔∃ x y,Adj l x y/\a=f x/\b=f y
 | [],a,b=>⟨λ h=>h.elim,λ⟨_,_,h,_⟩=>h.elim⟩
 | [z],a,b=>⟨λ h=>h.elim,λ⟨_,_,h,_⟩=>h.elim⟩
 | z::z'::r,a,b=>by
  have c:=kGN f (z'::r) a b;constructor
  ·rintro(⟨rfl,rfl⟩ | h)
   ·exact⟨z,z',.inl ⟨rfl,rfl⟩,rfl,rfl⟩
   ·obtain⟨x,y,h,e⟩:=c.mp h
    exact⟨x,y,.inr h,e⟩
  ·rintro⟨x,y,⟨rfl,rfl⟩ | h,rfl,rfl⟩
   ·exact .inl ⟨rfl,rfl⟩
   ·exact .inr (c.mpr ⟨x,y,h,rfl,rfl⟩)
def kLO(f:Nat->Nat)(l:List Nat)(a b:Nat):Nx (l.map f) a b↔∃ x y,Nx l x y/\a=f x/\b=f y:=by
 unfold Nx;rw[show l.map f++(l.map f).head?.toList=(l++l.head?.toList).map f by cases l<;>simp];exact kGN f _ a b
def Reach.symm{W:Rows}(sym:∀ a b,E W a b->E W b a){a b:Nat}(h:Reach W a b):Reach W b a:=by
 induction h with
 | here=>exact .here _
 | more _ e ih=>exact(Reach.more (.here _) (sym _ _ e)).trans ih
structure Ren(L W:Rows)(ns:List Nat):Prop where
 perm:ns.Perm (cw L.length)
 len:W.length=L.length
 at':∀(p:Nat)(row:List Nat),L[p]?=some row->∃ n A B,ns[p]?=some n/\row.map (λ q=>ns.getD q 0)=A++B/\W[n]?=some (B++A)
section
variable {L W:Rows} {ns:List Nat}
def Ren.nlen(h:Ren L W ns):ns.length=L.length:=by rw[h.perm.length_eq,iI]
def Ren.get(h:Ren L W ns){p:Nat}(hp:p<L.length):ns[p]?=some (ns.getD p 0):=by
 rw[ak,aa (by rw[h.nlen];exact hp)]
 rfl
def Ren.lt(h:Ren L W ns){p:Nat}(hp:p<L.length):ns.getD p 0<L.length:=jo.mp (h.perm.mem_iff.mp (cv (h.get hp)))
def Ren.inj(h:Ren L W ns){p q:Nat}(hp:p<L.length)(b:q<L.length)(e:ns.getD p 0=ns.getD q 0):p=q:=by
 have nd:ns.Nodup:=h.perm.nodup_iff.mpr uy;have h1:=h.get hp;have a:=h.get b;rw[e,<-a]at h1;exact(yh (by rw[h.nlen];exact hp) nd).mp h1
def Ren.sur(h:Ren L W ns){x:Nat}(a:x<L.length):∃ p,p<L.length/\ns.getD p 0=x:=by
 obtain⟨p,hp,e⟩:=List.getElem_of_mem (h.perm.mem_iff.mpr (jo.mpr a));rw[h.nlen]at hp;refine⟨p,hp,?_⟩;rw[ak,aa (by rw[h.nlen];exact hp),e]
 rfl
theorem Ren.row(h:Ren L W ns){x:Nat}{c:List Nat}(e:W[x]?=some c):∃ p row,p<L.length/\L[p]?=some row/\x=ns.getD p 0/\c.Perm (row.map λ q=>ns.getD q 0)/\∀ a b,Nx c a b↔Nx (row.map λ q=>ns.getD q 0) a b:=by
 have i:x<L.length:=by rw[<-h.len];exact(aj.mp e).1
 obtain⟨p,hp,rfl⟩:=h.sur i;obtain⟨n,A,B,g,f,d⟩:=h.at' p _ (aa hp);rw[h.get hp]at g;cases g
 rw[e]at d;cases d
 refine⟨p,_,hp,aa hp,rfl,?_,λ a b=>?_⟩
 ·rw[f];exact ko
 ·rw[f];exact jJ B A a b
def Ren.to(h:Ren L W ns){p:Nat}{row:List Nat}(e:L[p]?=some row):∃ row',W[ns.getD p 0]?=some row'/\row'.Perm (row.map λ q=>ns.getD q 0)/\∀ a b,Nx row' a b↔Nx (row.map λ q=>ns.getD q 0) a b:=by
 have hp:=(aj.mp e).1;obtain⟨n,A,B,d,c,f⟩:=h.at' p _ e;rw[h.get hp]at d;cases d
 exact⟨_,f,by rw[c];exact ko,λ a b=>by rw[c];exact jJ B A a b⟩
def Ren.r_to(h:Ren L W ns){q a b:Nat}(r:R L q a b):R W (ns.getD q 0) (ns.getD a 0) (ns.getD b 0):=by
 obtain⟨row,e,n⟩:=r;obtain⟨c,d,_,f⟩:=h.to e;exact⟨c,d,(f _ _).mpr ((kLO _ _ _ _).mpr ⟨a,b,n,rfl,rfl⟩)⟩
def Ren.r_of(h:Ren L W ns){q a b:Nat}(r:R W q a b):∃ q' a' b',R L q' a' b'/\q=ns.getD q' 0/\a=ns.getD a' 0/\b=ns.getD b' 0:=by
 obtain⟨c,g,n⟩:=r;obtain⟨p,row,hp,e,rfl,_,f⟩:=h.row g;obtain⟨x,y,d,rfl,rfl⟩:=(kLO _ _ _ _).mp ((f _ _).mp n);exact⟨p,x,y,⟨row,e,d⟩,rfl,rfl,rfl⟩
def Ren.e_to(h:Ren L W ns){a b:Nat}(r:E L a b):E W (ns.getD a 0) (ns.getD b 0):=by
 obtain⟨row,e,m⟩:=r;obtain⟨c,d,f,_⟩:=h.to e;exact⟨c,d,f.mem_iff.mpr (iP.mpr ⟨b,m,rfl⟩)⟩
def Ren.e_of(h:Ren L W ns){a b:Nat}(r:E W a b):∃ x y,E L x y/\a=ns.getD x 0/\b=ns.getD y 0:=by
 obtain⟨c,f,m⟩:=r;obtain⟨p,row,hp,e,rfl,d,_⟩:=h.row f;obtain⟨y,g,rfl⟩:=iP.mp (d.mem_iff.mp m);exact⟨p,y,⟨row,e,g⟩,rfl,rfl⟩
def kKT(G:Good L)(h:Ren L W ns):Good W:=by
 have sym:∀ a b,E W a b->E W b a:=λ a b r=>by
  obtain⟨x,y,s,rfl,rfl⟩:=h.e_of r;exact h.e_to (G.sym s)
 have reach:∀{x y:Nat},Reach L x y->Reach W (ns.getD x 0) (ns.getD y 0):=λ r=>by
  induction r with
  | here=>exact .here _
  | more _ e ih=>exact .more ih (h.e_to e)
 have d:∀ x,x<L.length->Reach W (ns.getD 0 0) x:=λ x n=>by
  obtain⟨p,hp,rfl⟩:=h.sur n;exact reach (G.con p hp)
 refine⟨by rw[h.len];exact G.three,λ p c e=>?_,λ p c e=>?_,λ p c a e m=>?_,λ q a b r=>?_,λ p hp=>?_,?_⟩
 ·obtain⟨x,row,n,j,rfl,l,_⟩:=h.row e
  intro z;subst z;have:=l.length_eq;rw[ai]at this;exact G.ne _ _ j (ox.mp this.symm)
 ·obtain⟨x,row,n,j,rfl,l,_⟩:=h.row e
  refine l.nodup_iff.mpr ?_;rw[Bb,qe];exact Fi (λ{u v} I J z e=>z (h.inj (G.rng _ _ _ j I).1 (G.rng _ _ _ j J).1 e)) (G.nd _ _ j)
 ·obtain⟨x,row,n,j,rfl,l,_⟩:=h.row e
  obtain⟨y,M,rfl⟩:=iP.mp (l.mem_iff.mp m);obtain⟨A,B⟩:=G.rng _ _ _ j M;exact⟨by rw[h.len];exact h.lt A,λ e=>B (h.inj A n e)⟩
 ·obtain⟨O,N,Q,s,rfl,rfl,rfl⟩:=h.r_of r
  exact h.r_to (G.tri _ _ _ s)
 ·rw[h.len]at hp
  have f:=G.three;exact(d 0 (by omega)).symm sym |>.trans (d p hp)
 ·have g:∀(V:Rows),V.map jr=(cw V.length).map λ x=>(V.getD x []).length:=λ V=>by
   refine Ai (by simp) λ i h1 o=>?_;simp at h1 o;simp[ak,h1]
  have j:(W.map jr).sum=(ns.map λ x=>(W.getD x []).length).sum:=by
   rw[g W,h.len];exact(h.perm.symm.map _).sum_nat
  have H:(ns.map λ x=>(W.getD x []).length)=L.map jr:=by
   refine Ai (by simp[h.nlen]) λ i h1 o=>?_;simp at h1 o;obtain⟨c,D,l,_⟩:=h.to (aa o);have C:ns[i]=ns.getD i 0:=by simp[ak,h1]
   have:=l.length_eq;rw[ai]at this;simp only[yw];rw[C,ak,D];exact this
  rw[j,H,h.len];exact G.tot
end
def Ro(r r':List Nat):Prop:=∃ A B,r=A++B/\r'=B++A
def Ro.trans{r r' b:List Nat}:Ro r r'->Ro r' b->Ro r b:=by
 rintro⟨A,B,rfl,rfl⟩ ⟨C,D,h1,rfl⟩;rcases List.append_eq_append_iff.mp h1 with⟨a,rfl,rfl⟩ | ⟨c,rfl,rfl⟩
 ·exact⟨a,D++B,by simp,by simp⟩
 ·exact⟨A++C,c,by simp,by simp⟩
def Ro.perm{r r':List Nat}:Ro r r'->r.Perm r':=by
 rintro⟨A,B,rfl,rfl⟩;exact ko
def Ro.mem{r r':List Nat}(h:Ro r r')(x:Nat):x∈r↔x∈r':=h.perm.mem_iff
def Ro.nd{r r':List Nat}(h:Ro r r'):r.Nodup↔r'.Nodup:=h.perm.nodup_iff
def Ro.nx{r r':List Nat}(h:Ro r r')(a b:Nat):Nx r a b↔Nx r' a b:=by
 obtain⟨A,B,rfl,rfl⟩:=h;exact jJ A B a b
def rot(row:List Nat)(M:Nat):List Nat:=row.drop (row.idxOf M)++row.take (row.idxOf M)
structure Nb(L:Rows):Prop where
 nd:∀(p:Nat)(row:List Nat),L[p]?=some row->row.Nodup
 rng:∀(p:Nat)(row:List Nat)(a:Nat),L[p]?=some row->a∈row->a<L.length/\a≠p
 sym:∀ a b,E L a b->E L b a
structure Wb(L:Rows):Prop extends Nb L where
 three:3<=L.length
 con:∀ p,p<L.length->Reach L 0 p
theorem Nb.e{L:Rows}(S:Nb L){p q:Nat}(h:E L p q):p<L.length/\q<L.length/\q≠p:=by
 obtain⟨row,e,m⟩:=h;exact⟨(aj.mp e).1,(S.rng p row q e m).1,(S.rng p row q e m).2⟩
def Nb.len{L:Rows}(S:Nb L){p:Nat}{row:List Nat}(h:L[p]?=some row):row.length<=L.length:=by
 have:=fc (S.nd p row h) (l₂:=cw L.length) λ x a=>jo.mpr (S.rng p row x h a).1;rwa[iI]at this
def Wb.of{L:Rows}(G:Good L):Wb L:=⟨⟨G.nd,G.rng,λ a b h=>G.sym h⟩,G.three,G.con⟩
def vT{W:Rows}(S:Nb W){x y:Nat}(h:E W x y):∃ z,R W y z x/\nxt W (x,y)=(y,z)/\E W y z:=by
 obtain⟨row,e,m⟩:=S.sym _ _ h;obtain⟨z,n⟩:=kQD m;exact⟨z,⟨row,e,n⟩,hZ S.nd ⟨row,e,n⟩,⟨row,e,(kU n).1⟩⟩
def kFN{W:Rows}(S:Nb W){x y:Nat}(h:E W x y)(n:Nat):E W (it (nxt W) n (x,y)).1 (it (nxt W) n (x,y)).2:=by
 have:=(hX S.nd S.sym).it n (mem_steps.mpr h);exact mem_steps.mp this
def kSF{α:Type}[DecidableEq α](f:α->α)(x:α){k:Nat}(h:it f k x=x)(n:Nat):it f (k*n) x=x:=by
 induction n with
 | zero=>rfl
 | succ n ih=>rw[Nat.mul_succ,aK,h,ih]
def kLW{α:Type}[DecidableEq α](f:α->α)(x:α){k:Nat}(h:it f k x=x)(n:Nat):it f n x=it f (n % k) x:=by
 conv=>lhs;rw[<-Nat.mod_add_div n k]
 rw[aK,kSF f x h]
end Tri
local macro_rules | `(tactic| walk_at "sort_open gallop")=>`(tactic| delta $(Lean.mkIdent (Lean.mkPrivateNameCore `PySem.Builtin.List.W1All `PySem.Builtin.gallop)):ident)
namespace Srt
set_option autoImplicit false
open PySem PyProof.Rows
def vG:Bool->bp->Array bp->Nat->Nat->Nat->StateT eV Sem (Option Nat):=sortPriv% PySem.Builtin.gallop
def bV(left:Bool)(key:bp)(arr:Array bp)(base:Nat)(i:Nat):StateT eV Sem (Option Bool):=do
 let x <-elem' arr (base+i)
 if left then lt' x key else return (<-lt' key x).map (!·)
section
variable {M:zf} {A:gj} {E:ar->av->Prop} {s:av}
def kQG(left:Bool)(key:bp)(arr:Array bp)(base n a b:Nat):StateT eV Sem (Option Nat):=do
 let mut lo:=a
 let mut hi:=b
 for _ in [0:n] do
  if lo >= hi then break
  let m:=lo+(hi-lo) / 2
  let some more <-bV left key arr base m | return none
  if more then lo:=m+1 else hi:=m
 return some hi
variable {left:Bool} {key:bp} {arr:Array bp} {base n hint:Nat} {Q:Option Nat->eV->Prop} {st:eV}
def mU(b:Nat->Bool){lo hi:Nat}
  (D:∀ i,i<n->∀ Q:Option Bool->eV->Prop,Q (some (b i)) st->wpS M A E s (bV left key arr base i) Q st)
  (mono:∀ i j,i<=j->j<n->b j=true->b i=true) (p:lo<=hi) (q:hi<=n) (h1:∀ i,i<lo->b i=true) (B:∀ i,hi<=i->i<n->b i=false)
  (h:∀ k,k<=n->(∀ i,i<k->b i=true)->(∀ i,k<=i->i<n->b i=false)->Q (some k) st):wpS M A E s (kQG left key arr base n lo hi) Q st:=by
 unfold kQG
 refine cj (uz (jv (I:=λ x c a=>a=st/\∃ l r,c=(none,l,r)/\l<=r/\r<=n/\r-l<=n-x/\(∀ i,i<l->b i=true)/\∀ i,r<=i->i<n->b i=false)
  (Q:=λ c a=>a=st/\∃ l,c=(none,l,l)/\l<=n/\(∀ i,i<l->b i=true)/\∀ i,l<=i->i<n->b i=false) ?step ?fin ⟨rfl,lo,hi,rfl,p,q,by omega,h1,B⟩) ?post)
 case post =>
  rintro c a ⟨rfl,l,rfl,u,g,f⟩;exact dj (h l u g f)
 case fin =>
  rintro c a ⟨rfl,l,r,rfl,C,o,d,g,f⟩;have:l=r:=by omega
  subst this;exact⟨rfl,l,rfl,o,g,f⟩
 case step =>
  rintro x c a _ G ⟨rfl,l,r,rfl,C,o,d,g,f⟩;dsimp only;by_cases m:l >= r
  ·rw[if_pos m]
   have:l=r:=by omega
   subst this;exact dj ⟨rfl,l,rfl,o,g,f⟩
  ·rw[if_neg m]
   refine cj (D _ (by omega) _ ?_)
   cases e:b (l+(r-l) / 2)
   case true =>
    simp only[if_true];exact dj ⟨rfl,_,r,rfl,by omega,o,by omega,λ i hi=>mono i _ (by omega) (by omega) e,f⟩
   case false =>
    simp only[eP,if_false];refine dj ⟨rfl,l,_,rfl,by omega,by omega,by omega,g,λ i v y=>?_⟩
    cases z:b i with
    | false=>rfl
    | true=>rw[mono _ i v y z]at e;cases e
def kBV(b:Nat->Bool)
  (m:∀ i,i<n->∀ Q:Option Bool->eV->Prop,Q (some (b i)) st->wpS M A E s (bV left key arr base i) Q st)
  (mono:∀ i j,i<=j->j<n->b j=true->b i=true) (H:hint<n)
  (h:∀ k,k<=n->(∀ i,i<k->b i=true)->(∀ i,k<=i->i<n->b i=false)->Q (some k) st):wpS M A E s (vG left key arr base n hint) Q st:=by
 unfold vG
 walk_at "sort_open gallop"
 dsimp only
 have B:∀{i j:Nat},i<=j->j<n->b i=false->b j=false:=λ{i j} h1 C e=>by
  cases z:b j with
  | false=>rfl
  | true=>rw[mono i j h1 C z]at e;cases e
 refine cj (m hint H _ ?_)
 cases e:b hint
 case true =>
  simp only[if_true]
  refine cj (uz (jv (I:=λ x c a=>a=st/\∃ l o,c=(none,l,o)/\l<o/\x+1<=o/\hint+l<n/\b (hint+l)=true)
   (Q:=λ c a=>a=st/\∃ l o,c=(none,l,o)/\l<o/\hint+l<n/\b (hint+l)=true/\(n-hint<=o\/(hint+o<n/\b (hint+o)=false))) ?step ?fin ⟨rfl,0,1,rfl,by omega,by omega,by omega,e⟩) ?post)
  case fin =>
   rintro c a ⟨rfl,l,o,rfl,lo,u,g,f⟩;exact⟨rfl,l,o,rfl,lo,g,f,.inl (by omega)⟩
  case step =>
   rintro x c a _ D ⟨rfl,l,o,rfl,lo,u,g,f⟩;dsimp only;by_cases d:o >= n-hint
   ·rw[if_pos d]
    exact dj ⟨rfl,l,o,rfl,lo,g,f,.inl d⟩
   ·rw[if_neg d]
    refine cj (m _ (by omega) _ ?_)
    cases z:b (hint+o)
    case true =>
     simp only[zj,eP,if_false];exact dj ⟨rfl,o,_,rfl,by omega,by omega,by omega,z⟩
    case false =>
     simp only[Ex,if_true];exact dj ⟨rfl,l,o,rfl,lo,g,f,.inr ⟨by omega,z⟩⟩
  case post =>
   rintro c a ⟨rfl,l,o,rfl,lo,g,f,p⟩;refine mU (lo:=hint+l+1) (hi:=hint+min o (n-hint)) b m mono (by omega) (by omega) (λ i r=>mono i (hint+l) (by omega) g f) (λ i y q=>?_) h;rcases p with z | ⟨G,v⟩
   ·omega
   ·exact B (i:=hint+o) (by omega) q v
 case false =>
  simp only[eP,if_false]
  refine cj (uz (jv (I:=λ x c a=>a=st/\∃ l o,c=(none,l,o)/\l<o/\x+1<=o/\l<=hint/\b (hint-l)=false)
   (Q:=λ c a=>a=st/\∃ l o,c=(none,l,o)/\l<o/\l<=hint/\b (hint-l)=false/\(hint+1<=o\/(o<=hint/\b (hint-o)=true))) ?step ?fin ⟨rfl,0,1,rfl,by omega,by omega,by omega,e⟩) ?post)
  case fin =>
   rintro c a ⟨rfl,l,o,rfl,lo,u,g,f⟩;exact⟨rfl,l,o,rfl,lo,g,f,.inl (by omega)⟩
  case step =>
   rintro x c a _ D ⟨rfl,l,o,rfl,lo,u,g,f⟩;dsimp only;by_cases d:o >= hint+1
   ·rw[if_pos d]
    exact dj ⟨rfl,l,o,rfl,lo,g,f,.inl d⟩
   ·rw[if_neg d]
    refine cj (m _ (by omega) _ ?_)
    cases z:b (hint-o)
    case false =>
     simp only[eP,if_false];exact dj ⟨rfl,o,_,rfl,by omega,by omega,by omega,z⟩
    case true =>
     simp only[if_true];exact dj ⟨rfl,l,o,rfl,lo,g,f,.inr ⟨by omega,z⟩⟩
  case post =>
   rintro c a ⟨rfl,l,o,rfl,lo,g,f,p⟩;refine mU (lo:=hint+1-min o (hint+1)) (hi:=hint-l) b m mono (by omega) (by omega) (λ i r=>?_) (λ i y q=>B (i:=hint-l) y q f) h;rcases p with z | ⟨G,v⟩
   ·omega
   ·exact mono i (hint-o) (by omega) (by omega) v
end
section
variable {α:Type}
structure Wk(lb:α->α->Bool):Prop where
 irr:∀ a,lb a a=false
 neg:∀ a b c,lb a c=true->lb a b=true\/lb b c=true
 tr:∀ a b c,lb a b=true->lb b c=true->lb a c=true
variable {lb:α->α->Bool}
def le(lb:α->α->Bool)(a b:α):Prop:=lb b a=false
def Wk.refl(W:Wk lb)(a:α):le lb a a:=W.irr a
def Wk.of_lt(W:Wk lb){a b:α}(h:lb a b=true):le lb a b:=by
 unfold le
 cases e:lb b a with
 | false=>rfl
 | true=>have:=W.tr _ _ _ h e;rw[W.irr]at this;cases this
def Wk.trans(W:Wk lb){a b c:α}(h:le lb a b)(k:le lb b c):le lb a c:=by
 unfold le at *
 cases e:lb c a with
 | false=>rfl
 | true =>
  rcases W.neg c b a e with z | z
  ·rw[k]at z;cases z
  ·rw[h]at z;cases z
def jB(lb:α->α->Bool)(l:List α):Prop:=l.Pairwise (le lb)
structure Mg(lb:α->α->Bool)(A B:List α)(out ra rb:List α):Prop where
 sa:jB lb (out++ra)
 sb:jB lb (out++rb)
 pm:(out++(ra++rb)).Perm (A++B)
def Mg.moveA{A B a c f b:List α}(h:Mg lb A B a (c++f) b)(i:∀ x∈c,∀ y∈b,le lb x y):Mg lb A B (a++c) f b:=by
 refine⟨by rw[cx];exact h.sa,?_,?_⟩
 ·have h1:=eA.mp h.sa
  have d:=eA.mp h.sb;have j:=eA.mp h1.2.1;rw[jB,cx];refine eA.mpr ⟨h1.1,eA.mpr ⟨j.1,d.2.1,i⟩,λ x g y l=>?_⟩;rcases cf.mp l with z | z
  ·exact h1.2.2 x g y (cq _ z)
  ·exact d.2.2 x g y z
 ·refine ur ?_ h.pm
  simp only[cx];exact AR _
def Mg.swap{A B a c b:List α}(h:Mg lb A B a c b):Mg lb B A a b c :=
 ⟨h.sb,h.sa,((ko).append_left a).trans (h.pm.trans ko)⟩
def Mg.moveB{A B a c b d:List α}(h:Mg lb A B a b (c++d))(f:∀ x∈c,∀ y∈b,le lb x y):Mg lb A B (a++c) b d:=(h.swap.moveA f).swap
def Res(lb:α->α->Bool)(A B r:List α):Prop:=jB lb r/\r.Perm (A++B)
def Mg.endA{A B a b:List α}(h:Mg lb A B a b []):Res lb A B (a++b++[]):=⟨by simpa using h.sa,by simpa using h.pm⟩
def Mg.endB{A B a b:List α}(h:Mg lb A B a [] b):Res lb A B (a++[]++b):=⟨by simpa using h.sb,by simpa using h.pm⟩
def Mg.last{A B a b:List α}{z:α}(h:Mg lb A B a [z] b)(hz:∀ y∈b,le lb y z):Res lb A B (a++b++[z]):=by
 refine⟨?_,?_⟩
 ·have h1:=eA.mp h.sa
  have f:=eA.mp h.sb;refine eA.mpr ⟨h.sb,kl _ _,λ x d y c=>?_⟩;have:y=z:=by simpa using c
  subst this;rcases cf.mp d with w | w
  ·exact h1.2.2 x w y (by simp)
  ·exact hz x w
 ·refine ur ?_ h.pm
  rw[cx];exact ko.append_left a
end
def lE:Array bp->Array bp->StateT eV Sem (Array bp):=sortPriv% PySem.Builtin.mergeLo
def xM:Nat->StateT eV Sem Unit:=sortPriv% PySem.Builtin.setMinGallop
abbrev wB(st:eV)(g:Nat):eV:=CV (kindOf st) (dh st) (df st) g (va st)
def setMinGallop'_eq(g:Nat):xM g=modify λ s=>wB s g:=rfl
end Srt
local macro_rules | `(tactic| walk_at "sort_open mergeLo")=>`(tactic| delta $(Lean.mkIdent (Lean.mkPrivateNameCore `PySem.Builtin.List.W1All `PySem.Builtin.mergeLo)):ident)
namespace Srt
set_option autoImplicit false
open PySem PyProof.Rows
section
variable {M:zf} {A:gj} {E:ar->av->Prop} {s:av} {lb:bp->bp->Bool} {D:bp->Prop} {kd:oq}
def vP(M:zf)(A:gj)(E:ar->av->Prop)(s:av)(lb:bp->bp->Bool)(D:bp->Prop)(kd:oq):Prop :=
 ∀ x y,D x->D y->∀(st:eV)(Q:Option Bool->eV->Prop),kindOf st=kd->Q (some (lb x y)) st->wpS M A E s (lt' x y) Q st
def qE{arr:Array bp}{i:Nat}{p:bp}{Q:bp->eV->Prop}{st:eV}(h:arr[i]?=some p)(q:Q p st):wpS M A E s (elem' arr i) Q st:=by
 rw[elem'_eq,h];exact dj q
def Sm(st a:eV):Prop:=kindOf a=kindOf st/\dh a=dh st/\df a=df st/\va a=va st
def Sm.refl(st:eV):Sm st st:=⟨rfl,rfl,rfl,rfl⟩
def Sm.gal{st a:eV}(h:Sm st a)(g:Nat):Sm st (wB a g):=h
def wF{x:String}{Q:Unit->eV->Prop}{st:eV}(q:Q () st):wpS M A E s (liftM (rule x):StateT eV Sem Unit) Q st:=GW (vt ⟨rfl,q⟩)
def kBX(a:vP M A E s lb D kd){left:Bool}{key x:bp}{arr:Array bp}{base i:Nat}{Q:Option Bool->eV->Prop}{st:eV}(c:kindOf st=kd)(f:arr[base+i]?=some x)(b:D key)(d:D x)
  (q:Q (some (if left then lb x key else !lb key x)) st):wpS M A E s (bV left key arr base i) Q st:=by
 unfold bV;refine cj (qE f ?_)
 cases left with
 | true =>
  simp only[if_true]at q ⊢;exact a _ _ d b st _ c q
 | false =>
  simp only[eP,if_false]at q ⊢;exact cj (a _ _ b d st _ c (dj q))
def uO(W:Wk lb)(f:vP M A E s lb D kd){left:Bool}{key:bp}{arr:Array bp}{base n b:Nat}{Q:Option Nat->eV->Prop}{st:eV}(p:kindOf st=kd)(o:D key)(u:∀ x∈arr.toList,D x)
  (y:base+n<=arr.size) (r:∀ i j (hi:i<=j) (d:j<n),le lb (arr[base+i]'(by omega)) (arr[base+j]'(by omega))) (m:b<n)
  (h:∀ k,k<=n->(∀ i (hi:i<k) (a:i<n),if left then lb (arr[base+i]'(by omega)) key=true else le lb (arr[base+i]'(by omega)) key) ->
   (∀ i (hi:k<=i) (a:i<n),if left then le lb key (arr[base+i]'(by omega)) else lb key (arr[base+i]'(by omega))=true)->Q (some k) st):wpS M A E s (vG left key arr base n b) Q st:=by
 have g:∀ i,i<n->arr[base+i]?=some (arr.getD (base+i) key):=λ i hi=>by
  rw[getElem?_pos arr (base+i) (by omega)]
  congr 1
  simp[Gf,show base+i<arr.size by omega]
 have c:∀ i (hi:i<n),arr.getD (base+i) key=arr[base+i]'(by omega):=λ i hi=>by simp[Gf,show base+i<arr.size by omega]
 refine kBV (λ i=>if left then lb (arr.getD (base+i) key) key else !lb key (arr.getD (base+i) key)) (λ i hi Q q=>kBX f p (g i hi) o (by rw[c i hi];exact u _ (by simp)) q) (λ i j hi d e=>?_) m (λ k v h1 l=>h k v (λ i hi a=>?_) (λ i hi a=>?_))
 ·have:=r i j hi d
  rw[c i (by omega)];rw[c j d]at e
  cases left with
  | true =>
   simp only[if_true]at e ⊢;rcases W.neg _ (arr[base+i]'(by omega)) _ e with z | z
   ·rw[show lb _ _=false from this]at z;cases z
   ·exact z
  | false =>
   simp only[eP,if_false,Do]at e ⊢;exact W.trans (lb:=lb) this (show le lb _ _ from e)
 ·have:=h1 i hi
  rw[c i a]at this
  cases left with
  | true=>simpa using this
  | false=>simp only[eP,if_false,Do]at this ⊢;exact this
 ·have:=l i hi a
  rw[c i a]at this
  cases left with
  | true=>simp only[if_true]at this ⊢;exact this
  | false=>simp only[eP,if_false,Bool.not_eq_false']at this ⊢;exact this
abbrev LS:=Option (Array bp)×Array bp×Nat×Nat×Nat×Nat×Nat
section
variable (a b:Array bp)
def pC(c:Array bp)(d f g k h:Nat):StateT eV Sem (ForInStep LS):=do
 let x <-elem' a d
 if(d+1+1 == a.size)=true then pure (.done (some (c.push x++b.extract f++a.extract (d+1)),c.push x,d+1,f,g,k,h))
 else if(decide (k<7) && decide (h<7))=true then pure (.done (none,c.push x,d+1,f,g,k,h)) else pure (.yield (none,c.push x,d+1,f,g,k,h))
def pB(d:Array bp)(f c g k ob:Nat):StateT eV Sem (ForInStep LS):=do
 let y <-elem' b c
 if(c+1 == b.size)=true then pure (.done (some (d.push y++a.extract f++b.extract (c+1)),d.push y,f,c+1,g,k,ob))
 else do
  let x <-elem' a f
  let r <-vG true x b (c+1) (b.size-(c+1)) 0
  match r with
  | some k1 =>
   if k1>0 then
    if(c+1+k1 == b.size)=true then pure (.done (some (d.push y++b.extract (c+1) (c+1+k1)++a.extract f++b.extract (c+1+k1)),d.push y++b.extract (c+1) (c+1+k1),f,c+1+k1,g,k,k1))
    else pC a b (d.push y++b.extract (c+1) (c+1+k1)) f (c+1+k1) g k k1
   else pC a b (d.push y) f (c+1) g k k1
  | x=>pure (.done (some (d.push y++a.extract f++b.extract (c+1)),d.push y,f,c+1,g,k,ob))
def pA(d:Array bp)(c f g h ob:Nat):StateT eV Sem (ForInStep LS):=do
 xM g
 let y <-elem' b f
 let r <-vG false y a c (a.size-c) 0
 match r with
 | some k =>
  if k>0 then
   if(c+k+1 == a.size)=true then pure (.done (some (d++a.extract c (c+k)++b.extract f++a.extract (c+k)),d++a.extract c (c+k),c+k,f,g,k,ob))
   else if(c+k == a.size)=true then pure (.done (some (d++a.extract c (c+k)++a.extract (c+k)++b.extract f),d++a.extract c (c+k),c+k,f,g,k,ob))
   else pB a b (d++a.extract c (c+k)) (c+k) f g k ob
  else pB a b d c f g k ob
 | x=>pure (.done (some (d++a.extract c++b.extract f),d,c,f,g,h,ob))
abbrev LS1:=Option (Array bp)×Array bp×Nat×Nat×Nat×Nat
def p1(mg:Nat)(c:LS1):StateT eV Sem (ForInStep LS1):=do
 let y <-elem' b c.2.2.2.1
 let x <-elem' a c.2.2.1
 let r <-lt' y x
 match r with
 | some bw =>
  if bw=true then do
   let y <-elem' b c.2.2.2.1
   if(c.2.2.2.1+1 == b.size)=true then pure (.done (some (c.2.1.push y++a.extract c.2.2.1++b.extract (c.2.2.2.1+1)),c.2.1.push y,c.2.2.1,c.2.2.2.1+1,0,c.2.2.2.2.2+1))
   else if c.2.2.2.2.2+1 >= mg then pure (.done (none,c.2.1.push y,c.2.2.1,c.2.2.2.1+1,0,c.2.2.2.2.2+1))
   else pure (.yield (none,c.2.1.push y,c.2.2.1,c.2.2.2.1+1,0,c.2.2.2.2.2+1))
  else do
   let x <-elem' a c.2.2.1
   if(c.2.2.1+1+1 == a.size)=true then pure (.done (some (c.2.1.push x++b.extract c.2.2.2.1++a.extract (c.2.2.1+1)),c.2.1.push x,c.2.2.1+1,c.2.2.2.1,c.2.2.2.2.1+1,0))
   else if c.2.2.2.2.1+1 >= mg then pure (.done (none,c.2.1.push x,c.2.2.1+1,c.2.2.2.1,c.2.2.2.2.1+1,0))
   else pure (.yield (none,c.2.1.push x,c.2.2.1+1,c.2.2.2.1,c.2.2.2.2.1+1,0))
 | x=>pure (.done (some (c.2.1++a.extract c.2.2.1++b.extract c.2.2.2.1),c.2.1,c.2.2.1,c.2.2.2.1,c.2.2.2.2.1,c.2.2.2.2.2))
abbrev LS0:=Option (Array bp)×Array bp×Nat×Nat×Nat
def p0(c:LS0):StateT eV Sem (ForInStep LS0):=do
 let d <-forIn [:a.size+b.size] ((none,c.2.1,c.2.2.1,c.2.2.2.1,0,0):LS1) λ x d=>p1 a b c.2.2.2.2 d
 match d.1 with
 | some r=>pure (.done (some r,d.2.1,d.2.2.1,d.2.2.2.1,c.2.2.2.2))
 | none=>do
  liftM (rule "list.sort.gallop")
  let f <-forIn [:a.size+b.size] ((none,d.2.1,d.2.2.1,d.2.2.2.1,c.2.2.2.2+1,d.2.2.2.2.1,d.2.2.2.2.2):LS) λ x f =>
   if f.2.2.2.2.1>1 then pA a b f.2.1 f.2.2.1 f.2.2.2.1 (f.2.2.2.2.1-1) f.2.2.2.2.2.1 f.2.2.2.2.2.2 else pA a b f.2.1 f.2.2.1 f.2.2.2.1 f.2.2.2.2.1 f.2.2.2.2.2.1 f.2.2.2.2.2.2
  match f.1 with
  | some r=>pure (.done (some r,f.2.1,f.2.2.1,f.2.2.2.1,f.2.2.2.2.1))
  | none=>do
   xM (f.2.2.2.2.1+1)
   pure (.yield (none,f.2.1,f.2.2.1,f.2.2.2.1,f.2.2.2.2.1+1))
def mergeLo'_parts:lE a b=(do
  liftM (rule "list.sort.merge-lo")
  let y <-elem' b 0
  if(1 == b.size)=true then pure (#[y]++a.extract 0++b.extract 1)
  else if(0+1 == a.size)=true then pure (#[y]++b.extract 1++a.extract 0)
  else do
   let st <-get
   let c <-forIn [:a.size+b.size] ((none,#[y],0,1,gallopOf st):LS0) λ x c=>p0 a b c
   match c.1 with
   | some r=>pure r
   | none=>unsupported "internal:list.sort.merge-bound"):=by
 unfold lE
 walk_at "sort_open mergeLo"
 dsimp only;refine congrArg _ (funext λ _=>?_);refine congrArg _ (funext λ y=>?_);refine congrArg _ ?_;refine congrArg _ ?_;refine congrArg _ (funext λ st=>?_);refine congr (congrArg _ (congrArg _ (funext λ x=>funext λ c=>?_))) (funext λ c=>by cases c.1<;>rfl);unfold p0;refine congr (congrArg _ (congrArg _ (funext λ x=>funext λ d=>?_))) (funext λ d=>?_)
 ·unfold p1
  refine congrArg _ (funext λ _=>?_);refine congrArg _ (funext λ _=>?_);refine congrArg _ (funext λ r=>?_);cases r<;>rfl
 ·cases d.1 with
  | some r=>rfl
  | none =>
   dsimp only;refine congrArg _ (funext λ _=>?_);refine congr (congrArg _ (congrArg _ (funext λ x=>funext λ f=>?_))) (funext λ f=>by cases f.1<;>rfl);have tail:∀(h:Array bp)(j i g k l:Nat),True:=λ _ _ _ _ _ _=>trivial;refine ite_congr rfl (λ _=>?_) (λ _=>?_)
   all_goals
    unfold pA;refine congrArg _ (funext λ _=>?_);refine congrArg _ (funext λ y=>?_);refine congrArg _ (funext λ r=>?_)
    cases r with
    | none=>rfl
    | some k =>
     dsimp only;refine ite_congr rfl (λ _=>ite_congr rfl (λ _=>rfl) (λ _=>ite_congr rfl (λ _=>rfl) (λ _=>?_))) (λ _=>?_)
     all_goals
      unfold pB;refine congrArg _ (funext λ y=>?_);refine ite_congr rfl (λ _=>rfl) (λ _=>?_);refine congrArg _ (funext λ x=>?_);refine congrArg _ (funext λ r=>?_);cases r<;>rfl
end
end
section
variable {α:Type}
def wR(a:Array α)(i:Nat):(a.extract i).toList=a.toList.drop i:=by
 rw[vd,qj];exact jh (by simp)
def xJ(a:Array α)(i k:Nat):(a.extract i (i+k)).toList=(a.toList.drop i).take k:=by
 rw[vd,qj]
 congr 1
 omega
def drop_one{a:Array α}{i:Nat}(h:i<a.size):a.toList.drop i=[a[i]]++a.toList.drop (i+1):=by
 rw[yz (by simpa using h)]
 rfl
def kDN(l:List α)(i k:Nat):l.drop i=(l.drop i).take k++l.drop (i+k):=by
 conv=>lhs;rw[<-iB k (l.drop i)]
 rw[AU]
end
section
variable {M:zf} {A:gj} {E:ar->av->Prop} {s:av} {lb:bp->bp->Bool} {D:bp->Prop} {kd:oq} {a b:Array bp}
structure Hy(M:zf)(A:gj)(E:ar->av->Prop)(s:av)(lb:bp->bp->Bool)(D:bp->Prop)(kd:oq)(a b:Array bp):Prop where
 W:Wk lb
 L:vP M A E s lb D kd
 da:∀ x∈a.toList,D x
 db:∀ x∈b.toList,D x
 sa:jB lb a.toList
 sb:jB lb b.toList
 last:∀(h:0<a.size),∀ y∈b.toList,le lb y a[a.size-1]
def MI(lb:bp->bp->Bool)(a b:Array bp)(c:Array bp)(f d:Nat):Prop :=
 Mg lb a.toList b.toList c.toList (a.toList.drop f) (b.toList.drop d)/\f+1<a.size/\d<b.size/\c.size=f+d
def Yd(lb:bp->bp->Bool)(a b:Array bp)(n:Nat){d:Type}(c:Option (Array bp)×Array bp×Nat×Nat×d):Prop:=c.1=none/\MI lb a b c.2.1 c.2.2.1 c.2.2.2.1/\n<=c.2.1.size
def Dn(lb:bp->bp->Bool)(a b:Array bp)(n:Nat){d:Type}(c:Option (Array bp)×Array bp×Nat×Nat×d):Prop:=(∃ r,c.1=some r/\Res lb a.toList b.toList r.toList)\/Yd lb a b n c
def RR(lb:bp->bp->Bool)(a b:Array bp)(n:Nat){d:Type}:ForInStep (Option (Array bp)×Array bp×Nat×Nat×d)->Prop
 | .done c=>Dn lb a b n c
 | .yield c=>Yd lb a b n c
def zZ(W:Wk lb){a:Array bp}(h:jB lb a.toList){i j:Nat}(b:i<=j)(c:j<a.size):le lb (a[i]'(by omega)) a[j]:=by
 by_cases e:i=j
 ·subst e;exact W.refl _
 ·have:=lj.mp h i j (by simp;omega) (by simp;omega) (by omega)
  simpa using this
def yR{a:Array bp}{i:Nat}{x:bp}(h:x∈a.toList.drop i):∃ j,∃ hj:j<a.size,i<=j/\x=a[j]:=by
 obtain⟨k,b,e⟩:=eY.mp h;rw[iR]at b;refine⟨i+k,by simp at b;omega,by omega,?_⟩;rw[<-e,Br];simp
def kFV{c:Array bp}{f d:Nat}(h:Mg lb a.toList b.toList c.toList (a.toList.drop f) (b.toList.drop d))(e:d=b.size):Res lb a.toList b.toList (c++a.extract f++b.extract d).toList:=by
 rw[iN,iN,wR,wR];have z:b.toList.drop d=[]:=nj (by simp;omega);rw[z]at h ⊢;exact h.endA
def kUI{c:Array bp}{d f:Nat}(h:Mg lb a.toList b.toList c.toList (a.toList.drop d) (b.toList.drop f))(e:d=a.size):Res lb a.toList b.toList (c++a.extract d++b.extract f).toList:=by
 rw[iN,iN,wR,wR];have z:a.toList.drop d=[]:=nj (by simp;omega);rw[z]at h ⊢;exact h.endB
def bR(H:Hy M A E s lb D kd a b){d:Array bp}{c f:Nat}(h:Mg lb a.toList b.toList d.toList (a.toList.drop c) (b.toList.drop f))(e:c+1=a.size):Res lb a.toList b.toList (d++b.extract f++a.extract c).toList:=by
 rw[iN,iN,wR,wR]
 have z:a.toList.drop c=[a[a.size-1]'(by omega)]:=by
  rw[drop_one (show c<a.size by omega),nj (by simp;omega)];simp only[iW]
  congr 2
  omega
 rw[z]at h ⊢;exact h.last λ y g=>H.last (by omega) y (ym g)
def kCF(H:Hy M A E s lb D kd a b){f:Array bp}{g d:Nat}(p:g<a.size)(m:d<b.size)(h:Mg lb a.toList b.toList f.toList (a.toList.drop g) (b.toList.drop d))(c:le lb b[d] a[g]):Mg lb a.toList b.toList (f.push b[d]).toList (a.toList.drop g) (b.toList.drop (d+1)):=by
 rw[drop_one m]at h;rw[ve];refine h.moveB λ x o y n=>?_;have:x=b[d]:=by simpa using o
 subst this;obtain⟨j,l,i,rfl⟩:=yR n;exact H.W.trans c (zZ H.W H.sa i l)
def kJW(H:Hy M A E s lb D kd a b){f:Array bp}{d g:Nat}(l:d<a.size)(h:Mg lb a.toList b.toList f.toList (a.toList.drop d) (b.toList.drop g))(c:∀ y∈b.toList.drop g,le lb a[d] y):Mg lb a.toList b.toList (f.push a[d]).toList (a.toList.drop (d+1)) (b.toList.drop g):=by
 rw[drop_one l]at h;rw[ve];refine h.moveA λ x j y i=>?_;have:x=a[d]:=by simpa using j
 subst this;exact c y i
def kUM(H:Hy M A E s lb D kd a b){d:Nat}{x:bp}(i:d<b.size)(c:le lb x b[d]):∀ y∈b.toList.drop d,le lb x y:=λ y h=>by
 obtain⟨j,g,f,rfl⟩:=yR h;exact H.W.trans c (zZ H.W H.sb f g)
def kQK(H:Hy M A E s lb D kd a b){st:eV}(n:kindOf st=kd){d:Array bp}{f g u v mg:Nat}(h:MI lb a b d f g){Q:ForInStep LS1->eV->Prop}
  (q:∀ r,RR lb a b (d.size+1) r->Q r st):wpS M A E s (p1 a b mg (none,d,f,g,u,v)) Q st:=by
 obtain⟨m,h1,i,o⟩:=h;have l:f<a.size:=by omega
 unfold p1;dsimp only;refine cj (qE (getElem?_pos b g i) ?_);refine cj (qE (getElem?_pos a f l) ?_);refine cj (H.L _ _ (H.db _ (by simp)) (H.da _ (by simp)) st _ n ?_)
 cases e:lb b[g] a[f]
 case true =>
  simp only[if_true];refine cj (qE (getElem?_pos b g i) ?_);have j:=kCF H l i m (H.W.of_lt e);by_cases c:g+1=b.size
  ·rw[if_pos (by simpa using c)]
   exact dj (q _ (.inl ⟨_,rfl,kFV j c⟩))
  ·rw[if_neg (by simpa using c)]
   have y:Yd lb a b (d.size+1) (none,d.push b[g],f,g+1,(0,v+1)):=⟨rfl,⟨j,h1,by show g+1<b.size;omega,by show(d.push b[g]).size=f+(g+1);rw[ja];omega⟩,by show d.size+1<=(d.push b[g]).size;rw[ja];omega⟩
   split
   ·exact dj (q _ (.inr y))
   ·exact dj (q _ y)
 case false =>
  simp only[eP,if_false];refine cj (qE (getElem?_pos a f l) ?_);have j:=kJW H l m (kUM H i e);by_cases c:f+1+1=a.size
  ·rw[if_pos (by simpa using c)]
   exact dj (q _ (.inl ⟨_,rfl,bR H j c⟩))
  ·rw[if_neg (by simpa using c)]
   have y:Yd lb a b (d.size+1) (none,d.push a[f],f+1,g,(u+1,0)):=⟨rfl,⟨j,by show f+1+1<a.size;omega,i,by show(d.push a[f]).size=f+1+g;rw[ja];omega⟩,by show d.size+1<=(d.push a[f]).size;rw[ja];omega⟩
   split
   ·exact dj (q _ (.inr y))
   ·exact dj (q _ y)
def zU{a:Array bp}{i k:Nat}{x:bp}(h:x∈(a.toList.drop i).take k):∃ j,∃ hj:i+j<a.size,j<k/\x=a[i+j]:=by
 obtain⟨j,hj,e⟩:=eY.mp h;rw[dc,iR]at hj;refine⟨j,by simp at hj;omega,by omega,?_⟩;rw[<-e,AV,Br];simp
def kPL{f:Array bp}{g d k:Nat}(h:Mg lb a.toList b.toList f.toList (a.toList.drop g) (b.toList.drop d))(c:∀ x∈(b.toList.drop d).take k,∀ y∈a.toList.drop g,le lb x y):Mg lb a.toList b.toList (f++b.extract d (d+k)).toList (a.toList.drop g) (b.toList.drop (d+k)):=by
 rw[iN,xJ];rw[kDN b.toList d k]at h;exact h.moveB c
def kPM{f:Array bp}{d g k:Nat}(h:Mg lb a.toList b.toList f.toList (a.toList.drop d) (b.toList.drop g))(c:∀ x∈(a.toList.drop d).take k,∀ y∈b.toList.drop g,le lb x y):Mg lb a.toList b.toList (f++a.extract d (d+k)).toList (a.toList.drop (d+k)) (b.toList.drop g):=by
 rw[iN,xJ];rw[kDN a.toList d k]at h;exact h.moveA c
def kIX(H:Hy M A E s lb D kd a b){st:eV}{f:Array bp}{d i g k o n:Nat}(h:MI lb a b f d i)(x:n<=f.size+1)(c:∀(u:d<a.size),∀ y∈b.toList.drop i,le lb a[d] y){Q:ForInStep LS->eV->Prop}
  (q:∀ r,RR lb a b n r->Q r st):wpS M A E s (pC a b f d i g k o) Q st:=by
 obtain⟨m,h1,p,v⟩:=h;have j:d<a.size:=by omega
 unfold pC;refine cj (qE (getElem?_pos a d j) ?_);have l:=kJW H j m (c j);by_cases e:d+1+1=a.size
 ·rw[if_pos (by simpa using e)]
  exact dj (q _ (.inl ⟨_,rfl,bR H l e⟩))
 ·rw[if_neg (by simpa using e)]
  have y:Yd lb a b n (none,f.push a[d],d+1,i,(g,k,o)):=⟨rfl,⟨l,by show d+1+1<a.size;omega,p,by show(f.push a[d]).size=d+1+i;rw[ja];omega⟩,by show n<=(f.push a[d]).size;rw[ja];omega⟩
  split
  ·exact dj (q _ (.inr y))
  ·exact dj (q _ y)
def kIY(H:Hy M A E s lb D kd a b){st:eV}(X:kindOf st=kd){f:Array bp}{l d g k ob n:Nat}(h:MI lb a b f l d)(hn:n<=f.size+1)(c:∀(p:l<a.size)(hb:d<b.size),le lb b[d] a[l]){Q:ForInStep LS->eV->Prop}
  (q:∀ r,RR lb a b n r->Q r st):wpS M A E s (pB a b f l d g k ob) Q st:=by
 obtain⟨m,h1,v,h3⟩:=h;have p:l<a.size:=by omega
 unfold pB;refine cj (qE (getElem?_pos b d v) ?_);have u:=kCF H p v m (c p v);have sz:(f.push b[d]).size=l+(d+1):=by rw[ja];omega
 by_cases e:d+1=b.size
 ·rw[if_pos (by simpa using e)]
  exact dj (q _ (.inl ⟨_,rfl,kFV u e⟩))
 ·rw[if_neg (by simpa using e)]
  refine cj (qE (getElem?_pos a l p) ?_);refine cj (uO H.W H.L X (H.da _ (by simp)) H.db (by omega) (λ i j N J=>zZ H.W H.sb (by omega) (by omega)) (by omega) λ o kn I O=>?_);simp only[if_true]at I O
  have rest:∀ y∈b.toList.drop (d+1+o),le lb a[l] y:=λ y C=>by
   obtain⟨j,J,ij,rfl⟩:=yR C;have:=O (j-(d+1)) (by omega) (by omega);simp only[show d+1+(j-(d+1))=j by omega]at this;exact this
  dsimp only;by_cases S:o>0
  ·rw[if_pos S]
   have T:=kPL (k:=o) u λ x Z y C=>by
    obtain⟨j,J,Y,rfl⟩:=zU Z;obtain⟨i,N,U,rfl⟩:=yR C;exact H.W.trans (H.W.of_lt (I j Y (by omega))) (zZ H.W H.sa U N)
   have G:(f.push b[d]++b.extract (d+1) (d+1+o)).size=l+(d+1+o):=by
    rw[yi,sz,km];omega
   by_cases B:d+1+o=b.size
   ·rw[if_pos (by simpa using B)]
    exact dj (q _ (.inl ⟨_,rfl,kFV T B⟩))
   ·rw[if_neg (by simpa using B)]
    exact kIX H ⟨T,h1,by omega,G⟩ (by omega) (λ _=>rest) q
  ·rw[if_neg S]
   have:o=0:=by omega
   subst this;exact kIX H ⟨u,h1,by omega,sz⟩ (by omega) (λ _=>rest) q
def kQJ(H:Hy M A E s lb D kd a b){st:eV}(l:kindOf st=kd){c:Array bp}{d f g Y ob n:Nat}(h:MI lb a b c d f)(N:n<=c.size+1){Q:ForInStep LS->eV->Prop}
  (q:∀ r,RR lb a b n r->Q r (wB st g)):wpS M A E s (pA a b c d f g Y ob) Q st:=by
 obtain⟨m,h1,I,h3⟩:=id h;have Z:d<a.size:=by omega
 unfold pA;rw[setMinGallop'_eq];refine cj (oy ?_);refine cj (qE (getElem?_pos b f I) ?_);refine cj (uO (st:=wB st g) H.W H.L l (H.db _ (by simp)) H.da (by omega) (λ i j G S=>zZ H.W H.sa (by omega) (by omega)) (by omega) λ k kn C p=>?_);simp only[eP,if_false]at C p;dsimp only;by_cases J:k>0
 ·rw[if_pos J]
  have v:=kPM (k:=k) m λ x X y U=>by
   obtain⟨j,S,T,rfl⟩:=zU X;obtain⟨i,G,O,rfl⟩:=yR U;exact H.W.trans (C j T (by omega)) (zZ H.W H.sb O G)
  have u:(c++a.extract d (d+k)).size=d+k+f:=by
   rw[yi,km];omega
  by_cases B:d+k+1=a.size
  ·rw[if_pos (by simpa using B)]
   exact dj (q _ (.inl ⟨_,rfl,bR H v B⟩))
  ·rw[if_neg (by simpa using B)]
   by_cases o:d+k=a.size
   ·rw[if_pos (by simpa using o)]
    exact dj (q _ (.inl ⟨_,rfl,kUI v o⟩))
   ·rw[if_neg (by simpa using o)]
    exact kIY (st:=wB st g) H l ⟨v,by omega,I,u⟩ (by omega) (λ _ _=>H.W.of_lt (p k (by omega) (by omega))) q
 ·rw[if_neg J]
  have:k=0:=by omega
  subst this;exact kIY (st:=wB st g) H l h N (λ _ _=>H.W.of_lt (p 0 (by omega) (by omega))) q
def Yd.mono{n d:Nat}{f:Type}{c:Option (Array bp)×Array bp×Nat×Nat×f}(h:Yd lb a b n c)(k:d<=n):Yd lb a b d c:=⟨h.1,h.2.1,jt k h.2.2⟩
theorem Dn.mono{n d:Nat}{f:Type}{c:Option (Array bp)×Array bp×Nat×Nat×f}(h:Dn lb a b n c)(k:d<=n):Dn lb a b d c:=h.imp id λ z=>z.mono k
def kQL(H:Hy M A E s lb D kd a b){st:eV}(O:kindOf st=kd){l:Array bp}{N L g:Nat}(h:MI lb a b l N L){Q:ForInStep LS0->eV->Prop}
  (S:∀ r c st',Sm st st'->Res lb a.toList b.toList r.toList->Q (.done (some r,c)) st') (T:∀ c st',Sm st st'->Yd lb a b (l.size+1) c->Q (.yield c) st'):wpS M A E s (p0 a b (none,l,N,L,g)) Q st:=by
 unfold p0;dsimp only;have U:0<a.size+b.size:=by have:=h.2.2.1;omega
 refine cj (uz (jv (I:=λ x d st'=>st'=st/\Yd lb a b (l.size+x) d) (Q:=λ d st'=>st'=st/\Dn lb a b (l.size+1) d) ?step ?fin ⟨rfl,rfl,h,be _⟩) ?post)
 case fin =>
  rintro d st' ⟨rfl,y⟩;exact⟨rfl,.inr (y.mono (by omega))⟩
 case step =>
  rintro x ⟨r,o,i,j,u,v⟩ st' _ _ ⟨rfl,e,J,le⟩
  cases(show r=none from e)
  have le:l.size+x<=o.size:=le;refine kQK H O J λ r C=>?_
  cases r with
  | done c=>exact⟨rfl,Dn.mono C (by omega)⟩
  | yield c=>exact⟨rfl,Yd.mono C (by omega)⟩
 case post =>
  rintro⟨r,o,i,j,u,v⟩ st' ⟨rfl,B⟩
  cases r with
  | some r =>
   dsimp only;rcases B with⟨G,e,p⟩ | ⟨e,_⟩
   ·cases e
    exact dj (S _ _ _ (Sm.refl _) p)
   ·cases e
  | none =>
   dsimp only
   have y:Yd lb a b (l.size+1) (none,o,i,j,(u,v)):=by
    rcases B with⟨G,e,p⟩ | y
    ·cases e
    ·exact y
   refine cj (wF ?_);refine cj (uz (jv (I:=λ x f m=>Sm st' m/\Yd lb a b (l.size+1) f) (Q:=λ f m=>Sm st' m/\Dn lb a b (l.size+1) f) ?step2 ?fin2 ⟨Sm.refl _,y⟩) ?post2)
   case fin2 =>
    rintro f m ⟨q,y⟩;exact⟨q,.inr y⟩
   case step2 =>
    rintro x ⟨r,o,i,j,X,u,v⟩ m _ _ ⟨q,e,J,le⟩
    cases(show r=none from e)
    have le:l.size+1<=o.size:=le;dsimp only
    split
    all_goals
     refine kQJ (n:=l.size+1) H (q.1.trans O) J (by omega) λ r C=>?_
     cases r with
     | done c=>exact⟨q.gal _,C⟩
     | yield c=>exact⟨q.gal _,C⟩
   case post2 =>
    rintro⟨r,o,i,j,X,u,v⟩ m ⟨q,B⟩
    cases r with
    | some r =>
     dsimp only;rcases B with⟨G,e,p⟩ | ⟨e,_⟩
     ·cases e
      exact dj (S _ _ _ q p)
     ·cases e
    | none =>
     dsimp only;rcases B with⟨G,e,p⟩ | y
     ·cases e
     ·rw[setMinGallop'_eq]
      exact cj (oy (dj (T _ _ (q.gal _) y)))
def sV(H:Hy M A E s lb D kd a b){st:eV}(G:kindOf st=kd)(J:0<a.size)(u:0<b.size)(first:le lb b[0] a[0]){Q:Array bp->eV->Prop}
  (q:∀ r st',Sm st st'->Res lb a.toList b.toList r.toList->Q r st'):wpS M A E s (lE a b) Q st:=by
 rw[mergeLo'_parts];refine cj (wF ?_);refine cj (qE (getElem?_pos b 0 u) ?_);have C:Mg lb a.toList b.toList (#[]:Array bp).toList (a.toList.drop 0) (b.toList.drop 0):=⟨H.sa,H.sb,AR _⟩;have l:Mg lb a.toList b.toList (#[b[0]]:Array bp).toList (a.toList.drop 0) (b.toList.drop 1):=kCF H J u C first;by_cases p:1=b.size
 ·rw[if_pos (by simpa using p)]
  exact dj (q _ _ (Sm.refl _) (kFV l p))
 rw[if_neg (by simpa using p)];by_cases n:0+1=a.size
 ·rw[if_pos (by simpa using n)]
  exact dj (q _ _ (Sm.refl _) (bR H l n))
 rw[if_neg (by simpa using n)];refine cj (zy ?_);refine cj (uz (jv (I:=λ x c st'=>Sm st st'/\Yd lb a b (1+x) c) (Q:=λ c st'=>Sm st st'/\∃ r,c.1=some r/\Res lb a.toList b.toList r.toList) ?step ?fin ⟨Sm.refl _,rfl,⟨l,by show 0+1<a.size;omega,by show 1<b.size;omega,rfl⟩,be _⟩) ?post)
 case post =>
  rintro⟨r,c⟩ st' ⟨f,N,e,h⟩;cases e
  exact dj (q _ _ f h)
 case fin =>
  rintro⟨r,o,i,j,g⟩ st' ⟨f,e,⟨_,h1,B,v⟩,le⟩;have v:o.size=i+j:=v;have le:1+max 0 (a.size+b.size)<=o.size:=le;have h1:i+1<a.size:=h1;have B:j<b.size:=B;omega
 case step =>
  rintro x ⟨r,o,i,j,g⟩ st' _ _ ⟨f,e,L,le⟩
  cases(show r=none from e)
  have le:1+x<=o.size:=le;exact kQL H (f.1.trans G) L (λ r c m d h=>⟨⟨d.1.trans f.1,d.2.1.trans f.2.1,d.2.2.1.trans f.2.2.1,d.2.2.2.trans f.2.2.2⟩,r,rfl,h⟩) λ c m d y=>⟨⟨d.1.trans f.1,d.2.1.trans f.2.1,d.2.2.1.trans f.2.2.1,d.2.2.2.trans f.2.2.2⟩,y.mono (by omega)⟩
end
end Srt
local macro_rules | `(tactic| walk_at "sort_open mergeHi")=>`(tactic| delta $(Lean.mkIdent (Lean.mkPrivateNameCore `PySem.Builtin.List.W1All `PySem.Builtin.mergeHi)):ident)
namespace Srt
set_option autoImplicit false
open PySem PyProof.Rows
def lG:Array bp->Array bp->StateT eV Sem (Array bp):=sortPriv% PySem.Builtin.mergeHi
abbrev KS:=Option (Array bp)×Nat×Nat×Array bp×Nat×Nat×Nat
abbrev KS1:=Option (Array bp)×Nat×Nat×Array bp×Nat×Nat
abbrev KS0:=Option (Array bp)×Nat×Nat×Array bp×Nat
section
variable (a b:Array bp)
def hDn(d f:Nat)(c:Array bp):Array bp:=a.extract 0 d++b.extract 0 f++c.reverse
def hFb(d f:Nat)(c:Array bp):Array bp:=b.extract 0 f++a.extract 0 d++c.reverse
def hC(d h:Nat)(c:Array bp)(g k f:Nat):StateT eV Sem (ForInStep KS):=do
 let x <-elem' a (d-1)
 if(d-1 == 0)=true then pure (.done (some (hDn a b (d-1) h (c.push x)),d-1,h,c.push x,g,k,f))
 else if(decide (k<7) && decide (f<7))=true then pure (.done (none,d-1,h,c.push x,g,k,f)) else pure (.yield (none,d-1,h,c.push x,g,k,f))
def hB(f d:Nat)(c:Array bp)(g k ob:Nat):StateT eV Sem (ForInStep KS):=do
 let y <-elem' b (d-1)
 if(d-1 == 1)=true then pure (.done (some (hFb a b f (d-1) (c.push y)),f,d-1,c.push y,g,k,ob))
 else do
  let x <-elem' a (f-1)
  let r <-vG true x b 0 (d-1) (d-1-1)
  match r with
  | some p =>
   if d-1-p>0 then
    if(p == 1)=true then pure (.done (some (hFb a b f p (c.push y++(b.extract p (d-1)).reverse)),f,p,c.push y++(b.extract p (d-1)).reverse,g,k,d-1-p))
    else if(p == 0)=true then pure (.done (some (hDn a b f p (c.push y++(b.extract p (d-1)).reverse)),f,p,c.push y++(b.extract p (d-1)).reverse,g,k,d-1-p))
    else hC a b f p (c.push y++(b.extract p (d-1)).reverse) g k (d-1-p)
   else hC a b f (d-1) (c.push y) g k (d-1-p)
  | x=>pure (.done (some (hDn a b f (d-1) (c.push y)),f,d-1,c.push y,g,k,ob))
def hA(d f:Nat)(c:Array bp)(g h ob:Nat):StateT eV Sem (ForInStep KS):=do
 xM g
 let y <-elem' b (f-1)
 let r <-vG false y a 0 d (d-1)
 match r with
 | some p =>
  if d-p>0 then
   if(p == 0)=true then pure (.done (some (hDn a b p f (c++(a.extract p d).reverse)),p,f,c++(a.extract p d).reverse,g,d-p,ob))
   else hB a b p f (c++(a.extract p d).reverse) g (d-p) ob
  else hB a b d f c g (d-p) ob
 | x=>pure (.done (some (hDn a b d f c),d,f,c,g,h,ob))
def h1(mg:Nat)(c:KS1):StateT eV Sem (ForInStep KS1):=do
 let y <-elem' b (c.2.2.1-1)
 let x <-elem' a (c.2.1-1)
 let r <-lt' y x
 match r with
 | some aw =>
  if aw=true then do
   let x <-elem' a (c.2.1-1)
   if(c.2.1-1 == 0)=true then pure (.done (some (hDn a b (c.2.1-1) c.2.2.1 (c.2.2.2.1.push x)),c.2.1-1,c.2.2.1,c.2.2.2.1.push x,c.2.2.2.2.1+1,0))
   else if c.2.2.2.2.1+1 >= mg then pure (.done (none,c.2.1-1,c.2.2.1,c.2.2.2.1.push x,c.2.2.2.2.1+1,0))
   else pure (.yield (none,c.2.1-1,c.2.2.1,c.2.2.2.1.push x,c.2.2.2.2.1+1,0))
  else do
   let y <-elem' b (c.2.2.1-1)
   if(c.2.2.1-1 == 1)=true then pure (.done (some (hFb a b c.2.1 (c.2.2.1-1) (c.2.2.2.1.push y)),c.2.1,c.2.2.1-1,c.2.2.2.1.push y,0,c.2.2.2.2.2+1))
   else if c.2.2.2.2.2+1 >= mg then pure (.done (none,c.2.1,c.2.2.1-1,c.2.2.2.1.push y,0,c.2.2.2.2.2+1))
   else pure (.yield (none,c.2.1,c.2.2.1-1,c.2.2.2.1.push y,0,c.2.2.2.2.2+1))
 | x=>pure (.done (some (hDn a b c.2.1 c.2.2.1 c.2.2.2.1),c.2.1,c.2.2.1,c.2.2.2.1,c.2.2.2.2.1,c.2.2.2.2.2))
def h0(c:KS0):StateT eV Sem (ForInStep KS0):=do
 let d <-forIn [:a.size+b.size] ((none,c.2.1,c.2.2.1,c.2.2.2.1,0,0):KS1) λ x d=>h1 a b c.2.2.2.2 d
 match d.1 with
 | some r=>pure (.done (some r,d.2.1,d.2.2.1,d.2.2.2.1,c.2.2.2.2))
 | none=>do
  liftM (rule "list.sort.gallop")
  let f <-forIn [:a.size+b.size] ((none,d.2.1,d.2.2.1,d.2.2.2.1,c.2.2.2.2+1,d.2.2.2.2.1,d.2.2.2.2.2):KS) λ x f =>
   if f.2.2.2.2.1>1 then hA a b f.2.1 f.2.2.1 f.2.2.2.1 (f.2.2.2.2.1-1) f.2.2.2.2.2.1 f.2.2.2.2.2.2 else hA a b f.2.1 f.2.2.1 f.2.2.2.1 f.2.2.2.2.1 f.2.2.2.2.2.1 f.2.2.2.2.2.2
  match f.1 with
  | some r=>pure (.done (some r,f.2.1,f.2.2.1,f.2.2.2.1,f.2.2.2.2.1))
  | none=>do
   xM (f.2.2.2.2.1+1)
   pure (.yield (none,f.2.1,f.2.2.1,f.2.2.2.1,f.2.2.2.2.1+1))
def mergeHi'_parts:lG a b=(do
  liftM (rule "list.sort.merge-hi")
  let y <-elem' a (a.size-1)
  if(a.size-1 == 0)=true then pure (hDn a b (a.size-1) b.size #[y])
  else if(b.size == 1)=true then pure (hFb a b (a.size-1) b.size #[y])
  else do
   let st <-get
   let c <-forIn [:a.size+b.size] ((none,a.size-1,b.size,#[y],gallopOf st):KS0) λ x c=>h0 a b c
   match c.1 with
   | some r=>pure r
   | none=>unsupported "internal:list.sort.merge-bound"):=by
 unfold lG
 walk_at "sort_open mergeHi"
 dsimp only;refine congrArg _ (funext λ _=>?_);refine congrArg _ (funext λ y=>?_);refine ite_congr rfl (λ _=>rfl) (λ _=>ite_congr rfl (λ _=>rfl) (λ _=>?_));refine congrArg _ (funext λ st=>?_);refine congr (congrArg _ (congrArg _ (funext λ x=>funext λ c=>?_))) (funext λ c=>by cases c.1<;>rfl);unfold h0;refine congr (congrArg _ (congrArg _ (funext λ x=>funext λ d=>?_))) (funext λ d=>?_)
 ·unfold h1
  refine congrArg _ (funext λ _=>?_);refine congrArg _ (funext λ _=>?_);refine congrArg _ (funext λ r=>?_);cases r<;>rfl
 ·cases d.1 with
  | some r=>rfl
  | none =>
   dsimp only;refine congrArg _ (funext λ _=>?_);refine congr (congrArg _ (congrArg _ (funext λ x=>funext λ f=>?_))) (funext λ f=>by cases f.1<;>rfl);refine ite_congr rfl (λ _=>?_) (λ _=>?_)
   all_goals
    unfold hA;refine congrArg _ (funext λ _=>?_);refine congrArg _ (funext λ y=>?_);refine congrArg _ (funext λ r=>?_)
    cases r with
    | none=>rfl
    | some k =>
     dsimp only;refine ite_congr rfl (λ _=>ite_congr rfl (λ _=>rfl) (λ _=>?_)) (λ _=>?_)
     all_goals
      unfold hB;refine congrArg _ (funext λ y=>?_);refine ite_congr rfl (λ _=>rfl) (λ _=>?_);refine congrArg _ (funext λ x=>?_);refine congrArg _ (funext λ r=>?_);cases r<;>rfl
end
section
variable {α:Type} {lb:α->α->Bool}
structure Mh(lb:α->α->Bool)(A B:List α)(w ra rb:List α):Prop where
 sa:jB lb (ra++w)
 sb:jB lb (rb++w)
 pm:(ra++(rb++w)).Perm (A++B)
def Mh.moveA{A B w c d b:List α}(h:Mh lb A B w (d++c) b)(i:∀ x∈b,∀ y∈c,le lb x y):Mh lb A B (c++w) d b:=by
 refine⟨by rw[<-cx];exact h.sa,?_,?_⟩
 ·have h1:=eA.mp h.sa
  have g:=eA.mp h.sb;have j:=eA.mp h1.1;refine eA.mpr ⟨g.1,eA.mpr ⟨j.2.1,h1.2.1,λ x a y f=>h1.2.2 x (ck _ a) y f⟩,λ x a y f=>?_⟩;rcases cf.mp f with z | z
  ·exact i x a y z
  ·exact g.2.2 x a y z
 ·refine ur ?_ h.pm
  rw[cx];refine yd d ?_;rw[<-cx,<-cx];exact xj w ko
def Mh.swap{A B w b a:List α}(h:Mh lb A B w b a):Mh lb B A w a b:=by
 refine⟨h.sb,h.sa,?_⟩;refine ur ?_ (h.pm.trans ko);rw[<-cx,<-cx];exact xj w ko
def Mh.moveB{A B w c a b:List α}(h:Mh lb A B w a (b++c))(d:∀ x∈a,∀ y∈c,le lb x y):Mh lb A B (c++w) a b:=(h.swap.moveA d).swap
def fP{a:Array α}{n:Nat}(h0:0<n)(h:n<=a.size):a.toList.take n=a.toList.take (n-1)++[a[n-1]'(by omega)]:=by
 obtain⟨m,rfl⟩ : ∃ m,n=m+1:=⟨n-1,by omega⟩;rw[List.take_succ_eq_append_getElem (by simp;omega)];simp
def bQ(a:Array α)(n:Nat):(a.extract 0 n).toList=a.toList.take n:=by
 rw[vd,qj];simp
def kCC(a:Array α){p n:Nat}(h:p<=n):a.toList.take n=a.toList.take p++(a.extract p n).toList:=by
 rw[vd,qj,<-Ey]
 conv=>lhs;rw[<-iB p (a.toList.take n)]
 rw[BN,jw h]
end
section
variable {M:zf} {A:gj} {E:ar->av->Prop} {s:av} {lb:bp->bp->Bool} {D:bp->Prop} {kd:oq} {a b:Array bp}
structure Hz(M:zf)(A:gj)(E:ar->av->Prop)(s:av)(lb:bp->bp->Bool)(D:bp->Prop)(kd:oq)(a b:Array bp):Prop where
 W:Wk lb
 L:vP M A E s lb D kd
 da:∀ x∈a.toList,D x
 db:∀ x∈b.toList,D x
 sa:jB lb a.toList
 sb:jB lb b.toList
 first:∀(h:0<b.size),∀ y∈a.toList,le lb b[0] y
abbrev MM(lb:bp->bp->Bool)(a b:Array bp)(d f:Nat)(c:Array bp):Prop:=Mh lb a.toList b.toList c.toList.reverse (a.toList.take d) (b.toList.take f)
def MH(lb:bp->bp->Bool)(a b:Array bp)(d f:Nat)(c:Array bp):Prop:=MM lb a b d f c/\0<d/\d<=a.size/\1<f/\f<=b.size/\c.size+d+f=a.size+b.size
def Zd(lb:bp->bp->Bool)(a b:Array bp)(n:Nat){d:Type}(c:Option (Array bp)×Nat×Nat×Array bp×d):Prop:=c.1=none/\MH lb a b c.2.1 c.2.2.1 c.2.2.2.1/\n<=c.2.2.2.1.size
def En(lb:bp->bp->Bool)(a b:Array bp)(n:Nat){d:Type}(c:Option (Array bp)×Nat×Nat×Array bp×d):Prop:=(∃ r,c.1=some r/\Res lb a.toList b.toList r.toList)\/Zd lb a b n c
def TT(lb:bp->bp->Bool)(a b:Array bp)(n:Nat){d:Type}:ForInStep (Option (Array bp)×Nat×Nat×Array bp×d)->Prop
 | .done c=>En lb a b n c
 | .yield c=>Zd lb a b n c
def Zd.mono{n d:Nat}{f:Type}{c:Option (Array bp)×Nat×Nat×Array bp×f}(h:Zd lb a b n c)(k:d<=n):Zd lb a b d c:=⟨h.1,h.2.1,jt k h.2.2⟩
theorem En.mono{n d:Nat}{f:Type}{c:Option (Array bp)×Nat×Nat×Array bp×f}(h:En lb a b n c)(k:d<=n):En lb a b d c:=h.imp id λ z=>z.mono k
def bC{a:Array bp}{n:Nat}{x:bp}(h:x∈a.toList.take n):∃ j,∃ hj:j<a.size,j<n/\x=a[j]:=by
 have:=zU (a:=a) (i:=0) (k:=n) (x:=x) (by simpa using h);obtain⟨j,hj,b,e⟩:=this;exact⟨j,by omega,b,by simpa using e⟩
def qX{a:Array bp}{p n:Nat}{x:bp}(h:x∈(a.extract p n).toList):∃ j,∃ hj:j<a.size,p<=j/\j<n/\x=a[j]:=by
 rw[vd,qj]at h;obtain⟨j,hj,b,e⟩:=zU h;exact⟨p+j,hj,by omega,by omega,e⟩
def kAW(d f:Nat)(c:Array bp):(hDn a b d f c).toList=a.toList.take d++(b.toList.take f++c.toList.reverse):=by
 unfold hDn;rw[iN,iN,bQ,bQ,yn,cx]
def kMG(d f:Nat)(c:Array bp):(hFb a b d f c).toList=b.toList.take f++(a.toList.take d++c.toList.reverse):=by
 unfold hFb;rw[iN,iN,bQ,bQ,yn,cx]
def rX{d f:Nat}{c:Array bp}(m:MM lb a b d f c)(e:d=0):Res lb a.toList b.toList (hDn a b d f c).toList:=by
 subst e;rw[kAW];exact⟨by simpa using m.sb,m.pm⟩
def kSM{f d:Nat}{c:Array bp}(m:MM lb a b f d c)(e:d=0):Res lb a.toList b.toList (hDn a b f d c).toList:=by
 subst e;rw[kAW];exact⟨by simpa using m.sa,m.pm⟩
def rW(H:Hz M A E s lb D kd a b){h g:Nat}{c:Array bp}(m:MM lb a b h g c)(e:g=1)(i:0<b.size):Res lb a.toList b.toList (hFb a b h g c).toList:=by
 subst e;rw[kMG];have t:b.toList.take 1=[b[0]]:=by rw[fP (by decide) i];simp
 have d:=m.sb;rw[t]at d ⊢;refine⟨?_,?_⟩
 ·refine eA.mpr ⟨kl _ _,m.sa,λ x l y j=>?_⟩
  have:x=b[0]:=by simpa using l
  subst this;rcases cf.mp j with z | z
  ·exact H.first i y (qh z)
  ·exact(eA.mp d).2.2 _ (by simp) y z
 ·have f:=m.pm
  rw[t]at f;refine ur ?_ f;rw[<-cx,<-cx];exact xj _ ko
def kJV(H:Hz M A E s lb D kd a b){f g:Nat}{d:Array bp}(m:MM lb a b f g d)(h:0<f)(i:f<=a.size)(c:∀ x∈b.toList.take g,le lb x (a[f-1]'(by omega))):MM lb a b (f-1) g (d.push (a[f-1]'(by omega))):=by
 have m:Mh lb a.toList b.toList d.toList.reverse (a.toList.take f) (b.toList.take g):=m;rw[fP h i]at m;show Mh lb _ _ (d.push _).toList.reverse _ _;rw[ve,yo];refine m.moveA λ x l y j=>?_;have:y=a[f-1]'(by omega):=by simpa using j
 rw[this];exact c x l
def kPR(H:Hz M A E s lb D kd a b){g f:Nat}{d:Array bp}(m:MM lb a b g f d)(h:0<f)(i:f<=b.size)(c:∀ x∈a.toList.take g,le lb x (b[f-1]'(by omega))):MM lb a b g (f-1) (d.push (b[f-1]'(by omega))):=by
 have m:Mh lb a.toList b.toList d.toList.reverse (a.toList.take g) (b.toList.take f):=m;rw[fP h i]at m;show Mh lb _ _ (d.push _).toList.reverse _ _;rw[ve,yo];refine m.moveB λ x l y j=>?_;have:y=b[f-1]'(by omega):=by simpa using j
 rw[this];exact c x l
def kUK{f g p:Nat}{d:Array bp}(m:MM lb a b f g d)(hp:p<=f)(c:∀ x∈b.toList.take g,∀ y∈(a.extract p f).toList,le lb x y):MM lb a b p g (d++(a.extract p f).reverse):=by
 have m:Mh lb a.toList b.toList d.toList.reverse (a.toList.take f) (b.toList.take g):=m;rw[kCC a hp]at m;show Mh lb _ _ (d++_).toList.reverse _ _;rw[iN,yn,yo,Cv];exact m.moveA c
def kUJ{g f p:Nat}{d:Array bp}(m:MM lb a b g f d)(hp:p<=f)(c:∀ x∈a.toList.take g,∀ y∈(b.extract p f).toList,le lb x y):MM lb a b g p (d++(b.extract p f).reverse):=by
 have m:Mh lb a.toList b.toList d.toList.reverse (a.toList.take g) (b.toList.take f):=m;rw[kCC b hp]at m;show Mh lb _ _ (d++_).toList.reverse _ _;rw[iN,yn,yo,Cv];exact m.moveB c
def kGV(W:Wk lb){a:Array bp}(b:jB lb a.toList){n:Nat}{y:bp}(h:0<n)(i:n<=a.size)(c:le lb (a[n-1]'(by omega)) y):∀ x∈a.toList.take n,le lb x y:=λ x d=>by
 obtain⟨j,g,f,rfl⟩:=bC d;exact W.trans (zZ W b (show j<=n-1 by omega) (by omega)) c
def kQN(H:Hz M A E s lb D kd a b){st:eV}(p:kindOf st=kd){d:Array bp}{f g u v mg:Nat}(h:MH lb a b f g d){Q:ForInStep KS1->eV->Prop}
  (q:∀ r,TT lb a b (d.size+1) r->Q r st):wpS M A E s (h1 a b mg (none,f,g,d,u,v)) Q st:=by
 obtain⟨m,n,l,o,j,sz⟩:=h;unfold h1;dsimp only;refine cj (qE (getElem?_pos b (g-1) (by omega)) ?_);refine cj (qE (getElem?_pos a (f-1) (by omega)) ?_);refine cj (H.L _ _ (H.db _ (by simp)) (H.da _ (by simp)) st _ p ?_)
 cases e:lb (b[g-1]'(by omega)) (a[f-1]'(by omega))
 case true =>
  simp only[if_true];refine cj (qE (getElem?_pos a (f-1) (by omega)) ?_);have i:=kJV H m n l (kGV H.W H.sb (by omega) j (H.W.of_lt e));by_cases c:f-1=0
  ·rw[if_pos (by simpa using c)]
   exact dj (q _ (.inl ⟨_,rfl,rX i c⟩))
  ·rw[if_neg (by simpa using c)]
   have z:Zd lb a b (d.size+1) (none,f-1,g,d.push (a[f-1]'(by omega)),(u+1,0)):=⟨rfl,⟨i,by show 0<f-1;omega,by show f-1<=a.size;omega,o,j,by show(d.push _).size+(f-1)+g=_;rw[ja];omega⟩,by show d.size+1<=(d.push _).size;rw[ja];omega⟩
   split
   ·exact dj (q _ (.inr z))
   ·exact dj (q _ z)
 case false =>
  simp only[eP,if_false];refine cj (qE (getElem?_pos b (g-1) (by omega)) ?_);have i:=kPR H m (by omega) j (kGV H.W H.sa n l e);by_cases c:g-1=1
  ·rw[if_pos (by simpa using c)]
   exact dj (q _ (.inl ⟨_,rfl,rW H i c (by omega)⟩))
  ·rw[if_neg (by simpa using c)]
   have z:Zd lb a b (d.size+1) (none,f,g-1,d.push (b[g-1]'(by omega)),(0,v+1)):=⟨rfl,⟨i,n,l,by show 1<g-1;omega,by show g-1<=b.size;omega,by show(d.push _).size+f+(g-1)=_;rw[ja];omega⟩,by show d.size+1<=(d.push _).size;rw[ja];omega⟩
   split
   ·exact dj (q _ (.inr z))
   ·exact dj (q _ z)
def kIZ(H:Hz M A E s lb D kd a b){st:eV}{d:Array bp}{f h g k j n:Nat}(m:MM lb a b f h d)(p:0<f)(o:f<=a.size)(u:1<h)(l:h<=b.size)(sz:d.size+f+h=a.size+b.size)(v:n<=d.size+1)
  (c:∀ x∈b.toList.take h,le lb x (a[f-1]'(by omega))) {Q:ForInStep KS->eV->Prop} (q:∀ r,TT lb a b n r->Q r st):wpS M A E s (hC a b f h d g k j) Q st:=by
 unfold hC;refine cj (qE (getElem?_pos a (f-1) (by omega)) ?_);have i:=kJV H m p o c;by_cases e:f-1=0
 ·rw[if_pos (by simpa using e)]
  exact dj (q _ (.inl ⟨_,rfl,rX i e⟩))
 ·rw[if_neg (by simpa using e)]
  have z:Zd lb a b n (none,f-1,h,d.push (a[f-1]'(by omega)),(g,k,j)):=⟨rfl,⟨i,by show 0<f-1;omega,by show f-1<=a.size;omega,u,l,by show(d.push _).size+(f-1)+h=_;rw[ja];omega⟩,by show n<=(d.push _).size;rw[ja];omega⟩
  split
  ·exact dj (q _ (.inr z))
  ·exact dj (q _ z)
def kJA(H:Hz M A E s lb D kd a b){st:eV}(hk:kindOf st=kd){d:Array bp}{l f g k ob n:Nat}(h:MH lb a b l f d)(hn:n<=d.size+1)
  (c:∀(ha:l-1<a.size)(hb:f-1<b.size),le lb a[l-1] b[f-1]) {Q:ForInStep KS->eV->Prop} (q:∀ r,TT lb a b n r->Q r st):wpS M A E s (hB a b l f d g k ob) Q st:=by
 obtain⟨m,u,o,b1,Z,sz⟩:=h;unfold hB;refine cj (qE (getElem?_pos b (f-1) (by omega)) ?_);have B:=kPR H m (by omega) Z (kGV H.W H.sa u o (c (by omega) (by omega)));have I:(d.push (b[f-1]'(by omega))).size+l+(f-1)=a.size+b.size:=by rw[ja];omega
 have gr:d.size+1=(d.push (b[f-1]'(by omega))).size:=by rw[ja]
 by_cases e:f-1=1
 ·rw[if_pos (by simpa using e)]
  exact dj (q _ (.inl ⟨_,rfl,rW H B e (by omega)⟩))
 ·rw[if_neg (by simpa using e)]
  refine cj (qE (getElem?_pos a (l-1) (by omega)) ?_);refine cj (uO H.W H.L hk (H.da _ (by simp)) H.db (by omega) (λ i j hi S=>zZ H.W H.sb (by omega) (by omega)) (by omega) λ p kn O T=>?_);simp only[if_true,AQ]at O T
  have rest:∀ x∈b.toList.take p,le lb x (a[l-1]'(by omega)):=λ x G=>by
   obtain⟨j,S,jp,rfl⟩:=bC G;exact H.W.of_lt (O j jp (by omega))
  dsimp only;by_cases U:f-1-p>0
  ·rw[if_pos U]
   have N:=kUJ (p:=p) B (by omega) λ x G y hy=>by
    obtain⟨j,S,Y,jn,rfl⟩:=qX hy;exact kGV H.W H.sa u o (T j Y jn) x G
   have J:(d.push (b[f-1]'(by omega))++(b.extract p (f-1)).reverse).size+l+p=a.size+b.size:=by
    rw[yi,DP,km];omega
   by_cases v:p=1
   ·rw[if_pos (by simpa using v)]
    exact dj (q _ (.inl ⟨_,rfl,rW H N v (by omega)⟩))
   ·rw[if_neg (by simpa using v)]
    by_cases C:p=0
    ·rw[if_pos (by simpa using C)]
     exact dj (q _ (.inl ⟨_,rfl,kSM N C⟩))
    ·rw[if_neg (by simpa using C)]
     exact kIZ H N u o (by omega) (by omega) J (by omega) rest q
  ·rw[if_neg U]
   have X:p=f-1:=by omega
   rw[X]at rest;exact kIZ H B u o (by omega) (by omega) I (by omega) rest q
def kQM(H:Hz M A E s lb D kd a b){st:eV}(o:kindOf st=kd){c:Array bp}{d f g Y ob n:Nat}(h:MH lb a b d f c)(J:n<=c.size+1){Q:ForInStep KS->eV->Prop}
  (q:∀ r,TT lb a b n r->Q r (wB st g)):wpS M A E s (hA a b d f c g Y ob) Q st:=by
 obtain⟨m,a1,a2,S,B,sz⟩:=id h;unfold hA;rw[setMinGallop'_eq];refine cj (oy ?_);refine cj (qE (getElem?_pos b (f-1) (by omega)) ?_);refine cj (uO (st:=wB st g) H.W H.L o (H.db _ (by simp)) H.da (by omega) (λ i j hi O=>zZ H.W H.sa (by omega) (by omega)) (by omega) λ p kn l C=>?_);simp only[eP,if_false,AQ]at l C;dsimp only;by_cases G:d-p>0
 ·rw[if_pos G]
  have I:=kUK (p:=p) m (by omega) λ x X y U=>by
   obtain⟨j,O,N,T,rfl⟩:=qX U;exact kGV H.W H.sb (by omega) B (H.W.of_lt (C j N T)) x X
  have u:(c++(a.extract p d).reverse).size+p+f=a.size+b.size:=by
   rw[yi,DP,km];omega
  by_cases v:p=0
  ·rw[if_pos (by simpa using v)]
   exact dj (q _ (.inl ⟨_,rfl,rX I v⟩))
  ·rw[if_neg (by simpa using v)]
   exact kJA (st:=wB st g) H o ⟨I,by omega,by omega,S,B,u⟩ (by omega) (λ _ _=>l (p-1) (by omega) (by omega)) q
 ·rw[if_neg G]
  have Z:p=d:=by omega
  exact kJA (st:=wB st g) H o h J (λ _ _=>l (d-1) (by omega) (by omega)) q
def kQO(H:Hz M A E s lb D kd a b){st:eV}(N:kindOf st=kd){l:Array bp}{O L g:Nat}(h:MH lb a b O L l){Q:ForInStep KS0->eV->Prop}
  (S:∀ r c st',Sm st st'->Res lb a.toList b.toList r.toList->Q (.done (some r,c)) st') (T:∀ c st',Sm st st'->Zd lb a b (l.size+1) c->Q (.yield c) st'):wpS M A E s (h0 a b (none,O,L,l,g)) Q st:=by
 unfold h0;dsimp only;have U:0<a.size+b.size:=by have:=h.2.2.1;have:=h.2.1;omega
 refine cj (uz (jv (I:=λ x d st'=>st'=st/\Zd lb a b (l.size+x) d) (Q:=λ d st'=>st'=st/\En lb a b (l.size+1) d) ?step ?fin ⟨rfl,rfl,h,be _⟩) ?post)
 case fin =>
  rintro d st' ⟨rfl,y⟩;exact⟨rfl,.inr (y.mono (by omega))⟩
 case step =>
  rintro x ⟨r,i,j,o,u,v⟩ st' _ _ ⟨rfl,e,J,le⟩
  cases(show r=none from e)
  have le:l.size+x<=o.size:=le;refine kQN H N J λ r C=>?_
  cases r with
  | done c=>exact⟨rfl,En.mono C (by omega)⟩
  | yield c=>exact⟨rfl,Zd.mono C (by omega)⟩
 case post =>
  rintro⟨r,i,j,o,u,v⟩ st' ⟨rfl,B⟩
  cases r with
  | some r =>
   dsimp only;rcases B with⟨G,e,p⟩ | ⟨e,_⟩
   ·cases e
    exact dj (S _ _ _ (Sm.refl _) p)
   ·cases e
  | none =>
   dsimp only
   have y:Zd lb a b (l.size+1) (none,i,j,o,(u,v)):=by
    rcases B with⟨G,e,p⟩ | y
    ·cases e
    ·exact y
   refine cj (wF ?_);refine cj (uz (jv (I:=λ x f m=>Sm st' m/\Zd lb a b (l.size+1) f) (Q:=λ f m=>Sm st' m/\En lb a b (l.size+1) f) ?step2 ?fin2 ⟨Sm.refl _,y⟩) ?post2)
   case fin2 =>
    rintro f m ⟨q,y⟩;exact⟨q,.inr y⟩
   case step2 =>
    rintro x ⟨r,i,j,o,X,u,v⟩ m _ _ ⟨q,e,J,le⟩
    cases(show r=none from e)
    have le:l.size+1<=o.size:=le;dsimp only
    split
    all_goals
     refine kQM (n:=l.size+1) H (q.1.trans N) J (by omega) λ r C=>?_
     cases r with
     | done c=>exact⟨q.gal _,C⟩
     | yield c=>exact⟨q.gal _,C⟩
   case post2 =>
    rintro⟨r,i,j,o,X,u,v⟩ m ⟨q,B⟩
    cases r with
    | some r =>
     dsimp only;rcases B with⟨G,e,p⟩ | ⟨e,_⟩
     ·cases e
      exact dj (S _ _ _ q p)
     ·cases e
    | none =>
     dsimp only;rcases B with⟨G,e,p⟩ | y
     ·cases e
     ·rw[setMinGallop'_eq]
      exact cj (oy (dj (T _ _ (q.gal _) y)))
def sW(H:Hz M A E s lb D kd a b){st:eV}(C:kindOf st=kd)(G:0<a.size)(u:0<b.size)(last:le lb (b[b.size-1]'(by omega)) (a[a.size-1]'(by omega))){Q:Array bp->eV->Prop}
  (q:∀ r st',Sm st st'->Res lb a.toList b.toList r.toList->Q r st'):wpS M A E s (lG a b) Q st:=by
 rw[mergeHi'_parts];refine cj (wF ?_);refine cj (qE (getElem?_pos a (a.size-1) (by omega)) ?_);have J:a.toList.take a.size=a.toList:=jh (by simp);have N:b.toList.take b.size=b.toList:=jh (by simp)
 have B:MM lb a b a.size b.size #[]:=by
  show Mh lb _ _ (#[]:Array bp).toList.reverse _ _;rw[J,N];exact⟨by simpa using H.sa,by simpa using H.sb,by simp⟩
 have l:MM lb a b (a.size-1) b.size #[a[a.size-1]'(by omega)]:=kJV H B G (be _) (kGV H.W H.sb u (be _) last);by_cases p:a.size-1=0
 ·rw[if_pos (by simpa using p)]
  exact dj (q _ _ (Sm.refl _) (rX l p))
 rw[if_neg (by simpa using p)];by_cases n:b.size=1
 ·rw[if_pos (by simpa using n)]
  exact dj (q _ _ (Sm.refl _) (rW H l n u))
 rw[if_neg (by simpa using n)];refine cj (zy ?_);refine cj (uz (jv (I:=λ x c st'=>Sm st st'/\Zd lb a b (1+x) c) (Q:=λ c st'=>Sm st st'/\∃ r,c.1=some r/\Res lb a.toList b.toList r.toList) ?step ?fin ⟨Sm.refl _,rfl,⟨l,by show 0<a.size-1;omega,by show a.size-1<=a.size;omega,by show 1<b.size;omega,be _,by show 1+(a.size-1)+b.size=_;omega⟩,be _⟩) ?post)
 case post =>
  rintro⟨r,c⟩ st' ⟨f,U,e,h⟩;cases e
  exact dj (q _ _ f h)
 case fin =>
  rintro⟨r,i,j,o,g⟩ st' ⟨f,e,⟨_,h1,S,O,T,v⟩,le⟩;have v:o.size+i+j=a.size+b.size:=v;have le:1+max 0 (a.size+b.size)<=o.size:=le;omega
 case step =>
  rintro x ⟨r,i,j,o,g⟩ st' _ _ ⟨f,e,L,le⟩
  cases(show r=none from e)
  have le:1+x<=o.size:=le;exact kQO H (f.1.trans C) L (λ r c m d h=>⟨⟨d.1.trans f.1,d.2.1.trans f.2.1,d.2.2.1.trans f.2.2.1,d.2.2.2.trans f.2.2.2⟩,r,rfl,h⟩) λ c m d y=>⟨⟨d.1.trans f.1,d.2.1.trans f.2.1,d.2.2.1.trans f.2.2.1,d.2.2.2.trans f.2.2.2⟩,y.mono (by omega)⟩
end
section
variable {α:Type} {lb:α->α->Bool}
def kHF(l:List α)(i:Nat)(x:α)(h:i<l.length):l.set i x=l.take i++x::l.drop (i+1):=by
 rw[List.set_eq_take_append_cons_drop,if_pos h]
theorem wr:∀(xs:List α)(k:Nat)(arr:Array α)(lo:Nat),lo+k+xs.length<=arr.size->((xs.zipIdx k).foldl (λ a (p:α×Nat)=>a.setIfInBounds (lo+p.2) p.1) arr).toList=arr.toList.take (lo+k)++(xs++arr.toList.drop (lo+k+xs.length))
 | [],k,arr,lo,h=>by simp
 | x::xs,k,arr,lo,h=>by
  rw[gn]at h;rw[yt,vy];have d:=wr xs (k+1) (arr.setIfInBounds (lo+k) x) lo (by rw[Bv];omega);rw[d,Bc,kHF _ _ _ (by simp;omega)];have e:(arr.toList.take (lo+k)).length=lo+k:=by simp;omega
  have b:(arr.toList.take (lo+k)++x::arr.toList.drop (lo+k+1)).take (lo+(k+1))=arr.toList.take (lo+k)++[x]:=by
   rw[CH,e,show lo+(k+1)-(lo+k)=1 by omega,jh (by rw[e];omega)]
   rfl
  have c:(arr.toList.take (lo+k)++x::arr.toList.drop (lo+k+1)).drop (lo+(k+1)+xs.length)=arr.toList.drop (lo+k+(x::xs).length):=by
   rw[Aj,e,nj (by rw[e];omega),kq,show lo+(k+1)+xs.length-(lo+k)=xs.length+1 by omega,List.drop_succ_cons,AU,gn]
   congr 1
   omega
  rw[b,c];simp
def kID(W:Wk lb){b d c a h:List α}(o:jB lb (b++d))(n:jB lb (c++a))(h1:∀ x∈b,∀ y∈c++a,le lb x y)(l:∀ x∈d,∀ y∈a,le lb x y)(r:Res lb d c h) :
  jB lb (b++(h++a))/\(b++(h++a)).Perm ((b++d)++(c++a)):=by
 have j:=eA.mp o;have i:=eA.mp n;have mem:∀ z∈h,z∈d\/z∈c:=λ z m=>cf.mp ((r.2.mem_iff).mp m);refine⟨eA.mpr ⟨j.1,eA.mpr ⟨r.1,i.2.1,λ x f y g=>?_⟩,λ x f y g=>?_⟩,?_⟩
 ·rcases mem x f with z | z
  ·exact l x z y g
  ·exact i.2.2 x z y g
 ·rcases cf.mp g with z | z
  ·rcases mem y z with w | w
   ·exact j.2.2 x f y w
   ·exact h1 x f y (cq _ w)
  ·exact h1 x f y (ck _ z)
 ·rw[cx]
  refine yd b ?_;rw[<-cx];exact r.2.append_right a
end
end Srt
local macro_rules | `(tactic| walk_at "sort_open mergeAt")=>`(tactic| delta $(Lean.mkIdent (Lean.mkPrivateNameCore `PySem.Builtin.List.W1All `PySem.Builtin.mergeAt)):ident)
namespace Srt
set_option autoImplicit false
open PySem PyProof.Rows
section
variable {M:zf} {A:gj} {E:ar->av->Prop} {s:av} {lb:bp->bp->Bool} {D:bp->Prop} {kd:oq} {arr:Array bp}
def kNI{st a:eV}{Q:PUnit->eV->Prop}(h:Q ⟨⟩ a):wpS M A E s (set a:StateT eV Sem PUnit) Q st:=by
 unfold wpS;rw[StateT.run_set];exact bj ⟨rfl,h⟩
def wQ{i m j:Nat}(h1:i<=m)(a:m<=j):(arr.extract i j).toList=(arr.extract i m).toList++(arr.extract m j).toList:=by
 rw[<-iN,Array.extract_append_extract,jw h1,Nat.max_eq_right a]
def kCH(W:Wk lb){lo n:Nat}(h:jB lb (arr.extract lo (lo+n)).toList)(b:lo+n<=arr.size)(i j:Nat)(hi:i<=j)(a:j<n):le lb (arr[lo+i]'(by omega)) (arr[lo+j]'(by omega)):=by
 have:=zZ W h hi (show j<(arr.extract lo (lo+n)).size by rw[km];omega);simpa using this
def Joined(lb:bp->bp->Bool)(arr a:Array bp)(lo n:Nat):Prop:=∃ m:List bp,a.toList=arr.toList.take lo++(m++arr.toList.drop (lo+n))/\jB lb m/\m.Perm (arr.extract lo (lo+n)).toList
def vM{lo n:Nat}(h:lo+n<=arr.size):arr.toList=arr.toList.take lo++((arr.extract lo (lo+n)).toList++arr.toList.drop (lo+n)):=by
 rw[xJ,<-AU,iB,iB]
def sX(W:Wk lb)(hL:vP M A E s lb D kd){st:eV}(J:kindOf st=kd)(hf:va st=none)(dd:∀ x∈(dh st).toList,D x){i b d f pa pb:Nat}(hi:(df st)[i]?=some (b,d,pa))(H:(df st)[i+1]?=some (b+d,f,pb))
  (a4:0<d) (a5:0<f) (hn:b+d+f<=(dh st).size) (Z:jB lb ((dh st).extract b (b+d)).toList) (sy:jB lb ((dh st).extract (b+d) (b+d+f)).toList) {Q:Bool->eV->Prop}
  (q:∀ st',kindOf st'=kd->va st'=none->df st'=((df st).setIfInBounds i (b,d+f,pa)).eraseIdxIfInBounds (i+1)->Joined lb (dh st) (dh st') b (d+f)->Q true st'):wpS M A E s (mergeAt' i) Q st:=by
 unfold mergeAt'
 walk_at "sort_open mergeAt"
 dsimp only;refine cj (zy ?_);rw[hi,H];dsimp only;refine cj (kNI ?_);generalize hP:((df st).setIfInBounds i (b,d+f,pa)).eraseIdxIfInBounds (i+1)=U at *;have dx:∀{j:Nat}(h:j<(dh st).size),D (dh st)[j]:=λ h=>dd _ (by simp);have z1:b+d<(dh st).size:=by omega
 have z2:b+d-1<(dh st).size:=by omega
 have z3:b+d<=(dh st).size:=by omega
 refine cj (qE (arr:=dh st) (getElem?_pos (dh st) (b+d) z1) ?_);refine cj (uO (arr:=dh st) (st:=setPending st U) W hL J (dx z1) dd z3 (kCH (arr:=dh st) W Z z3) a4 λ k kn g1 g2=>?_);simp only[eP,if_false]at g1 g2;dsimp only;have O:=wQ (arr:=dh st) (i:=b) (m:=b+k) (j:=b+d) (by omega) (by omega);have I:=wQ (arr:=dh st) (i:=b) (m:=b+d) (j:=b+d+f) (by omega) (by omega);have iy:=kCH W sy (by omega);have ix:=kCH W Z (by omega);have same:∀{X:List bp},X=((dh st).extract b (b+(d+f))).toList->jB lb X->Joined lb (dh st) (dh st) b (d+f):=λ{X} e h=>⟨X,by rw[e];exact vM (by omega),h,by rw[e]⟩
 have low:∀ x∈((dh st).extract b (b+k)).toList,∀ y∈((dh st).extract (b+d) (b+d+f)).toList,le lb x y:=λ x C y g=>by
  obtain⟨j,H,S,N,rfl⟩:=qX C;obtain⟨j',a8,a7,a6,rfl⟩:=qX g;have n:=g1 (j-b) (by omega) (by omega);have e2:=iy 0 (j'-(b+d)) (by omega) (by omega);simp only[show b+(j-b)=j by omega,show b+d+(j'-(b+d))=j' by omega,Dq]at n e2;exact W.trans n e2
 by_cases e:d-k=0
 ·rw[if_pos (by simpa using e)]
  have ek:b+k=b+d:=by omega
  rw[ek]at low;exact dj (q _ J hf rfl (same (by rw[<-xw];exact I.symm) (eA.mpr ⟨Z,sy,low⟩)))
 rw[if_neg (by simpa using e)];have eL:b+k+(d-k)-1=b+d-1:=by omega
 rw[eL];refine cj (qE (arr:=dh st) (getElem?_pos (dh st) (b+d-1) z2) ?_);refine cj (uO (arr:=dh st) (st:=setPending st U) W hL J (dx z2) dd hn iy (by omega) λ p pn f1 f2=>?_);simp only[if_true]at f1 f2;dsimp only
 have l:∀ x∈((dh st).extract b (b+d)).toList,le lb x ((dh st)[b+d-1]'(by omega)):=λ x C=>by
  obtain⟨j,H,S,N,rfl⟩:=qX C;have n:=ix (j-b) (d-1) (by omega) (by omega);simp only[show b+(j-b)=j by omega,show b+(d-1)=b+d-1 by omega]at n;exact n
 have high:∀ y∈((dh st).extract (b+d+p) (b+d+f)).toList,le lb ((dh st)[b+d-1]'(by omega)) y:=λ y g=>by
  obtain⟨j,H,S,N,rfl⟩:=qX g;have n:=f2 (j-(b+d)) (by omega) (by omega);simp only[show b+d+(j-(b+d))=j by omega]at n;exact n
 by_cases e0:p=0
 ·rw[if_pos (by simpa using e0)]
  rw[e0,Dq]at high;exact dj (q _ J hf rfl (same (by rw[<-xw];exact I.symm) (eA.mpr ⟨Z,sy,λ x C y g=>W.trans (l x C) (high y g)⟩)))
 rw[if_neg (by simpa using e0)];have L:=wQ (arr:=dh st) (i:=b+d) (m:=b+d+p) (j:=b+d+f) (by omega) (by omega);have B:=Z;rw[O]at B;have G:=sy;rw[L]at G
 have mx:∀{u v:Nat},∀ x∈((dh st).extract u v).toList,D x:=λ x C=>by
  obtain⟨j,H,_,_,rfl⟩:=qX C;exact dx H
 have a3:((dh st).extract (b+k) (b+d)).size=d-k:=by rw[km];omega
 have a1:((dh st).extract (b+d) (b+d+p)).size=p:=by rw[km];omega
 have x0:∀(h:0<((dh st).extract (b+k) (b+d)).size),((dh st).extract (b+k) (b+d))[0]=(dh st)[b+k]'(by omega):=λ h=>by simp
 have xl:∀(h:0<((dh st).extract (b+k) (b+d)).size),((dh st).extract (b+k) (b+d))[((dh st).extract (b+k) (b+d)).size-1]'(by omega)=(dh st)[b+d-1]'(by omega):=λ h=>by
  rw[Array.getElem_extract]
  congr 1
  omega
 have y0:∀(h:0<((dh st).extract (b+d) (b+d+p)).size),((dh st).extract (b+d) (b+d+p))[0]=(dh st)[b+d]'(by omega):=λ h=>by simp
 have below:∀ y∈((dh st).extract (b+d) (b+d+p)).toList,le lb y ((dh st)[b+d-1]'(by omega)):=λ y g=>by
  obtain⟨j,H,S,N,rfl⟩:=qX g;have n:=f1 (j-(b+d)) (by omega) (by omega);simp only[show b+d+(j-(b+d))=j by omega]at n;exact W.of_lt n
 have o:∀ y∈((dh st).extract (b+k) (b+d)).toList,le lb ((dh st)[b+d]'(by omega)) y:=λ y g=>by
  obtain⟨j,H,S,N,rfl⟩:=qX g;have n:=g2 (j-b) (by omega) (by omega);simp only[show b+(j-b)=j by omega]at n;exact W.of_lt n
 have Y:∀(r:Array bp)(st':eV),Sm (setPending st U) st'->Res lb ((dh st).extract (b+k) (b+d)).toList ((dh st).extract (b+d) (b+d+p)).toList r.toList ->
   wpS M A E s (do modify λ s=>setArr s (r.toList.zipIdx.foldl (λ a (p,j)=>a.setIfInBounds (b+k+j) p) (dh s));let __do_lift <-get;pure (va __do_lift).isNone) Q st':=λ r st' sm T=>by
  refine cj (oy (cj (zy ?_)));have ef:va st'=none:=sm.2.2.2.trans hf;have ea:dh st'=dh st:=sm.2.1;refine dj ?_;show Q (va st').isNone _;rw[ef];refine q _ (sm.1.trans J) ef sm.2.2.1 ?_;show Joined lb (dh st) (r.toList.zipIdx.foldl (λ a (p:bp×Nat)=>a.setIfInBounds (b+k+p.2) p.1) (dh st')) b (d+f);rw[ea];obtain⟨S,N⟩:=kID W B G (by rw[<-L];exact low) (λ x C y g=>W.trans (l x (by rw[O];exact ck _ C)) (high y g)) T;rw[<-O,<-L,<-I]at N;refine⟨_,?_,S,by rw[<-xw];exact N⟩
  have len:r.toList.length=d-k+p:=by
   have:=T.2.length_eq;rw[bq]at this;simp only[iK,a3,a1]at this;simpa using this
  rw[wr r.toList 0 (dh st) (b+k) (by rw[len];omega),len];have t1:(dh st).toList.take (b+k+0)=(dh st).toList.take b++((dh st).extract b (b+k)).toList:=kCC (dh st) (by omega)
  have t2:(dh st).toList.drop (b+k+0+(d-k+p))=((dh st).extract (b+d+p) (b+d+f)).toList++(dh st).toList.drop (b+(d+f)):=by
   rw[show b+k+0+(d-k+p)=b+d+p by omega,show b+d+f=b+d+p+(f-p) by omega,xJ,show b+(d+f)=b+d+p+(f-p) by omega];exact kDN _ _ _
  rw[t1,t2];simp only[cx]
 have a2:(dh st)[b+k]'(by omega)∈((dh st).extract (b+k) (b+d)).toList:=by
  rw[<-x0 (by omega),uu];exact Bp _
 have a0:((dh st).extract (b+d) (b+d+p))[((dh st).extract (b+d) (b+d+p)).size-1]'(by omega)∈((dh st).extract (b+d) (b+d+p)).toList:=by
  rw[uu];exact Bp _
 by_cases c:d-k<=p
 ·rw[if_pos c]
  refine cj ?_;exact sV (st:=setPending st U) ⟨W,hL,mx,mx,(eA.mp B).2.1,(eA.mp G).1,λ h y g=>by rw[xl h];exact below y g⟩ J (by omega) (by omega) (by rw[x0 (by omega),y0 (by omega)];exact o _ a2) Y
 ·rw[if_neg c]
  refine cj ?_;exact sW (st:=setPending st U) ⟨W,hL,mx,mx,(eA.mp B).2.1,(eA.mp G).1,λ h y g=>by rw[y0 h];exact o y g⟩ J (by omega) (by omega) (by rw[xl (by omega)];exact below _ a0) Y
end
def pU{α:Type}{R:α->α->Prop}:∀{l:List α},l.length<=1->l.Pairwise R
 | [],_=>Bo
 | [_],_=>kl _ _
set_option autoImplicit false
open PySem PyProof.Rows
section
variable {α:Type}
def kJU(arr:Array α){Q R:List α}{y x:α}(h:arr.toList=Q++y::x::R):(arr.swapIfInBounds (Q.length+1) Q.length).toList=Q++x::y::R:=by
 have sz:arr.size=Q.length+(R.length+2):=by
  have:=congrArg jr h;simpa using this
 have g:∀ k,arr[k]?=(Q++y::x::R)[k]?:=λ k=>by rw[<-h,oh]
 refine Dr λ k=>?_;have e:=getElem?_swapIB (xs:=arr) (i:=Q.length+1) (j:=Q.length) (by omega) (by omega) k;rw[show(arr.swapIfInBounds (Q.length+1) Q.length).toList[k]?=(arr.swapIfInBounds (Q.length+1) Q.length)[k]? by simp,e,g,g,g];rcases iH k Q.length with c | c
 ·rw[if_neg (by omega),if_neg (by omega),az c,az c]
 ·obtain⟨j,rfl⟩ : ∃ j,k=Q.length+j:=⟨k-Q.length,by omega⟩
  rw[bf (by omega),bf (by omega),bf (by omega),bf (by omega)];rw[show Q.length+j-Q.length=j by omega,show Q.length+1-Q.length=1 by omega,CW]
  match j with
  | 0=>simp
  | 1=>simp
  | j+2 =>
   rw[if_neg (by omega),if_neg (by omega)];simp
theorem dM:∀(b a T:List α)(x:α)(arr:Array α),arr.toList=a++(b++x::T)->(bubble arr (a.length+b.length) b.length).toList=a++(x::(b++T))
 | [],a,T,x,arr,h=>h
 | y::b,a,T,x,arr,h=>by
  have c:=dM b (a++[y]) T x arr (by rw[h];simp);rw[gn,bubble_succ];rw[bq,fk,show a.length+1+b.length=a.length+(b.length+1) by omega]at c;have e:=kJU (bubble arr (a.length+(b.length+1)) b.length) (Q:=a) (y:=y) (x:=x) (R:=b++T) (by rw[c];simp);rw[show a.length+(b.length+1)-b.length=a.length+1 by omega,show a.length+1-1=a.length by omega];rw[e];simp
end
section
variable {M:zf} {A:gj} {E:ar->av->Prop} {s:av} {lb:bp->bp->Bool} {D:bp->Prop} {kd:oq}
def aO(a:vP M A E s lb D kd){st:eV}(c:kindOf st=kd){i j:Nat}{x y:bp}(g:(dh st)[i]?=some x)(f:(dh st)[j]?=some y)(d:D x)(b:D y){Q:Option Bool->eV->Prop}(q:Q (some (lb x y)) st):wpS M A E s (ltAt' i j) Q st:=by
 rw[ltAt'_eq];refine cj (zy ?_);exact cj (qE g (cj (qE f (a _ _ d b st _ c q))))
def Sa(st a:eV):Prop:=kindOf a=kindOf st/\df a=df st/\va a=va st
def kPA(W:Wk lb){b c:List bp}{x:bp}(h:jB lb (b++c))(h1:∀ y∈b,le lb y x)(f:∀ y∈c,le lb x y):jB lb (b++x::c):=by
 have a:=eA.mp h;refine eA.mpr ⟨a.1,xx.mpr ⟨f,a.2.1⟩,λ y d z g=>?_⟩;rcases dr.mp g with rfl | w
 ·exact h1 y d
 ·exact a.2.2 y d z w
def kBW(W:Wk lb)(Y:vP M A E s lb D kd){st:eV}(hk:kindOf st=kd)(O:∀ x∈(dh st).toList,D x){lo n ok:Nat}(a0:ok<=n)(hn:lo+n<=(dh st).size)(hs:jB lb ((dh st).extract lo (lo+ok)).toList){Q:Bool->eV->Prop}
  (q:∀ st',Sa st st'->Joined lb (dh st) (dh st') lo n->Q true st'):wpS M A E s (binarySort' lo n ok) Q st:=by
 rw[binarySort'_eq];refine cj (uz (jv (I:=λ k c st'=>c=(none,())/\Sa st st'/\Joined lb (dh st) (dh st') lo (min k n)) (Q:=λ c st'=>c=(none,())/\Sa st st'/\Joined lb (dh st) (dh st') lo n) ?step ?fin ?init) ?post)
 case post =>
  rintro c st' ⟨rfl,g,j⟩;exact dj (q st' g j)
 case fin =>
  rintro c st' ⟨rfl,g,j⟩;refine⟨rfl,g,?_⟩;rwa[show min (max (max ok 1) n) n=n by omega]at j
 case init =>
  refine⟨rfl,⟨rfl,rfl,rfl⟩,_,vM (by omega),?_,AR _⟩;by_cases o:ok=0
  ·have:((dh st).extract lo (lo+min (max ok 1) n)).toList.length<=1:=by
    rw[iK,km];omega
   generalize((dh st).extract lo (lo+min (max ok 1) n)).toList=l at *;exact pU this
  ·rwa[show min (max ok 1) n=ok by omega]
 case step =>
  rintro k c st' _ X ⟨rfl,g,m,e,L,B⟩;rw[show min k n=k by omega]at e B;have S:m.length=k:=by rw[B.length_eq,iK,km];omega
  have lp:((dh st).toList.take lo).length=lo:=by simp;omega
  have N:lo+k<(dh st).size:=by omega
  rw[drop_one N]at e
  have ax:(dh st')[lo+k]?=some ((dh st)[lo+k]):=by
   rw[<-oh,e,bf (by omega),lp,bf (by omega),S,show lo+k-lo-k=0 by omega]
   rfl
  have Z:∀ j (h:j<m.length),(dh st')[lo+j]?=some m[j]:=λ j h=>by
   rw[<-oh,e,bf (by omega),lp,az (by omega),show lo+j-lo=j by omega];exact aa h
  have dx:D (dh st)[lo+k]:=O _ (by simp)
  have U:∀ j (h:j<m.length),D m[j]:=λ j h=>by
   obtain⟨i,f,_,_,ei⟩:=qX (B.mem_iff.mp (iY h));rw[ei];exact O _ (by simp)
  have mono:∀ i j (h:i<=j) (J:j<m.length),le lb (m[i]'(by omega)) m[j]:=λ i j h J=>by
   by_cases z:i=j
   ·subst z;exact W.refl _
   ·exact lj.mp L i j (by omega) J (by omega)
  refine cj (uz (jv (I:=λ x c a=>a=st'/\∃ l r,c=(none,l,r)/\l<=r/\r<=k/\r-l<=k-x/\(∀ i (h:i<m.length),i<l->le lb m[i] (dh st)[lo+k])/\(∀ i (h:i<m.length),r<=i->le lb (dh st)[lo+k] m[i]))
   (Q:=λ c a=>a=st'/\∃ l r,c=(none,l,r)/\l<=k/\(∀ i (h:i<m.length),i<l->le lb m[i] (dh st)[lo+k])/\(∀ i (h:i<m.length),l<=i->le lb (dh st)[lo+k] m[i])) ?istep ?ifin ?iinit) ?ipost)
  case iinit=>exact⟨rfl,0,k,rfl,by omega,by omega,by omega,λ i _ f=>by omega,λ i h1 h2=>by omega⟩
  case ifin =>
   rintro c a ⟨rfl,l,r,rfl,lr,H,d,u,p⟩;have:l=r:=by omega
   subst this;exact⟨rfl,l,l,rfl,H,u,p⟩
  case istep =>
   rintro x c a _ _ ⟨rfl,l,r,rfl,lr,H,d,u,p⟩;dsimp only;by_cases v:l >= r
   ·rw[if_pos v]
    have:l=r:=by omega
    subst this;exact dj ⟨rfl,l,l,rfl,H,u,p⟩
   ·rw[if_neg v]
    have C:(l+r) / 2<m.length:=by omega
    refine cj (aO Y (g.1.trans hk) ax (Z _ C) dx (U _ C) ?_)
    cases z:lb (dh st)[lo+k] m[(l+r) / 2]
    case true =>
     simp only[if_true];exact dj ⟨rfl,l,_,rfl,by omega,by omega,by omega,u,λ i h f=>W.trans (W.of_lt z) (mono _ i f h)⟩
    case false =>
     simp only[eP,if_false];exact dj ⟨rfl,_,r,rfl,by omega,by omega,by omega,λ i h f=>W.trans (mono i _ (by omega) C) z,p⟩
  case ipost =>
   rintro c a ⟨rfl,l,r,rfl,lk,u,p⟩;show wpS _ _ _ _ (do moveDown' (lo+k) (lo+l);pure (jg (none,()))) _ _;rw[moveDown'_eq];refine cj (oy (dj ⟨rfl,g,?_⟩));rw[show min (k+1) n=k+1 by omega];show Joined lb (dh st) (bubble (dh a) (lo+k) (lo+k-(lo+l))) lo (k+1)
   have b:=dM (m.drop l) ((dh st).toList.take lo++m.take l) ((dh st).toList.drop (lo+k+1)) ((dh st)[lo+k]) (dh a) (by
    rw[e]
    conv=>lhs;rw[<-iB l m]
    simp only[cx,List.singleton_append])
   have l1:((dh st).toList.take lo++m.take l).length+(m.drop l).length=lo+k:=by
    rw[bq,lp,dc,iR];omega
   have T:(m.drop l).length=lo+k-(lo+l):=by rw[iR];omega
   rw[l1,T]at b;refine⟨m.take l++(dh st)[lo+k]::m.drop l,?_,kPA W (by rw[iB];exact L) (λ y G=>?_) (λ y G=>?_),?_⟩
   ·rw[b,<-xw]
    simp only[cx,iq]
   ·obtain⟨i,f,rfl⟩:=eY.mp G
    rw[dc]at f;rw[AV];exact u i (by omega) (by omega)
   ·obtain⟨i,f,rfl⟩:=eY.mp G
    rw[iR]at f;rw[Br];exact p _ (by omega) (by omega)
   ·refine ur CI ?_
    rw[iB,wQ (i:=lo) (m:=lo+k) (j:=lo+(k+1)) (by omega) (by omega)]
    have:((dh st).extract (lo+k) (lo+(k+1))).toList=[(dh st)[lo+k]]:=by
     rw[<-xw,xJ,drop_one N]
     rfl
    rw[this];exact(ko (l₁:=[(dh st)[lo+k]]) (l₂:=m)).trans (B.append_right _)
end
section
variable {α:Type}
def kAR(arr:Array α){P m T:List α}{i j:Nat}(h:arr.toList=P++(m++T))(hi:i=P.length)(b:j=P.length+m.length):(mirror arr i j ((j-i) / 2)).toList=P++(m.reverse++T):=by
 subst hi b
 have sz:arr.size=P.length+(m.length+T.length):=by
  have:=congrArg jr h;simpa using this
 have g:∀ k,arr[k]?=(P++(m++T))[k]?:=λ k=>by rw[<-h,oh]
 refine Dr λ k=>?_;rw[oh,getElem?_mirror_all (by omega),g,g];rcases iH k P.length with c | c
 ·rw[if_neg (by omega),az c,az c]
 ·rcases iH k (P.length+m.length) with a | a
  ·rw[if_pos ⟨c,a⟩,bf (by omega),bf c,az (by omega),az (by rw[BH];omega),List.getElem?_reverse (by omega)]
   congr 1
   omega
  ·rw[if_neg (by omega),bf c,bf c,bf (by omega),bf (by rw[BH];omega),BH]
end
section
variable {α:Type} {lb:α->α->Bool}
def Fal(lb:α->α->Bool)(l:List α):Prop:=l.Pairwise λ a b=>le lb b a
def Fal.rev{l:List α}(h:Fal lb l):jB lb l.reverse:=Ab.mpr h
def Fal.tail{u t:List α}(h:Fal lb (u++t))(e:jB lb t):Fal lb (u++t.reverse):=by
 have a:=eA.mp h;refine eA.mpr ⟨a.1,Ab.mpr e,λ x c y b=>a.2.2 x c y (yx.mp b)⟩
end
section
variable {M:zf} {A:gj} {E:ar->av->Prop} {s:av} {lb:bp->bp->Bool} {D:bp->Prop} {kd:oq}
structure Rn(arr0 arr:Array bp)(lo n:Nat)(m:List bp):Prop where
 eq:arr.toList=arr0.toList.take lo++(m++arr0.toList.drop (lo+n))
 pm:m.Perm (arr0.extract lo (lo+n)).toList
 hn:lo+n<=arr0.size
variable {arr0 arr:Array bp} {lo n:Nat} {m:List bp}
def Rn.len(h:Rn arr0 arr lo n m):m.length=n:=by
 have:=h.hn;rw[h.pm.length_eq,iK,km];omega
def Rn.joined(h:Rn arr0 arr lo n m)(a:jB lb m):Joined lb arr0 arr lo n:=⟨m,h.eq,a,h.pm⟩
def Rn.start(h:lo+n<=arr0.size):Rn arr0 arr0 lo n (arr0.extract lo (lo+n)).toList:=⟨vM h,AR _,h⟩
def Rn.lp(h:Rn arr0 arr lo n m):(arr0.toList.take lo).length=lo:=by have:=h.hn;simp;omega
def Rn.at(h:Rn arr0 arr lo n m){j:Nat}(a:j<m.length):arr[lo+j]?=some m[j]:=by
 rw[<-oh,h.eq,bf (by rw[h.lp];omega),h.lp,az (by omega),show lo+j-lo=j by omega];exact aa a
def Rn.next(h:Rn arr0 arr lo n m)(a:lo+n<arr0.size):arr[lo+n]?=some arr0[lo+n]:=by
 rw[<-oh,h.eq,bf (by rw[h.lp];omega),h.lp,bf (by rw[h.len];omega),h.len,drop_one a,show lo+n-lo-n=0 by omega]
 rfl
def Rn.more(h:Rn arr0 arr lo n m)(a:lo+n<arr0.size):Rn arr0 arr lo (n+1) (m++[arr0[lo+n]]):=by
 refine⟨?_,?_,by omega⟩
 ·rw[h.eq,drop_one a,cx]
  rfl
 ·rw[wQ (i:=lo) (m:=lo+n) (j:=lo+(n+1)) (by omega) (by omega)]
  have:(arr0.extract (lo+n) (lo+(n+1))).toList=[arr0[lo+n]]:=by
   rw[<-xw,xJ,drop_one a]
   rfl
  rw[this];exact h.pm.append_right _
def Rn.dom(h:Rn arr0 arr lo n m)(b:∀ x∈arr0.toList,D x):∀ x∈m,D x:=λ x c=>by
 obtain⟨i,d,_,_,a⟩:=qX (h.pm.mem_iff.mp c);rw[a];exact b _ (by simp)
def Rn.turn{u v t:List bp}(h:Rn arr0 arr lo n (u++(v++t))){i j:Nat}(hi:i=lo+u.length)(a:j=lo+u.length+v.length):Rn arr0 (mirror arr i j ((j-i) / 2)) lo n (u++(v.reverse++t)):=by
 have lp:=h.lp;refine⟨?_,ur (yd u (xj t (List.reverse_perm v))) h.pm,h.hn⟩;have e:=kAR arr (P:=arr0.toList.take lo++u) (m:=v) (T:=t++arr0.toList.drop (lo+n)) (i:=i) (j:=j) (by rw[h.eq];simp only[cx]) (by rw[bq,lp];exact hi) (by rw[bq,lp];exact a);rw[e];simp only[cx]
def kFL(W:Wk lb){m:List bp}{x:bp}(a:jB lb m)(h:m.length-1<m.length)(c:le lb m[m.length-1] x):jB lb (m++[x]):=by
 refine eA.mpr ⟨a,kl _ _,λ y d z b=>?_⟩;have:z=x:=by simpa using b
 subst this;obtain⟨i,f,rfl⟩:=eY.mp d;by_cases e:i=m.length-1
 ·subst e;exact c
 ·exact W.trans (lj.mp a i (m.length-1) f h (by omega)) c
abbrev AS:=Option (Option Nat)×Nat
def kDS(lo a b:Nat):StateT eV Sem AS :=
 forIn [a:b] ((none,a):AS) λ _ c=>do
  let r <-ltAt' (lo+c.2) (lo+c.2-1)
  match r with
  | some smaller=>if smaller=true then pure (yj (none,c.2)) else pure (jg (none,c.2+1))
  | _=>pure (yj (some none,c.2))
def sY(W:Wk lb)(p:vP M A E s lb D kd){st:eV}(u:kindOf st=kd)(o:∀ x∈arr0.toList,D x){a:Nat}(C:lo+a<=arr0.size)(G:1<=n)(r:n<=a)(h:Rn arr0 (dh st) lo n m)(v:jB lb m){Q:AS->eV->Prop}
  (q:∀ k m',n<=k->k<=a->Rn arr0 (dh st) lo k m'->jB lb m'->(k=a\/∃(h1:lo+k<arr0.size)(H:m'.length-1<m'.length),lb arr0[lo+k] m'[m'.length-1]=true)->Q (none,k) st):wpS M A E s (kDS lo n a) Q st:=by
 unfold kDS;refine jv (I:=λ x c f=>f=st/\c=(none,x)/\∃ m',Rn arr0 (dh st) lo x m'/\jB lb m') ?step ?fin ⟨rfl,rfl,m,h,v⟩
 case fin =>
  rintro c f ⟨rfl,rfl,m',d,b⟩;rw[show max n a=a by omega]at d ⊢;exact q a m' r (be _) d b (.inl rfl)
 case step =>
  rintro x c f j y ⟨rfl,rfl,m',d,b⟩;dsimp only;have B:=d.len;have i:lo+x<arr0.size:=by omega
  have g:m'.length-1<m'.length:=by omega
  have l:=d.at g;rw[show lo+(m'.length-1)=lo+x-1 by omega]at l;refine cj (aO p u (d.next i) l (o _ (by simp)) (d.dom o _ (iY g)) ?_)
  cases e:lb arr0[lo+x] m'[m'.length-1]
  case true =>
   simp only[if_true];exact dj (q x m' j (by omega) d b (.inr ⟨i,g,e⟩))
  case false =>
   simp only[eP,if_false];exact dj ⟨rfl,rfl,_,d.more i,kFL W b g e⟩
end
section
variable {M:zf} {A:gj} {E:ar->av->Prop} {s:av} {lb:bp->bp->Bool} {D:bp->Prop} {kd:oq}
variable {arr0 arr:Array bp} {lo n:Nat} {m:List bp}
abbrev DS:=Option (Option Nat)×Nat×Nat
def kBJ(lo n a:Nat):StateT eV Sem DS :=
 forIn [n:a] ((none,n,0):DS) λ _ c=>do
  let r <-ltAt' (lo+c.2.1) (lo+c.2.1-1)
  match r with
  | some smaller =>
   if smaller=true then
    if c.2.2>0 then do
     reverseSlice' (lo+c.2.1-(c.2.2+1)) (lo+c.2.1)
     pure (jg (none,c.2.1+1,0))
    else pure (jg (none,c.2.1+1,0))
   else do
    let r <-ltAt' (lo+c.2.1-1) (lo+c.2.1)
    match r with
    | some larger=>if larger=true then pure (yj (none,c.2.1,c.2.2)) else pure (jg (none,c.2.1+1,c.2.2+1))
    | _=>pure (yj (some none,c.2.1,c.2.2))
  | _=>pure (yj (some none,c.2.1,c.2.2))
structure Fl(lb:bp->bp->Bool)(arr0 arr:Array bp)(lo n neq:Nat)(u t:List bp)(z:bp):Prop where
 rn:Rn arr0 arr lo n (u++(t++[z]))
 fal:Fal lb (u++(t++[z]))
 srt:jB lb (t++[z])
 len:t.length=neq
def Fl.last{a:Nat}{u t:List bp}{z:bp}(h:Fl lb arr0 arr lo n a u t z)(b:0<n):arr[lo+n-1]?=some z:=by
 have l:=h.rn.len;rw[bq,bq,fk]at l;have:=h.rn.at (j:=n-1) (by rw[bq,bq,fk];omega);rw[show lo+(n-1)=lo+n-1 by omega]at this;rw[this,<-aa,bf (by omega),bf (by omega),show n-1-u.length-t.length=0 by omega]
 rfl
def Fl.low(W:Wk lb){a:Nat}{u t:List bp}{z x:bp}(h:Fl lb arr0 arr lo n a u t z)(c:le lb x z):∀ y∈u++(t++[z]),le lb x y:=λ y b=>by
 have f:=h.fal;rw[Fal,<-cx]at f;rw[<-cx]at b;rcases cf.mp b with w | w
 ·exact W.trans c ((eA.mp f).2.2 y w z (by simp))
 ·have:y=z:=by simpa using w
  rw[this];exact c
def bP{l:List bp}{x:bp}(h:Fal lb l)(c:∀ y∈l,le lb x y):Fal lb (l++[x]):=by
 refine eA.mpr ⟨h,kl _ _,λ y a w b=>?_⟩;have:w=x:=by simpa using b
 rw[this];exact c y a
def Fl.turned{a:Nat}{u t:List bp}{z:bp}(h:Fl lb arr0 arr lo n a u t z):Rn arr0 (mirror arr (lo+n-(a+1)) (lo+n) ((lo+n-(lo+n-(a+1))) / 2)) lo n (u++(t++[z]).reverse)/\Fal lb (u++(t++[z]).reverse):=by
 have l:=h.rn.len;have b:=h.len;rw[bq,bq,fk]at l;refine⟨?_,h.fal.tail h.srt⟩;have:=Rn.turn (u:=u) (v:=t++[z]) (t:=[]) (by simpa using h.rn) (i:=lo+n-(a+1)) (j:=lo+n) (by omega) (by rw[bq,fk];omega);simpa using this
def kGS(W:Wk lb)(i:vP M A E s lb D kd){st:eV}(j:kindOf st=kd)(m:∀ x∈arr0.toList,D x){a:Nat}(J:lo+a<=arr0.size)(L:1<=n)(v:n<=a){u:List bp}{z:bp}(h:Fl lb arr0 (dh st) lo n 0 u [] z){Q:DS->eV->Prop}
  (q:∀ k neq st' u t z,Sa st st'->n<=k->k<=a->Fl lb arr0 (dh st') lo k neq u t z->Q (none,k,neq) st'):wpS M A E s (kBJ lo n a) Q st:=by
 unfold kBJ;refine jv (I:=λ x c st'=>Sa st st'/\∃ neq u t z,c=(none,x,neq)/\Fl lb arr0 (dh st') lo x neq u t z) ?step ?fin ⟨⟨rfl,rfl,rfl⟩,0,u,[],z,rfl,h⟩
 case fin =>
  rintro c st' ⟨b,neq,u,t,z,rfl,f⟩;rw[show max n a=a by omega]at f ⊢;exact q _ _ _ _ _ _ b v (be _) f
 case step =>
  rintro x c st' g H ⟨b,neq,u,t,z,rfl,f⟩;dsimp only;have d:lo+x<arr0.size:=by omega
  have l:D z:=f.rn.dom m z (by simp);have r:D arr0[lo+x]:=m _ (by simp);refine cj (aO i (b.1.trans j) (f.rn.next d) (f.last (by omega)) r l ?_)
  cases e:lb arr0[lo+x] z
  case true =>
   simp only[if_true];have o:=f.low W (W.of_lt e);by_cases p:neq>0
   ·rw[if_pos p,Ak]
    obtain⟨C,B⟩:=f.turned;refine cj (oy (dj ⟨b,0,_,[],_,rfl,⟨C.more d,bP B λ y G=>o y ?_,kl _ _,rfl⟩⟩));rcases cf.mp G with w | w
    ·exact cq _ w
    ·exact ck _ (yx.mp w)
   ·rw[if_neg p]
    exact dj ⟨b,0,_,[],_,rfl,⟨f.rn.more d,bP f.fal o,kl _ _,rfl⟩⟩
  case false =>
   simp only[eP,if_false];refine cj (aO i (b.1.trans j) (f.last (by omega)) (f.rn.next d) l r ?_)
   cases e2:lb z arr0[lo+x]
   case true =>
    simp only[if_true];exact dj (q _ _ _ _ _ _ b g (by omega) f)
   case false =>
    simp only[eP,if_false];refine dj ⟨b,neq+1,u,t++[z],arr0[lo+x],rfl,⟨by have:=f.rn.more d;simpa using this,by have:=bP f.fal (f.low W e2);simpa using this,?_,by rw[bq,f.len];rfl⟩⟩;refine kFL W f.srt (by rw[bq,fk];omega) ?_;have:(t++[z])[(t++[z]).length-1]'(by rw[bq,fk];omega)=z:=by simp
    rw[this];exact e
end
def mZ(lo n a:Nat):StateT eV Sem (Option Nat):=do
 reverseSlice' lo (lo+n)
 let c <-kDS lo n a
 match c.1 with
 | some r=>pure r
 | none=>pure (some c.2)
def dE(lo n a:Nat):StateT eV Sem (Option Nat):=do
 liftM (rule "list.sort.descending-run")
 let c <-kBJ lo (n+1) a
 match c.1 with
 | some r=>pure r
 | none =>
  if c.2.2>0 then do
   reverseSlice' (lo+c.2.1-(c.2.2+1)) (lo+c.2.1)
   mZ lo c.2.1 a
  else mZ lo c.2.1 a
def mD(lo a:Nat):countRun' lo a=(do
  let c <-kDS lo 1 a
  match c.1 with
  | some r=>pure r
  | none =>
   if(c.2 == a)=true then pure (some c.2)
   else if c.2>1 then do
    let r <-ltAt' lo (lo+c.2-1)
    match r with
    | some rose =>
     if rose=true then pure (some c.2)
     else do
      reverseSlice' lo (lo+c.2)
      dE lo c.2 a
    | _=>pure none
   else dE lo c.2 a):=by
 rw[countRun'_eq];dsimp only;unfold kDS;refine congr (congrArg _ (congrArg _ (funext λ x=>funext λ c=>congrArg _ (funext λ r=>by cases r<;>rfl)))) (funext λ c=>?_);have part:∀ n:Nat,dE lo n a=dE lo n a:=λ _=>rfl
 cases c.1 with
 | some r=>rfl
 | none =>
  dsimp only;refine ite_congr rfl (λ _=>rfl) (λ _=>ite_congr rfl (λ _=>congrArg _ (funext λ r=>?_)) (λ _=>?_))
  ·cases r with
   | none=>rfl
   | some rose =>
    dsimp only;refine ite_congr rfl (λ _=>rfl) (λ _=>congrArg _ (funext λ _=>?_));unfold dE kBJ;refine congrArg _ (funext λ _=>congr (congrArg _ (congrArg _ (funext λ x=>funext λ d=>congrArg _ (funext λ r=>?_)))) (funext λ d=>?_))
    ·cases r with
     | none=>rfl
     | some b=>exact ite_congr rfl (λ _=>rfl) (λ _=>congrArg _ (funext λ r=>by cases r<;>rfl))
    ·cases d.1 with
     | some r=>rfl
     | none =>
      unfold mZ kDS;refine ite_congr rfl (λ _=>congrArg _ (funext λ _=>?_)) (λ _=>?_)
      all_goals exact congrArg _ (funext λ _=>congr (congrArg _ (congrArg _ (funext λ x=>funext λ c=>congrArg _ (funext λ r=>by cases r<;>rfl)))) (funext λ c=>by cases c.1<;>rfl))
  ·unfold dE kBJ
   refine congrArg _ (funext λ _=>congr (congrArg _ (congrArg _ (funext λ x=>funext λ d=>congrArg _ (funext λ r=>?_)))) (funext λ d=>?_))
   ·cases r with
    | none=>rfl
    | some b=>exact ite_congr rfl (λ _=>rfl) (λ _=>congrArg _ (funext λ r=>by cases r<;>rfl))
   ·cases d.1 with
    | some r=>rfl
    | none =>
     unfold mZ kDS;refine ite_congr rfl (λ _=>congrArg _ (funext λ _=>?_)) (λ _=>?_)
     all_goals exact congrArg _ (funext λ _=>congr (congrArg _ (congrArg _ (funext λ x=>funext λ c=>congrArg _ (funext λ r=>by cases r<;>rfl)))) (funext λ c=>by cases c.1<;>rfl))
section
variable {M:zf} {A:gj} {E:ar->av->Prop} {s:av} {lb:bp->bp->Bool} {D:bp->Prop} {kd:oq}
variable {arr0 arr:Array bp} {lo n:Nat} {m:List bp}
def mS(W:Wk lb)(c:vP M A E s lb D kd){st:eV}(l:kindOf st=kd)(r:∀ x∈arr0.toList,D x){a:Nat}(p:lo+a<=arr0.size)(y:1<=n)(f:n<=a)(h:Rn arr0 (dh st) lo n m)(d:Fal lb m){Q:Option Nat->eV->Prop}
  (q:∀ k st',Sa st st'->1<=k->k<=a->Joined lb arr0 (dh st') lo k->Q (some k) st'):wpS M A E s (mZ lo n a) Q st:=by
 unfold mZ;rw[Ak];refine cj (oy ?_);have t:=Rn.turn (u:=[]) (v:=m) (t:=[]) (by simpa using h) (i:=lo) (j:=lo+n) (by simp) (by rw[h.len];simp);simp only[kq,iW]at t;refine cj (sY (st:=setArr st (mirror (dh st) lo (lo+n) ((lo+n-lo) / 2))) W c l r p y f t d.rev λ k B C g o b _=>?_);exact dj (q k _ ⟨rfl,rfl,rfl⟩ (by omega) g (o.joined b))
def mT(W:Wk lb)(j:vP M A E s lb D kd){st:eV}(l:kindOf st=kd)(o:∀ x∈arr0.toList,D x){a:Nat}(g:lo+a<=arr0.size)(J:1<=n)(I:n<a)(h:Rn arr0 (dh st) lo n m)(H:Fal lb m)(hz:lo+n<arr0.size)(G:∀ y∈m,le lb arr0[lo+n] y){Q:Option Nat->eV->Prop}
  (q:∀ k st',Sa st st'->1<=k->k<=a->Joined lb arr0 (dh st') lo k->Q (some k) st'):wpS M A E s (dE lo n a) Q st:=by
 unfold dE;refine cj (wF ?_);refine cj (kGS W j l o g (by omega) (by omega) (u:=m) (z:=arr0[lo+n]) ⟨h.more hz,bP H G,kl _ _,rfl⟩ λ k c st' u t z d L p f=>?_);dsimp only;have r:∀ k b,Sa st' b->1<=k->k<=a->Joined lb arr0 (dh b) lo k->Q (some k) b:=λ k b i=>q k b ⟨i.1.trans d.1,i.2.1.trans d.2.1,i.2.2.trans d.2.2⟩;by_cases v:c>0
 ·rw[if_pos v,Ak]
  obtain⟨C,B⟩:=f.turned;refine cj (oy ?_);exact mS (st:=setArr st' (mirror (dh st') (lo+k-(c+1)) (lo+k) ((lo+k-(lo+k-(c+1))) / 2))) W j (d.1.trans l) o g (by omega) p C B r
 ·rw[if_neg v]
  exact mS W j (d.1.trans l) o g (by omega) p f.rn f.fal r
def pE(W:Wk lb)(d:vP M A E s lb D kd){st:eV}(f:kindOf st=kd)(b:∀ x∈(dh st).toList,D x){a:Nat}(o:lo+a<=(dh st).size)(Z:1<=a){Q:Option Nat->eV->Prop}
  (q:∀ k st',Sa st st'->1<=k->k<=a->Joined lb (dh st) (dh st') lo k->Q (some k) st'):wpS M A E s (countRun' lo a) Q st:=by
 rw[mD];have S:=Rn.start (arr0:=dh st) (lo:=lo) (n:=1) (by omega)
 have s0:jB lb ((dh st).extract lo (lo+1)).toList:=by
  have:=S.len;generalize((dh st).extract lo (lo+1)).toList=l at *;exact pU (GB this)
 refine cj (sY W d f b o (by omega) Z S s0 λ k m H I r h c=>?_);dsimp only;have T:=r.len;by_cases e:k=a
 ·rw[if_pos (by simpa using e)]
  exact dj (q k st ⟨rfl,rfl,rfl⟩ H I (r.joined h))
 ·rw[if_neg (by simpa using e)]
  obtain⟨L,Y,lt⟩ : ∃(h1:lo+k<(dh st).size)(h2:m.length-1<m.length),lb (dh st)[lo+k] m[m.length-1]=true:=by
   rcases c with c | c
   ·exact absurd c e
   ·exact c
  by_cases g:k>1
  ·rw[if_pos g]
   have O:=r.at (j:=0) (by omega);have J:=r.at Y;rw[Dq]at O;rw[show lo+(m.length-1)=lo+k-1 by omega]at J;refine cj (aO d f O J (r.dom b _ (iY _)) (r.dom b _ (iY _)) ?_)
   cases e2:lb (m[0]'(by omega)) m[m.length-1]
   case true =>
    simp only[if_true];exact dj (q k st ⟨rfl,rfl,rfl⟩ H I (r.joined h))
   case false =>
    simp only[eP,if_false];rw[Ak];refine cj (oy ?_);have t:=Rn.turn (u:=[]) (v:=m) (t:=[]) (by simpa using r) (i:=lo) (j:=lo+k) (by simp) (by rw[T];simp);simp only[kq,iW]at t;refine mT (st:=setArr st (mirror (dh st) lo (lo+k) ((lo+k-lo) / 2))) W d f b o H (by omega) t (show List.Pairwise _ _ from Ab.mpr h) L (λ y G=>?_) λ p st' C=>q p st' C;obtain⟨i,N,rfl⟩:=eY.mp (yx.mp G)
    have U:le lb (m[0]'(by omega)) m[i]:=by
     by_cases z:0=i
     ·subst z;exact W.refl _
     ·exact lj.mp h 0 i (by omega) N (by omega)
    exact W.trans (W.of_lt lt) (W.trans e2 U)
  ·rw[if_neg g]
   have B:k=1:=by omega
   subst B
   exact mT W d f b o (by omega) (by omega) r (pU (by omega)) L (λ y G=>by
    obtain⟨i,N,rfl⟩:=eY.mp G;have X:i=m.length-1:=by omega
    simp only[X];exact W.of_lt lt) λ p st' C=>q p st' C
end
abbrev Pn:=Nat×Nat×Nat
def Tiles:List Pn->Nat->Nat->Prop
 | [],a,b=>a=b
 | x::r,a,b=>x.1=a/\0<x.2.1/\Tiles r (a+x.2.1) b
theorem Tiles.le:∀{l:List Pn}{a b:Nat},Tiles l a b->a<=b
 | [],a,b,h=>by rw[show a=b from h];exact be _
 | x::r,a,b,h=>by have:=Tiles.le h.2.2;omega
theorem Tiles.app:∀{l r:List Pn}{a b:Nat},Tiles (l++r) a b↔∃ c,Tiles l a c/\Tiles r c b
 | [],r,a,b=>⟨λ h=>⟨a,rfl,h⟩,λ⟨c,h1,d⟩=>by rw[show a=c from h1];exact d⟩
 | x::l,r,a,b=>by
  constructor
  ·rintro⟨h1,d,g⟩
   obtain⟨c,f,i⟩:=Tiles.app.mp g;exact⟨c,⟨h1,d,f⟩,i⟩
  ·rintro⟨c,⟨h1,d,g⟩,f⟩
   exact⟨h1,d,Tiles.app.mpr ⟨c,g,f⟩⟩
def Tiles.join{l r:List Pn}{a b s n i d p q:Nat}(h:Tiles (l++(s,n,p)::(i,d,q)::r) a b):i=s+n/\0<n/\0<d/\s+n+d<=b/\Tiles l a s/\Tiles r (s+n+d) b/\Tiles (l++(s,n+d,p)::r) a b:=by
 obtain⟨c,h1,g,m,j,o,f⟩:=Tiles.app.mp h;have g:s=c:=g;have j:i=c+n:=j;have m:0<n:=m;have o:0<d:=o;have f:Tiles r (c+n+d) b:=f;subst g;refine⟨j,m,o,f.le,h1,f,Tiles.app.mpr ⟨s,h1,rfl,by show 0<n+d;omega,?_⟩⟩;show Tiles r (s+(n+d)) b;rw[<-xw];exact f
def kCT{P:Array Pn}{l r:List Pn}{x y z:Pn}(h:P.toList=l++x::y::r):((P.setIfInBounds l.length z).eraseIdxIfInBounds (l.length+1)).toList=l++z::r:=by
 have sz:P.size=l.length+(r.length+2):=by
  have:=congrArg jr h;simpa using this
 unfold Array.eraseIdxIfInBounds;rw[dif_pos (by rw[Bv];omega),Array.toList_eraseIdx,Bc,h];rw[List.set_append_right _ _ (be _),CW,AH (by omega),show l.length+1-l.length=1 by omega]
 rfl
section
variable {lb:bp->bp->Bool} {arr arr':Array bp} {lo n:Nat}
def Joined.low(h:Joined lb arr arr' lo n)(b:lo+n<=arr.size){a k:Nat}(c:a+k<=lo):(arr'.extract a (a+k)).toList=(arr.extract a (a+k)).toList:=by
 obtain⟨m,e,_,d⟩:=h;have lp:(arr.toList.take lo).length=lo:=by simp;omega
 rw[xJ,xJ,e,Aw (by omega),sd (by rw[iR];omega),Ey,BN,jw (by omega)]
def Joined.high(h:Joined lb arr arr' lo n)(d:lo+n<=arr.size){a k:Nat}(c:lo+n<=a):(arr'.extract a (a+k)).toList=(arr.extract a (a+k)).toList:=by
 obtain⟨m,e,_,b⟩:=h
 have l:m.length=n:=by
  rw[b.length_eq,xJ,dc,iR,iK];omega
 have lp:(arr.toList.take lo).length=lo:=by simp;omega
 rw[xJ,xJ,e,Aj,lp,nj (by omega),kq,Aj,nj (by omega),kq,AU]
 congr 2
 omega
def Joined.here(h:Joined lb arr arr' lo n)(c:lo+n<=arr.size):jB lb (arr'.extract lo (lo+n)).toList:=by
 obtain⟨m,e,a,b⟩:=h
 have l:m.length=n:=by
  rw[b.length_eq,xJ,dc,iR,iK];omega
 have lp:(arr.toList.take lo).length=lo:=by simp;omega
 rw[xJ,e,Aj,lp,nj (by omega),kq,CW,Cw,sd (by omega),jh (by omega)];exact a
def Joined.perm(h:Joined lb arr arr' lo n)(a:lo+n<=arr.size):arr'.toList.Perm arr.toList:=by
 obtain⟨m,e,c,b⟩:=h;rw[e];exact(yd _ (b.append_right _)).trans (List.Perm.of_eq (vM a).symm)
end
section
variable {M:zf} {A:gj} {E:ar->av->Prop} {s:av} {lb:bp->bp->Bool} {D:bp->Prop} {kd:oq}
structure SI(lb:bp->bp->Bool)(kd:oq)(a0:Array bp)(st:eV)(lo:Nat):Prop where
 kind:kindOf st=kd
 failed:va st=none
 perm:(dh st).toList.Perm a0.toList
 tiles:Tiles (df st).toList 0 lo
 top:lo<=a0.size
 runs:∀ x∈(df st).toList,jB lb ((dh st).extract x.1 (x.1+x.2.1)).toList
theorem SI.size{a:Array bp}{st:eV}{lo:Nat}(h:SI lb kd a st lo):(dh st).size=a.size:=by simpa using h.perm.length_eq
theorem Tiles.in:∀{l:List Pn}{a b:Nat},Tiles l a b->∀ x∈l,a<=x.1/\x.1+x.2.1<=b
 | y::l,a,b,h,x,hx=>by
  rcases dr.mp hx with rfl | z
  ·have:=h.2.2.le
   have:=h.1;omega
  ·have:=Tiles.in h.2.2 x z
   omega
def aE(W:Wk lb)(L:vP M A E s lb D kd){l:Array bp}(X:∀ x∈l.toList,D x){st:eV}{lo:Nat}(h:SI lb kd l st lo){i:Nat}(hi:i+1<(df st).size){Q:Bool->eV->Prop}
  (q:∀ st',SI lb kd l st' lo->(df st').size+1=(df st).size->(∀ a k,lo<=a->((dh st').extract a (a+k)).toList=((dh st).extract a (a+k)).toList)->Q true st'):wpS M A E s (mergeAt' i) Q st:=by
 have j:(df st).toList=(df st).toList.take i++(df st)[i]::(df st)[i+1]::(df st).toList.drop (i+2):=by
  conv=>lhs;rw[<-iB i (df st).toList]
  rw[drop_one (show i<(df st).size by omega),drop_one hi]
  rfl
 have N:((df st).toList.take i).length=i:=by simp;omega
 have e1:=getElem?_pos (df st) i (by omega);have U:=getElem?_pos (df st) (i+1) hi;have T:=h.runs _ (by simp:(df st)[i]∈(df st).toList);have S:=h.runs _ (by simp:(df st)[i+1]∈(df st).toList);have B:=h.tiles;have o:=h.runs;rw[j]at B o;generalize v:(df st)[i]=x at *;generalize hy:(df st)[i+1]=y at *;obtain⟨p,m,u⟩:=x;obtain⟨sb,g,pb⟩:=y;obtain⟨H,n,f,le,O,J,G⟩:=B.join;subst H;have top:=h.top;have sz:=h.size;refine sX W L h.kind h.failed (λ x v=>X x (h.perm.mem_iff.mp v)) e1 U n f (by omega) T S λ st' I f' p' b=>?_;have c:p+(m+g)<=(dh st).size:=by omega
 have d:(df st').toList=(df st).toList.take i++(p,m+g,u)::(df st).toList.drop (i+2):=by
  have:=kCT (z:=(p,m+g,u)) j;rw[N]at this;rw[p',this]
 refine q st' ⟨I,f',(b.perm c).trans h.perm,by rw[d];exact G,top,λ z r=>?_⟩ ?_ (λ a k Y=>b.high c (by omega))
 ·rw[d]at r
  rcases cf.mp r with w | w
  ·have:=O.in z w
   rw[b.low c (by omega)];exact o z (cq _ w)
  ·rcases dr.mp w with rfl | w
   ·exact b.here c
   ·have:=J.in z w
    rw[b.high c (by omega)];exact o z (ck _ (eC _ (eC _ w)))
 ·have Z:=congrArg jr d
  have C:=congrArg jr j;simp only[iK,bq,gn]at Z C;omega
end
def Tiles.snoc{l:List Pn}{a b:Nat}{x:Pn}(h:Tiles l a b)(e:x.1=b)(n:0<x.2.1):Tiles (l++[x]) a (b+x.2.1) :=
 Tiles.app.mpr ⟨b,h,e,n,rfl⟩
theorem Tiles.repl:∀{l:List Pn}{a b:Nat}(k:Nat)(f:Pn->Pn),(∀ x,(f x).1=x.1/\(f x).2.1=x.2.1)->Tiles l a b->Tiles (l.modify k f) a b
 | [],a,b,k,f,hf,h=>by simpa using h
 | x::r,a,b,0,f,hf,h=>by
  obtain⟨h1,d,c⟩:=h;have:=hf x;rw[List.modify_zero_cons];exact⟨this.1.trans h1,by rw[this.2];exact d,by rw[this.2];exact c⟩
 | x::r,a,b,k+1,f,hf,h=>by
  obtain⟨h1,d,c⟩:=h;rw[List.modify_succ_cons];exact⟨h1,d,Tiles.repl k f hf c⟩
def kOS{l:List Pn}{k:Nat}{f:Pn->Pn}{x:Pn}(h:x∈l.modify k f):∃ y∈l,x=y\/x=f y:=by
 obtain⟨i,b,rfl⟩:=eY.mp h;rw[List.getElem_modify];have a:i<l.length:=by simpa using b
 split
 ·exact⟨l[i],iY _,.inr rfl⟩
 ·exact⟨l[i],iY _,.inl rfl⟩
def Tiles.one:∀{l:List Pn}{a b:Nat},Tiles l a b->a<b->l.length<=1->∃ p,l=[(a,b-a,p)]
 | [],a,b,h,c,_=>by have:a=b:=h;omega
 | [(s,n,p)],a,b,h,c,_=>by
  obtain⟨h1,f,d⟩:=h;have h1:s=a:=h1;have d:a+n=b:=d;refine⟨p,?_⟩;rw[h1,show n=b-a by omega]
 | _::_::_,a,b,h,c,z=>by simp at z
section
variable {M:zf} {A:gj} {E:ar->av->Prop} {s:av} {lb:bp->bp->Bool} {D:bp->Prop} {kd:oq}
def SI.len{c:Array bp}{st:eV}{lo:Nat}(h:SI lb kd c st lo):(df st).size<=lo:=by
 have:∀(l:List Pn)(a b:Nat),Tiles l a b->a+l.length<=b:=by
  intro l
  induction l with
  | nil=>intro a b h;rw[show a=b from h];simp
  | cons x r ih =>
   intro a b h;have:=ih _ _ h.2.2;have:=h.2.1;rw[gn];omega
 have:=this _ _ _ h.tiles;simpa using this
theorem SI.push{b:Array bp}{st:eV}{lo n:Nat}(h:SI lb kd b st lo)(d:0<n)(f:lo+n<=b.size)(c:jB lb ((dh st).extract lo (lo+n)).toList) :
  SI lb kd b (setPending st ((df st).push (lo,n,0))) (lo+n):=by
 refine⟨h.kind,h.failed,h.perm,?_,f,?_⟩
 ·show Tiles ((df st).push (lo,n,0)).toList 0 (lo+n)
  rw[ve];exact h.tiles.snoc rfl d
 ·intro x a
  have a:x∈((df st).push (lo,n,0)).toList:=a;rw[ve]at a;rcases cf.mp a with z | z
  ·exact h.runs x z
  ·have:x=(lo,n,0):=by simpa using z
   rw[this];exact c
def SI.mod{b:Array bp}{st:eV}{lo:Nat}(h:SI lb kd b st lo)(k c:Nat):SI lb kd b (setPending st ((df st).modify k λ(x:Pn)=>(x.1,x.2.1,c))) lo:=by
 refine⟨h.kind,h.failed,h.perm,?_,h.top,?_⟩
 ·show Tiles ((df st).modify k _).toList 0 lo
  rw[DC];exact Tiles.repl k _ (λ x=>⟨rfl,rfl⟩) h.tiles
 ·intro x a
  have a:x∈((df st).modify k λ(x:Pn)=>(x.1,x.2.1,c)).toList:=a;rw[DC]at a;obtain⟨y,d,e⟩:=kOS a;have r:=h.runs y d;rcases e with rfl | rfl
  ·exact r
  ·exact r
def SI.tail{c:Array bp}{st a:eV}{lo n:Nat}(h:SI lb kd c st lo)(b:Sa st a)(f:lo+n<=c.size)(j:Joined lb (dh st) (dh a) lo n):SI lb kd c a lo:=by
 have sz:=h.size;refine⟨b.1.trans h.kind,b.2.2.trans h.failed,(j.perm (by omega)).trans h.perm,by rw[b.2.1];exact h.tiles,h.top,λ x d=>?_⟩;rw[b.2.1]at d;have:=h.tiles.in x d;rw[j.low (by omega) (by omega)];exact h.runs x d
def sU(W:Wk lb)(S:vP M A E s lb D kd){st:eV}(hk:kindOf st=kd)(hf:va st=none)(hp:df st = #[])(dd:∀ x∈(dh st).toList,D x){Q:Unit->eV->Prop}
  (h:∀ st',(dh st').toList.Perm (dh st).toList->va st'=none->jB lb (dh st').toList->Q () st'):wpS M A E s sortRuns' Q st:=by
 rw[sortRuns'_eq];refine cj (zy ?_);dsimp only;generalize a4:(dh st).size=size;generalize a6:minRun' size size 0=mr
 refine cj (uz (jv
  (I:=λ x c st'=>∃ lo,c=(none,lo)/\SI lb kd (dh st) st' lo/\(x<=lo\/lo=size))
  (Q:=λ c st'=>c=(none,size)/\SI lb kd (dh st) st' size) ?step ?fin ⟨0,rfl,⟨hk,hf,AR _,by rw[hp];rfl,gy _,by rw[hp];simp⟩,.inl (be _)⟩) ?post)
 case fin =>
  rintro c st' ⟨lo,rfl,d,v⟩
  have:lo=size:=by
   rcases v with v | v
   ·have:=d.top;omega
   ·exact v
  subst this;exact⟨rfl,d⟩
 case step =>
  rintro x c st' _ v ⟨lo,rfl,d,a5⟩;dsimp only;have top:=d.top;have a7:=d.size;by_cases U:lo >= size
  ·rw[if_pos U]
   have:lo=size:=by omega
   subst this;exact dj ⟨rfl,d⟩
  rw[if_neg U];have J:∀{o:eV},SI lb kd (dh st) o lo->∀ x∈(dh o).toList,D x:=λ h x v=>dd x (h.perm.mem_iff.mp v);refine cj (pE W S d.kind (J d) (by omega) (by omega) λ m o G m1 m2 j2=>?_);dsimp only;have j:=d.tail G (by omega) j2;have u:=j2.here (by omega);have Y:=j.size;have bin:∀ n,n=min (size-lo) mr->m<mr->m<=n/\0<n/\lo+n<=size:=λ n e h=>by omega
  by_cases q:m<mr
  ·rw[if_pos q]
   refine cj (wF ?_);generalize hn:min (size-lo) mr=n;obtain⟨mn,Z,a1⟩:=bin n hn.symm q;refine cj (kBW W S j.kind (J j) mn (by omega) u λ a3 L j3=>?_);simp only[zj,eP,if_false];have a0:=j.tail L (by omega) j3;have O:=j3.here (by omega);clear u j j2 G j3 L Y m1 m2 mn q hn bin;clear m o;refine cj (zy ?_)
   cases X:(df a3).back? with
   | none =>
    dsimp only;exact cj (oy (dj ⟨lo+n,rfl,a0.push Z (by omega) O,by omega⟩))
   | some z =>
    obtain⟨N,C,z1⟩:=z;dsimp only;generalize power' size (2*N+C) (2*N+C+C+n) size=T
    refine cj (uz (jv (I:=λ _ c st'=>c=(none,())/\SI lb kd (dh st) st' lo/\jB lb ((dh st').extract lo (lo+n)).toList)
     (Q:=λ c st'=>c=(none,())/\SI lb kd (dh st) st' lo/\jB lb ((dh st').extract lo (lo+n)).toList) ?_ (λ _ _ hh=>hh) ⟨rfl,a0,O⟩) ?_)
    ·rintro y c a _ hy ⟨rfl,f,g⟩
     refine cj (zy ?_);by_cases h1:(df a).size>1
     ·rw[if_pos h1,getElem?_pos (df a) ((df a).size-2) (by omega)]
      generalize(df a)[(df a).size-2]'(by omega)=zz;obtain⟨y1,y2,y3⟩:=zz;dsimp only;by_cases H:y3<=T
      ·rw[if_pos H]
       exact dj ⟨rfl,f,g⟩
      ·rw[if_neg H]
       refine cj (aE W S dd f (by omega) λ a2 l h5 e5=>?_);simp only[zj,eP,if_false];exact dj ⟨rfl,l,by rw[e5 _ _ (be _)];exact g⟩
     ·rw[if_neg h1]
      exact dj ⟨rfl,f,g⟩
    ·rintro c a ⟨rfl,f,g⟩
     dsimp only;refine cj (oy ?_);have l:=f.mod ((df a).size-1) T;exact cj (oy (dj ⟨lo+n,rfl,l.push Z (by omega) g,by omega⟩))
  ·rw[if_neg q]
   have a1:lo+m<=size:=by omega
   have Z:0<m:=by omega
   clear bin q m2 m1 j2 Y G;refine cj (zy ?_)
   cases X:(df o).back? with
   | none =>
    dsimp only;exact cj (oy (dj ⟨lo+m,rfl,j.push Z (by omega) u,by omega⟩))
   | some z =>
    obtain⟨N,C,z1⟩:=z;dsimp only;generalize power' size (2*N+C) (2*N+C+C+m) size=T
    refine cj (uz (jv (I:=λ _ c st'=>c=(none,())/\SI lb kd (dh st) st' lo/\jB lb ((dh st').extract lo (lo+m)).toList)
     (Q:=λ c st'=>c=(none,())/\SI lb kd (dh st) st' lo/\jB lb ((dh st').extract lo (lo+m)).toList) ?_ (λ _ _ hh=>hh) ⟨rfl,j,u⟩) ?_)
    ·rintro y c a _ hy ⟨rfl,f,g⟩
     refine cj (zy ?_);by_cases h1:(df a).size>1
     ·rw[if_pos h1,getElem?_pos (df a) ((df a).size-2) (by omega)]
      generalize(df a)[(df a).size-2]'(by omega)=zz;obtain⟨y1,y2,y3⟩:=zz;dsimp only;by_cases H:y3<=T
      ·rw[if_pos H]
       exact dj ⟨rfl,f,g⟩
      ·rw[if_neg H]
       refine cj (aE W S dd f (by omega) λ a2 l h5 e5=>?_);simp only[zj,eP,if_false];exact dj ⟨rfl,l,by rw[e5 _ _ (be _)];exact g⟩
     ·rw[if_neg h1]
      exact dj ⟨rfl,f,g⟩
    ·rintro c a ⟨rfl,f,g⟩
     dsimp only;refine cj (oy ?_);have l:=f.mod ((df a).size-1) T;exact cj (oy (dj ⟨lo+m,rfl,l.push Z (by omega) g,by omega⟩))
 case post =>
  rintro c st' ⟨rfl,d⟩;dsimp only
  have B:∀ st',SI lb kd (dh st) st' size->(df st').size<=1->Q () st':=λ st' d hl=>by
   refine h st' d.perm d.failed ?_;by_cases z:0<size
   ·obtain⟨p,e⟩:=d.tiles.one z (by simpa using hl)
    have r:=d.runs (0,size-0,p) (by rw[e];simp);have r:jB lb ((dh st').extract 0 (0+(size-0))).toList:=r;have e1:=d.size;rw[show 0+(size-0)=(dh st').size by omega,Array.extract_size]at r;exact r
   ·have:(dh st').toList=[]:=ox.mp (by rw[iK];have:=d.size;omega)
    rw[this];exact Bo
  refine cj (uz (jv (I:=λ x c st'=>c=(none,())/\SI lb kd (dh st) st' size/\(df st').size+x<=max (size+1) (1+x))
   (Q:=λ c st'=>c=(none,())/\SI lb kd (dh st) st' size/\(df st').size<=1) ?_ ?_ ⟨rfl,d,by have:=d.len;omega⟩) ?_)
  ·rintro x c st' _ v ⟨rfl,d,X⟩
   refine cj (zy ?_);by_cases h1:(df st').size<=1
   ·rw[if_pos h1]
    exact dj ⟨rfl,d,h1⟩
   rw[if_neg h1];have hg:∀ b:Bool,(if b=true then(df st').size-2-1 else(df st').size-2)+1<(df st').size:=λ b=>by split<;>omega
   replace hg:=hg (Option.any (λ x=>decide (x<((df st')[(df st').size-2+1]?.elim 0 λ x=>x.snd.fst))) (if(df st').size-2>0 then Gg (λ x=>x.snd.fst) (df st')[(df st').size-2-1]? else none))
   generalize(if(if(df st').size-2>0 then Gg (λ x=>x.snd.fst) (df st')[(df st').size-2-1]? else none).any _=true then(df st').size-2-1 else(df st').size-2)=i at hg ⊢;refine cj (aE W S dd d hg λ o j H _=>?_);simp only[zj,eP,if_false];exact dj ⟨rfl,j,by omega⟩
  ·rintro c st' ⟨rfl,d,X⟩
   exact⟨rfl,d,by omega⟩
  ·rintro c st' ⟨rfl,d,X⟩
   exact dj (B _ d X)
end
open PySem PySem.W PyProof.Rows
def lexLt:List Int->List Int->Bool
 | [],[]=>false
 | [],_::_=>true
 | _::_,[]=>false
 | a::x,b::y=>if a=b then lexLt x y else decide (a<b)
theorem lex_irr:∀ x,lexLt x x=false
 | []=>rfl
 | a::x=>by rw[lexLt,if_pos rfl];exact lex_irr x
theorem lex_tr:∀ x y z,lexLt x y=true->lexLt y z=true->lexLt x z=true
 | [],[],_,h,_=>nomatch h
 | [],_::_,[],_,h=>nomatch h
 | [],_::_,_::_,_,_=>rfl
 | _::_,[],_,h,_=>nomatch h
 | _::_,_::_,[],_,h=>nomatch h
 | a::x,b::y,c::z,h,k=>by
  rw[lexLt]at *;by_cases e:a=b
  ·subst e
   rw[if_pos rfl]at h;by_cases d:a=c
   ·subst d
    rw[if_pos rfl]at k ⊢;exact lex_tr x y z h k
   ·rw[if_neg d]at k ⊢
    exact k
  ·rw[if_neg e]at h
   by_cases d:b=c
   ·subst d
    rw[if_neg e];exact h
   ·rw[if_neg d]at k
    have h:=of_decide_eq_true h;have k:=of_decide_eq_true k;rw[if_neg (by omega)];exact decide_eq_true (by omega)
theorem lex_neg:∀ x y z,lexLt x z=true->lexLt x y=true\/lexLt y z=true
 | [],[],z,h=>.inr h
 | [],_::_,z,h=>.inl rfl
 | _::_,_,[],h=>nomatch h
 | _::_,[],_::_,h=>.inr rfl
 | a::x,b::y,c::z,h=>by
  rw[lexLt]at *;by_cases e:a=c
  ·subst e
   rw[if_pos rfl]at h;by_cases d:a=b
   ·subst d
    rw[if_pos rfl,lexLt,if_pos rfl];exact lex_neg x y z h
   ·rw[if_neg d,lexLt,if_neg (λ q=>d q.symm)]
    by_cases l:a<b
    ·exact .inl (decide_eq_true l)
    ·exact .inr (decide_eq_true (by omega))
  ·rw[if_neg e]at h
   have h:=of_decide_eq_true h;by_cases d:a=b
   ·subst d
    rw[lexLt,if_neg e];exact .inr (decide_eq_true h)
   ·rw[if_neg d]
    by_cases l:a<b
    ·exact .inl (decide_eq_true l)
    ·rw[lexLt,if_neg (by omega)]
     exact .inr (decide_eq_true (by omega))
theorem lex_tot:∀ x y,lexLt x y=false->lexLt y x=false->x=y
 | [],[],_,_=>rfl
 | [],_::_,h,_=>nomatch h
 | _::_,[],_,h=>nomatch h
 | a::x,b::y,h,k=>by
  rw[lexLt]at *;by_cases e:a=b
  ·subst e
   rw[if_pos rfl]at h k;rw[lex_tot x y h k]
  ·rw[if_neg e]at h
   rw[if_neg (λ q=>e q.symm)]at k;have h:=of_decide_eq_false h;have k:=of_decide_eq_false k;omega
def keyOf(h:iS):ar->List Int
 | .ref a=>match h.get? a with
  | some o=>match o.data with
   | .seq xs _=>xs.toList.map numOf
   | _=>[]
  | none=>[]
 | _=>[]
def lbT(h:iS)(x y:bp):Bool:=lexLt (keyOf h x.1) (keyOf h y.1)
def kRW(h:iS):Wk (lbT h):=⟨λ a=>lex_irr _,λ a b c=>lex_neg _ _ _,λ a b c=>lex_tr _ _ _⟩
def lbI(x y:bp):Bool:=decide (numOf x.1<numOf y.1)
def kRX:Wk lbI:=⟨λ a=>by unfold lbI;simp,λ a b c h=>by
  unfold lbI at *;have:=of_decide_eq_true h;by_cases l:numOf a.1<numOf b.1
  ·exact .inl (decide_eq_true l)
  ·exact .inr (decide_eq_true (by omega)),λ a b c h k=>by
  unfold lbI at *;have:=of_decide_eq_true h;have:=of_decide_eq_true k;exact decide_eq_true (by omega)⟩
def TupI(h:iS)(v:ar):Prop:=∃ a o b n,v=.ref a/\h.get? a=some o/\o.cls=.type "tuple"/\o.data=.seq b n/\(∀ u∈b.toList,∃ k t,u=.int k t)/\0<b.size
def TupI.kept{h h':iS}{v:ar}(x:TupI h v)(k:∀ a o,o.cls=.type "tuple"->h.get? a=some o->h'.get? a=some o):TupI h' v/\keyOf h' v=keyOf h v:=by
 obtain⟨a,o,i,n,rfl,c,b,d,g,f⟩:=x;refine⟨⟨a,o,i,n,rfl,k _ _ b c,b,d,g,f⟩,?_⟩;unfold keyOf;simp only[c,k _ _ b c]
def TupI.key{h:iS}{a:au}{o:Obj}{xs:Array ar}{n:Nat}(c:h.get? a=some o)(b:o.data=.seq xs n):keyOf h (.ref a)=xs.toList.map numOf:=by
 unfold keyOf;simp only[c,b]
section
variable {prog:eo} {w:iJ} {A:gj} {E:ar->av->Prop} {s:av}
theorem kAU{Q:Bool->av->Prop}:∀(xs ys:List ar)(i:Nat),(∀ u∈xs,∃ k t,u=uk k t)->(∀ u∈ys,∃ k t,u=uk k t)->Q (lexLt (xs.map numOf) (ys.map numOf)) s->KatLex prog w A true (decide (xs.length<ys.length)) Q (xs.zip ys) i s
 | [],[],i,_,_,h=>by exact h
 | [],_::_,i,_,_,h=>by exact h
 | _::_,[],i,_,_,h=>by exact h
 | x::xs,y::ys,i,hx,hy,h=>by
  obtain⟨a,t,rfl⟩:=hx x (eZ ..);obtain⟨b,u,rfl⟩:=hy y (eZ ..);rw[Be,show decide ((uk a t::xs).length<(uk b u::ys).length)=decide (xs.length<ys.length) by simp];refine kat_cons (EC ?_);have h:Q (if a=b then lexLt (xs.map numOf) (ys.map numOf) else decide (a<b)) s:=h;by_cases e:a=b
  ·rw[if_pos e]at h
   rw[beq_iff_eq.mpr e];exact kat_yes (kAU xs ys (i+1) (λ u c=>hx u (eC _ c)) (λ u c=>hy u (eC _ c)) h)
  ·rw[if_neg e]at h
   rw[beq_eq_false_iff_ne.mpr e];refine kat_no ?_;rw[Bool.true_and]
   cases i == 0 with
   | true=>exact oneLt_int h
   | false=>exact kat_one _ _ (GZ h)
def kHW:vP (model prog w) A E s (lbT s.heap) (λ x=>TupI s.heap x.1) (tuples' true):=by
 intro x y B v st Q u q;obtain⟨a,I,c,n,h,g,C,l,r,H⟩:=B;obtain⟨b,G,d,m,f,j,D,i,o,J⟩:=v;rw[lt'_eq];refine cj (zy ?_);rw[u]
 have q:Q (some (lexLt (c.toList.map numOf) (d.toList.map numOf))) st:=by
  have:lbT s.heap x y=lexLt (c.toList.map numOf) (d.toList.map numOf):=by
   unfold lbT;rw[h,f,TupI.key g l,TupI.key j i]
  rw[<-this];exact q
 rw[h,f];refine cj (GW (zk (kat_lt g l j i ?_)))
 have:=kAU (prog:=prog) (w:=w) (A:=A) (s:=s) (Q:=λ b p=>p=s/\wpS (model prog w) A E s (match(Except.ok b:Except ar Bool) with
  | .ok b=>pure (some b)
  | .error e=>do
   modify (λ s=>CV (kindOf s) (dh s) (df s) (gallopOf s) (some e))
   pure none) Q st) c.toList d.toList 0 r o ⟨rfl,dj q⟩
 simpa using this
def kHX:vP (model prog w) A E s lbI (λ x=>∃ k t,x.1=.int k t) oneType':=by
 intro x y h g st Q f q;obtain⟨a,t,c⟩:=h;obtain⟨b,u,d⟩:=g;rw[lt'_eq];refine cj (zy ?_);rw[f,c,d];unfold lbI at q;rw[c,d]at q;exact cj (GW (zk (kat_lt_int ⟨rfl,dj q⟩)))
end
end Srt
namespace Fc
open Cyc Tri Rnd
section
variable {α:Type} {le:α->α->Bool}
theorem uD(c:∀ a b,le a b=true->le b a=true->a=b):∀{l m:List α},l.Perm m->l.Pairwise (λ a b=>le a b=true)->m.Pairwise (λ a b=>le a b=true)->l=m
 | [],m,p,_,_=>(List.nil_perm.mp p).symm
 | a::l,m,p,hl,hm=>by
  match m,p,hm with
  | [],p,_=>exact absurd p.length_eq (by simp)
  | b::m,p,hm =>
   have d:=xx.mp hl;have f:=xx.mp hm
   have e:a=b:=by
    rcases dr.mp (p.mem_iff.mp (eZ ..)) with z | z
    ·exact z
    ·rcases dr.mp (p.mem_iff.mpr (eZ ..)) with y | y
     ·exact y.symm
     ·exact c a b (d.1 b y) (f.1 a z)
   subst e;rw[uD c (List.Perm.cons_inv p) d.2 f.2]
def kEU(g:∀ a b c,le a b=true->le b c=true->le a c=true)(f:∀ a b,(le a b || le b a)=true)(d:∀ a b,le a b=true->le b a=true->a=b){l m:List α}(p:l.Perm m)(h:l.Pairwise (λ a b=>le a b=true)):l=m.mergeSort le :=
 uD d (p.trans (BI m le).symm) h (List.pairwise_mergeSort g f m)
end
def leP(a b:Nat×Nat):Bool:=decide (a.1<b.1\/a.1=b.1/\a.2<=b.2)
def bG{a b:Nat×Nat}:leP a b=true↔a.1<b.1\/a.1=b.1/\a.2<=b.2:=decide_eq_true_iff
def sortP(T:List (Nat×Nat)):List (Nat×Nat):=T.mergeSort leP
def sortP_is{l m:List (Nat×Nat)}(p:l.Perm m)(h:l.Pairwise (λ a b=>leP a b=true)):l=sortP m :=
 kEU (λ a b c h k=>by rw[bG]at *;omega) (λ a b=>by
  rw[Cg,bG,bG];omega) (λ a b h k=>by
  rw[bG]at h k;exact wj (by omega) (by omega)) p h
def sortP_perm(T:List (Nat×Nat)):(sortP T).Perm T:=BI T leP
def zl(l:List Nat):List Int:=l.map λ n:Nat=>(n:Int)
theorem zl_inj:∀{a b:List Nat},zl a=zl b->a=b
 | [],[],_=>rfl
 | [],_::_,h=>nomatch h
 | _::_,[],h=>nomatch h
 | a::l,b::m,h=>by
  unfold zl at h;rw[gv,gv]at h;injection h with h1 h2
  rw[zl_inj (a:=l) (b:=m) h2,show a=b by omega]
def leL(a b:List Nat):Bool:=!Srt.lexLt (zl b) (zl a)
def leL_iff{a b:List Nat}:leL a b=true↔Srt.lexLt (zl b) (zl a)=false:=by
 unfold leL
 cases Srt.lexLt (zl b) (zl a)<;>simp
def sortL(T:List (List Nat)):List (List Nat):=T.mergeSort leL
def kRV(a b c:List Nat)(h:leL a b=true)(k:leL b c=true):leL a c=true:=by
 rw[leL_iff]at *
 cases e:Srt.lexLt (zl c) (zl a) with
 | false=>rfl
 | true =>
  rcases Srt.lex_neg _ (zl b) _ e with z | z
  ·rw[k]at z;cases z
  ·rw[h]at z;cases z
def kOV(a b:List Nat):(leL a b || leL b a)=true:=by
 rw[Cg,leL_iff,leL_iff]
 cases e:Srt.lexLt (zl b) (zl a) with
 | false=>exact .inl rfl
 | true =>
  right
  cases f:Srt.lexLt (zl a) (zl b) with
  | false=>rfl
  | true =>
   have:=Srt.lex_tr _ _ _ e f;rw[Srt.lex_irr]at this;cases this
def kLT(a b:List Nat)(h:leL a b=true)(k:leL b a=true):a=b:=by
 rw[leL_iff]at h k;exact zl_inj (Srt.lex_tot _ _ k h)
def sortL_is{l m:List (List Nat)}(p:l.Perm m)(h:l.Pairwise (λ a b=>leL a b=true)):l=sortL m:=kEU kRV kOV kLT p h
def wW(T:List (List Nat)):(sortL T).Perm T:=BI T leL
def leP_leL(a b:Nat×Nat):leL [a.1,a.2] [b.1,b.2]=leP a b:=by
 rw[iV,leL_iff,bG];show Srt.lexLt [(b.1:Int),(b.2:Int)] [(a.1:Int),(a.2:Int)]=false↔_;unfold Srt.lexLt;by_cases e:(b.1:Int)=a.1
 ·rw[if_pos e]
  unfold Srt.lexLt;by_cases f:(b.2:Int)=a.2
  ·rw[if_pos f]
   exact⟨λ _=>by omega,λ _=>rfl⟩
  ·rw[if_neg f]
   rw[decide_eq_false_iff_not];omega
 ·rw[if_neg e]
  rw[decide_eq_false_iff_not];omega
open Classical in
noncomputable def per(W:Rows)(t:Nat×Nat):Nat:=if h:∃ k,0<k/\it (nxt W) k t=t/\∀ j,0<j->j<k->it (nxt W) j t≠t then wo h else 0
def per_is{W:Rows}{t:Nat×Nat}{k:Nat}(h0:0<k)(h1:it (nxt W) k t=t)(f:∀ j,0<j->j<k->it (nxt W) j t≠t):per W t=k:=by
 have d:∃ k,0<k/\it (nxt W) k t=t/\∀ j,0<j->j<k->it (nxt W) j t≠t:=⟨k,h0,h1,f⟩;unfold per;rw[dif_pos d];obtain⟨a,b,c⟩:=ql d;generalize wo d=m at *;rcases yg m k with l | l | l
 ·exact absurd b (f m a l)
 ·exact l
 ·exact absurd h1 (c k h0 l)
noncomputable def rnd(W:Rows)(t:Nat×Nat):List (Nat×Nat):=(cw (per W t)).map λ i=>it (nxt W) i t
noncomputable def fstep(W:Rows)(st:List (List Nat)×List (Nat×Nat))(t:Nat×Nat):List (List Nat)×List (Nat×Nat) :=
 if t∈st.2 then st else(st.1++[(rnd W t).map (·.1)],st.2++rnd W t)
noncomputable def fgo(W:Rows)(S:List (Nat×Nat)):List (List Nat)×List (Nat×Nat):=S.foldl (fstep W) ([],[])
def fgo_snoc(W:Rows)(S:List (Nat×Nat))(t:Nat×Nat):fgo W (S++[t])=fstep W (fgo W S) t:=by
 unfold fgo;rw[Ds]
 rfl
def stepsS(W:Rows):List (Nat×Nat):=sortP (kN W)
def tiesS(W:Rows):List (Nat×Nat):=(stepsS W).filter λ t=>decide (t.1<t.2)
noncomputable def uL(W:Rows):List (List Nat):=(fgo W (stepsS W)).1
noncomputable def facesS(W:Rows):List (List Nat):=sortL (uL W)
def mem_stepsS{W:Rows}{t:Nat×Nat}:t∈stepsS W↔E W t.1 t.2:=by
 unfold stepsS;rw[(sortP_perm _).mem_iff];exact mem_steps
section
variable {W:Rows} (S:Nb W)
def rK(S:Nb W):Rnd.Perm (nxt W) (kN W):=hX S.nd S.sym
def pZ(S:Nb W){t:Nat×Nat}(h:t∈kN W):0<per W t/\per W t<=(kN W).length/\it (nxt W) (per W t) t=t/\∀ j,0<j->j<per W t->it (nxt W) j t≠t:=by
 obtain⟨k,h1,c,b,a⟩:=(rK S).comes h;have e:=per_is h1 b a;rw[e];exact⟨h1,c,b,a⟩
def kHM(S:Nb W){t:Nat×Nat}(h:t∈kN W):(rnd W t).Nodup:=(rK S).round_nodup h (pZ S h).2.2.2
def rnd_len(W:Rows)(t:Nat×Nat):(rnd W t).length=per W t:=by unfold rnd;simp
def rnd_sub(S:Nb W){t u:Nat×Nat}(h:t∈kN W)(a:u∈rnd W t):u∈kN W:=by
 unfold rnd at a;obtain⟨i,_,rfl⟩:=iP.mp a;exact(rK S).it i h
def bD(S:Nb W){t u:Nat×Nat}(h:t∈kN W):u∈rnd W t↔∃ j,it (nxt W) j t=u:=by
 obtain⟨p0,_,back,_⟩:=pZ S h;unfold rnd;rw[iP];constructor
 ·rintro⟨i,_,e⟩
  exact⟨i,e⟩
 ·rintro⟨j,e⟩
  refine⟨j % per W t,jo.mpr (Nat.mod_lt _ p0),?_⟩;rw[<-kLW _ _ back];exact e
def rnd_self(S:Nb W){t:Nat×Nat}(h:t∈kN W):t∈rnd W t:=(bD S h).mpr ⟨0,rfl⟩
def tZ(S:Nb W){t u:Nat×Nat}(h:t∈kN W)(a:u∈rnd W t):nxt W u∈rnd W t:=by
 obtain⟨j,rfl⟩:=(bD S h).mp a;exact(bD S h).mpr ⟨j+1,rfl⟩
structure FI(W:Rows)(T:List (Nat×Nat))(st:List (List Nat)×List (Nat×Nat)):Prop where
 reps:∃ R:List (Nat×Nat),(∀ r∈R,r∈T)/\st.1=R.map (λ r=>(rnd W r).map (·.1))/\st.2=R.flatMap (rnd W)
 nd:st.2.Nodup
 sub:∀ t∈st.2,t∈kN W
 cl:∀ t∈st.2,nxt W t∈st.2
 cov:∀ t∈T,t∈st.2
def FI.start(W:Rows):FI W [] ([],[]):=⟨⟨[],by simp,rfl,rfl⟩,yr,by simp,by simp,by simp⟩
theorem FI.it{T:List (Nat×Nat)}{st:List (List Nat)×List (Nat×Nat)}(h:FI W T st){t:Nat×Nat}(a:t∈st.2)(j:Nat):it (nxt W) j t∈st.2:=by
 induction j with
 | zero=>exact a
 | succ j ih=>exact h.cl _ ih
def FI.step(S:Nb W){T:List (Nat×Nat)}{st:List (List Nat)×List (Nat×Nat)}(h:FI W T st){t:Nat×Nat}(f:t∈kN W):FI W (T++[t]) (fstep W st t):=by
 unfold fstep;obtain⟨R,l,n,m⟩:=h.reps
 split
 ·rename_i c
  refine⟨⟨R,λ r g=>cq _ (l r g),n,m⟩,h.nd,h.sub,h.cl,λ u d=>?_⟩;rcases cf.mp d with z | z
  ·exact h.cov u z
  ·rw[bu.mp z]
   exact c
 ·rename_i c
  have i:∀ a∈st.2,∀ b∈rnd W t,a≠b:=λ a p b o e=>by
   subst e;obtain⟨j,rfl⟩:=(bD S f).mp o;obtain⟨p0,_,back,_⟩:=pZ S f
   have:Rnd.it (nxt W) (per W t*(j+1)-j) (Rnd.it (nxt W) j t)=t:=by
    have le:j<=per W t*(j+1):=jt (Aq j) (Nat.le_mul_of_pos_left _ p0);rw[<-aK,ud le,kLW _ _ back,Nat.mul_mod_right]
    rfl
   rw[<-this]at c;exact c (h.it p _)
  refine⟨⟨R++[t],λ r g=>?_,by rw[eE,n];rfl,by rw[ue,m,xk]⟩,?_,λ u d=>?_,λ u d=>?_,λ u d=>?_⟩
  ·rcases cf.mp g with z | z
   ·exact cq _ (l r z)
   ·exact ck _ z
  ·exact de.mpr ⟨h.nd,kHM S f,i⟩
  ·rcases cf.mp d with z | z
   ·exact h.sub u z
   ·exact rnd_sub S f z
  ·rcases cf.mp d with z | z
   ·exact cq _ (h.cl u z)
   ·exact ck _ (tZ S f z)
  ·rcases cf.mp d with z | z
   ·exact cq _ (h.cov u z)
   ·rw[bu.mp z]
    exact ck _ (rnd_self S f)
def fgo_ok(S:Nb W):∀(T:List (Nat×Nat)),(∀ t∈T,t∈kN W)->FI W T (fgo W T):=by
 intro T
 have:∀(n:Nat),n<=T.length->(∀ t∈T,t∈kN W)->FI W (T.take n) (fgo W (T.take n)):=λ n=>by
  induction n with
  | zero=>intro _ _;rw[CJ];exact FI.start W
  | succ n ih =>
   intro b a;have h:=ih (by omega) a;have e:T.take (n+1)=T.take n++[T[n]]:=by rw[iw,aa (by omega)];rfl
   rw[e,fgo_snoc];exact h.step S (a _ (iY _))
 intro a;have:=this T.length (be _) a;rwa[iG]at this
def FI.len{T:List (Nat×Nat)}{st:List (List Nat)×List (Nat×Nat)}(h:FI W T st):st.2.length<=(kN W).length:=fc h.nd h.sub
end
end Fc
namespace Srt
set_option autoImplicit false
open PySem PySem.W PyProof.Rows
def kNF(lb:bp->bp->Bool)(l:List ar):Prop:=l.Pairwise λ u v=>le lb (u,u) (v,v)
def kRM{lb:bp->bp->Bool}{c:List ar}{l:List bp}(p:l.Perm (c.zip c))(f:jB lb l):(l.map (·.2)).Perm c/\kNF lb (l.map (·.2)):=by
 have same:∀ x∈l,x=(x.2,x.2):=λ x d=>by
  have:=(mem_zip_self (p.mem_iff.mp d)).1;obtain⟨a,b⟩:=x;have:a=b:=this;rw[this]
 refine⟨?_,?_⟩
 ·have:=p.map (λ x:bp=>x.2)
  rwa[show(c.zip c).map (λ x:bp=>x.2)=c from CK (be _)]at this
 ·refine qe.mpr (f.imp_of_mem λ{x y} d g h=>?_)
  rw[<-same x d,<-same y g];exact h
section
variable {prog:eo} {w:iJ} {A:gj} {E:ar->av->Prop} {s:av}
def kKH{lb:bp->bp->Bool}{D:bp->Prop}{kd:oq}(W:Wk lb){a:au}{c:List ar}{n:Nat}{P:uq->av->Prop}(m:s.heap.get? a=some (seqObj "list" c.toArray n))(hz:c.length<=sizeLine)
  (I:2<=c.length->∀(j:iS),(∀ b o,o.cls≠.type "list"->s.heap.get? b=some o->j.get? b=some o)->∀ Q:oq->av->Prop,Q kd {s with heap:=j}->dw (model prog w) A (keyKind' c.toArray) Q E {s with heap:=j})
  (N:∀(j:iS),(∀ b o,o.cls≠.type "list"->s.heap.get? b=some o->j.get? b=some o)->vP (model prog w) A E {s with heap:=j} lb D kd) (U:∀ v∈c,D (v,v))
  (h:∀ out:List ar,out.Perm c->kNF lb out->P (.done (.ret .none)) {s with heap:=sortedHeap s.heap a c out.toArray}) :
  dw (model prog w) A (zw.«list.sort» ⟨[.ref a],[]⟩) P E s:=by
 rw[list_sort_plain];have ha:a<s.heap.objs.size:=bz m;refine ae (Du m rfl (ae (Bw m rfl ?_ (by simpa using hz) (gy _))));obtain⟨J,p⟩ : ∃ J,(s.heap.update a (ua λ _=>#[])).get? a=some (seqObj "list" #[] J):=⟨_,BC m (λ _=>#[])⟩;refine ae (ET p rfl (ae (Cu (ae (DJ (md ?_) (gy _))) (by simpa using hz))));generalize C:((s.heap.update a (ua λ _=>#[])).push (seqObj "tuple" c.toArray 0)).push (seqObj "list" #[] 0)=G
 have f:G.get? a=some (seqObj "list" #[] J):=by
  rw[<-C];exact ao _ (ao _ p)
 have M:∀ b o,o.cls≠.type "list"->s.heap.get? b=some o->G.get? b=some o:=λ b o S e=>by
  have T:b≠a:=λ q=>by
   subst q;rw[m]at e;exact S (by cases e;rfl)
  rw[<-C];refine ao _ (ao _ ?_);rw[ze _ _ _ _ T];exact e
 have heap:∀ out:List ar,sortedHeap s.heap a c out.toArray=G.update a (ua λ _=>out.toArray):=λ out=>by rw[<-C];rfl
 have eS:∀ X Y:Sem uq,X=Y->dw (model prog w) A X P E {s with heap:=G}->dw (model prog w) A Y P E {s with heap:=G}:=λ X Y e h=>e ▸ h
 have l:∀ d:eV,va d=none->(dh d).toList.Perm (c.zip c)->jB lb (dh d).toList ->
   P (.done (.ret .none)) {s with heap:=G.update a (ua λ _=>(dh d).map (·.2))}:=λ d _ g B=>by
  have:=kRM g B;have q:=h _ this.1 this.2;rw[heap]at q;rw[show(dh d).map (·.2)=((dh d).toList.map (·.2)).toArray by rw[<-Array.toList_map]];exact q
 have r:∀{d:eV},(dh d).toList.Perm (c.zip c)->((dh d).map (·.2)).size<=sizeLine+1:=λ{d} g=>by
  have:=g.length_eq;rw[Array.size_map];simp at this;omega
 dsimp only;by_cases i:c.toArray.size<2
 ·rw[if_pos i,if_pos i]
  refine ae (bj ?_);rw[StateT.run_pure];refine ae (bj ?_)
  have g:(dh (CV general' (c.toArray.zip c.toArray) #[] 7 none)).toList.Perm (c.zip c):=by
   show(c.toArray.zip c.toArray).toList.Perm _;simp
  refine ae (ET f rfl (ae (Bw f rfl ?_ (gy _) (r g))));dsimp only;simp only[bne_self_eq_false,eP,if_false];refine bj (l (CV general' (c.toArray.zip c.toArray) #[] 7 none) rfl g ?_)
  have:(c.zip c).length<=1:=by
   simp at i ⊢;omega
  show jB lb (c.toArray.zip c.toArray).toList;rw[show(c.toArray.zip c.toArray).toList=c.zip c by simp];exact pU this
 ·rw[if_neg i,if_neg i]
  refine ae (I (by simp at i;omega) G M _ ?_)
  refine ae (vj (sU (s:={s with heap:=G}) W (N G M) (st:=CV kd (c.toArray.zip c.toArray) #[] 7 none) rfl rfl rfl (λ x y=>?_)
   (Q:=λ _ d=>(dh d).toList.Perm (c.zip c)/\va d=none/\jB lb (dh d).toList) λ d a1 Z O=>⟨?_,Z,O⟩) ?_ λ _ _ e=>e)
  ·have y:x∈(c.toArray.zip c.toArray).toList:=y
   rw[show(c.toArray.zip c.toArray).toList=c.zip c by simp]at y;obtain⟨H,z2⟩:=mem_zip_self y;obtain⟨u,v⟩:=x;have H:u=v:=H;subst H;exact U u z2
  ·refine a1.trans ?_
   show(c.toArray.zip c.toArray).toList.Perm _;simp
  ·rintro⟨⟨⟩,d⟩ s' ⟨rfl,g,L,B⟩
   refine ae (ET f rfl (ae (Bw f rfl ?_ (gy _) (r g))));dsimp only;rw[L];simp only[bne_self_eq_false,eP,if_false];exact bj (l d L g B)
def kDP{l:au}{o:Obj}{a:List ar}{n:Nat}{Q:List ar->av->Prop}(j:s.heap.get? l=some o)(m:o.cls=.type "list"\/o.cls=.type "tuple")(q:o.data=.seq a.toArray n)(hz:a.length<=sizeLine)
  (h:∀ h1:iS,h1.objs.size=s.heap.objs.size+1->(∀ b u,s.heap.get? b=some u->h1.get? b=some u)->Q a {s with heap:=h1}):dw (model prog w) A (collect (.ref l)) Q E s:=by
 unfold collect;refine ae (wpAny_runValue (Ea entry_proto_collect' ?_));show dw _ _ (newList [] >>= λ x=>again (.builtin "list.__iadd__" ⟨[x,.ref l],[]⟩)) _ _ s;refine ae (DJ (bj ⟨Code.quiet_builtin _ (by decide +kernel),Ea entry_list_iadd' ?_⟩) (gy _));generalize d:s.heap.push (seqObj "list" #[] 0)=G;have v:G.objs.size=s.heap.objs.size+1:=by rw[<-d,size_push']
 have i:∀ b u,s.heap.get? b=some u->G.get? b=some u:=λ b u e=>by rw[<-d];exact ao _ e
 have f:G.get? s.heap.objs.size=some (seqObj "list" #[] 0):=by rw[<-d];exact cg _ rfl
 show dw _ _ (BM (.ref s.heap.objs.size) (.ref l) (.ref s.heap.objs.size)) _ _ {s with heap:=G}
 unfold BM
 have g:dw (model prog w) A (load s.heap.objs.size >>= λ o=>match o.data with
   | .seq xs _=>pure xs.toList
   | _=>unsupported "internal:collect") Q E {s with heap:=G.update s.heap.objs.size (ua (·++a.toArray))}:=by
  refine ae (wpAny_load (BC f _) ?_);show dw _ _ (pure ((#[]:Array ar)++a.toArray).toList) Q E _;rw[show((#[]:Array ar)++a.toArray).toList=a by simp];refine bj (h _ (by rw[Heap.size_update,v]) λ b u e=>?_);rw[ze _ _ _ _ (dq (bz e))];exact i b u e
 have y:∃ T:String,o.cls=.type T/\(T = "list"\/T = "tuple"):=by
  rcases m with e | e
  ·exact⟨_,e,.inl rfl⟩
  ·exact⟨_,e,.inr rfl⟩
 obtain⟨T,p,c⟩:=y;refine ae (AL (T:=T) ⟨o,i l o j,p⟩ ?_)
 have r:(BQ T == BQ "list" || BQ T == BQ "tuple")=true:=by
  rcases c with rfl | rfl<;>rfl
 rw[if_pos (by rw[Bool.or_assoc,r,Bool.or_true])];refine ae (Du (i l o j) q (ae (Du (xs:=#[]) (n:=0) f rfl ?_)));rw[if_neg (by simp)];refine ae (Bw (xs:=#[]) (n:=0) f rfl ?_ (gy _) (by show(#[]++a.toArray).size<=sizeLine+1;rw[yi];simp;omega));exact bj g
def fV{lb:bp->bp->Bool}{D:bp->Prop}{kd:oq}(W:Wk lb){l:au}{o:Obj}{f:List ar}{n:Nat}{Q:ar->av->Prop}(T:s.heap.get? l=some o)(N:o.cls=.type "list"\/o.cls=.type "tuple")(H:o.data=.seq f.toArray n)(hz:f.length<=sizeLine)
  (y:2<=f.length->∀(p:gj)(j:ar->av->Prop)(d:iS),(∀ b o,o.cls≠.type "list"->s.heap.get? b=some o->d.get? b=some o)->∀ Q:oq->av->Prop,Q kd {s with heap:=d}->dw (model prog w) p (keyKind' f.toArray) Q j {s with heap:=d})
  (L:∀(p:gj)(j:ar->av->Prop)(d:iS),(∀ b o,o.cls≠.type "list"->s.heap.get? b=some o->d.get? b=some o)->vP (model prog w) p j {s with heap:=d} lb D kd) (O:∀ v∈f,D (v,v))
  (h:∀(a:List ar)(k:Nat)(h':iS),a.Perm f->kNF lb a->(∀ b u,s.heap.get? b=some u->h'.get? b=some u)->h'.get? (s.heap.objs.size+1)=some (seqObj "list" a.toArray k)->Q (.ref (s.heap.objs.size+1)) {s with heap:=h'}) :
  dw (model prog w) A (call (.builtin "sorted") [.ref l]) Q E s:=by
 refine Calls.call_function_entry kind_sorted plain_sorted entry_sorted (args_sorted1 _) ?_;unfold zw.«sorted»;refine ae (m:=checkCount "sorted" 1 1 _) (bj (ae (kDP T N H hz λ h1 g X=>?_)));refine ae (DJ ?_ (by simpa using hz));generalize C:h1.push (seqObj "list" f.toArray 0)=G
 have i:G.get? (s.heap.objs.size+1)=some (seqObj "list" f.toArray 0):=by
  rw[<-C,<-g];exact cg _ rfl
 have x:∀ b u,s.heap.get? b=some u->G.get? b=some u:=λ b u e=>by
  rw[<-C];exact ao _ (X b u e)
 show dw _ _ _ _ _ {s with heap:=G}
 rw[g];refine ae (md (mf slot_list_sort ⟨_,i,rfl⟩ entry_list_sort (kKH (s:={s with heap:=G}) W i hz (λ M d r Q q=>y M _ _ d (λ b o c e=>r b o c (x b o e)) Q q) (λ d r=>L _ _ d λ b o c e=>r b o c (x b o e)) O λ a S I=>⟨_,rfl,?_⟩) (args_list_sort _)))
 have U:s.heap.objs.size+1<G.objs.size:=bz i;have J:(G.update (s.heap.objs.size+1) (ua λ _=>#[])).get? (s.heap.objs.size+1)=some (seqObj "list" #[] (if(#[]:Array ar).size == f.toArray.size then 0 else 1)):=BC i (λ _=>#[]);refine bj ⟨_,rfl,h a _ _ S I (λ b u e=>?_) (BC (ao _ (ao _ J)) (λ _=>a.toArray))⟩;have B:b≠s.heap.objs.size+1:=dq (ux (bz e));unfold sortedHeap;rw[ze _ _ _ _ B];refine ao _ (ao _ ?_);rw[ze _ _ _ _ B];exact x b u e
def sorted_tups{l:au}{o:Obj}{i:List ar}{n:Nat}{Q:ar->av->Prop}(ho:s.heap.get? l=some o)(Y:o.cls=.type "list"\/o.cls=.type "tuple")(N:o.data=.seq i.toArray n)(hz:i.length<=sizeLine)
  (J:∀ v∈i,TupI s.heap v)
  (h:∀(g:List ar)(k:Nat)(h':iS),g.Perm i->kNF (lbT s.heap) g->(∀ b u,s.heap.get? b=some u->h'.get? b=some u)->h'.get? (s.heap.objs.size+1)=some (seqObj "list" g.toArray k)->Q (.ref (s.heap.objs.size+1)) {s with heap:=h'}) :
  dw (model prog w) A (call (.builtin "sorted") [.ref l]) Q E s:=by
 have r:∀{d:iS},(∀ b o,o.cls≠.type "list"->s.heap.get? b=some o->d.get? b=some o)->∀ b o,o.cls=.type "tuple"->s.heap.get? b=some o->d.get? b=some o:=λ j b o c e=>j b o (by rw[c];intro q;injection q with q;exact absurd q (by decide)) e
 refine fV (D:=λ x=>TupI s.heap x.1) (kd:=tuples' true) (kRW s.heap) ho Y N hz (λ h2 O L d j Q q=>?_) (λ O L d j=>?_) (λ v f=>J v f) h
 ·have Z:∀ v∈i,TupI d v:=λ v f=>((J v f).kept (r j)).1
  have:∀ p:List ar,(∀ v∈p,TupI d v)->∃ fs,KatTups d p fs/\fs.length=p.length/\∀ v∈fs,∃ k t,v=uk k t:=λ p=>by
   induction p with
   | nil=>intro _;exact⟨[],.nil,rfl,by simp⟩
   | cons u p ih =>
    intro H;obtain⟨fs,C,I,B⟩:=ih λ v f=>H v (eC _ f);obtain⟨a,o,G,m,rfl,e1,e2,S,X,M⟩:=H u (eZ ..);refine⟨G[0]::fs,.cons e1 e2 S (getElem?_pos G 0 M) C,by simp[I],λ v f=>?_⟩;rcases dr.mp f with rfl | z
    ·exact X _ (by simp)
    ·exact B v z
  obtain⟨fs,C,I,B⟩:=this i Z;refine kat_kind (T:=.type "int") C (by omega) (λ v f=>?_) rfl q;obtain⟨k,t,rfl⟩:=B v f;exact Fj rfl
 ·intro x y hx hy st Q U q
  have a:=hx.kept (r j);have b:=hy.kept (r j);refine kHW (s:={s with heap:=d}) x y a.1 b.1 st Q U ?_
  show Q (some (lexLt (keyOf d x.1) (keyOf d y.1))) st;rw[a.2,b.2];exact q
def sorted_nums{l:au}{o:Obj}{c:List ar}{n:Nat}{Q:ar->av->Prop}(p:s.heap.get? l=some o)(i:o.cls=.type "list"\/o.cls=.type "tuple")(m:o.data=.seq c.toArray n)(hz:c.length<=sizeLine)
  (f:∀ v∈c,∃ k t,v=uk k t)
  (h:∀(a:List ar)(k:Nat)(h':iS),a.Perm c->kNF lbI a->(∀ b u,s.heap.get? b=some u->h'.get? b=some u)->h'.get? (s.heap.objs.size+1)=some (seqObj "list" a.toArray k)->Q (.ref (s.heap.objs.size+1)) {s with heap:=h'}) :
  dw (model prog w) A (call (.builtin "sorted") [.ref l]) Q E s:=by
 refine fV (D:=λ x=>∃ k t,x.1=.int k t) (kd:=oneType') kRX p i m hz (λ g r j y B Q q=>?_) (λ r j y B=>kHX) (λ v d=>f v d) h;refine kas_kind (T:=.type "int") g (λ v d=>?_) rfl rfl q;obtain⟨k,t,rfl⟩:=f v d;exact Fj rfl
end
def perm_back{α β:Type}{f:α->β}:∀{d c:List β},d.Perm c->∀{l:List α},c=l.map f->∃ m:List α,m.Perm l/\d=m.map f:=by
 intro d c h
 induction h with
 | nil =>
  intro l e
  match l,e with
  | [],_=>exact⟨[],.refl _,rfl⟩
 | cons x _ ih =>
  intro l e
  match l,e with
  | y::l,e =>
   rw[gv]at e;injection e with e1 e2
   obtain⟨m,a,b⟩:=ih e2;exact⟨y::m,a.cons y,by rw[gv,b,e1]⟩
 | swap x y l0 =>
  intro l e
  match l,e with
  | a::b::l,e =>
   rw[gv,gv]at e;injection e with e1 e2
   injection e2 with e2 e3
   exact⟨b::a::l,.swap _ _ _,by rw[gv,gv,e1,e2,e3]⟩
 | trans _ _ ih1 ih2 =>
  intro l e;obtain⟨m,a,b⟩:=ih2 e;obtain⟨j,g,i⟩:=ih1 b;exact⟨j,g.trans a,i⟩
end Srt
namespace L2
open PySem PySem.Spec PyProof.Rows
section
variable {X:Cx}
theorem bZ:∀{b:List (au×List Int)}{a:List ar},Vals (b.map λ q=>V.ref q.1) a->a=b.map λ q=>jx q.1
 | [],_,.nil=>rfl
 | p::b,_,.cons r t=>by
  rw[bZ t,show _=jx p.1 from r]
  rfl
theorem nV:∀(a:List (au×List Int)),Vals (a.map λ q=>V.ref q.1) (a.map λ q=>jx q.1)
 | []=>.nil
 | p::a=>.cons rfl (nV a)
def kSS(H:Hp)(a:List (au×List Int)):Prop:=∀ q∈a,H q.1=some (.tup (q.2.map V.int))/\q.2≠[]
def pG{b:List (au×Obj)}{m:St}{H:Hp}{s:av}(I:Inv X b m H s){a:au}{c:List Int}(h:H a=some (.tup (c.map V.int)))(h0:c≠[]):Srt.TupI s.heap (.ref a)/\Srt.keyOf s.heap (.ref a)=c:=by
 obtain⟨l,g,⟨o,f,j,n,d⟩,r⟩:=I.tuple (SqT.of (K:=X.K) h);have i:=bJ g;have p:=g.length;refine⟨⟨a,o,_,n,rfl,f,j,d,λ u q=>i.all u (by simpa using q),?_⟩,?_⟩
 ·rw[ai]at p
  have:0<c.length:=wd.mpr h0;simp;omega
 ·rw[Srt.TupI.key f d]
  exact i.nums
inductive dJ(K:ay)(xs:List V)(H:Hp)(Q:VK):Prop
 | mk:∀(p:au)(ps:List (au×List Int)),(xs=[.ref p])->((SqL K H p (ps.map λ q=>V.ref q.1)\/SqT K H p (ps.map λ q=>V.ref q.1)))->(kSS H ps)->(∀(l:au)(ps':List (au×List Int)),H l=none->ps'.Perm ps->ps'.Pairwise (λ a b=>Srt.lexLt b.2 a.2=false)->Q (.ref l) (upd H l (.lst (ps'.map λ q=>V.ref q.1))))->dJ K xs H Q
def mI:yX X (.builtin "sorted") (dJ X.K):=by
 intro L s σ H xs us Q I r h;obtain⟨p,G,rfl,y,g,q⟩:=h;obtain⟨u,rfl,S⟩:=wG r;cases S
 have obj:∃(o:Obj)(n:Nat),s.heap.get? p=some o/\(o.cls=.type "list"\/o.cls=.type "tuple")/\o.data=.seq (G.map λ q=>jx q.1).toArray n/\G.length<=sizeLine:=by
  rcases y with y | y
  ·obtain⟨B,C,i,f⟩:=I.list y
   rw[bZ C]at i;obtain⟨o,m,l,n,j⟩:=i.isList;exact⟨o,n,m,.inl l,j,by simpa using f⟩
  ·obtain⟨B,C,i,f⟩:=I.tuple y
   rw[bZ C]at i;obtain⟨o,m,l,n,j⟩:=i;exact⟨o,n,m,.inr l,j,by simpa using f⟩
 obtain⟨o,n,m,l,j,f⟩:=obj;refine Srt.sorted_tups m l j (by simpa using f) (λ v hv=>?_) λ N k U Y O Z e=>?_
 ·obtain⟨x,M,rfl⟩:=iP.mp hv
  exact(pG I (g x M).1 (g x M).2).1
 ·obtain⟨d,c,rfl⟩:=Srt.perm_back Y rfl
  refine⟨.ref (s.heap.objs.size+1),_,I.laid (t':=s.toks) Z (Aq _) (show ObjOk X.prog X.w _ U _ (.lst (d.map λ q=>V.ref q.1)) from⟨by simpa[c.length_eq] using f,_,k,nV d,e⟩),rfl,q _ d (I.hok.fresh (Aq _)) c ?_⟩;refine(qe.mp O).imp_of_mem λ{a b} D J A=>?_;have e1:=(pG I (g a (c.mem_iff.mp D)).1 (g a (c.mem_iff.mp D)).2).2;have T:=(pG I (g b (c.mem_iff.mp J)).1 (g b (c.mem_iff.mp J)).2).2;have A:Srt.lexLt (Srt.keyOf s.heap (.ref b.1)) (Srt.keyOf s.heap (.ref a.1))=false:=A;rw[e1,T]at A;exact A
inductive dL(K:ay)(xs:List V)(H:Hp)(Q:VK):Prop
 | mk:∀(p:au)(ns:List Int),(xs=[.ref p])->((SqL K H p (ns.map V.int)\/SqT K H p (ns.map V.int)))->(∀(l:au)(ns':List Int),H l=none->ns'.Perm ns->ns'.Pairwise (·<=·)->Q (.ref l) (upd H l (.lst (ns'.map V.int))))->dL K xs H Q
def kDR:yX X (.builtin "sorted") (dL X.K):=by
 intro J s Y H Z S Q I r h;obtain⟨p,G,rfl,x,q⟩:=h;obtain⟨u,rfl,M⟩:=wG r;cases M
 have obj:∃(o:Obj)(n:Nat)(c:List ar),s.heap.get? p=some o/\(o.cls=.type "list"\/o.cls=.type "tuple")/\o.data=.seq c.toArray n/\c.length<=sizeLine/\Vals (G.map V.int) c:=by
  rcases x with x | x
  ·obtain⟨c,j,A,f⟩:=I.list x
   obtain⟨o,l,i,n,g⟩:=A.isList;exact⟨o,n,c,l,.inl i,g,by rw[<-j.length];exact f,j⟩
  ·obtain⟨c,j,A,f⟩:=I.tuple x
   obtain⟨o,l,i,n,g⟩:=A;exact⟨o,n,c,l,.inr i,g,by rw[<-j.length];exact f,j⟩
 obtain⟨o,n,c,l,i,g,f,N⟩:=obj;have B:=bJ N;refine Srt.sorted_nums l i g f (λ v m=>B.all v m) λ d k O y D T e=>?_;have all:∀ v∈d,∃ k t,v=uk k t:=λ v m=>B.all v (y.mem_iff.mp m)
 have L:Vals ((d.map numOf).map V.int) d:=by
  clear e D y
  induction d with
  | nil=>exact .nil
  | cons u S ih =>
   obtain⟨k,t,rfl⟩:=all u (eZ ..);exact .cons ⟨t,rfl⟩ (ih λ v m=>all v (eC _ m))
 have U:(d.map numOf).Perm G:=by
  have:=y.map numOf;rwa[B.nums]at this
 refine⟨.ref (s.heap.objs.size+1),_,I.laid (t':=s.toks) T (Aq _) (show ObjOk X.prog X.w _ O _ (.lst ((d.map numOf).map V.int)) from⟨?_,_,k,L,e⟩),rfl,q _ _ (I.hok.fresh (Aq _)) U ?_⟩
 ·rw[ai,ai,y.length_eq]
  exact f
 ·refine qe.mpr (D.imp λ{a b} C=>?_)
  have C:decide (numOf b<numOf a)=false:=C;have:=of_decide_eq_false C;omega
end
end L2
namespace Hsh
set_option autoImplicit false
open PySem PySem.Spec PyProof.Rows
def kIO:Nat->List Nat->Bool
 | 0,l=>l.length<=1
 | k+1,l=>match l with
  | []=>true
  | [_]=>true
  | l=>kIO k (l.filter λ n=>(n / 2 ^ k) % 2 == 0) && kIO k (l.filter λ n=>!((n / 2 ^ k) % 2 == 0))
def kPI:∀(k:Nat)(l:List Nat),kIO k l=true->l.Nodup:=by
 intro k
 induction k with
 | zero =>
  intro l h
  match l,h with
  | [],_=>exact yr
  | [x],_=>exact gk.mpr ⟨by simp,yr⟩
  | _::_::_,h=>simp[kIO]at h
 | succ k ih =>
  intro l h
  match l,h with
  | [],_=>exact yr
  | [x],_=>exact gk.mpr ⟨by simp,yr⟩
  | a::b::l,h =>
   unfold kIO at h;rw[iQ]at h;have h1:=ih _ h.1;have g:=ih _ h.2;generalize a::b::l=m at *
   have:∀ m:List Nat,(m.filter λ n=>(n / 2 ^ k) % 2 == 0).Nodup->(m.filter λ n=>!((n / 2 ^ k) % 2 == 0)).Nodup->m.Nodup:=λ m=>by
    induction m with
    | nil=>intro _ _;exact yr
    | cons x m ih =>
     intro d c
     have mem:x∉m:=λ f=>by
      cases e:(x / 2 ^ k) % 2 == 0 with
      | true =>
       rw[vf,if_pos e]at d;exact(gk.mp d).1 (ig.mpr ⟨f,e⟩)
      | false =>
       rw[vf,if_pos (by rw[e];rfl)]at c;exact(gk.mp c).1 (ig.mpr ⟨f,by rw[e];rfl⟩)
     refine gk.mpr ⟨mem,ih ?_ ?_⟩
     ·rw[vf]at d
      split at d
      ·exact(gk.mp d).2
      ·exact d
     ·rw[vf]at c
      split at c
      ·exact(gk.mp c).2
      ·exact c
   exact this m h1 g
def hp(p q:Nat):Nat:=(reduceHash (FN [hashInt (p:Int),hashInt (q:Int)])+2 ^ 63).toNat
def all:List Nat:=(cw 1764).map λ i=>hp (i / 42) (i % 42)
def kNC:kIO 64 all=true:=by decide +kernel
def hp_inj{p q d c:Nat}(h1:p<42)(f:q<42)(h:d<42)(g:c<42)(e:hp p q=hp d c):p=d/\q=c:=by
 have nd:=kPI 64 all kNC
 have at':∀ p q:Nat,p<42->q<42->all[42*p+q]?=some (hp p q):=λ p q a b=>by
  unfold all;rw[bg,DD (by omega)];show some (hp ((42*p+q) / 42) ((42*p+q) % 42))=_;rw[show(42*p+q) / 42=p by omega,show(42*p+q) % 42=q by omega]
 have a:=at' p q h1 f;have b:=at' d c h g;rw[<-e]at b;have:=(yh (aj.mp a).1 nd).mp (a.trans b.symm);omega
end Hsh
namespace Dct
set_option autoImplicit false
open PySem PySem.Spec PyProof.Rows
section
variable {prog:eo} {w:iJ} {A:gj} {E:ar->av->Prop} {s:av} {κ:Type} [DecidableEq κ] {kd:KeyKind prog w κ}
def fold(xs ys:List (List κ×au×ar)):List (List κ×au×ar):=ys.foldl (λ a y=>storedH a y.1 y.2.1 y.2.2) xs
def fold_len(xs ys:List (List κ×au×ar)):(fold xs ys).length<=xs.length+ys.length:=by
 induction ys generalizing xs with
 | nil=>exact be _
 | cons y ys ih =>
  have:=ih (storedH xs y.1 y.2.1 y.2.2)
  have l:(storedH xs y.1 y.2.1 y.2.2).length<=xs.length+1:=by
   unfold storedH
   split<;>simp
  rw[gn];unfold fold at *;rw[vy];omega
theorem kBB:∀(xs ys:List (List κ×au×ar)),((xs++ys).map (·.1)).Nodup->fold xs ys=xs++ys
 | xs,[],_=>by rw[iW];rfl
 | xs,y::ys,h=>by
  have a:atKey xs y.1=none:=by
   refine Dv λ j p e=>?_;rw[eE,gv,de]at h;exact h.2.2 y.1 (iP.mpr ⟨_,cv e,rfl⟩) y.1 (eZ ..) rfl
  unfold fold;rw[vy,storedH_new a];have:=kBB (xs++[y]) ys (by simpa using h);unfold fold at this;rw[show(y.1,y.2.1,y.2.2)=y from rfl,this];simp
def oP(xs ys:List (List κ×au×ar))(i:Nat)(y:List κ×au×ar)(h:ys[i]?=some y):fold xs (ys.take (i+1))=storedH (fold xs (ys.take i)) y.1 y.2.1 y.2.2:=by
 unfold fold;rw[Bs,h,Ds]
 rfl
def gR{d a:au}{xs:List (List κ×au×ar)}{k:List κ}{v:ar}{Q:Unit->av->Prop}(I:A.units<cLine)(B:(tupleKind kd).is s.heap k a)(H:s.heap.DictOfH (tupleKind kd) d xs)(hz:xs.length<=sizeLine)
  (q:∀ h',h'.DictOfH (tupleKind kd) d (storedH xs k a v)->jb d s.heap h'->Q () {s with heap:=h'}):dw (model prog w) A (dictSetHashed d (.ref a) ((tupleKind kd).hash k) v) Q E s:=by
 obtain⟨o,G,r,c,C,b,i,f,g⟩:=H;have sz:=Ci i;unfold dictSetHashed
 try with_reducible refine md ?_
 refine ae (wpAny_dictFind_heap (knd:=tupleKind kd) I B c b i f g (λ D=>?_) λ j p u=>?_)
 ·have J:=not_mem_keys_of_get D
  have e:=storedH_new (Dv D) a v;refine ae (vt (wpAny_updateDictKeys (hz:=by omega) c b (q _ ⟨_,_,r+1,qk _ c (BJ (yp b _)),C.mapDictKeys _,yp b _,?_,?_,?_⟩ (ju ..))))
  ·rw[e]
   simp[i,entryOfKey]
  ·rw[e]
   intro x h;rcases cf.mp h with z | z
   ·exact(tupleKind kd).keeps (f x z) c b (ju ..)
   ·rw[bu.mp z]
    exact(tupleKind kd).keeps B c b (ju ..)
  ·rw[e,eE,de]
   refine⟨g,by simp,λ x h y n z=>J ?_⟩;have:y=k:=by simpa using n
   rw[<-this,<-z];exact h
 ·have e:=storedH_old (atKey_of_get g u) a v
  refine ae (vt (ae (wpAny_updateDict c b (wpAny_point (q _ ⟨_,_,r,qk _ c (BJ (EL b _)),C.mapDict _,EL b _,?_,?_,?_⟩ (ju ..))))))
  ·rw[e]
   have m:=modify_map_putAt (entryOfKey (tupleKind kd)) (λ z:CG=>{z with val:=v}) k v (λ _ _=>rfl) g u
   rw[<-i]at m;obtain⟨l⟩:=G;simpa using m
  ·rw[e]
   intro x h;obtain⟨y,n,rfl⟩:=iP.mp h;unfold putAt
   split<;>exact(tupleKind kd).keeps (f y n) c b (ju ..)
  ·rw[e,keys_map_putAt]
   exact g
def kHO{k:List κ}{a:au}{Q:Bool->av->Prop}(b:(tupleKind kd).is s.heap k a)(q:Q false s):dw (model prog w) A (Cy (.ref a)) Q E s:=by
 unfold Cy;have b:IsTupleKey kd s.heap k a:=b;refine ae (Ce b.typeIs F.slot_tuple_eq.lookup (bj ?_));exact q
def kBE{id:String}{d:au}{o:Obj}{a:Array CG}{ep:Nat}{xs:List (List κ×au×ar)}{Q:Array CG->av->Prop}(y:s.heap.get? d=some o)(v:o.data=.dict a ep)(u:a.toList=xs.map (entryOfKey (tupleKind kd)))(m:∀ x∈xs,(tupleKind kd).is s.heap x.1 x.2.1)
  (p:(xs.map λ x=>(tupleKind kd).hash x.1).Nodup) (q:Q a s):dw (model prog w) A (BD id d) Q E s:=by
 have j:∀ e∈a,¬ (a.filter λ z=>z.hash == e.hash).size>1:=λ e f g=>by
  have:(a.toList.map λ z=>z.hash)=xs.map λ x=>(tupleKind kd).hash x.1:=by
   rw[u,AW]
   rfl
  rw[<-this]at p
  have l:(a.filter λ z=>z.hash == e.hash).size=((a.toList.map λ z=>z.hash).filter λ z=>z == e.hash).length:=by
   rw[<-iK,Array.toList_filter,List.filter_map,ai]
   rfl
  have c:=List.nodup_iff_count.mp p e.hash;rw[List.count_eq_length_filter]at c;omega
 unfold BD;refine ae (sh y v (ae ?_));rw[<-Array.forIn_toList];refine Ag _ (λ rest _ i=>i=s/\∀ e∈rest,e∈a) _ ?_ ?_ _ _ ⟨rfl,λ e h=>uu.mp h⟩
 ·rintro e rest b i ⟨rfl,r⟩
  have f:=r e (eZ ..)
  obtain⟨x,n,rfl⟩ : ∃ x∈xs,e=entryOfKey (tupleKind kd) x:=by
   have:e∈xs.map (entryOfKey (tupleKind kd)):=u ▸ uu.mpr f;obtain⟨x,n,z⟩:=iP.mp this;exact⟨x,n,z.symm⟩
  refine ae (kHO (m x n) ?_);simp only[Ex,if_true];rw[if_neg (j _ f)];exact bj ⟨rfl,λ z B=>r z (eC _ B)⟩
 ·rintro b i ⟨rfl,_⟩
  exact bj q
def kHV{nm:String}{d o:au}{xs ys:List (List κ×au×ar)}{Q:Unit->av->Prop}(hu:A.units<cLine)(L:d≠o)(a2:(o == sysModules)=false)(T:s.heap.DictOfH (tupleKind kd) d xs)(ho:s.heap.DictOfH (tupleKind kd) o ys)
  (hz:xs.length+ys.length<=sizeLine) (hh:xs=[]->(ys.map λ y=>(tupleKind kd).hash y.1).Nodup)
  (q:∀ h',h'.DictOfH (tupleKind kd) d (fold xs ys)->jb d s.heap h'->Q () {s with heap:=h'}):dw (model prog w) A (CY nm d o) Q E s:=by
 obtain⟨od,a1,Y,u,Z,m,a0,a3,a5⟩:=id T;obtain⟨S,a,a4,n,a6,c,C,r,O⟩:=id ho;have H:=Ci C;have N:=Ci a0;unfold CY;rw[if_neg (by simpa using L)];unfold GJ;rw[if_neg (by rw[a2];exact eK)]
 refine ae (bj (ae (sh n c ?_)))
 have I:∃ h' i,s={s with heap:=h'}/\AG 0 a.size=AG i (a.size-i)/\i<=a.size/\h'.DictOfH (tupleKind kd) d (fold xs (ys.take i))/\h'.get? o=some S/\jb d s.heap h' :=
  ⟨s.heap,0,rfl,rfl,gy _,by rw[CJ];exact T,n,AN _ _⟩
 dsimp only
 split
 ·refine ae (sh u m ?_)
  split
  ·rename_i hemp
   have z:xs=[]:=by
    have h0:a1 = #[]:=Dw.mp hemp;rw[h0]at N;exact ox.mp N.symm
   subst z;have ff:fold [] ys=ys:=kBB [] ys O;rw[ff]at q;refine ae (kBE n c C r (hh rfl) ?_)
   split
   ·refine ae (wpAny_updateDictKeysTo u m (bj (q _ ⟨_,_,Y+1,qk _ u (BJ (yp m _)),Z.mapDictKeys _,yp m _,C,λ x hx=>(tupleKind kd).keeps (r x hx) u m (ju ..),O⟩ (ju ..))) ?_)
    simp only[qm]at hz;omega
   ·rename_i hne
    have h0:a = #[]:=Dw.mp (by simpa using hne)
    have z:ys=[]:=by
     rw[h0]at H;exact ox.mp H.symm
    subst z;exact bj (q _ T (AN _ _))
  ·refine ae (BE n c (ae (sh n c (ae ?_))))
   rw[rm];simp only[Aa,Dx,DQ,GX];refine Ag _ (λ rest _ J=>∃ h' i,J={s with heap:=h'}/\rest=AG i (a.size-i)/\i<=a.size/\h'.DictOfH (tupleKind kd) d (fold xs (ys.take i))/\h'.get? o=some S/\jb d s.heap h') _ ?_ ?_ _ _ I
   ·rintro x rest b J ⟨h',i,rfl,p,X,h,g,j⟩
    by_cases D:i<a.size
    ·rw[show a.size-i=(a.size-(i+1))+1 by omega,wm]at p
     injection p with h1 h2
     subst h1;refine ae (sh g c ?_);have G:ys[x]?=some (ys[x]'(by omega)):=aa _;rw[entry_at C x,G];generalize ys[x]'(by omega)=y at G;have U:(tupleKind kd).is h' y.1 y.2.1:=(tupleKind kd).keeps (r y (cv G)) u m j;have lz:=fold_len xs (ys.take x);have lt:(ys.take x).length<=ys.length:=by rw[dc];omega
     refine ae (md (gR (s:={s with heap:=h'}) hu U h (by omega) λ v B l=>?_))
     have f:v.get? o=some S:=(l.2 o (pe L)).trans g;refine ae (BE f c ?_);rw[if_neg (by simp)];exact bj ⟨v,x+1,rfl,h2,D,by rw[oP xs ys x y G];exact B,f,j.trans l⟩
    ·rw[show a.size-i=0 by omega]at p
     exact nomatch p
   ·rintro b J ⟨h',i,rfl,p,X,h,g,j⟩
    have M:i=a.size:=by
     by_cases D:i<a.size
     ·rw[show a.size-i=(a.size-(i+1))+1 by omega,wm]at p
      exact nomatch p
     ·omega
    refine bj (q h' ?_ j);rw[M,H,iG]at h;exact h
 ·refine ae (BE n c (ae (sh n c (ae ?_))))
  rw[rm];simp only[Aa,Dx,DQ,GX];refine Ag _ (λ rest _ J=>∃ h' i,J={s with heap:=h'}/\rest=AG i (a.size-i)/\i<=a.size/\h'.DictOfH (tupleKind kd) d (fold xs (ys.take i))/\h'.get? o=some S/\jb d s.heap h') _ ?_ ?_ _ _ I
  ·rintro x rest b J ⟨h',i,rfl,p,X,h,g,j⟩
   by_cases D:i<a.size
   ·rw[show a.size-i=(a.size-(i+1))+1 by omega,wm]at p
    injection p with h1 h2
    subst h1;refine ae (sh g c ?_);have G:ys[x]?=some (ys[x]'(by omega)):=aa _;rw[entry_at C x,G];generalize ys[x]'(by omega)=y at G;have U:(tupleKind kd).is h' y.1 y.2.1:=(tupleKind kd).keeps (r y (cv G)) u m j;have lz:=fold_len xs (ys.take x);have lt:(ys.take x).length<=ys.length:=by rw[dc];omega
    refine ae (md (gR (s:={s with heap:=h'}) hu U h (by omega) λ v B l=>?_))
    have f:v.get? o=some S:=(l.2 o (pe L)).trans g;refine ae (BE f c ?_);rw[if_neg (by simp)];exact bj ⟨v,x+1,rfl,h2,D,by rw[oP xs ys x y G];exact B,f,j.trans l⟩
   ·rw[show a.size-i=0 by omega]at p
    exact nomatch p
  ·rintro b J ⟨h',i,rfl,p,X,h,g,j⟩
   have M:i=a.size:=by
    by_cases D:i<a.size
    ·rw[show a.size-i=(a.size-(i+1))+1 by omega,wm]at p
     exact nomatch p
    ·omega
   refine bj (q h' ?_ j);rw[M,H,iG]at h;exact h
end
def meets_upd{prog:eo}{w:iJ}{j:Type}[DecidableEq j](kd:KeyKind prog w j)(d o:au)(f:d≠o)(b:(o == sysModules)=false) :
  MeetsIn prog w (zw.«dict.update» ⟨[.ref d,.ref o],[]⟩) (λ A R s=>A.in1.units<cLine/\∃ xs ys,s.heap.DictOfH (tupleKind kd) d xs/\s.heap.DictOfH (tupleKind kd) o ys/\xs.length+ys.length<=sizeLine/\(xs=[]->(ys.map λ y=>(tupleKind kd).hash y.1).Nodup) /\
   ∀ h',h'.DictOfH (tupleKind kd) d (fold xs ys)->jb d s.heap h'->R (.ok (.ret .none)) {s with heap:=h'}) :=
 .of_wp λ A R s ⟨n,xs,ys,i,a,m,l,h⟩=>by
  unfold zw.«dict.update»;refine ae ?_;unfold Fk;refine ae (wpAny_notOrdered_dict i.typeIs ?_);refine bj (show dw _ _ (CL "dict.update" d (.ref o) [] .none) _ _ s from ?_);unfold CL;refine ae (AL a.typeIs ?_);rw[if_neg (by decide)];refine ae ?_;unfold Gh;refine ae ?_;unfold FO;refine ae (CM a.typeIs isSubtype_dict_dict ?_);simp only[zj,eP,if_false];refine ae (Ce a.typeIs F.slot_dict_iter.lookup (bj ?_));simp only[beq_self_eq_true,if_true];refine ae (bj (kHV n f b i a m l λ h' c g=>?_));refine show dw _ _ (Fm d [] >>= _) _ _ _ from ?_;exact ae (bj (bj ⟨.none,rfl,h h' c g⟩))
end Dct
namespace L2
open PySem PySem.Spec PyProof.Rows
section
variable {X:Cx} {pins:List (au×Obj)} {σ:St} {H:Hp} {s:av} {a:au} {y v:V} {u r:ar} {o:Option V} {A:gj} {E:ar->av->Prop}
def kIR{H':Hp}{Q:Unit->av->Prop}(U:A.units<cLine)(I:Inv X pins σ H s)(g:DPut H a y v H')(G:RelV y u)(D:RelV v r)(h:∀ s',Inv X pins σ H' s'->Q () s') :
  dw (model X.prog X.w) A (dictSet a u r) Q E s:=by
 rcases g with⟨i,k,e,p,l,x⟩ | ⟨i,k,b,e,p,B,l,x⟩
 ·subst p x
  obtain⟨z,m,Y,d,o⟩:=kGA I.hok e;refine wpAny_dictSet_pairs (hsz:=by rw[<-d.length];exact z) (oG G) o λ S f n=>h _ ?_;exact vI I (by rw[e];exact qc) n (let ⟨q,_,_,j,_⟩:=f;⟨q,j⟩) (kDO (by have:=xE i k v;omega) m (d.put k D) f)
 ·subst p x
  cases(show u=jx b from G)
  obtain⟨z,m,Z,d,o⟩:=kFX I.hok e;refine wpAny_dictSet_heap (hsz:=by rw[<-vi d];exact z) U (lH I.hok B) o λ S f n=>h _ ?_;obtain⟨q,M,J,j,N,L,O,_,T⟩:=f;refine vI I (by rw[e];exact qc) n ⟨q,j⟩ ⟨by have:=xE i k v;omega,m,_,(d.put k B D).keeps λ c ys C=>?_,q,M,J,j,N,L,O,T⟩;rw[kM (wM C e (λ z=>nomatch z))];exact C
end
def kUL(D:au)(tk c:TE):TB:=λ N a H=>tk a H λ y f=>c a f λ v d=>∃ b,DPut d D y v b/\N a b
def fJ{X:Cx}{d f:iO}{tk c:TE}{D:au}(O:X.A.units+1<cLine)(m:PE X d tk)(v:PE X f c):PBd X (oS d f X.env (.ref D)) (kUL D tk c):=by
 intro a s b H N I h;unfold oS;refine ae (thn (m a s b H _ I h) λ C j ⟨y,i,l,r,p⟩=>?_);refine ae (md (thn (v a j b i _ l p) λ M G ⟨x,L,B,o,u,g,n⟩=>?_));exact ae (vk (md (kIR (by omega) B g r o λ J q=>⟨b,u,q,n⟩)))
section
variable {X:Cx} {tg iter kx vx:iO} {ifs:List iO} {sc:wg} {pos:Pos} {Nc:List Str} {js:List (Option Nat)} {wi:TI}
def kVC(js:List (Option Nat))(c:TI)(g:TG)(bd:au->TB):TE:=λ b H Q=>c b H λ J a=>∀ D,a D=none->vS J g (bd D) (λ _ d=>Q (.ref D) d) (cP js b) (upd a D (.dT []))
def kOI{g:TG}{bd:au->TB}(hx:X.xe=λ _ _=>False)(hc:X.calm=true)(hi:PI X tg iter wi)(S:CS sc X.env.scope)(a2:bU js Nc X.N sc.names=true)
  (hg:∀ C s₂ H₂ fp pins,PG (cxC X Nc sc C s₂ H₂ fp pins) tg g)
  (l:∀ C s₂ H₂ fp pins D L,PTl (cxC X Nc sc C s₂ H₂ fp pins) (yB ifs (cxC X Nc sc C s₂ H₂ fp pins).env (oS kx vx (cxC X Nc sc C s₂ H₂ fp pins).env (.ref D)) L) L (bd D))
  (hs:∀ x,foldedSetIterable iter X.env x=pure x:=by intro _;rfl) :
  PE X (.DictComp kx vx [⟨tg,iter,ifs,0⟩] sc pos) (kVC js wi g bd):=by
 intro pins s σ H Q I h;rw[Dl];have a3:closureFor sc X.env=pure (uU sc X.env):=yM λ y hy hf=>I.ok.has y.1 (.inl (S.free y hy hf));refine om (use:=none) rfl hs a3 S.kind S.names (thn (hi pins s σ H _ I h) λ v s1 h1=>thn h1 λ a4 d h2=>?_);obtain⟨it,fp,tn,J,B,e,Z,T,O,f2,hw⟩:=h2;subst e;have r:∀ b∈fp,b<d.heap.objs.size:=λ b l=>let ⟨o,ho,_⟩:=T.obj _ _ O b l;bz ho;refine iz (rh S.nocell (by intro y hy;simp at hy) (λ i f a=>?_) S.kind);dsimp only at f a ⊢;generalize n:d.heap.push {cls:=.type "dict",dict:=none,data:=.dict #[]}=G at f a ⊢;have a6:G.objs.size=d.heap.objs.size+1:=by rw[<-n,iX]
 have M:d.heap.objs.size≠G.objs.size:=by omega
 have j:d.heap.objs.size<=G.objs.size:=by omega
 have Y:∀ b o,d.heap.get? b=some o->i.get? b=some o:=λ b o e=>a.extBut b o (dq (cy (bz e) j)) (ao _ (n ▸ ao _ e));have u:i.get? d.heap.objs.size=some {cls:=.type "dict",dict:=none,data:=.dict #[]}:=a.extBut _ _ M (ao _ (n ▸ cg _ rfl))
 have new:ObjOk X.prog X.w (upd B d.heap.objs.size (.dT [])) i d.heap.objs.size (.dT []):=by
  exact⟨gy _,beq_eq_false_iff_ne.mpr (pe (dq Z.big)),[],.nil,_,_,_,u,⟨rfl,rfl,rfl⟩,rfl,rfl,yr⟩
 have I4:=wO (js:=js) (Nc:=Nc) (tk:=d.toks+([]:List (Str×ar)).length) Z S f2 r a2 j (be _) M Y f new;have hn:B d.heap.objs.size=none:=Z.fresh
 have f4:∀ b∈fp,yV (cxC X Nc sc G.objs.size d B fp pins) [] (upd B d.heap.objs.size (.dT [])) b:=λ b l=>by
  obtain⟨h0,h1,h2,h3,h4,h5⟩:=f2 b l;refine⟨?_,dq (cy (r b l) j),λ z=>?_,.inl l,λ x c z=>?_,λ p hp=>?_⟩
  ·rw[kM (dq (r b l))];exact h0
  ·rcases dr.mp (Z.stkSub b z) with q | q
   ·exact h1 q
   ·exact h2 q
  ·exact h4 x c (bS sc.names [] (λ z=>nomatch z) z)
  ·rcases cf.mp hp with z | z
   ·exact h5 p z
   ·exact absurd z (by simp)
 have U:tn 0 i:=T.keep _ _ _ O λ b l o e=>Y b o e
 have m:codeAny (model X.prog X.w) X.A (.compLoop (.DictComp kx vx [⟨tg,iter,ifs,0⟩] sc pos) 0 (.ref it) (.ref d.heap.objs.size) (compEnvC sc (uU sc X.env) G.objs.size X.env))
   (compPost (model X.prog X.w) X.A X.xe none (EP X pins σ Q) (.ref d.heap.objs.size) G.objs.size) {d with heap:=i,toks:=d.toks+([]:List (Str×ar)).length}:=by
  refine yL (X:=cxC X Nc sc G.objs.size d B fp pins) (.inr ⟨kx,vx,rfl⟩) hx hc (pF _ _ _ _ _ _ _ _ _ _) T (hg _ _ _ _ _) (l _ _ _ _ _ _ _) I4 U f4 (hw _ hn) λ a5 H' s' I' q=>?_;obtain⟨m',a0,_⟩:=I'.loc;exact⟨m',a0,λ h' a1=>⟨.ref d.heap.objs.size,H',wP Z f2 j I' a1,rfl,q⟩⟩
 exact xX (.inr ⟨kx,vx,rfl⟩) rfl rfl m (T.self _ _ _ _ _ U m)
def yH(kvs more:List (List Key×V)):List (List Key×V):=more.foldl (λ a y=>jF a y.1 y.2) kvs
theorem KT.fold{H:Hp}:∀{more:List (List Key×V)}{ys:List (List Key×au×ar)}{kvs:List (List Key×V)}{xs:List (List Key×au×ar)},KT H kvs xs->KT H more ys->KT H (yH kvs more) (Dct.fold xs ys)
 | [],_,_,_,r,.nil=>r
 | p::more,_,kvs,xs,r,.cons (b:=q) z t=>by
  have:=KT.fold (KT.put r q.1 (b:=q.2.1) (y:=p.2) (u:=q.2.2) (by rw[<-z.1];exact z.2.1) z.2.2) t;rw[<-z.1]at this;unfold yH at *;unfold Dct.fold at *;rw[vy,vy,<-z.1];exact this
def kNE(k:List Key):Prop:=∃ p q:Nat,k=[ed (p:Int),ed (q:Int)]/\p<42/\q<42
def kPC{prog:eo}{w:iJ}:∀{ys:List (List Key×au×ar)},(∀ y∈ys,kNE y.1)->(ys.map (·.1)).Nodup->(ys.map λ y=>(tupleKind (qD prog w)).hash y.1).Nodup:=by
 intro ys hp nd;have:ys.map (λ y=>(tupleKind (qD prog w)).hash y.1)=(ys.map (·.1)).map (tupleKind (qD prog w)).hash:=by rw[AW];rfl
 rw[this];refine qe.mpr (nd.imp_of_mem λ{a b} o d h e=>h ?_);obtain⟨x,m,rfl⟩:=iP.mp o;obtain⟨y,j,rfl⟩:=iP.mp d;obtain⟨p,q,f,p1,c⟩:=hp x m;obtain⟨n,l,i,p2,g⟩:=hp y j;rw[f,i]at e ⊢
 have:Hsh.hp p q=Hsh.hp n l:=by
  unfold Hsh.hp;exact congrArg (λ z:Int=>(z+2 ^ 63).toNat) e
 obtain⟨rfl,rfl⟩:=Hsh.hp_inj p1 c p2 g this
 rfl
inductive kPX(x:V)(vs:List V)(H:Hp)(Q:VK):Prop
 | mk:∀(a b:au)(kvs more:List (List Key×V)),(x=.ref a)->(vs=[.ref b])->(a≠b)->(H a=some (.dT kvs))->(H b=some (.dT more))->((∀ y∈more,kNE y.1))->(kvs.length+more.length<=sizeLine)->(Q .non (upd H a (.dT (yH kvs more))))->kPX x vs H Q
def kOR(hu:X.A.units+1<cLine):MtM X "dict.update" kPX:=by
 intro N s σ H x vs v us Q I rx rv h;obtain⟨a,b,D,more,rfl,rfl,Y,p,hb,hp,hz,q⟩:=h;cases rx
 obtain⟨u,rfl,ru⟩:=rv.one;cases ru
 obtain⟨za,C,O,o,S⟩:=kFX I.hok p;obtain⟨zb,j,g,f,J⟩:=kFX I.hok hb
 have B:∀ y∈g,kNE y.1:=by
  have:∀{l:List (List Key×V)}{m:List (List Key×au×ar)},KT H l m->(∀ y∈l,kNE y.1)->∀ y∈m,kNE y.1:=by
   intro l m r
   induction r with
   | nil=>intro _ y d;exact nomatch d
   | @cons p1 q1 ps qs z t ih =>
    intro G y d;rcases dr.mp d with rfl | d
    ·rw[<-z.1]
     exact G _ (eZ ..)
    ·exact ih (λ y h=>G y (eC _ h)) y d
  exact this f hp
 have nd:(g.map (·.1)).Nodup:=let ⟨_,_,_,_,_,_,_,_,n⟩:=J;n;have lx:=vi o;have ly:=vi f;refine call_meetsIn Bx S.typeIs PySem.F.entry_dict_update (PySem.F.args_dict_update_2 _ _) (Dct.meets_upd (qD X.prog X.w) a b Y j) ⟨AC (knd:=qD X.prog X.w) hu,O,g,S,J,by omega,λ _=>kPC B nd,λ h' i Z=>?_⟩;obtain⟨M,es,U,T,h2,h3,h4,_,h5⟩:=i;have lf:=vi (KT.fold o f);have lz:=Dct.fold_len O g;refine⟨.non,upd H a (.dT (yH D more)),vI (t':=s.toks) I (by rw[p];exact qc) Z ⟨M,T⟩ ⟨by omega,C,_,(KT.fold o f).keeps λ c zs L=>?_,M,es,U,T,h2,h3,h4,h5⟩,rfl,q⟩;rw[kM (wM L p (λ z=>nomatch z))];exact L
end
section
variable {X:Cx}
def dD(a:List Int):∀ j,j<=a.length->preSum (λ i=>a.getD i 0) j=(a.take j).sum:=by
 intro j
 induction j with
 | zero=>intro _;simp[preSum]
 | succ j ih =>
  intro h;rw[preSum,ih (by omega),Bs,AD];have:a[j]?=some a[j]:=aa (by omega);rw[this];simp[this]
def sum_le(a:List Int)(b:∀ i∈a,-(2 ^ 40)<=i/\i<=2 ^ 40) : -(2 ^ 40)*(a.length:Int)<=a.sum/\a.sum<=2 ^ 40*(a.length:Int):=by
 induction a with
 | nil=>simp
 | cons x a ih =>
  have h:=ih λ i c=>b i (eC _ c);have d:=b x (eZ ..);rw[AO,gn];omega
inductive mH(K:ay)(xs:List V)(H:Hp)(Q:VK):Prop
 | mk:∀(a:au)(ns:List Int),(xs=[.ref a])->(SqL K H a (ns.map V.int))->(ns.length<=100000)->((∀ i∈ns,-(2 ^ 40)<=i/\i<=2 ^ 40))->(Q (.int ns.sum) H)->mH K xs H Q
def cQ(O:X.calm=true):yX X (.builtin "sum") (mH X.K):=by
 intro G s Z H xs us Q I r h;obtain⟨a,c,rfl,J,hn,l,q⟩:=h;obtain⟨u,rfl,T⟩:=wG r;cases T
 obtain⟨d,n,U,hz⟩:=I.list J;have C:=bJ n;have g:=U.isList;have p:a≠s.heap.objs.size:=by obtain⟨o,e,_⟩:=g;exact dq (bz e)
 have sz:d.toArray.size=c.length:=by rw[fj,<-n.length,ai]
 refine call_sum_walk (AI g ⟨_,[s.heap.objs.size,a],_,_,_,_,λ i=>c.getD i 0,rfl,Gd (A:=X.A.in1) (I.ok.hd O) _ a p d.toArray,⟨⟨_,cg _ rfl,rfl,rfl⟩,g.push _⟩,?_,?_,?_,λ h' tk t' L=>?_⟩)
 ·intro b l
  show b<(s.heap.push _).objs.size;rw[iX];have M:a<s.heap.objs.size:=by obtain⟨o,e,_⟩:=g;exact bz e
  rcases dr.mp l with z | z
  ·rw[z]
   exact Ah _
  ·rw[bu.mp z]
   exact ux M
 ·intro i v e
  have e:d.toArray[i]?=some v:=e;rw[List.getElem?_toArray]at e
  have f:i<c.length:=by
   have:=(aj.mp e).1;rw[<-sz];simpa using this
  obtain⟨u,m,t,D⟩:=n.get (i:=i) (x:=V.int c[i]) (by rw[bg,aa f];rfl);rw[e]at m;cases m
  exact⟨t,by rw[D];simp[f]⟩
 ·intro j B
  rw[sz]at B
  have m:c.getD j 0∈c:=by
   rw[ak,aa B];exact iY _
  have D:=l _ m;rw[dD c (j+1) (by omega)];have e3:=sum_le (c.take (j+1)) λ i C=>l i (qh C);have e4:(c.take (j+1)).length<=100000:=by rw[dc];omega
  show InLong (c.getD j 0)/\InLong _;unfold InLong;have Y:((c.take (j+1)).length:Int)<=100000:=by omega
  generalize(c.take (j+1)).sum=S at *;generalize((c.take (j+1)).length:Int)=N at *;omega
 ·rw[sz,dD c _ (be _),iG]
  refine⟨.int c.sum,H,I.kept (λ b o y=>L b o (λ z=>?_) (ao _ y)),⟨_,rfl⟩,q⟩;rw[bu.mp z]at y;exact absurd (bz y) (qa _)
end
section
variable {prog:eo} {w:iJ} {A:gj} {E:ar->av->Prop} {s:av} {z TI TO i1 i2:au} {fp1 fp2:List au} {n1 n2 j:Nat} {P1 P2:Nat->ar->Prop} {S1 S2:Nat->iS->Prop} {a b:ar}
def kGQ{Q:uq->av->Prop}(N:ES prog w A i1 fp1 n1 P1 S1)(G:ES prog w A i2 fp2 n2 P2 S2)(d:ZAp z TI TO i1 i2 fp1 fp2)
  (hz:xa s.heap z TI TO .none) (C:yc s.heap TI (.ref i1) (.ref i2)) (B:yc s.heap TO a b) (h1:S1 n2 s.heap) (h2:S2 n2 s.heap) (l1:n2<n1)
  (hE:∀ h' e tk,(∀ c o,c≠z->c≠TO->c≠i1->c≠i2->s.heap.get? c=some o->h'.get? c=some o)->(∃ o,h'.get? e=some o/\o.cls=.type "StopIteration")->E (.ref e) {s with heap:=h',toks:=tk}) :
  dw (model prog w) A (zw.«zip.__next__» ⟨[.ref z],[]⟩) Q E s:=by
 have u:∀{i:Nat}{h h':iS}{c:au},S1 i h->jb c h h'->c∉fp1->S1 i h':=λ st p v=>N.frame _ _ _ st λ b y o e=>p.extBut b o (λ q=>v (q ▸ y)) e;have f:∀{i:Nat}{h h':iS}{c:au},S2 i h->jb c h h'->c∉fp2->S2 i h':=λ st p v=>G.frame _ _ _ st λ b y o e=>p.extBut b o (λ q=>v (q ▸ y)) e;show dw _ _ (field (.ref z) 2 >>= _) _ _ _;refine ae (ip hz rfl (x:=.bool false) rfl ?_);show dw _ _ (field (.ref z) 3 >>= _) _ _ _;refine ae (ip hz rfl (x:=.ref TI) rfl ?_);refine ae (ka C rfl ?_);show dw _ _ (iE (.ref z) >>= _) _ _ _;refine ae ?_;unfold iE;refine ae (ip hz rfl (x:=.none) rfl (bj ?_));simp only[if_true];refine ae (vt ?_);refine ae (ip hz rfl (x:=.ref TO) rfl ?_);refine ae (ki hz (by simp) λ Y n l=>?_)
 replace n:xa Y z TI TO .ellipsis:=n
 refine ae ?_
 simp only[yt,BA,zu,BZ]
 refine ae (ae (wb ?_));show dw _ _ (iA (.ref i1) >>= _) _ _ _;refine ae (N.item n2 _ _ _ l1 (u h1 l d.z1) λ x g2 a1 px a0 m=>bj ?_);have D:yc g2 TO a b:=m.extBut _ _ d.TOi1 (l.extBut _ _ d.zTO.symm B);refine ae (ka D rfl ?_);refine ae (As D λ J O r=>?_)
 replace O:yc J TO x b:=O
 refine ae (Au (bj ?_));refine ae (ae (wb ?_));show dw _ _ (iA (.ref i2) >>= _) _ _ _;refine ae (G.done _ _ _ (f (f (f h2 l d.z2) m d.i1f) r d.t2) λ U e H he=>?_);obtain⟨T,g,j⟩:=he;have z3:xa J z TI TO .ellipsis:=r.extBut _ _ d.zTO (m.extBut _ _ d.zi1 n);have M:xa U z TI TO .ellipsis:=H _ _ d.zi2 z3;have ez:e≠z:=λ q=>by subst q;rw[M]at g;cases g;simp at j
 exact ki M (by simp) λ X _ I=>hE X e _ (λ c o L Z S c4 q=>I.extBut _ _ L (H _ _ c4 (r.extBut _ _ Z (m.extBut _ _ S (l.extBut _ _ L q))))) ⟨T,I.extBut _ _ ez g,j⟩
end
def kSV(f g : Bool)(K : ay)(a b : au) : It :=
  ⟨λ i H => ∃ d c x y, SqX K f H a d /\ SqX K g H b c /\ d[i]? = some x /\ c[i]? = some y,
   λ i H v h => ∃ T x y, H T = none /\ v = .ref T /\ (∀ d, SqX K f H a d -> d[i]? = some x) /\ (∀ c, SqX K g H b c -> c[i]? = some y) /\ h = upd H T (.tup [x, y]),
   λ i H => ∃ d c x, SqX K f H a d /\ SqX K g H b c /\ d[i]? = some x /\ c.length = i⟩
def kGY{P:eo}{w:iJ}{K:ay}{Y:List iO} {x1} {a9:Pos} (k1 k2:Bool) (a b z TI TO p r:au) (D:ZAp z TI TO p r [p,a] [r,b]) :
  Turn P w K (.Tuple Y x1 a9) (kSV k1 k2 K a b) [z,TO,p,r,TI] z
   (λ i h=>xa h z TI TO .none/\yc h TI (.ref p) (.ref r)/\(∃ u v,yc h TO u v)/\ItOf k1 h p a i/\ItOf k2 h r b i) where
 mem:=by simp
 obj:=λ i h st c M=>by
  obtain⟨C,l,⟨u,v,m⟩,h1,B⟩:=st;simp only[dr,og,or_false]at M;rcases M with rfl | rfl | rfl | rfl | rfl
  ·exact⟨_,C,λ v q=>by cases q⟩
  ·exact⟨_,m,λ v q=>by cases q⟩
  ·exact h1.live
  ·exact B.live
  ·exact⟨_,l,λ v q=>by cases q⟩
 keep:=λ i h h' st Q=>by
  obtain⟨C,l,⟨u,v,m⟩,h1,B⟩:=st;exact⟨Q z (by simp) _ C,Q TI (by simp) _ l,⟨u,v,Q TO (by simp) _ m⟩,h1.at λ o q=>Q p (by simp) o q,B.at λ o q=>Q r (by simp) o q⟩
 item:=by
  intro X hP hw hK M i S s σ H E I hf st hg;subst hP hw hK;obtain⟨C,l,⟨u0,v0,m⟩,h1,B⟩:=st;obtain⟨xs,ys,x,y,J,G,hx,hy⟩:=hg;obtain⟨j,O,p1⟩:=I.sq J;obtain⟨f,N,p2⟩:=I.sq G;obtain⟨u,hu,ru⟩:=O.get hx;obtain⟨v,hv,rv⟩:=N.get hy;have D1:=xS (prog:=X.prog) (w:=X.w) (A:=X.A.in1) (I.ok.hd M) k1 p a (uV p1 h1) j.toArray;have D2:=xS (prog:=X.prog) (w:=X.w) (A:=X.A.in1) (I.ok.hd M) k2 r b (uV p2 B) f.toArray;have L:i<j.toArray.size:=by simpa using(aj.mp hu).1
  have Z:i<f.toArray.size:=by simpa using(aj.mp hv).1
  have U:s.TypeIs (.ref z) "zip":=⟨_,C,rfl⟩;unfold pyNext
  refine ae (zk (jz (name:=xh "__next__") U sk (mf sk U Al
   (kGP D1 D2 D C l m ⟨h1,p1⟩ ⟨B,p2⟩ L Z λ u' v' h' tk a4 ab z' o' a2 a5 t' hk=>bj ?_) (AX _))))
  have eu:u'=u:=by
   have q:j[i]?=some u':=by simpa using a4
   rw[hu]at q;exact(bh q).symm
  have ev:v'=v:=by
   have q:f[i]?=some v':=by simpa using ab
   rw[hv]at q;exact(bh q).symm
  subst eu ev;refine⟨_,rfl,Bk z' λ g ac n=>?_⟩;have a7:z<s.heap.objs.size:=bz C;have af:TO<s.heap.objs.size:=bz m;have ag:p<s.heap.objs.size:=let ⟨_,e,_⟩:=h1.live;bz e;have ah:r<s.heap.objs.size:=let ⟨_,e,_⟩:=B.live;bz e;have a0:TI<s.heap.objs.size:=bz l;have a1:g.get? s.heap.objs.size=some {cls:=.type "tuple",data:=.seq #[u',v']}:=n.extBut _ _ (jc a7) t'
  obtain⟨I2,n2⟩:=I.handed (t':=tk) (ch:=[z,TO,p,r]) ru rv a1 (λ c o d q=>n.extBut c o (λ e=>d (by simp[e])) (hk c o (λ e=>d (by simp[e])) (λ e=>d (by simp[e])) (λ e=>d (by simp[e])) (λ e=>d (by simp[e])) q))
   (λ c d=>hf c (by simp at d ⊢;rcases d with e | e | e | e<;>simp[e]))
   (λ c d=>by simp at d;rcases d with rfl | rfl | rfl | rfl<;>assumption)
  refine⟨.ref s.heap.objs.size,_,I2,rfl,⟨_,x,y,I.hok.fresh (be _),rfl,(λ al a6=>by rw[I.sq_inj a6 J];exact hx),(λ am a3=>by rw[I.sq_inj a3 G];exact hy),rfl⟩,?_,λ c d=>?_⟩
  ·exact⟨ac,n.extBut _ _ D.zTI.symm (hk _ _ D.zTI.symm D.TITO D.TIi1 D.TIi2 l),⟨_,_,n.extBut _ _ D.zTO.symm o'⟩,a2.1.at λ o q=>n.extBut p o D.zi1.symm q,a5.1.at λ o q=>n.extBut r o D.zi2.symm q⟩
  ·by_cases e:c=TI
   ·subst e
    rw[kM (dq a0)];exact(hf c (by simp)).1
   ·exact n2 c (by simp at d ⊢;rcases d with q | q | q | q | q<;>simp_all)
 done:=by
  intro X hP hw hK M i S s σ H E I hf st hg;subst hP hw hK;obtain⟨C,l,⟨u0,v0,m⟩,h1,B⟩:=st;obtain⟨xs,ys,x,J,G,hx,hy⟩:=hg;obtain⟨j,O,p1⟩:=I.sq J;obtain⟨f,N,p2⟩:=I.sq G;obtain⟨u,hu,ru⟩:=O.get hx;have D1:=xS (prog:=X.prog) (w:=X.w) (A:=X.A.in1) (I.ok.hd M) k1 p a (uV p1 h1) j.toArray;have D2:=xS (prog:=X.prog) (w:=X.w) (A:=X.A.in1) (I.ok.hd M) k2 r b (uV p2 B) f.toArray;have hl:f.toArray.size=i:=by rw[<-hy,N.length];simp
  have L:i<j.toArray.size:=by simpa using(aj.mp hu).1
  have U:s.TypeIs (.ref z) "zip":=⟨_,C,rfl⟩;unfold pyNext
  refine ae (zk (jz (name:=xh "__next__") U sk (mf sk U Al
   (kGQ D1 D2 D C l m ⟨hl ▸ h1,p1⟩ ⟨hl ▸ B,p2⟩ (by omega) λ h' e tk hk he=>?_) (AX _))))
  obtain⟨o,ho,a8⟩:=he;refine ae (CM (T:="StopIteration") (b:=true) ⟨o,ho,a8⟩ Ez ?_)
  refine bj ⟨rfl,I.turnedL (t':=tk) (ch:=[z,TO,p,r]) (λ c o d q=>hk c o (λ e=>d (by simp[e])) (λ e=>d (by simp[e])) (λ e=>d (by simp[e])) (λ e=>d (by simp[e])) q)
   (λ c d=>hf c (by simp at d ⊢;rcases d with e | e | e | e<;>simp[e]))⟩
 self:=λ _ _ _ _ _ st h=>Am st.1 h
section
variable {X:Cx}
inductive kLZ(k1:Bool)(k2:Bool)(K:ay)(R:It->Hp->Prop)(vs:List V)(H1:Hp):Prop
 | mk:∀ a b,(vs=[.ref a,.ref b])->((∃ xs,SqX K k1 H1 a xs))->((∃ ys,SqX K k2 H1 b ys))->(R (kSV k1 k2 K a b) H1)->kLZ k1 k2 K R vs H1
def kUA(g c:Bool)(K:ay)(f:TA):TI:=λ d H R=>f d H λ b a=>kLZ g c K R b a
def kOF(Q J:Bool){a b:iO}{O:TA}{p n o:Pos}{j:List iO} {x1} (hg:Gl X "zip") (hm:X.mg "zip" = none) (Y:PA X [a,b] O) (U:starEach [a,b] X.env=[(false,eval a X.env),(false,eval b X.env)]:=by rfl) (l:starEach [b] X.env=[(false,eval b X.env)]:=by rfl) :
  PI X (.Tuple j x1 o) (.Call (.Name "zip" p) [a,b] [] n) (kUA Q J X.K O):=by
 intro g s T H R I h;refine Eh (zM I hg hm boot_zip (iU (thn (Y n g s T H _ I h) λ us d ⟨vs,G,i,r1,q1⟩=>?_) (by rw[U,l]) (by rw[l];rfl)));obtain⟨l1,S,rfl,⟨xs,D⟩,⟨ys,y⟩,q⟩:=q1;obtain⟨u,v,rfl,r,r'⟩:=kEA r1;cases r
 cases r'
 obtain⟨L,Z,p1⟩:=i.sq D;obtain⟨N,a0,p2⟩:=i.sq y;have A:=p1.lt;have x:=p2.lt;refine kBO p1 p2 λ h' M C B h1 h2 hk=>?_;refine Am (s:={d with heap:=h'}) M ?_
 have f:∀ c,d.heap.objs.size<=c->yV X g G c:=λ c m=>i.fpOk m (i.hok.fresh m)
 refine⟨_,[d.heap.objs.size+4,d.heap.objs.size+3,d.heap.objs.size,d.heap.objs.size+1,d.heap.objs.size+2],_,_,G,rfl,i.kept (t':=d.toks) hk,
  kGY Q J l1 S _ _ _ _ _ (zap _ _ _ A x),⟨M,C,⟨_,_,B⟩,h1,h2⟩,λ c m=>?_,q⟩
 simp at m;rcases m with rfl | rfl | rfl | rfl | rfl<;>exact f _ (by omega)
end
end L2
namespace HT
open PySem PySem.Spec PyProof.Rows
section
variable {prog:eo} {w:iJ} {A:gj} {E:ar->av->Prop} {s:av}
def cat_tup0{t b:au}{o:List ar}{Q:ar->av->Prop}(v:Ed s.heap t ([]:List ar).toArray)(r:Ed s.heap b o.toArray)(h:Q (.ref b) s):dw (model prog w) A (binaryOp .Add (.ref t) (.ref b)) Q E s:=by
 obtain⟨⟨cls,u,data,p⟩,m,i,n,l⟩:=id v;obtain⟨⟨j,f,data2,g⟩,a,d,q,c⟩:=id r;simp only at i l d c;subst i l d c
 exact Dc ⟨_,m,rfl⟩ ⟨_,a,rfl⟩ CF DH AK AF (zh _ _)
   (tuple_addW0 t b _ o.toArray n q u f p g (by simp)) ⟨m,a,h⟩
end
end HT
namespace L2
open PySem PySem.Spec PyProof.Rows
def kSW(H H':Hp):Prop:=∀ b o,H b=some o->H' b=some o
section
variable {X:Cx}
def kAX{H:Hp}{p:au}(h:H p=none)(o:HO):kSW H (upd H p o):=λ b u q=>by rw[kM (kJ q h)];exact q
inductive kTM(K:ay)(x:V)(lo:Option Int)(hi:Option Int)(H:Hp)(Q:VK):Prop
 | mk:∀ a xs,(x=.ref a)->(H a=some (.tup xs))->(∀ p H',kSW H H'->H' p=some (.tup (jV xs lo hi))->Q (.ref p) H')->kTM K x lo hi H Q
def wX:SlR X (kTM X.K):=by
 intro d s j H x v o u lo g y Q I r l i n h;obtain⟨a,b,rfl,f,q⟩:=h;refine kNR d s j H _ v o u lo g y Q I r l i n ?_;by_cases c:HT.sIx b.length 0 lo=0/\HT.sIx b.length b.length g=b.length
 ·refine .inr ⟨a,b,rfl,SqT.of f,c,q a H (λ _ _ e=>e) ?_⟩
  rw[f];unfold jV;rw[c.1,c.2];simp
 ·exact .inl ⟨a,b,rfl,SqT.of f,c,λ p m=>q p _ (kAX m _) kA⟩
inductive kPZ(K:ay)(x:V)(y:V)(H:Hp)(Q:VK):Prop
 | mk:∀ a b xs ys,(x=.ref a)->(y=.ref b)->(H a=some (.tup xs))->(H b=some (.tup ys))->(xs.length+ys.length<=sizeLine)->(∀ p H',kSW H H'->H' p=some (.tup (xs++ys))->Q (.ref p) H')->kPZ K x y H Q
def rF:OpR X (binaryOp .Add) (kPZ X.K):=by
 intro d s n H x y v u Q I j m h;obtain⟨a,b,l,C,rfl,rfl,f,g,A,q⟩:=h;by_cases c:l=[]
 ·subst c
  cases j
  cases m
  obtain⟨o,B,p1,_⟩:=I.tuple (SqT.of (K:=X.K) f);obtain⟨i,D,p2,_⟩:=I.tuple (SqT.of (K:=X.K) g);cases B
  exact HT.cat_tup0 p1 p2 ⟨.ref b,H,I,rfl,q b H (λ _ _ e=>e) (by simpa using g)⟩
 ·refine kOL d s n H _ _ v u Q I j m ⟨a,b,l,C,rfl,rfl,SqT.of f,SqT.of g,c,A,λ e=>q a H (λ _ _ z=>z) (by rw[e,iW];exact f),λ _ p r=>q p _ (kAX r _) kA⟩
end
def kGU{k:Bool}{K:ay}{a:au}{xs:List V}{g:TG}{b:TB}{h:St->Hp->Prop}{c:St}{H:Hp}(Pv:Nat->St->Hp->Prop)(h0:Pv 0 c H)(v:∀ i c H,i<=xs.length->Pv i c H->SqX K k H a xs)
  (s:∀ i x T c H,xs[i]?=some x->H T=none->Pv i c H->g (.ref T) c (upd H T (.tup [.int i,x])) λ σ2 H2=>b (Pv (i+1)) σ2 H2) (o:∀ c H,Pv xs.length c H->h c H):vS (Ite k K a) g b h c H:=by
 refine⟨λ i m c H=>m=xs.length-i/\i<=xs.length/\Pv i c H,⟨xs.length,by simp,gy _,h0⟩,?_⟩;rintro i m c H ⟨rfl,f,p⟩;have d:=v i c H f p;rcases iH i xs.length with j | j
 ·refine .inr ⟨⟨xs,xs[i],d,by simp[j]⟩,Pv (i+1),λ n y q=>⟨xs.length-(i+1),by omega,rfl,by omega,q⟩,λ x y u=>?_⟩
  obtain⟨T,r,l,rfl,A,rfl⟩:=u;exact s i r T c H (A xs d) l p
 ·obtain rfl:i=xs.length:=by omega
  exact .inl ⟨⟨xs,d,rfl⟩,o c H p⟩
section
variable {X:Cx}
end
end L2
namespace SetI
open PySem L2 PyProof.Rows PySem.Spec
section
variable {prog:eo} {w:iJ} {A:gj} {E:ar->av->Prop} {s:av}
end
end SetI
namespace L2
open PySem PySem.Spec PyProof.Rows
section
variable {X:Cx}
end
end L2
namespace HT
open PySem PySem.Spec PyProof.Rows
section
variable {prog:eo} {w:iJ} {A:gj} {E:ar->av->Prop} {s:av}
end
end HT
namespace L2
open PySem PySem.Spec PyProof.Rows
section
variable {X:Cx}
end
end L2
namespace Tri
open Cyc Rnd
end Tri
namespace HT
open PySem PySem.Spec PyProof.Rows
section
variable {prog:eo} {w:iJ} {A:gj} {E:ar->av->Prop} {s:av}
end
end HT
namespace L2
open PySem PySem.Spec PyProof.Rows
section
variable {X:Cx}
def aA(n:Nat):List V:=(cw n).map λ(i:Nat)=>V.int (i:Int)
def kJC{n:Nat}{a:Array ar}(h:ItemsOf (λ i v=>∃ t,v=.int ((0:Int)+i*1) t) a n):Vals (aA n) a.toList:=by
 obtain⟨h1,d⟩:=h
 have:∀(m:Nat)(l:List ar)(k:Nat),l.length=m->(∀(j:Nat)(v:ar),l[j]?=some v->∃ t,v=uk (((k+j:Nat):Int)) t)->Vals ((AG k m).map λ(i:Nat)=>V.int (i:Int)) l:=λ m=>by
  induction m with
  | zero=>intro l k b _;rw[ox.mp b];exact .nil
  | succ m ih =>
   intro l k b c
   match l,b with
   | x::l,b =>
    rw[wm,gv];refine .cons ?_ (ih l (k+1) (by simpa using b) λ j v e=>?_)
    ·obtain⟨t,rfl⟩:=c 0 x rfl
     exact⟨t,by simp⟩
    ·obtain⟨t,rfl⟩:=c (j+1) v (by simpa using e)
     exact⟨t,by congr 1;omega⟩
 unfold aA;rw[List.range_eq_range'];refine this n a.toList 0 (by simpa using h1) λ j v e=>?_;obtain⟨t,rfl⟩:=d j v (by simpa using e);exact⟨t,by simp⟩
inductive kPO(tp:Bool)(Q:VK)(vs:List V)(H1:Hp):Prop
 | mk:∀(n:Nat),(vs=[.int (n:Int)])->(n<=1000)->(∀ l,H1 l=none->Q (.ref l) (upd H1 l (if tp then .tup (aA n) else .lst (aA n))))->kPO tp Q vs H1
def kUW(d:Bool)(f:TA):TE:=λ c H Q=>f c H λ b a=>kPO d Q b a
def kOG{a:iO}{y:TA}{p p2 m c:Pos}(O:X.calm=true)(Y:Gl X "list")(N:X.mg "list" = none)(r:Gl X "range")(i:X.mg "range" = none)(G:PA X [a] y)(C:starEach [a] X.env=[(false,eval a X.env)]:=by rfl)
  (l:starEach [.Call (.Name "range" p2) [a] [] c] X.env=[(false,eval (.Call (.Name "range" p2) [a] [] c) X.env)]:=by rfl):PE X (.Call (.Name "list" p) [.Call (.Name "range" p2) [a] [] c] [] m) (kUW false y):=by
 intro d s v H Q I h;refine Eh (zM I Y N boot_list (iU ?_ l rfl));refine GD (Eh (zM I r i Ei (iU (thn (G c d s v H _ I h) λ us g ⟨vs,B,x,S,M⟩=>?_) C rfl)));obtain⟨n,rfl,D,q⟩:=M;obtain⟨u,rfl,t,rfl⟩:=wG S;refine call_range_1 ?_;refine GK ?_;have A:Inv X d v B {g with heap:=g.heap.push {cls:=.type "range",data:=.fields #[.int 0 g.toks,.int n t,.int 1 (g.toks+1)]},toks:=g.toks+1+1}:=x.kept λ b o e=>ao _ e
 refine call_list_range (n:=n) (x.ok.hd O) (GS ..) (small_one (by omega) (by omega) (by omega) (by omega)) (by rw[rangeSize_one];split<;>omega) (by omega) λ h' T j Z J L f=>?_;have U:=A.laid (t':=T) (o:=.lst (aA n)) J (be _) (show ObjOk X.prog X.w _ _ _ (.lst (aA n)) from⟨by unfold aA;rw[ai,iI];exact jt D (by decide),j.toList,_,kJC f,by simpa using L⟩);exact⟨.ref _,_,U,rfl,q _ (A.hok.fresh (be _))⟩
end
end L2
namespace Tri
open Cyc
end Tri
namespace Fc
open Cyc Tri Rnd
def kMM{α:Type}(l:List α)(p:α->Bool):(l.filter p).length+(l.filter λ x=>!p x).length=l.length:=by
 induction l with
 | nil=>rfl
 | cons x l ih =>
  rw[vf,vf,gn]
  cases p x<;>simp<;>omega
section
variable {W:Rows}
def kLM(S:Nb W){t:Nat×Nat}(h:t∈kN W):nxt W t≠t:=λ e=>by
 have a:=S.e (mem_steps.mp (show(t.1,t.2)∈kN W from h));have:(nxt W t).1=t.2:=rfl;rw[e]at this;exact a.2.2 this.symm
def kRU(S:Nb W):(stepsS W).Nodup:=(sortP_perm _).nodup_iff.mpr (cV S.nd)
def kJJ(S:Nb W):2*(tiesS W).length=(kN W).length:=by
 have nd:=kRU S;have l:(stepsS W).length=(kN W).length:=(sortP_perm _).length_eq;have c:=kMM (stepsS W) λ t=>decide (t.1<t.2)
 have perm:(((stepsS W).filter λ t=>!decide (t.1<t.2)).map λ t=>(t.2,t.1)).Perm ((stepsS W).filter λ t=>decide (t.1<t.2)):=by
  refine(uf ?_ (nd.filter _)).mpr λ t=>?_
  ·exact qe.mpr ((nd.filter _).imp λ{a b} h e=>h (by
    injection e with e1 e2
    exact wj e2 e1))
  ·constructor
   ·intro h
    obtain⟨u,d,rfl⟩:=iP.mp h;obtain⟨a,b⟩:=ig.mp d;have e:=mem_stepsS.mp a;have f:=(S.e e).2.2;refine ig.mpr ⟨mem_stepsS.mpr (S.sym _ _ e),?_⟩;have b:¬ u.1<u.2:=by simpa using b
    exact decide_eq_true (show u.2<u.1 by omega)
   ·intro h
    obtain⟨a,b⟩:=ig.mp h;have b:=of_decide_eq_true b;refine iP.mpr ⟨(t.2,t.1),ig.mpr ⟨mem_stepsS.mpr (S.sym _ _ (mem_stepsS.mp a)),?_⟩,rfl⟩;have:¬ t.2<t.1:=by omega
    simpa using this
 have e:=perm.length_eq;rw[ai]at e;unfold tiesS;omega
def kBQ(S:Nb W):(fgo W (stepsS W)).2.Perm (kN W):=by
 have a:=fgo_ok S (stepsS W) λ t h=>(sortP_perm _).mem_iff.mp h;exact(uf a.nd (cV S.nd)).mpr λ t=>⟨a.sub t,λ h=>a.cov t ((sortP_perm _).mem_iff.mpr h)⟩
def kIN(S:Nb W):((uL W).map jr).sum=(kN W).length:=by
 have b:=fgo_ok S (stepsS W) λ t h=>(sortP_perm _).mem_iff.mp h;obtain⟨R,_,c,a⟩:=b.reps;have e:=(kBQ S).length_eq;unfold uL;rw[c,<-e,a,wc,AW]
 congr 1
 refine we λ r _=>?_;show((rnd W r).map _).length=_;rw[ai]
def kSN(S:Nb W):(∀ f∈facesS W,f.length=3)↔∀ t∈kN W,(nxt W (nxt W t)).2=t.1:=by
 have A:=fgo_ok S (stepsS W) λ t h=>(sortP_perm _).mem_iff.mp h;obtain⟨R,v,q,y⟩:=A.reps
 have d:∀ f,f∈facesS W↔∃ r∈R,f=(rnd W r).map (·.1):=λ f=>by
  unfold facesS;rw[(wW _).mem_iff];unfold uL;rw[q,iP];exact⟨λ⟨r,a,b⟩=>⟨r,a,b.symm⟩,λ⟨r,a,b⟩=>⟨r,a,b.symm⟩⟩
 have n:∀ r∈R,r∈kN W:=λ r g=>(sortP_perm _).mem_iff.mp (v r g);constructor
 ·intro h t s
  have p:=(kBQ S).mem_iff.mpr s;rw[y,xb]at p;obtain⟨r,g,m⟩:=p;have o:=h _ ((d _).mpr ⟨r,g,rfl⟩);rw[ai,rnd_len]at o;obtain⟨j,rfl⟩:=(bD S (n r g)).mp m;have back:=(pZ S (n r g)).2.2.1;rw[o]at back
  have e:nxt W (nxt W (nxt W (it (nxt W) j r)))=it (nxt W) j r:=by
   show it (nxt W) 3 (it (nxt W) j r)=_;rw[<-aK,AM,aK,back]
  have l:(nxt W (nxt W (nxt W (it (nxt W) j r)))).1=(nxt W (nxt W (it (nxt W) j r))).2:=rfl;rw[e]at l;exact l.symm
 ·intro h f u
  obtain⟨r,g,rfl⟩:=(d f).mp u;have i:=n r g;rw[ai,rnd_len];have to:=(rK S).to
  have c:it (nxt W) 3 r=r:=by
   show nxt W (nxt W (nxt W r))=r;have a:=h r i;have b:=h _ (to r i);have l:(nxt W (nxt W (nxt W r))).1=r.1:=a;have x:(nxt W (nxt W (nxt W r))).2=r.2:=b;exact wj l x
  refine per_is (by decide) c λ j B C=>?_;have:j=1\/j=2:=by omega
  rcases this with rfl | rfl
  ·exact kLM S i
  ·intro e
   have e:nxt W (nxt W r)=r:=e;have c:nxt W (nxt W (nxt W r))=r:=c;rw[e]at c;exact kLM S i c
def three_cornered(S:Nb W):(W.length+(facesS W).length=(tiesS W).length+2/\∀ f∈facesS W,f.length=3)↔((∀ t∈kN W,(nxt W (nxt W t)).2=t.1)/\(kN W).length+12=6*W.length):=by
 rw[<-kSN S];have l:=kJJ S;have fs:=kIN S;have d:(facesS W).length=(uL W).length:=(wW _).length_eq
 have key:(∀ f∈facesS W,f.length=3)->3*(facesS W).length=(kN W).length:=λ h=>by
  have c:∀ f∈uL W,f.length=3:=λ f i=>h f ((wW _).mem_iff.mpr i);rw[d,<-fs];generalize uL W=F at c;clear h fs d
  induction F with
  | nil=>rfl
  | cons f F ih =>
   rw[gv,AO,gn,<-ih λ g j=>c g (eC _ j),c f (eZ ..)];omega
 constructor
 ·rintro⟨a,b⟩
  have:=key b;exact⟨b,by omega⟩
 ·rintro⟨b,a⟩
  have:=key b;exact⟨by omega,b⟩
end
end Fc
namespace Tri
open Cyc Rnd
section
variable {L L2:Rows} {Os Ps:List (List Nat)} {A M C:List Nat} {f l:Nat}
end
def stF(W:Rows)(top b:List Nat)(a:Nat):Option (List Nat) :=
 let below:=b.filter λ q=>decide (q∈W.getD a [])
 let st:=top.filter λ q=>decide (q∈below)
 if st.length<2\/st.length≠below.length then none
 else if(top.drop (top.idxOf (st.headD 0))).take st.length≠st then none
 else if(st.zip st.tail).all (λ t=>decide ((nxt W t).2=a))=true then some st else none
def poF(top st:List Nat)(a:Nat):List Nat:=top.take (top.idxOf (st.headD 0)+1)++a::top.drop (top.idxOf (st.getLastD 0))
def goF(W:Rows)(a:List Nat):Nat->Option (List (List Nat)×List (List Nat))
 | 0=>some ([],[a.take 2])
 | i+1=>match goF W a i with
  | none=>none
  | some (found,tops)=>match stF W (tops.getLastD []) (a.take (i+2)) (a.getD (i+2) 0) with
   | none=>none
   | some st=>some (found++[st],tops++[poF (tops.getLastD []) st (a.getD (i+2) 0)])
theorem aN:∀{l:List Nat}{a b:Nat},(a,b)∈l.zip l.tail->Adj l a b
 | [],_,_,h=>by simp at h
 | [x],_,_,h=>by simp at h
 | x::y::l,a,b,h=>by
  rw[FA,Be]at h;rcases dr.mp h with e | e
  ·injection e with e1 e2
   exact(bX x y l a b).mpr (.inl ⟨e1,e2⟩)
  ·exact(bX x y l a b).mpr (.inr (aN (l:=y::l) e))
theorem kFO{m:Nat->Nat}:∀{B:List Nat}{x:Nat}{C:List Nat},(∀ b∈B,m b≠m x)->((B++x::C).map m).idxOf (m x)=B.length
 | [],x,C,_=>by simp
 | b::B,x,C,h=>by
  have:=kFO (B:=B) (x:=x) (C:=C) λ b a=>h b (eC _ a);rw[iq,gv,List.idxOf_cons,this,gn];have:(m b == m x)=false:=beq_eq_false_iff_ne.mpr (h b (eZ ..));rw[this]
  rfl
def kLL{W:Rows}(nd:∀(p:Nat)(row:List Nat),W[p]?=some row->row.Nodup){x y v:Nat}(h:R W y v x):(nxt W (x,y)).2=v:=by
 obtain⟨row,e,n⟩:=h;unfold nxt;show(xK (W.getD y []) x).getD 0=v;rw[ak,e];show(xK row x).getD 0=v;rw[pX (nd y row e) n]
 rfl
section
variable {W:Rows} {ms:List Nat} {n:Nat}
end
def jS{W:Rows}(G:Good W):(∀ t∈kN W,(nxt W (nxt W t)).2=t.1)/\(kN W).length+12=6*W.length:=by
 have S:=(Wb.of G).toNb;refine⟨λ t b=>?_,by rw[yN];exact G.tot⟩;obtain⟨x,y⟩:=t;obtain⟨z,r,a,_⟩:=vT S (mem_steps.mp b);rw[a];exact kLL G.nd (G.tri _ _ _ r)
def kEH{W:Rows}{top b st:List Nat}{c:Nat}(h:stF W top b c=some st) :
  ∃ B f M l C,st=f::M++[l]/\top=B++(f::M++[l])++C/\(∀ q∈st,q∈b/\q∈W.getD c [])/\∀ t∈st.zip st.tail,(nxt W t).2=c:=by
 unfold stF at h;dsimp only at h;by_cases i:(top.filter λ q=>decide (q∈b.filter λ q=>decide (q∈W.getD c []))).length<2\/(top.filter λ q=>decide (q∈b.filter λ q=>decide (q∈W.getD c []))).length≠(b.filter λ q=>decide (q∈W.getD c [])).length
 ·rw[if_pos i]at h
  cases h
 rw[if_neg i]at h
 split at h
 ·cases h
 rename_i d
 split at h
 ·rename_i c3
  have h:=bh h;have d:=Decidable.not_not.mp d;rw[h]at i d c3
  have mem:∀ q∈st,q∈b/\q∈W.getD c []:=λ q m=>by
   rw[<-h]at m;have:=of_decide_eq_true (ig.mp m).2;exact⟨(ig.mp this).1,of_decide_eq_true (ig.mp this).2⟩
  have len:2<=st.length:=by omega
  obtain⟨f,r,j⟩ : ∃ a r,st=a::r:=by
   match st,len with
   | a::r,_=>exact⟨a,r,rfl⟩
  have g:r≠[]:=λ z=>by rw[j,z]at len;simp at len
  refine⟨top.take (top.idxOf (st.headD 0)),f,r.dropLast,r.getLast g,(top.drop (top.idxOf (st.headD 0))).drop st.length,?_,?_,mem,λ t o=>of_decide_eq_true (wz.mp c3 t o)⟩
  ·rw[j,iq,eO g]
  ·rw[iq,eO g,<-j]
   have n:top.drop (top.idxOf (st.headD 0))=st++(top.drop (top.idxOf (st.headD 0))).drop st.length:=by
    conv=>lhs;rw[<-iB st.length (top.drop (top.idxOf (st.headD 0))),d]
   rw[cx,<-n,iB]
 ·cases h
def kDI{B:List Nat}{x:Nat}{C:List Nat}(h:x∉B):(B++x::C).idxOf x=B.length:=by
 have:=kFO (m:=id) (B:=B) (x:=x) (C:=C) λ b a e=>h (by rw[<-(show b=x from e)];exact a);simpa using this
def fI{top B M C:List Nat}{f l b:Nat}(e:top=B++(f::M++[l])++C)(nd:top.Nodup):poF top (f::M++[l]) b=B++[f,b,l]++C:=by
 subst e;have p:=de.mp nd;have a:=de.mp p.1;have i:=de.mp a.2.1;have r:f∉B:=λ h=>a.2.2 f h f (by simp) rfl
 have j:l∉B++(f::M):=λ h=>by
  rcases cf.mp h with z | z
  ·exact a.2.2 l z l (by simp) rfl
  ·exact i.2.2 l z l (by simp) rfl
 have d:B++(f::M++[l])++C=B++f::(M++[l]++C):=by simp
 have c:B++(f::M++[l])++C=(B++f::M)++l::C:=by simp
 have g:(B++(f::M++[l])++C).idxOf f=B.length:=by rw[d];exact kDI r
 have m:(B++(f::M++[l])++C).idxOf l=(B++f::M).length:=by rw[c];exact kDI j
 unfold poF;have q:(f::M++[l]).getLastD 0=l:=by rw[ji,iZ];rfl
 rw[show(f::M++[l]).headD 0=f from rfl,q,g,m]
 have o:(B++(f::M++[l])++C).take (B.length+1)=B++[f]:=by
  rw[d,show B++f::(M++[l]++C)=(B++[f])++(M++[l]++C) by simp,xi (by simp)]
 have n:(B++(f::M++[l])++C).drop (B++f::M).length=l::C:=by rw[c,BB rfl]
 rw[o,n];simp
structure Top(W:Rows)(some top:List Nat):Prop where
 nd:top.Nodup
 sub:∀ x∈top,x∈some
 path:∀ x y,Adj top x y->E W x y
def Top.step{W:Rows}{c top st:List Nat}{i:Nat}(T:Top W c top)(sym:∀ a b,E W a b->E W b a)(r:i∉c)(h:stF W top c i=some st) :
  Top W (c++[i]) (poF top st i)/\(∀ x∈st,x∈top)/\st≠[]/\∀ t∈st.zip st.tail,E W t.1 t.2:=by
 obtain⟨B,f,M,l,C,rfl,o,mem,nx⟩:=kEH h;have nd:=T.nd;rw[fI o nd];have d:=T.path;have sub:=T.sub;rw[o]at nd d sub
 have p:∀ q,q∈f::M++[l]->E W i q:=λ q A=>by
  have:=(mem q A).2;rw[ak]at this
  cases e:W[i]? with
  | none=>rw[e]at this;cases this
  | some row=>rw[e]at this;exact⟨row,e,this⟩
 have m:=de.mp nd;have n:=de.mp m.1;have v:=de.mp n.2.1;have all:∀ x∈B++(f::M++[l])++C,x≠i:=λ x g e=>r (by rw[<-e];exact sub x g);refine⟨⟨?_,λ x g=>?_,λ x y ad=>?_⟩,λ x g=>by rw[o];exact cq _ (ck _ g),by simp,λ t D=>?_⟩
 ·have s:f≠l:=v.2.2 f (by simp) l (by simp)
  have h1:B.Nodup:=n.1;have u:C.Nodup:=m.2.1;refine de.mpr ⟨de.mpr ⟨h1,?_,λ x g y j=>?_⟩,u,λ x g y j=>?_⟩
  ·have a:=all f (by simp)
   have b:=all l (by simp);simp[a,s,b.symm]
  ·simp only[dr,og,or_false]at j
   rcases j with rfl | rfl | rfl
   ·exact n.2.2 x g _ (by simp)
   ·exact all x (by simp[g])
   ·exact n.2.2 x g _ (by simp)
  ·rcases cf.mp g with z | z
   ·exact m.2.2 x (cq _ z) y j
   ·simp only[dr,og,or_false]at z
    rcases z with rfl | rfl | rfl
    ·exact m.2.2 _ (by simp) y j
    ·exact λ e=>all y (by simp[j]) e.symm
    ·exact m.2.2 _ (by simp) y j
 ·rcases cf.mp g with z | z
  ·rcases cf.mp z with z | z
   ·exact cq _ (sub x (by simp[z]))
   ·simp only[dr,og,or_false]at z
    rcases z with rfl | rfl | rfl
    ·exact cq _ (sub _ (by simp))
    ·simp
    ·exact cq _ (sub _ (by simp))
  ·exact cq _ (sub x (by simp[z]))
 ·have G:B++[f,i,l]++C=B++f::(i::(l::C)):=by simp
  have p1:B++(f::M++[l])++C=B++f::(M++l::C):=by simp
  have p2:B++(f::M++[l])++C=(B++f::M)++l::C:=by simp
  rw[G,jA]at ad;rcases ad with z | z
  ·exact d x y (by rw[p1,jA];exact .inl z)
  ·rw[bX]at z
   rcases z with⟨rfl,rfl⟩ | z
   ·exact sym _ _ (p _ (by simp))
   ·rw[bX]at z
    rcases z with⟨rfl,rfl⟩ | z
    ·exact p _ (by simp)
    ·exact d x y (by rw[p2,jA];exact .inr z)
 ·obtain⟨a,b⟩:=t
  have ad:=aN D;have e:f::M++[l]++C=(f::M)++l::C:=by simp
  have this:Adj (f::(M++l::C)) a b:=by
   have:Adj ((f::M)++l::C) a b:=by
    rw[jA];exact .inl ad
   exact this
  refine d a b ?_;rw[show B++(f::M++[l])++C=B++f::(M++l::C) by simp,jA];exact .inr this
theorem bM{W:Rows}{ms:List Nat}{i:Nat}(h:goF W ms i=none):∀ j,goF W ms (i+j)=none
 | 0=>h
 | j+1=>by
  have:=bM h j;show goF W ms (i+j+1)=none;unfold goF;rw[this]
def zN(W:Rows)(a b c:Nat)(ms:List Nat):Option (List (List Nat)×List (List Nat)) :=
 if ms[0]?=some a/\ms[1]?=some b/\ms.getLast?=some c then goF W ms (ms.length-2) else none
def lQ{W:Rows}{ms:List Nat}{i:Nat}{fs ts:List (List Nat)}(h:goF W ms i=some (fs,ts))(z:stF W (ts.getLastD []) (ms.take (i+2)) (ms.getD (i+2) 0)=none):goF W ms (i+1)=none:=by
 unfold goF;rw[h];dsimp only;rw[z]
def lU{W:Rows}{ms:List Nat}{i:Nat}{fs ts:List (List Nat)}{st:List Nat}(h:goF W ms i=some (fs,ts))(z:stF W (ts.getLastD []) (ms.take (i+2)) (ms.getD (i+2) 0)=some st):goF W ms (i+1)=some (fs++[st],ts++[poF (ts.getLastD []) st (ms.getD (i+2) 0)]):=by
 unfold goF;rw[h];dsimp only;rw[z]
def bH{α:Type}(l:List (List α))(x:List α):(l++[x]).getLastD []=x:=by
 rw[ji,iZ]
 rfl
def Top.len{W:Rows}{some top:List Nat}(T:Top W some top):top.length<=some.length:=fc T.nd T.sub
end Tri
namespace L2
open PySem PySem.Spec PyProof.Rows
def mB:entryFor table "dict_itemiterator.__iter__" = some zw.«dict_keyiterator.__iter__»:=by first | (rw[<-F.entry_dict_keyiterator_iter];rfl) | kernel_rfl | rfl | decide +kernel
section
variable {prog:eo} {w:iJ} {A:gj} {E:ar->av->Prop} {s:av}
def mR{it d:au}{i n ep:Nat}{ok c:ar}{Q:ar->av->Prop}(b:IsItemIter s.heap it d i n ep ok c)(h:Q (.ref it) s):dw (model prog w) A (pyIter (.ref it)) Q E s:=by
 have a:s.TypeIs (.ref it) "dict_itemiterator":=⟨_,b,rfl⟩;refine wpAny_pyIter_slot a Ax (mf Ax a mB ?_ (F.args_dict_itemiterator_iter_1 _));show dw _ _ (ret (.ref it)) _ _ s;exact bj ⟨_,rfl,"dict_itemiterator",_,a,F.slot_dict_itemiterator_next.lookup,h⟩
end
def kSD{P:eo}{w:iJ}{k:Key}{u:ar}(h:(qD P w).is k u=true):RelV (kV k) u:=by
 rw[kDD]at h;rcases qW h with⟨i,t,rfl,rfl⟩ | ⟨x,t,rfl,rfl⟩
 ·exact⟨t,rfl⟩
 ·exact⟨t,rfl⟩
def Itm(d:au)(o:Obj):It :=
 ⟨λ i H=>∃ a b,H d=some (.frz o (.dK a))/\a[i]?=some b,λ i H v c=>∃ T b,H T=none/\v=.ref T/\(∀ a,H d=some (.frz o (.dK a))->a[i]?=some b)/\c=upd H T (.tup [kV b.1,b.2]),λ i H=>∃ a,H d=some (.frz o (.dK a))/\a.length=i⟩
def kDK{P:eo}{w:iJ}{H:Hp}{h:iS}{d:au}{o:Obj}{b:Array CG}{ep:Nat}{kvs:List (Key×V)}(ok:HOk P w H h)(e:H d=some (.frz o (.dK kvs)))(f:o.data=.dict b ep):∃ vs,KV kvs vs/\h.DictAt (qD P w) d vs ep/\vs.length=b.size:=by
 obtain⟨i,_,_,vs,c,m,j,l,g,x,a,k,p,nd⟩:=ok d _ e;rw[i]at g;cases g
 rw[f]at a;injection a with z1 z2
 subst z1;subst z2;exact⟨vs,c,⟨o,b,i,x,f,k,p,nd⟩,by rw[<-p.length];simp⟩
def KV.at'{kvs:List (Key×V)}{c:List (Key×ar)}(r:KV kvs c){i:Nat}{a:Key×V}{p:Key×ar}(h1:kvs[i]?=some a)(b:c[i]?=some p):a.1=p.1/\RelV a.2 p.2:=by
 induction r generalizing i with
 | nil=>simp at h1
 | cons h t ih =>
  cases i with
  | zero =>
   simp at h1 b;subst h1;subst b;exact h
  | succ i=>exact ih (by simpa using h1) (by simpa using b)
def kCB{P:eo}{w:iJ}{K:ay}{j:List iO} {x1} {U:Pos} (d it:au) (o:Obj) {es:Array CG} {ep:Nat} (J:o.data=.dict es ep):Turn P w K (.Tuple j x1 U) (Itm d o) [it] it (λ i h=>∃ ok ov,IsItemIter h it d i es.size ep ok ov) where
 mem:=by simp
 obj:=λ i h st b c=>by
  obtain⟨ok,ov,a⟩:=st;rw[bu.mp c];exact⟨_,a,λ v z=>by cases z⟩
 keep:=λ i h h' st kk=>by
  obtain⟨ok,ov,a⟩:=st;exact⟨ok,ov,kk it (by simp) _ a⟩
 item:=by
  intro X Q L N hc i A s σ H E I S st T;subst Q L N;obtain⟨ok,ov,a⟩:=st;obtain⟨r,M,D,Z⟩:=T;obtain⟨O,f,Y,C⟩:=kDK I.hok D J;have hi:i<r.length:=(aj.mp Z).1;obtain⟨⟨k',u⟩,hu⟩ : ∃ p,O[i]?=some p:=⟨O[i]'(by rw[<-f.length];exact hi),aa _⟩;have g:=f.at' Z hu;rw[<-C]at a;refine wpAny_pyNext_items_item a Y hu λ key h' B ho hT hz hk=>?_;refine⟨_,rfl,wpAny_letOwnedTupleGo_items ho λ h2 a0 m=>?_⟩;have l:it<s.heap.objs.size:=bz a;have G:h2.get? s.heap.objs.size=some {cls:=.type "tuple",data:=.seq #[key,u]}:=m.extBut _ _ (jc l) hT
  obtain⟨I2,n2⟩:=I.handed (x:=kV M.1) (y:=M.2) (u:=key) (v:=u) (t':=s.toks) (ch:=[it]) (by rw[g.1];exact kSD B) g.2 G (λ b o c q=>m.extBut b o (λ z=>c (by simp[z])) (hk b o (λ z=>c (by simp[z])) q)) S
   (λ b c=>by rw[bu.mp c];exact l)
  refine⟨.ref s.heap.objs.size,_,I2,rfl,⟨_,M,I.hok.fresh (be _),rfl,λ ks n=>?_,rfl⟩,⟨_,_,by rw[<-C];exact a0⟩,n2⟩;rw[D]at n;cases n
  exact Z
 done:=by
  intro X Q L N hc i A s σ H E I S st T;subst Q L N;obtain⟨ok,ov,a⟩:=st;obtain⟨r,D,hl⟩:=T;obtain⟨O,f,Y,C⟩:=kDK I.hok D J;rw[<-C]at a;refine wpAny_pyNext_items_end (I.ok.hd hc) a Y (uh (by rw[<-f.length,hl];exact be _)) λ h' eb=>⟨rfl,I.turnedL (t':=s.toks) (ch:=[it]) (λ b o c q=>eb b o (λ z=>c (by simp[z])) q) λ b c=>S b c⟩
 self:=λ _ _ _ _ _ st h=>by
  obtain⟨ok,ov,a⟩:=st;exact mR a h
section
variable {X:Cx}
inductive kFP(R:It->Hp->Prop)(x:V)(H1:Hp):Prop
 | mk:∀ d kvs,(x=.ref d)->(((H1 d=some (.dK kvs)/\∀ o,R (Itm d o) (upd H1 d (.frz o (.dK kvs))))\/∃ o,H1 d=some (.frz o (.dK kvs))/\R (Itm d o) H1))->kFP R x H1
def kSH(c:TE):TI:=λ b H R=>c b H λ x a=>kFP R x a
def kLC{o:iO}{U:TE}{g f G:Pos}{y:List iO} {x1} (ho:PE X o U)
  (n:attributeBase o "items" X.env (eval o X.env)=eval o X.env:=by rfl) (l:(g.endLine == f.line)=true:=by rfl):PI X (.Tuple y x1 G) (.Call (.Attribute o "items" g) [] [] f) (kSH U):=by
 intro i s T H R I h;refine wpAny_Call_method0_late n l (thn (ho i s T H _ I h) λ v c ⟨x,H1,N,r1,d,m,ex,q1⟩=>?_);subst ex;obtain rfl:v=jx d:=r1
 have fr:∃ a A,Inv X i T A c/\A d=some (.frz a (.dK m))/\R (Itm d a) A:=by
  rcases q1 with⟨e,q⟩ | ⟨a,e,q⟩
  ·obtain⟨z,M,B,D,p⟩:=kGA N.hok e
   obtain⟨a,es,L,h1,r⟩:=id p;exact⟨a,_,vI (t':=c.toks) (ob:=.frz a (.dK m)) N (by rw[e];exact qc) ⟨rfl,λ _ _=>rfl⟩ ⟨a,h1⟩ ⟨h1,z,M,B,D,p⟩,kA,q a⟩
  ·exact⟨a,H1,N,e,q⟩
 obtain⟨a,A,J,Z,hR⟩:=fr;obtain⟨h1,z,M,a0,Y,Q⟩:=J.hok d _ Z;obtain⟨a1,es,L,C,O,j,_⟩:=id Q;rw[h1]at C
 cases C
 obtain⟨B,D,p,lv⟩:=kDK J.hok Z j;have S:=p.dictOf.typeIs (s:=c);refine⟨"dict","dict.items",F.plainAttrs_dict,Dy,F.type_dict_items,S,λ b q=>?_,?_⟩
 ·cases q
  exact⟨a,h1,O.2.1⟩
 refine CU rfl (PySem.evalArgs_none (call_meetsIn Dy S F.entry_dict_items (F.args_dict_items_1 _) (meets_dict_items (qD X.prog X.w) d M) ⟨⟨B,p.dictOf⟩,?_⟩));refine wpAny_pyIter_items (knd:=qD X.prog X.w) (v:=c.heap.objs.size) (d:=d) (kvs:=B) (ep:=L) ⟨_,cg _ rfl,rfl,rfl⟩ (p.push _) ?_;have hk:∀ b u,c.heap.get? b=some u->((c.heap.push {cls:=.type "dict_items",data:=.fields #[.ref d]}).push {cls:=.type "dict_itemiterator",data:=.fields #[.none,.bool false,.ref d,.int 0 0,.int B.length 0,.int L 0,.none,.none]}).get? b=some u:=λ b u e=>ao _ (ao _ e);have hz:(c.heap.push {cls:=.type "dict_items",data:=.fields #[.ref d]}).objs.size=c.heap.objs.size+1:=iX ..;refine⟨_,[(c.heap.push {cls:=.type "dict_items",data:=.fields #[.ref d]}).objs.size],_,_,A,rfl,J.kept (t':=c.toks) hk,kCB d _ a j,⟨.none,.none,?_⟩,λ b hb=>?_,hR⟩
 ·rw[<-lv]
  exact cg _ rfl
 ·rw[bu.mp hb,hz]
  exact J.fpOk (by omega) (J.hok.fresh (by omega))
end
def kBY{d:au}{o:Obj}{kvs:List (Key×V)}{g:TG}{bd:TB}{f:St->Hp->Prop}{a:St}{H:Hp}(Pv:Nat->St->Hp->Prop)(h0:Pv 0 a H)(u:∀ i a H,i<=kvs.length->Pv i a H->H d=some (.frz o (.dK kvs)))
  (n:∀ i kv T a H,kvs[i]?=some kv->H T=none->Pv i a H->g (.ref T) a (upd H T (.tup [kV kv.1,kv.2])) λ σ2 H2=>bd (Pv (i+1)) σ2 H2) (l:∀ a H,Pv kvs.length a H->f a H):vS (Itm d o) g bd f a H:=by
 refine⟨λ i m a H=>m=kvs.length-i/\i<=kvs.length/\Pv i a H,⟨kvs.length,by simp,gy _,h0⟩,?_⟩;rintro i m a H ⟨rfl,c,p⟩;have b:=u i a H c p;by_cases s:i<kvs.length
 ·refine .inr ⟨⟨kvs,kvs[i],b,by simp[s]⟩,Pv (i+1),λ j v q=>⟨kvs.length-(i+1),by omega,rfl,by omega,q⟩,λ x v r=>?_⟩
  obtain⟨T,kv,h,rfl,y,rfl⟩:=r;exact n i kv T a H (y kvs b) h p
 ·have:i=kvs.length:=by omega
  subst this;exact .inl ⟨⟨kvs,b,rfl⟩,l a H p⟩
end L2
namespace Tri
open Cyc Rnd
def uP{W:Rows}{top a st:List Nat}{b:Nat}(nd:top.Nodup)(h:stF W top a b=some st) :
  ∃ B f M l C,st=f::M++[l]/\top=B++(f::M++[l])++C/\(∀ q,q∈st↔q∈a/\q∈W.getD b [])/\∀ t∈st.zip st.tail,(nxt W t).2=b:=by
 obtain⟨B,f,M,l,C,j,g,mem,nx⟩:=kEH h;refine⟨B,f,M,l,C,j,g,λ q=>⟨mem q,λ i=>?_⟩,nx⟩
 have snd:st.Nodup:=by
  rw[g]at nd;rw[j];exact(de.mp (de.mp nd).1).2.1
 have len:st.length=(a.filter λ q=>decide (q∈W.getD b [])).length:=by
  unfold stF at h;dsimp only at h;by_cases d:(top.filter λ q=>decide (q∈a.filter λ q=>decide (q∈W.getD b []))).length<2\/(top.filter λ q=>decide (q∈a.filter λ q=>decide (q∈W.getD b []))).length≠(a.filter λ q=>decide (q∈W.getD b [])).length
  ·rw[if_pos d]at h
   cases h
  rw[if_neg d]at h
  split at h
  ·cases h
  split at h
  ·have h:=bh h
   rw[h]at d;omega
  ·cases h
 by_cases c:q∈st
 ·exact c
 ·exfalso
  have:=fc (gk.mpr ⟨c,snd⟩) (l₂:=a.filter λ q=>decide (q∈W.getD b [])) λ x m=>by
   rcases dr.mp m with rfl | z
   ·exact ig.mpr ⟨i.1,decide_eq_true i.2⟩
   ·exact ig.mpr ⟨(mem x z).1,decide_eq_true (mem x z).2⟩
  rw[gn]at this;omega
def tH{W:Rows}{top a B M C:List Nat}{f l b:Nat}(nd:top.Nodup)(i:a.Nodup)(e:top=B++(f::M++[l])++C)(sub:∀ q∈top,q∈a)(mem:∀ q,q∈f::M++[l]↔q∈a/\q∈W.getD b [])(nx:∀ t∈(f::M++[l]).zip (f::M++[l]).tail,(nxt W t).2=b) :
  stF W top a b=some (f::M++[l]):=by
 have c:=nd;rw[e]at c;have n:=de.mp c;have j:=de.mp n.1
 have d:∀ q,q∈(a.filter λ q=>decide (q∈W.getD b []))↔q∈f::M++[l]:=λ q=>by
  rw[ig,decide_eq_true_iff,mem]
 have s:(a.filter λ q=>decide (q∈W.getD b [])).Perm (f::M++[l]):=(uf (i.filter _) j.2.1).mpr d
 have o:(top.filter λ q=>decide (q∈a.filter λ q=>decide (q∈W.getD b [])))=f::M++[l]:=by
  have v:(λ q=>decide (q∈a.filter λ q=>decide (q∈W.getD b [])))=λ q=>decide (q∈f::M++[l]):=by
   funext q
   rw[iV,decide_eq_true_iff,decide_eq_true_iff,d]
  rw[v,e,so,so];have m:B.filter (λ q=>decide (q∈f::M++[l]))=[]:=AY.mpr λ q g h=>j.2.2 q g q (of_decide_eq_true h) rfl;have p:C.filter (λ q=>decide (q∈f::M++[l]))=[]:=AY.mpr λ q g h=>n.2.2 q (ck _ (of_decide_eq_true h)) q g rfl;rw[m,p,DE.mpr λ q g=>decide_eq_true g];simp
 have u:(f::M++[l]).length=M.length+2:=by simp
 have m:f∉B:=λ h=>j.2.2 f h f (by simp) rfl
 have r:top.idxOf f=B.length:=by
  rw[e,show B++(f::M++[l])++C=B++f::(M++[l]++C) by simp];exact kDI m
 unfold stF;dsimp only;rw[o,s.length_eq,if_neg (by rw[u];omega),if_neg,if_pos]
 ·exact wz.mpr λ t x=>decide_eq_true (nx t x)
 ·intro h
  refine h ?_;rw[show(f::M++[l]).headD 0=f from rfl,r,e,cx,BB rfl,xi rfl]
theorem kGK:∀{l:List Nat}{a b:Nat},Adj l a b->(a,b)∈l.zip l.tail
 | [],_,_,h=>absurd h id
 | [x],_,_,h=>absurd h id
 | x::y::l,a,b,h=>by
  rw[FA,Be];rcases(bX x y l a b).mp h with⟨rfl,rfl⟩ | z
  ·exact eZ ..
  ·exact eC _ (kGK (l:=y::l) z)
section
variable {W:Rows} {T ahead su sv:List Nat} {u v:Nat}
end
theorem lN{W:Rows}{ms a:List Nat}:∀{i:Nat},ms.take (i+2)=a.take (i+2)->goF W ms i=goF W a i
 | 0,h=>by
  unfold goF;rw[show ms.take 2=a.take 2 from h]
 | i+1,h=>by
  have h1:ms.take (i+2)=a.take (i+2):=by
   have:=congrArg (Fy (i+2)) h;rwa[BN,BN,jw (by omega)]at this
  have b:ms[i+2]?=a[i+2]?:=by
   have:=congrArg (λ l:List Nat=>l[i+2]?) h;simpa[qw (show i+2<i+1+2 by omega)] using this
  unfold goF;rw[lN h1,h1,ak,ak,b]
theorem uS{W:Rows}{ms:List Nat}(c:ms.Nodup)(sym:∀ a b,E W a b->E W b a)(h0:Top W (ms.take 2) (ms.take 2)):∀{i:Nat}{fs ts:List (List Nat)},i+2<=ms.length->goF W ms i=some (fs,ts)->Top W (ms.take (i+2)) (ts.getLastD [])
 | 0,fs,ts,_,h=>by
  unfold goF at h;have h:=bh h;injection h with h1 h2
  rw[<-h2];exact h0
 | i+1,fs,ts,hl,h=>by
  cases e:goF W ms i with
  | none =>
   have:=bM e 1;rw[show i+1=i+1 from rfl,this]at h;cases h
  | some x =>
   obtain⟨f,t⟩:=x;have g:=uS c sym h0 (by omega) e
   cases s:stF W (t.getLastD []) (ms.take (i+2)) (ms.getD (i+2) 0) with
   | none=>rw[lQ e s]at h;cases h
   | some st =>
    rw[lU e s]at h;have h:=bh h;injection h with h1 h2
    have l:ms.getD (i+2) 0∉ms.take (i+2):=by
     rw[ak,aa (by omega)];intro z;obtain⟨j,d,e⟩:=eY.mp z;rw[dc]at d;rw[AV]at e;have:=(Ao c).mp e;omega
    have m:ms.take (i+1+2)=ms.take (i+2)++[ms.getD (i+2) 0]:=by
     rw[show i+1+2=i+2+1 by omega,iw,ak,aa (show i+2<ms.length by omega)]
     rfl
    rw[<-h2,bH,m];exact(g.step sym l s).1
def vF{W:Rows}{ms:List Nat}{i j:Nat}{Fs Ts:List (List Nat)}(h:goF W ms (i+j)=some (Fs,Ts)):∃ fs ts,goF W ms i=some (fs,ts):=by
 cases e:goF W ms i with
 | none=>rw[bM e j]at h;cases h
 | some x=>exact⟨x.1,x.2,rfl⟩
def zO{W:Rows}{ms:List Nat}{i:Nat}{fs ts Fs Ts:List (List Nat)}(h:goF W ms i=some (fs,ts))(h':goF W ms (i+1)=some (Fs,Ts)):∃ st,stF W (ts.getLastD []) (ms.take (i+2)) (ms.getD (i+2) 0)=some st/\Fs=fs++[st]/\Ts=ts++[poF (ts.getLastD []) st (ms.getD (i+2) 0)]:=by
 cases s:stF W (ts.getLastD []) (ms.take (i+2)) (ms.getD (i+2) 0) with
 | none=>rw[lQ h s]at h';cases h'
 | some st =>
  rw[lU h s]at h';have h':=bh h';injection h' with h1 h2
  exact⟨st,rfl,h1.symm,h2.symm⟩
def xH{W:Rows}{ms:List Nat}:∀{i:Nat}{fs ts:List (List Nat)},goF W ms i=some (fs,ts)->fs.length=i/\ts.length=i+1:=by
 intro i
 induction i with
 | zero =>
  intro fs ts h;unfold goF at h;have h:=bh h;injection h with h1 h2
  rw[<-h1,<-h2];exact⟨rfl,rfl⟩
 | succ i ih =>
  intro fs ts h;obtain⟨f,t,e⟩:=vF (i:=i) (j:=1) h;obtain⟨st,_,b,a⟩:=zO e h;obtain⟨p,q⟩:=ih e;rw[b,a,bq,bq,p,q];exact⟨rfl,rfl⟩
def zG{ms:List Nat}(a:ms.Nodup){k j:Nat}(h:k<=j)(b:j<ms.length):ms.getD j 0∉ms.take k:=by
 rw[ak,aa b];intro z;obtain⟨m,c,e⟩:=eY.mp z;rw[dc]at c;rw[AV]at e;have:=(Ao a).mp e;omega
section
variable {ms:List Nat} {k:Nat}
variable {W:Rows} {a b c:Nat} {Fs Ts:List (List Nat)}
end
section
variable {W W':Rows} {g:Nat->Nat} {n:Nat}
end
end Tri
namespace Fc
open Cyc Rnd Tri
def mgN(a b x:Nat):Nat:=if x=b then a else x
def goL(m:List Nat)(a:List (Nat×Nat)):List Nat:=a.foldl (λ m l=>m.map (mgN (m.getD l.1 0) (m.getD l.2 0))) m
def bL(m:List Nat)(l:Nat×Nat)(a:List (Nat×Nat)):goL m (l::a)=goL (m.map (mgN (m.getD l.1 0) (m.getD l.2 0))) a:=rfl
theorem kFR:∀(a:List (Nat×Nat))(m:List Nat),(goL m a).length=m.length
 | [],_=>rfl
 | l::a,m=>by rw[bL,kFR a,ai]
theorem oM:∀(a:List (Nat×Nat))(m:List Nat)(c:Nat),(∀ x∈goL m a,x=c)->∃ V:List Nat,V.length<=a.length+1/\∀ x∈m,x∈V
 | [],m,c,h=>⟨[c],by simp,λ x b=>by rw[h x b];simp⟩
 | l::a,m,c,h=>by
  rw[bL]at h;obtain⟨V,h1,d⟩:=oM a _ c h;refine⟨m.getD l.2 0::V,by simp;omega,λ x b=>?_⟩;have:=d _ (iP.mpr ⟨x,b,rfl⟩);unfold mgN at this
  split at this
  ·rename_i e
   rw[e];exact eZ ..
  ·exact eC _ this
def bE{m:List Nat}{f:Nat->Nat}{i:Nat}(h:i<m.length):(m.map f).getD i 0=f (m.getD i 0):=by
 rw[ak,ak,bg,aa h]
 rfl
theorem kAY:∀(a:List (Nat×Nat))(m:List Nat)(i j:Nat),i<m.length->j<m.length->m.getD i 0=m.getD j 0->(goL m a).getD i 0=(goL m a).getD j 0
 | [],_,_,_,_,_,h=>h
 | l::a,m,i,j,hi,hj,h=>by
  rw[bL];refine kAY a _ i j (by rw[ai];exact hi) (by rw[ai];exact hj) ?_;rw[bE hi,bE hj,h]
theorem kAZ:∀(a:List (Nat×Nat))(m:List Nat)(i j:Nat),i<m.length->j<m.length->(i,j)∈a->(goL m a).getD i 0=(goL m a).getD j 0
 | l::a,m,i,j,hi,hj,h=>by
  rw[bL];have b:i<(m.map (mgN (m.getD l.1 0) (m.getD l.2 0))).length:=by rw[ai];exact hi
  have c:j<(m.map (mgN (m.getD l.1 0) (m.getD l.2 0))).length:=by rw[ai];exact hj
  rcases dr.mp h with e | h
  ·refine kAY a _ i j b c ?_
   rw[<-e,bE hi,bE hj];unfold mgN;simp only
   split<;>simp
  ·exact kAZ a _ i j b c h
def kDG{F:Nat}{b:List (Nat×Nat)}(d:∀ l∈b,l.1<F/\l.2<F)(all:∀ m:List Nat,m.length=F->(∀ l∈b,m.getD l.1 0=m.getD l.2 0)->∀ i,i<F->m.getD i 0=m.getD 0 0):F<=b.length+1:=by
 have f:=kFR b (cw F);rw[iI]at f;have a:=all (goL (cw F) b) f λ l c=>kAZ b _ l.1 l.2 (by rw[iI];exact(d l c).1) (by rw[iI];exact(d l c).2) c
 obtain⟨V,h1,g⟩:=oM b (cw F) ((goL (cw F) b).getD 0 0) λ x j=>by
  obtain⟨i,h,rfl⟩:=eY.mp j;rw[<-a i (by omega),ak,aa h]
  rfl
 have:=fc uy g;rw[iI]at this;omega
def kLS{p:Nat->Prop}(h:∃ k,p k):∃ k,p k/\∀ j,j<k->¬ p j:=by
 obtain⟨k,b⟩:=h
 induction k using BF with
 | _ k ih =>
  by_cases c:∃ j,j<k/\p j
  ·obtain⟨j,a,hp⟩:=c
   exact ih j a hp
  ·exact⟨k,b,λ j a hp=>c ⟨j,a,hp⟩⟩
def rot_to{row:List Nat}(nd:row.Nodup){P:Nat->Prop}{y q:Nat}(r:y∈row)(h0:q∈row)(p0:P q)(st:∀ w v,w∈row->w≠y->xK row w=some v->P w->P v):P y:=by
 obtain⟨d,s,rfl⟩:=eY.mp r;obtain⟨l,u,rfl⟩:=eY.mp h0;have j:∀ i (h:i<row.length),row.idxOf row[i]=i:=λ i h=>(Ao nd).mp (Bf (gw (iY h)));have o:∀ i (h:i<row.length),i≠d->row[i]≠row[d]:=λ i h n z=>n ((Ao nd).mp z)
 have step:∀ i (h:i+1<row.length),i+1≠d->P row[i+1]->P row[i]:=λ i h n p=>by
  refine st _ _ (iY h) (o _ h n) ?_ p;unfold xK;rw[j _ h,if_neg (by omega),show i+1-1=i by omega,aa (by omega)]
 have g:∀(h:0<row.length),0≠d->P row[0]->P (row[row.length-1]'(by omega)):=λ h n p=>by
  refine st _ _ (iY h) (o _ h n) ?_ p;unfold xK;rw[j _ h,if_pos rfl,ml,aa (by omega)]
 have f:∀ k i (h:i+k<row.length),(∀ t,i<t->t<=i+k->t≠d)->P row[i+k]->P (row[i]'(by omega)):=λ k=>by
  induction k with
  | zero=>exact λ i h _ p=>p
  | succ k ih =>
   intro i h n p;exact ih i (by omega) (λ t h1 m=>n t h1 (by omega)) (step (i+k) (by omega) (n _ (by omega) (by omega)) p)
 rcases iH l d with c | c
 ·have a:=f l 0 (by omega) (λ t h1 m=>by omega) (by simpa using p0)
  have b:=g (by omega) (by omega) a;have:=f (row.length-1-d) d (by omega) (λ t h1 m=>by omega) (by simpa[show d+(row.length-1-d)=row.length-1 by omega] using b);exact this
 ·have:=f (l-d) d (by omega) (λ t h1 m=>by omega) (by simpa[show d+(l-d)=l by omega] using p0)
  exact this
section
variable {W:Rows} {par dist:Nat->Nat}
theorem kGH(a:Nat->Nat):∀ n:Nat,∃ N,∀ v,v<n->a v<=N
 | 0=>⟨0,λ v h=>by omega⟩
 | n+1=>by
  obtain⟨N,h⟩:=kGH a n;refine⟨max N (a n),λ v b=>?_⟩;rcases iH v n with c | c
  ·have:=h v c
   omega
  ·rw[show v=n by omega]
   omega
def kNZ(S:Nb W):∃ R:List (Nat×Nat),R.length=(facesS W).length/\(∀ r∈R,r∈kN W)/\(∀ t∈kN W,∃ i,∃(h:i<R.length),t∈rnd W R[i])/\∀ t i j (hi:i<R.length) (a:j<R.length),t∈rnd W R[i]->t∈rnd W R[j]->i=j:=by
 have sub:∀ t∈stepsS W,t∈kN W:=λ t d=>(sortP_perm _).mem_iff.mp d;have I:=fgo_ok S (stepsS W) sub;obtain⟨R,m,o,g⟩:=I.reps
 have n:(facesS W).length=R.length:=by
  rw[show(facesS W).length=(uL W).length from(wW _).length_eq];show(fgo W (stepsS W)).1.length=_;rw[o,ai]
 have nd:=I.nd;rw[g]at nd;have l:=(Co.mp nd).2;refine⟨R,n.symm,λ r b=>sub r (m r b),λ t d=>?_,λ t i j hi a h1 f=>?_⟩
 ·have:=I.cov t ((sortP_perm _).mem_iff.mpr d)
  rw[g]at this;obtain⟨r,b,h⟩:=xb.mp this;obtain⟨i,hi,rfl⟩:=eY.mp b;exact⟨i,hi,h⟩
 ·rcases yg i j with c | c | c
  ·exact absurd rfl (lj.mp l i j hi a c t h1 t f)
  ·exact c
  ·exact absurd rfl (lj.mp l j i a hi c t f t h1)
end
section
variable {W W':Rows}
end
section
variable {W W' L:Rows}
end
section
variable {W W':Rows}
end
def RC(W:Rows)(C:List Nat):Nat->Nat->Prop
 | 0,v=>v∈C
 | k+1,v=>∃ u,RC W C k u/\E W u v
def kTK{W:Rows}{C:List Nat}{c v:Nat}(a:c∈C)(h:Reach W c v):∃ k,RC W C k v:=by
 induction h with
 | here=>exact⟨0,a⟩
 | more _ e ih =>
  obtain⟨k,b⟩:=ih;exact⟨k+1,_,b,e⟩
structure CTree(W:Rows)(C:List Nat)(par dist:Nat->Nat):Prop where
 e:∀ v,v<W.length->v∉C->E W (par v) v
 d:∀ v,v<W.length->v∉C->dist (par v)+1=dist v
def kMY{W:Rows}{C:List Nat}(f:∀ v,v<W.length->∃ c∈C,Reach W c v):∃ par dist,CTree W C par dist:=by
 have h1:∀ v,∃ k,v<W.length->RC W C k v/\∀ j,j<k->¬ RC W C j v:=λ v=>by
  by_cases c:v<W.length
  ·obtain⟨c0,i,r⟩:=f v c
   obtain⟨k,s⟩:=kLS (kTK i r);exact⟨k,λ _=>s⟩
  ·exact⟨0,λ z=>absurd z c⟩
 have d:=λ v=>ql (h1 v);generalize p:(λ v=>wo (h1 v))=dist at *
 have d:∀ v,v<W.length->RC W C (dist v) v/\∀ j,j<dist v->¬ RC W C j v:=λ v B=>by
  rw[<-p];exact d v B
 have g:∀ v,∃ u,v<W.length->v∉C->E W u v/\dist u+1=dist v:=λ v=>by
  by_cases c:v<W.length/\v∉C
  ·obtain⟨a,b⟩:=d v c.1
   cases e:dist v with
   | zero =>
    rw[e]at a;exact absurd a c.2
   | succ k =>
    rw[e]at a b;obtain⟨u,x,l⟩:=a
    have o:u<W.length:=by
     obtain⟨row,m,_⟩:=l;exact(aj.mp m).1
    obtain⟨q,A⟩:=d u o;refine⟨u,λ _ _=>⟨l,?_⟩⟩;have H:¬ k<dist u:=λ z=>A k z x;have G:¬ dist u+1<k+1:=λ z=>b _ z ⟨u,q,l⟩;omega
  ·exact⟨0,λ y D=>absurd ⟨y,D⟩ c⟩
 exact⟨λ v=>wo (g v),dist,λ v h n=>(ql (g v) h n).1,λ v h n=>(ql (g v) h n).2⟩
section
variable {W:Rows} {C:List Nat} {par dist:Nat->Nat} {lab:Nat->Nat->Nat}
def row_at(S:Nb W){z:Nat}(hz:z<W.length):∃ r,W[z]?=some r/\r.Nodup/\(∀ w,w∈r↔E W z w)/\∀ w v,xK r w=some v->nxt W (w,z)=(z,v):=by
 refine⟨W[z],aa hz,S.nd z _ (aa hz),λ w=>⟨λ m=>⟨_,aa hz,m⟩,λ⟨r,a,m⟩=>?_⟩,λ w v h=>?_⟩
 ·rw[aa hz]at a
  cases a
  exact m
 ·show(z,(xK (W.getD z []) w).getD 0)=(z,v)
  rw[ak,aa hz];show(z,(xK W[z] w).getD 0)=(z,v);rw[h]
  rfl
def Fit(W:Rows)(lab:Nat->Nat->Nat):Prop:=∀ x y v,E W x y->nxt W (x,y)=(y,v)->lab y v=lab x y
def kOY(S:Nb W)(T:CTree W C par dist)(n:Fit W lab)
  (l:∀ x y,E W x y->¬ ((y∉C/\par y=x)\/(x∉C/\par x=y)\/Nx C x y\/Nx C y x)->lab x y=lab y x):∀ x y,E W x y->¬ Nx C x y->¬ Nx C y x->lab x y=lab y x:=by
 obtain⟨N,I⟩:=kGH dist W.length
 have a:∀ k z,z<W.length->z∉C->N-dist z=k->lab (par z) z=lab z (par z):=λ k=>by
  induction k using BF with
  | _ k ih =>
   intro z m j O;obtain⟨r,M,nd,mem,nx⟩:=row_at S m;have g:=T.e z m j;obtain⟨v,Q,B,J⟩:=vT S g;refine(rot_to nd (P:=λ w=>lab z w=lab (par z) z) ((mem _).mpr (S.sym _ _ g)) ((mem v).mpr J) (n _ _ _ g B) λ w u p o L G=>?_).symm;have i:=(mem w).mp p
   have back:lab z w=lab w z:=by
    by_cases t:(w∉C/\par w=z)\/(z∉C/\par z=w)\/Nx C z w\/Nx C w z
    ·rcases t with⟨c,f⟩ | ⟨_,s⟩ | h | h
     ·have b:=(S.e i).2.1
      have A:=T.d w b c;rw[f]at A;have:=I w b;have q:=ih (N-dist w) (by omega) w b c rfl;rwa[f]at q
     ·exact absurd s.symm o
     ·exact absurd (kU h).1 j
     ·exact absurd (kU h).2 j
    ·exact l z w i t
   rw[n w z u (S.sym _ _ i) (nx w u L),<-back,G]
 intro x y e D H;by_cases t:(y∉C/\par y=x)\/(x∉C/\par x=y)\/Nx C x y\/Nx C y x
 ·rcases t with⟨h,rfl⟩ | ⟨h,rfl⟩ | h | h
  ·exact a _ y (S.e e).2.1 h rfl
  ·exact(a _ x (S.e e).1 h rfl).symm
  ·exact absurd h D
  ·exact absurd h H
 ·exact l x y e t
def rO(S:Nb W)(f:Fit W lab)(d:∀ x y,E W x y->¬ Nx C x y->¬ Nx C y x->lab x y=lab y x){z w a:Nat}(hz:z∉C)(e:E W z w)(g:E W z a):lab z w=lab z a:=by
 obtain⟨r,j,nd,mem,nx⟩:=row_at S (S.e e).1;refine rot_to nd (P:=λ u=>lab z u=lab z a) ((mem w).mpr e) ((mem a).mpr g) rfl λ u v i _ c p=>?_;have b:=(mem u).mp i;rw[f u z v (S.sym _ _ b) (nx u v c),<-d z u b (λ h=>hz (kU h).1) (λ h=>hz (kU h).2)];exact p
def fL(S:Nb W)(nd:C.Nodup)(g:Fit W lab)(i:∀ p q,Nx C p q->E W p q)(D:∀ x y,E W x y->¬ Nx C x y->¬ Nx C y x->lab x y=lab y x){p c n:Nat}(h1:Nx C p c)(d:Nx C c n):lab c n=lab p c:=by
 have l:=i _ _ h1;have f:=i _ _ d;obtain⟨r,G,a,mem,nx⟩:=row_at S (S.e f).1;obtain⟨v,H,o,s⟩:=vT S l;refine rot_to a (P:=λ u=>lab c u=lab p c) ((mem n).mpr f) ((mem v).mpr s) (g _ _ _ l o) λ u v A m B q=>?_;have j:=(mem u).mp A;rw[g u c v (S.sym _ _ j) (nx u v B)];by_cases b:u=p
 ·rw[b]
 ·rw[<-D c u j (λ h=>m (jT nd h d)) (λ h=>b (yE nd h h1))]
  exact q
def kOX(S:Nb W)(nd:C.Nodup)(j:Fit W lab)(d:∀ p q,Nx C p q->E W p q)(i:∀ x y,E W x y->¬ Nx C x y->¬ Nx C y x->lab x y=lab y x){p c n w:Nat}(h1:Nx C p c)(a:Nx C c n)(e:E W c w):lab c w=lab p c\/lab c w=lab n c:=by
 have g:=d _ _ a;obtain⟨r,s,b,mem,nx⟩:=row_at S (S.e g).1;refine rot_to b (P:=λ u=>lab c u=lab p c\/lab c u=lab n c) ((mem w).mpr e) ((mem n).mpr g) (.inl (fL S nd j d i h1 a)) λ u v o A m q=>?_;have f:=(mem u).mp o;rw[j u c v (S.sym _ _ f) (nx u v m)];by_cases un:u=n
 ·exact .inr (by rw[un])
 ·by_cases l:u=p
  ·exact .inl (by rw[l])
  ·rw[<-i c u f (λ h=>un (jT nd h a)) (λ h=>l (yE nd h h1))]
   exact q
def kOZ(S:Nb W)(T:CTree W C par dist)(nd:C.Nodup)(r:Fit W lab)(l:∀ p q,Nx C p q->E W p q)(m:∀ x y,E W x y->¬ Nx C x y->¬ Nx C y x->lab x y=lab y x){p q:Nat}(h:Nx C p q)(B:lab p q=lab q p) :
  ∀ x y,E W x y->lab x y=lab p q:=by
 have one:∀ c n,Nx C c n->lab c n=lab p q->lab n c=lab p q->∀ w,E W c w->lab c w=lab p q:=λ c n i a b w e=>by
  obtain⟨v,f⟩:=wY (kU i).1;have f:=yZ nd (kU i).1 f;rcases kOX S nd r l m f i e with z | z
  ·rw[z,<-fL S nd r l m f i,a]
  ·rw[z,b]
 have s:∀ y∈C,∀ w,E W y w->lab y w=lab p q:=λ y A=>by
  refine rot_to nd (P:=λ c=>∀ w,E W c w->lab c w=lab p q) A (kU h).1 (one p q h rfl B.symm) λ c v g _ f z=>?_;have f:=yZ nd g f;obtain⟨n,i⟩:=cH g;refine one v c f ?_ (z v (S.sym _ _ (l _ _ f)));rw[<-fL S nd r l m f i];exact z n (l _ _ i)
 have j:∀ k z,z<W.length->dist z=k->∀ w,E W z w->lab z w=lab p q:=λ k=>by
  induction k using BF with
  | _ k ih =>
   intro z u D w e;by_cases g:z∈C
   ·exact s z g w e
   ·have o:=T.e z u g
    have G:=T.d z u g;rw[rO S r m g e (S.sym _ _ o),<-m _ _ o (λ h=>g (kU h).2) (λ h=>g (kU h).1)];exact ih _ (by omega) _ (S.e o).1 rfl _ o
 exact λ x y e=>j _ x (S.e e).1 rfl y e
def tE(v u:Nat):Nat×Nat:=if v<u then(v,u) else(u,v)
def kJK{v u w x:Nat}(h:tE v u=tE w x):(v=w/\u=x)\/(v=x/\u=w):=by
 unfold tE at h
 split at h<;>split at h<;>injection h with h1 h2<;>omega
def kRR{v w:Nat}(nd:C.Nodup)(h1:Nx C v w)(c:Nx C w v):C.length<=2:=by
 have all:∀ x∈C,x=v\/x=w:=λ x b=>by
  refine rot_to nd (P:=λ x=>x=v\/x=w) b (kU h1).1 (.inl rfl) λ y u d _ a p=>?_;have a:=yZ nd d a;rcases p with rfl | rfl
  ·exact .inr (yE nd a c)
  ·exact .inl (yE nd a h1)
 have:=fc nd (l₂:=[v,w]) λ x b=>by
  rcases all x b with rfl | rfl<;>simp
 simpa using this
def CtP(C:List Nat)(a:Nat->Nat)(t:Nat×Nat):Prop:=(t.2∉C/\a t.2=t.1)\/(t.1∉C/\a t.1=t.2)\/Nx C t.1 t.2\/Nx C t.2 t.1
open Classical in
def kBL(S:Nb W)(T:CTree W C par dist)(nd:C.Nodup)(M:3<=C.length)(J:∀ p q,Nx C p q->E W p q):W.length<=((tiesS W).filter λ t=>decide (CtP C par t)).length:=by
 have A:∀ v,∃ u,v<W.length->(v∈C/\Nx C v u)\/(v∉C/\u=par v):=λ v=>by
  by_cases c:v∈C
  ·obtain⟨u,I⟩:=cH c
   exact⟨u,λ _=>.inl ⟨c,I⟩⟩
  ·exact⟨par v,λ _=>.inr ⟨c,rfl⟩⟩
 have g:=λ v=>ql (A v);generalize D:(λ v=>wo (A v))=f at *
 have g:∀ v,v<W.length->(v∈C/\Nx C v (f v))\/(v∉C/\f v=par v):=λ v j=>by
  rw[<-D];exact g v j
 have x:((cw W.length).map λ v=>tE v (f v)).Nodup:=by
  refine qe.mpr (CZ.imp_of_mem λ{a b} l m B e=>?_);have l:=jo.mp l;have m:=jo.mp m;rcases kJK e with⟨z,_⟩ | ⟨s,y⟩
  ·omega
  ·rcases g a l with⟨o,i⟩ | ⟨o,i⟩<;>rcases g b m with⟨r,h⟩ | ⟨r,h⟩
   ·rw[y]at i
    rw[<-s]at h;have:=kRR nd i h;omega
   ·rw[y]at i
    exact r (kU i).2
   ·rw[<-s]at h
    exact o (kU h).2
   ·have H:=T.d a l o
    have G:=T.d b m r;rw[<-i,y]at H;rw[<-h,<-s]at G;omega
 have:=fc x (l₂:=(tiesS W).filter λ t=>decide (CtP C par t)) λ t L=>by
  obtain⟨v,j,rfl⟩:=iP.mp L;have j:=jo.mp j
  have two:E W v (f v)/\CtP C par (v,f v)/\CtP C par (f v,v):=by
   rcases g v j with⟨c,n⟩ | ⟨c,n⟩
   ·exact⟨J _ _ n,.inr (.inr (.inl n)),.inr (.inr (.inr n))⟩
   ·rw[n]
    exact⟨S.sym _ _ (T.e v j c),.inr (.inl ⟨c,rfl⟩),.inl ⟨c,rfl⟩⟩
  obtain⟨e,p1,p2⟩:=two;have N:=(S.e e).2.2;unfold tE tiesS;rw[ig,ig,mem_stepsS]
  split
  ·rename_i c
   exact⟨⟨e,decide_eq_true c⟩,decide_eq_true p1⟩
  ·rename_i c
   exact⟨⟨S.sym _ _ e,decide_eq_true (by show f v<v;omega)⟩,decide_eq_true p2⟩
 rw[ai,iI]at this;exact this
open Classical in
def kSE(S:Nb W)(g:∀ v,v<W.length->Reach W 0 v)(fl:W.length+(facesS W).length=(tiesS W).length+2)(nd:C.Nodup)(U:3<=C.length)(N:∀ p q,Nx C p q->E W p q) :
  ∃ lab:Nat->Nat->Nat,Fit W lab/\(∀ x y,E W x y->¬ Nx C x y->¬ Nx C y x->lab x y=lab y x)/\∀ p q,Nx C p q->lab p q≠lab q p:=by
 refine fb λ no=>?_
 obtain⟨c0,o⟩ : ∃ c,c∈C:=by
  cases C with
  | nil=>simp at U
  | cons c C=>exact⟨c,eZ⟩
 obtain⟨c1,J⟩:=cH o;have M:=N _ _ J;have lc:=(S.e M).1;obtain⟨b,Z,T⟩:=kMY (C:=C) λ v hv=>⟨c0,o,(Reach.symm S.sym (g c0 lc)).trans (g v hv)⟩;obtain⟨R,lR,A,G,r⟩:=kNZ S
 have j:∀ t,∃ i,t∈kN W->∃(h:i<R.length),t∈rnd W R[i]:=λ t=>by
  by_cases c:t∈kN W
  ·obtain⟨i,h,m⟩:=G t c
   exact⟨i,λ _=>⟨h,m⟩⟩
  ·exact⟨0,λ z=>absurd z c⟩
 have d:=λ t=>ql (j t);generalize hF:(λ t=>wo (j t))=a at *
 have d:∀ t,t∈kN W->∃(h:a t<R.length),t∈rnd W R[a t]:=λ t f=>by
  subst hF;exact d t f
 have D:∀ t,t∈kN W->a (nxt W t)=a t:=λ t f=>by
  obtain⟨h1,m1⟩:=d t f;have Q:=tZ S (A _ (iY h1)) m1;have hs:=rnd_sub S (A _ (iY h1)) Q;obtain⟨L,O⟩:=d _ hs;exact r _ _ _ L h1 O Q
 have B:∀ i (h:i<R.length),a R[i]=i:=λ i h=>by
  have X:=A _ (iY h);obtain⟨L,O⟩:=d _ X;exact r _ _ _ L h O (rnd_self S X)
 have st:∀ x y,E W x y->(x,y)∈kN W:=λ x y e=>mem_steps.mpr e
 have ls:R.length<=(((tiesS W).filter λ t=>!decide (CtP C b t)).map λ t=>(a t,a (t.2,t.1))).length+1:=by
  refine kDG (λ l s=>?_) λ m lm s i u=>?_
  ·obtain⟨t,f,rfl⟩:=iP.mp s
   have f:=(ig.mp f).1;unfold tiesS at f;have e:=mem_stepsS.mp (ig.mp f).1;exact⟨(d t (st _ _ e)).1,(d (t.2,t.1) (st _ _ (S.sym _ _ e))).1⟩
  ·have H:Fit W (λ x y=>m.getD (a (x,y)) 0):=λ x y v e n=>by
    have:=D _ (st x y e);rw[n]at this;show m.getD (a (y,v)) 0=_;rw[this]
   have sy:=kOY (lab:=λ x y=>m.getD (a (x,y)) 0) S T H λ x y e Y=>by
    show m.getD (a (x,y)) 0=m.getD (a (y,x)) 0;have ne:=(S.e e).2.2;rcases iH x y with c | c
    ·exact s (a (x,y),a (y,x)) (iP.mpr ⟨(x,y),ig.mpr ⟨ig.mpr ⟨mem_stepsS.mpr e,decide_eq_true c⟩,by rw[decide_eq_false (show ¬ CtP C b (x,y) from Y)];rfl⟩,rfl⟩)
    ·have I:¬ CtP C b (y,x):=λ z=>Y (by
      rcases z with z | z | z | z
      ·exact .inr (.inl z)
      ·exact .inl z
      ·exact .inr (.inr (.inr z))
      ·exact .inr (.inr (.inl z)))
     exact(s (a (y,x),a (x,y)) (iP.mpr ⟨(y,x),ig.mpr ⟨ig.mpr ⟨mem_stepsS.mpr (S.sym _ _ e),decide_eq_true (by show y<x;omega)⟩,by rw[decide_eq_false I];rfl⟩,rfl⟩)).symm
   have ex:∃ p q,Nx C p q/\m.getD (a (p,q)) 0=m.getD (a (q,p)) 0:=fb λ z=>no ⟨_,H,sy,λ p q h e=>z ⟨p,q,h,e⟩⟩;obtain⟨p,q,h,e⟩:=ex;have all:=kOZ S T nd H N sy h e
   have key:∀ i,i<R.length->m.getD i 0=m.getD (a (p,q)) 0:=λ i u=>by
    have e:E W R[i].1 R[i].2:=mem_steps.mp (A _ (iY u));have:=all _ _ e;rw[show(R[i].1,R[i].2)=R[i] from rfl,B i u]at this;exact this
   rw[key i u,key 0 (by omega)]
 have tc:=kBL S T nd U N
 have sum:((tiesS W).filter λ t=>decide (CtP C b t)).length+((tiesS W).filter λ t=>!decide (CtP C b t)).length=(tiesS W).length:=by
  have:∀ l:List (Nat×Nat),(l.filter λ t=>decide (CtP C b t)).length+(l.filter λ t=>!decide (CtP C b t)).length=l.length:=λ l=>by
   induction l with
   | nil=>rfl
   | cons t l ih =>
    rw[vf,vf]
    cases decide (CtP C b t)<;>simp<;>omega
  exact this _
 rw[ai]at ls;omega
end
section
variable {W:Rows} {C:List Nat} {lab:Nat->Nat->Nat}
def nx_mid(A:List Nat)(x y:Nat)(B:List Nat):Nx (A++x::y::B) x y:=by
 show Adj ((A++x::y::B)++(A++x::y::B).head?.toList) x y;rw[cx];exact(jA A x _ x y).mpr (.inr (.inl ⟨rfl,rfl⟩))
theorem kGL:∀{l:List Nat}{p q:Nat},Adj l.reverse p q->Adj l q p
 | [],_,_,h=>h.elim
 | [x],_,_,h=>h.elim
 | x::y::r,p,q,h=>by
  rw[Bt,Bt,cx]at h;rcases(jA _ y [x] p q).mp h with h | h
  ·refine .inr (kGL (l:=y::r) ?_)
   rw[Bt];exact h
  ·rcases h with⟨rfl,rfl⟩ | h
   ·exact .inl ⟨rfl,rfl⟩
   ·exact h.elim
def kRY(S:Nb W)(j:Fit W lab){k t:Nat}{row A B:List Nat}(h:W[k]?=some row):∀(seg:List Nat),Ro row (A++seg++t::B)->(∀ z∈seg.tail,lab k z=lab z k)->∀ z∈seg,lab k z=lab t k:=by
 have one:∀(u v:Nat)(A B:List Nat),Ro row (A++u::v::B)->lab k u=lab v k:=λ u v A B c=>by
  have r:R W k u v:=⟨row,h,(c.nx u v).mpr (nx_mid A u v B)⟩;exact j v k u (S.sym _ _ (zQ r).2) (hZ S.nd r)
 suffices H:∀(n:Nat)(seg A B:List Nat)(t:Nat),seg.length=n->Ro row (A++seg++t::B)->(∀ z∈seg.tail,lab k z=lab z k)->∀ z∈seg,lab k z=lab t k from λ seg=>H _ seg A B t rfl
 intro n
 induction n with
 | zero =>
  intro seg A B t b _ _ z a;rw[ox.mp b]at a;cases a
 | succ n ih =>
  intro seg A B t b c f z a;have d:seg≠[]:=λ e=>by rw[e]at b;cases b
  obtain⟨I,u,rfl⟩ : ∃ I u,seg=I++[u]:=⟨seg.dropLast,seg.getLast d,(eO d).symm⟩;have g:lab k u=lab t k:=one u t (A++I) B (by simpa using c);rcases cf.mp a with m | m
  ·have l:I.length=n:=by simpa using b
   have q:=ih I A (t::B) u l (by simpa using c) (λ z a=>by
    cases I with
    | nil=>cases a
    | cons i I=>exact f z (by simp at a ⊢;exact .inl a)) z m
   rw[q,<-g]
   cases I with
   | nil=>cases m
   | cons i I=>exact(f u (by simp)).symm
  ·rw[bu.mp m]
   exact g
theorem kLV(S:Nb W)(d:Fit W lab){k:Nat}{row:List Nat}(c:W[k]?=some row):∀(seg A B:List Nat)(t:Nat),Ro row (A++t::(seg++B))->(∀ z∈seg,lab k z=lab z k)->∀ z∈seg,lab k z=lab k t
 | [],_,_,_,_,_,z,b=>by cases b
 | u::seg,A,B,t,ro,sy,z,b=>by
  have r:R W k t u:=⟨row,c,(ro.nx t u).mpr (nx_mid A t u _)⟩;have f:lab k t=lab u k:=d u k t (S.sym _ _ (zQ r).2) (hZ S.nd r);have a:lab k u=lab k t:=by rw[sy u (by simp),f]
  rcases dr.mp b with rfl | m
  ·exact a
  ·rw[<-a]
   exact kLV S d c seg (A++[t]) B u (by simpa using ro) (λ z b=>sy z (eC _ b)) z m
theorem cL(S:Nb W)(n:Fit W lab)(g:∀ x y,E W x y->¬ Nx C x y->¬ Nx C y x->lab x y=lab y x){β:Nat}:∀(D:List Nat)(c:Nat),(∀ p q,Adj (c::D) p q->E W p q)->(∀ d∈D,d∉C)->(∀ d1,D.head?=some d1->lab c d1=β)->∀ d∈D,∀ w,E W d w->lab d w=β
 | [],_,_,_,_,d,f,_,_=>by cases f
 | d1::D,c,ad,nc,h1,d,f,w,e=>by
  have o:=ad c d1 (.inl ⟨rfl,rfl⟩);have i:=nc d1 (by simp);have a:=h1 d1 rfl;have b:lab d1 c=β:=by rw[<-g c d1 o (λ h=>i (kU h).2) (λ h=>i (kU h).1)];exact a
  have all:∀ w,E W d1 w->lab d1 w=β:=λ w e=>by rw[rO S n g i e (S.sym _ _ o)];exact b
  rcases dr.mp f with rfl | m
  ·exact all w e
  ·exact cL S n g D d1 (λ p q h=>ad p q (.inr h)) (λ d f=>nc d (eC _ f)) (λ l j=>by
    cases D with
    | nil=>cases j
    | cons d3 D =>
     cases j
     exact all l (ad d1 l (.inr (.inl ⟨rfl,rfl⟩)))) d m w e
def kPD(S:Nb W)(nd:C.Nodup)(o:Fit W lab)(j:∀ p q,Nx C p q->E W p q)(l:∀ x y,E W x y->¬ Nx C x y->¬ Nx C y x->lab x y=lab y x){p q f d:Nat}(h:Nx C p q)(h':Nx C f d):lab p q=lab f d:=by
 have:=rot_to nd (P:=λ c=>∀ n,Nx C c n->lab c n=lab f d) (kU h).1 (kU h').1 (λ n b=>by rw[jT nd b h']) (λ c v i _ a z n b=>by
  have a:=yZ nd i a;have:=jT nd b a;subst this;obtain⟨m,g⟩:=cH i;rw[<-fL S nd o j l a g];exact z m g)
 exact this q h
end
section
variable {W:Rows} {T off:List Nat} {a b:Nat}
def kIK{W:Rows}(G:Good W):W.length+(facesS W).length=(tiesS W).length+2:=((three_cornered (Wb.of G).toNb).mpr (jS G)).1
def last_split{l:List Nat}{x:Nat}(h:l.getLast?=some x):∃ I,l=I++[x]:=by
 have a:l≠[]:=λ z=>by rw[z]at h;cases h
 rw[eW a]at h;exact⟨l.dropLast,by rw[<-bh h];exact(eO a).symm⟩
def head_split{l:List Nat}{x:Nat}(h:l.head?=some x):∃ I,l=x::I:=by
 cases l with
 | nil=>cases h
 | cons y l=>cases h;exact⟨l,rfl⟩
end
end Fc
namespace Tri
open Cyc Rnd
section
variable {W M:Rows}
end
section
variable {W V:Rows} {ns:List Nat}
end
section
variable {W W':Rows}
def vR{a b:Nat}(S:Nb W)(e:E W a b):Top W [a,b] [a,b]:=by
 refine⟨?_,λ x c=>c,λ x y ad=>?_⟩
 ·have:=(S.e e).2.2
  simp[this.symm]
 ·rcases ad with⟨rfl,rfl⟩ | z
  ·exact e
  ·exact absurd z id
end
end Tri
namespace Fc
open Tri Cyc Rnd
section
variable {W:Rows}
def mem_row{x y:Nat}(h:E W x y):y∈W.getD x []:=by
 obtain⟨row,e,m⟩:=h;rw[ak,e];exact m
end
end Fc
namespace Tri
open Cyc Rnd
def mvS(S:List (Nat×Int×Int))(G:List Nat)(a:Int):List (Nat×Int×Int):=S.map λ s=>if s.1∈G then(s.1,s.2.1+a,s.2.2) else s
def ovr(l r:Int×Int):Int×Int:=(l.1+(r.1-l.1+r.2-l.2) / 2,l.2+(r.1-l.1+r.2-l.2) / 2)
def atS(S:List (Nat×Int×Int))(p:Nat):Int×Int:=((S.find? λ s=>s.1 == p).map (·.2)).getD (0,0)
def gst(S:List (Nat×Int×Int))(U:Nat->List Nat)(v:Nat)(F T:List Nat):List (Nat×Int×Int)×(Nat->List Nat) :=
 let S2:=mvS (mvS S (F.tail.dropLast.flatMap U) 1) ((T.drop (T.idxOf (F.getLastD 0))).flatMap U) 2
 let q:=ovr (atS S2 (F.headD 0)) (atS S2 (F.getLastD 0))
 (S2++[(v,q.1,q.2)],λ p=>if p=v then v::F.tail.dropLast.flatMap U else U p)
def gF(ms:List Nat)(Fs Ts:List (List Nat)):Nat->List (Nat×Int×Int)×(Nat->List Nat)
 | 0=>((ms.take 2).map λ p=>(p,0,0),λ p=>[p])
 | i+1=>gst (gF ms Fs Ts i).1 (gF ms Fs Ts i).2 (ms.getD (i+2) 0) (Fs.getD i []) (Ts.getD i [])
def qZ(S:List (Nat×Int×Int))(G:List Nat)(b:Int):(mvS S G b).map (·.1)=S.map (·.1):=by
 unfold mvS;rw[AW];refine we λ s _=>?_;show(if s.1∈G then _ else _:Nat×Int×Int).1=s.1
 split<;>rfl
def kFK(S:List (Nat×Int×Int))(G:List Nat)(b:Int):(mvS S G b).length=S.length:=by unfold mvS;rw[ai]
section
variable {W:Rows}
def bN(sym:∀ a b,E W a b->E W b a){ms:List Nat}(p:ms.Nodup)(h0:Top W (ms.take 2) (ms.take 2)) :
  ∀{i:Nat}{fs ts:List (List Nat)},i+2<=ms.length->goF W ms i=some (fs,ts)->∀(k:Nat)(F T n:List Nat),fs[k]?=some F->ts[k]?=some T->ts[k+1]?=some n->Top W (ms.take (k+2)) T/\∃ B f M l C,F=f::M++[l]/\T=B++(f::M++[l])++C/\n=B++[f,ms.getD (k+2) 0,l]++C:=by
 intro i
 induction i with
 | zero =>
  intro fs ts _ h k F T n e;unfold goF at h;have h:=bh h;injection h with h1 h2
  rw[<-h1]at e;simp at e
 | succ i ih =>
  intro fs ts A h k F T n d g m;obtain⟨v,o,e⟩:=vF (i:=i) (j:=1) h;obtain⟨st,z,y,s⟩:=zO e h;have TT:=uS p sym h0 (by omega) e;obtain⟨D,lt⟩:=xH e;obtain⟨B,f,M,l,C,q,r,mem,G⟩:=uP TT.nd z;rw[y]at d;rw[s]at g m;rcases iH k i with c | c
  ·rw[az (by omega)]at d g m
   exact ih (by omega) e k F T n d g m
  ·have u:k=i:=by
    have:=(aj.mp d).1;rw[bq,fk]at this;omega
   subst u
   have x:o[k]?=some (o.getLastD []):=by
    rw[ji,ml,show o.length-1=k by omega,aa (by omega)]
    rfl
   rw[bf (by omega),show k-v.length=0 by omega]at d;rw[az (by omega),x]at g;rw[bf (by omega),show k+1-o.length=0 by omega]at m;have d:=bh d;have g:=bh g;have m:=bh m;refine⟨by rw[<-g];exact TT,B,f,M,l,C,by rw[<-d,q],by rw[<-g,r],?_⟩;rw[<-m,q];exact fI r TT.nd
structure GI(ms:List Nat)(Ts:List (List Nat))(i:Nat)(S:List (Nat×Int×Int))(U:Nat->List Nat):Prop where
 fst:S.map (·.1)=ms.take (i+2)
 nd:((Ts.getD i []).flatMap U).Nodup
 sub:∀ x∈(Ts.getD i []).flatMap U,x∈ms.take (i+2)
 few:∀ p∈ms.take (i+2),(U p).length<=i+2
def kDJ(S:Nb W)(A:∀ t∈kN W,(nxt W (nxt W t)).2=t.1){ms:List Nat}{a b n:Nat}{Fs Ts:List (List Nat)}(r:ms.Nodup)(G:ms.take 2=[a,b])(s:E W a b)(hn:n+2<=ms.length)(H:goF W ms n=some (Fs,Ts)):∀ i,i<=n->GI ms Ts i (gF ms Fs Ts i).1 (gF ms Fs Ts i).2:=by
 have h0:Top W (ms.take 2) (ms.take 2):=by rw[G];exact vR S s
 obtain⟨lf,lt⟩:=xH H
 have Y:Ts[0]?=some [a,b]:=by
  have:∀{i:Nat}{fs y:List (List Nat)},goF W ms i=some (fs,y)->y[0]?=some (ms.take 2):=by
   intro i
   induction i with
   | zero =>
    intro fs y q;unfold goF at q;have q:=bh q;injection q with q1 u
    rw[<-u]
    rfl
   | succ i ih =>
    intro fs y q;obtain⟨f2,t2,u⟩:=vF (i:=i) (j:=1) q;obtain⟨a0,z2,q3,q4⟩:=zO u q;have:=(xH u).2;rw[q4,az (by omega)];exact ih u
  rw[this H,G]
 have ab:a≠b:=λ q=>(S.e s).2.2 q.symm;intro i
 induction i with
 | zero =>
  intro _;have T:Ts.getD 0 []=[a,b]:=by rw[ak,Y];rfl
  refine⟨?_,?_,?_,λ p _=>?_⟩
  ·show((ms.take 2).map λ p=>(p,(0:Int),(0:Int))).map (·.1)=ms.take 2
   rw[AW];exact List.map_id _
  ·rw[T]
   show([a,b].flatMap λ p=>[p]).Nodup;simp[ab]
  ·rw[T,G]
   show ∀ x∈[a,b].flatMap λ p=>[p],_;simp
  ·show[p].length<=2
   simp
 | succ i ih =>
  intro hi;have I:=ih (by omega);have get:∀(L:List (List Nat))(j:Nat),j<L.length->L[j]?=some (L.getD j []):=λ L j h=>by rw[ak,aa h];rfl
  obtain⟨D,B,f,M,l,C,eF,O,N⟩:=bN S.sym r h0 hn H i _ _ _ (get Fs i (by omega)) (get Ts i (by omega)) (get Ts (i+1) (by omega));have ga:ms[i+2]?=some (ms.getD (i+2) 0):=by rw[ak,aa (by omega)];rfl
  have J:ms.take (i+1+2)=ms.take (i+2)++[ms.getD (i+2) 0]:=by rw[iw,ga];rfl
  have Q:ms.getD (i+2) 0∉ms.take (i+2):=zG r (by omega) (by omega);have g:∀ x∈Ts.getD i [],x≠ms.getD (i+2) 0:=λ x d q=>Q (q ▸ D.sub x d);have Z:(ms.take (i+2)).length=i+2:=by rw[dc];omega
  generalize X:ms.getD (i+2) 0=v at *;generalize hU:(gF ms Fs Ts i).2=U at *;have fM:(Fs.getD i []).tail.dropLast=M:=by rw[eF];simp
  have gU:(gF ms Fs Ts (i+1)).2=λ p=>if p=v then v::M.flatMap U else U p:=by
   show(gst _ _ _ _ _).2=_;unfold gst;rw[hU,X,fM]
  have same:∀ L:List Nat,(∀ x∈L,x≠v)->(L.flatMap λ p=>if p=v then v::M.flatMap U else U p)=L.flatMap U:=λ L h=>by
   show(L.map _).flatten=(L.map _).flatten
   congr 1
   refine we λ x d=>?_;rw[if_neg (h x d)]
  have inT:∀ x,(x∈B\/x=f\/x∈M\/x=l\/x∈C)->x∈Ts.getD i []:=λ x d=>by
   rw[O];simp only[cf,dr,og,or_false];rcases d with h | h | h | h | h
   ·exact .inl (.inl h)
   ·exact .inl (.inr (.inl (.inl h)))
   ·exact .inl (.inr (.inl (.inr h)))
   ·exact .inl (.inr (.inr h))
   ·exact .inr h
  have o:(Ts.getD i []).flatMap U=B.flatMap U++(U f++(M.flatMap U++(U l++C.flatMap U))):=by
   rw[O];simp[ue,AZ,cx]
  have m:((Ts.getD (i+1) []).flatMap λ p=>if p=v then v::M.flatMap U else U p)=B.flatMap U++(U f++(v::(M.flatMap U++(U l++C.flatMap U)))):=by
   rw[N,ue,ue,same B λ x d=>g x (inT x (.inl d)),same C λ x d=>g x (inT x (.inr (.inr (.inr (.inr d)))))];rw[AZ,AZ,AZ,List.flatMap_nil,if_neg (g f (inT f (.inr (.inl rfl)))),if_pos rfl,if_neg (g l (inT l (.inr (.inr (.inr (.inl rfl))))))];simp[cx]
  have perm:(B.flatMap U++(U f++(v::(M.flatMap U++(U l++C.flatMap U))))).Perm (v::(Ts.getD i []).flatMap U):=by
   rw[o,<-cx,<-cx (B.flatMap U)];exact CI
  have vn:v∉(Ts.getD i []).flatMap U:=λ h=>Q (I.sub v h);rw[gU];refine⟨?_,?_,λ x d=>?_,λ p hp=>?_⟩
  ·show((gst _ _ _ _ _).1).map (·.1)=_
   unfold gst;rw[eE,qZ,qZ,I.fst,J,X]
   rfl
  ·rw[m]
   exact perm.nodup_iff.mpr (gk.mpr ⟨vn,I.nd⟩)
  ·rw[m]at d
   rw[J];rcases dr.mp (perm.mem_iff.mp d) with rfl | h
   ·exact ck _ (bu.mpr rfl)
   ·exact cq _ (I.sub x h)
  ·show(if p=v then v::M.flatMap U else U p).length<=_
   split
   ·have h1:=fc I.nd λ x d=>I.sub x d
    rw[Z,o]at h1;simp only[bq]at h1;rw[gn];omega
   ·rename_i c
    rw[J]at hp;rcases cf.mp hp with h | h
    ·have:=I.few p h
     omega
    ·exact absurd (bu.mp h) c
end
theorem bY:∀{l:List Nat}{x:Nat},x∈l.tail->∃ y,Adj l y x
 | [],_,h=>by cases h
 | [_],_,h=>by cases h
 | a::b::r,x,h=>by
  rcases dr.mp h with rfl | h
  ·exact⟨a,.inl ⟨rfl,rfl⟩⟩
  ·obtain⟨y,c⟩:=bY (l:=b::r) (x:=x) h
   exact⟨y,.inr c⟩
section
variable {W:Rows}
def qQ(S:Nb W)(a:∀ t∈kN W,(nxt W (nxt W t)).2=t.1){x y:Nat}(h:E W x y):∃ z,nxt W (x,y)=(y,z)/\nxt W (y,z)=(z,x)/\nxt W (z,x)=(x,y)/\E W y z/\E W z x:=by
 obtain⟨z,l,g,c⟩:=vT S h;have f:=a _ (mem_steps.mpr h);have d:=a (y,z) (mem_steps.mpr c);rw[g]at f;have b:nxt W (y,z)=(z,x):=wj rfl f;rw[b]at d;obtain⟨q,_,i,j⟩:=vT S c;rw[b]at i;have:x=q:=congrArg Av i;subst this;exact⟨z,g,b,wj rfl d,c,j⟩
structure Bd(W:Rows)(A T:List Nat)(a b:Nat):Prop where
 up:∀ x y,Adj T x y->(nxt W (x,y)).2∉A
 all:∀ x y,x∈A->y∈A->E W x y->(nxt W (x,y)).2∉A->Adj T x y\/(x=b/\y=a)
def Bd.start(S:Nb W)(c:∀ t∈kN W,(nxt W (nxt W t)).2=t.1){a b:Nat}(e:E W a b):Bd W [a,b] [a,b] a b:=by
 refine⟨λ x y ad=>?_,λ x y g f h _=>?_⟩
 ·rcases ad with⟨rfl,rfl⟩ | z
  ·obtain⟨z,m,p,o,n,l⟩:=qQ S c e
   rw[m];have i:=(S.e n).2.2;have j:=(S.e l).2.2;simp only[dr,og,or_false];rintro(q | q)
   ·exact j q.symm
   ·exact i q
  ·exact z.elim
 ·have d:=(S.e h).2.2
  simp only[dr,og,or_false]at g f;rcases g with rfl | rfl<;>rcases f with rfl | rfl
  ·exact absurd rfl d
  ·exact .inl (.inl ⟨rfl,rfl⟩)
  ·exact .inr ⟨rfl,rfl⟩
  ·exact absurd rfl d
def Bd.step(S:Nb W)(d:∀ t∈kN W,(nxt W (nxt W t)).2=t.1){A T B M C:List Nat}{a b c f l v:Nat}(h:Bd W A T a b)(a3:T.Nodup)(sub:∀ x∈T,x∈A)(g:∀ x y,Adj T x y->E W x y)(bc:(nxt W (b,a)).2=c)(vc:v≠c)(vA:v∉A)
  (eT:T=B++(f::M++[l])++C) (mem:∀ q,q∈f::M++[l]↔q∈A/\E W v q) (nz:∀ x y,Adj (f::M++[l]) x y->(nxt W (x,y)).2=v):Bd W (A++[v]) (B++[f,v,l]++C) a b:=by
 have L:∀ x y,Adj T x y↔Adj (B++[f]) x y\/Adj (f::M++[l]) x y\/Adj (l::C) x y:=λ x y=>by
  have i:T=B++f::(M++l::C):=by rw[eT];simp
  rw[i,jA B f (M++l::C) x y,show f::(M++l::C)=(f::M)++l::C from rfl,jA (f::M) l C x y]
 have o:∀ x y,Adj (B++[f,v,l]++C) x y↔Adj (B++[f]) x y\/(x=f/\y=v)\/(x=v/\y=l)\/Adj (l::C) x y:=λ x y=>by
  have i:B++[f,v,l]++C=B++f::(v::l::C):=by simp
  rw[i,jA B f (v::l::C) x y];exact Bq
 have d0:=a3;rw[eT]at d0;have d1:=de.mp d0;have d2:=de.mp d1.1
 have hB:∀ x,x∈B++[f]->x∈f::M++[l]->x=f:=λ x h1 h2=>by
  rcases cf.mp h1 with h1 | h1
  ·exact absurd rfl (d2.2.2 x h1 x h2)
  ·exact bu.mp h1
 have hC:∀ x,x∈l::C->x∈f::M++[l]->x=l:=λ x h1 h2=>by
  rcases dr.mp h1 with h1 | h1
  ·exact h1
  ·exact absurd rfl (d1.2.2 x (ck _ h2) x h1)
 have fF:f∈f::M++[l]:=by simp
 have lF:l∈f::M++[l]:=by simp
 have new:∀ x y,Adj T x y->x∉(f::M++[l])\/y∉(f::M++[l])->(nxt W (x,y)).2≠v:=λ x y ad H q=>by
  have Q:=g x y ad;obtain⟨z,G,N,U,i,m⟩:=qQ S d Q;rw[G]at q;have q:z=v:=q;subst q;have Y:=sub x (qH ad).1;have O:=sub y (qi (qH ad).2);rcases H with H | H
  ·exact H ((mem x).mpr ⟨Y,m⟩)
  ·exact H ((mem y).mpr ⟨O,S.sym _ _ i⟩)
 have sv:∀{x y},x∈A->y∈A->x≠v/\y≠v:=λ Y O=>⟨λ q=>vA (q ▸ Y),λ q=>vA (q ▸ O)⟩;refine⟨λ x y ad=>?_,λ x y Y O Q ht=>?_⟩
 ·have Z:Adj T x y->(x∉(f::M++[l])\/y∉(f::M++[l]))->(nxt W (x,y)).2∉A++[v]:=λ ad H z=>by
   rcases cf.mp z with z | z
   ·exact h.up x y ad z
   ·exact new x y ad H (bu.mp z)
  rcases(o x y).mp ad with q | ⟨rfl,rfl⟩ | ⟨rfl,rfl⟩ | q
  ·have n:=(L x y).mpr (.inl q)
   refine Z n ?_;by_cases X:x∈f::M++[l]
   ·right
    intro c2;have i:=hB x (qH q).1 X;have m:=hB y (qi (qH q).2) c2;exact(S.e (g x y n)).2.2 (m.trans i.symm)
   ·exact .inl X
  ·obtain⟨a1,a2⟩:=(mem x).mp fF
   obtain⟨u,G,N,U,i,m⟩:=qQ S d (S.sym _ _ a2);rw[G];intro z;rcases cf.mp z with z | z
   ·have uF:=(mem u).mpr ⟨z,i⟩
    have I:(nxt W (u,x)).2=y:=by rw[U]
    rcases h.all u x z a1 m (by rw[I];exact vA) with q | ⟨rfl,rfl⟩
    ·have D:=(S.e m).2.2
     rcases(L u x).mp q with q | q | q
     ·exact D (hB u (qH q).1 uF).symm
     ·exact(gk.mp d2.2.1).1 (qH q).2
     ·have:x∈C:=(qH q).2
      exact d1.2.2 x (ck _ fF) x this rfl
    ·rw[bc]at I
     exact vc I.symm
   ·have:=bu.mp z
    exact(S.e i).2.2 this
  ·obtain⟨a4,a5⟩:=(mem y).mp lF
   obtain⟨u,G,N,U,i,m⟩:=qQ S d a5;rw[G];intro z;rcases cf.mp z with z | z
   ·have uF:=(mem u).mpr ⟨z,S.sym _ _ m⟩
    have I:(nxt W (y,u)).2=x:=by rw[N]
    rcases h.all y u a4 z i (by rw[I];exact vA) with q | ⟨rfl,rfl⟩
    ·have D:=(S.e i).2.2
     rcases(L y u).mp q with q | q | q
     ·have:=hB y (qH q).1 lF
      have hu:=hB u (qi (qH q).2) uF;exact D (hu.trans this.symm)
     ·have:∀{p q:Nat},Adj (f::M++[y]) p q->p≠y:=λ H=>yA (R:=f::M) (λ w=>by
       have:=de.mp d2.2.1;exact this.2.2 y w y (bu.mpr rfl) rfl) H
      exact this q rfl
     ·have:=hC u (eC _ (qH q).2) uF
      exact D this
    ·rw[bc]at I
     exact vc I.symm
   ·have:=bu.mp z
    exact(S.e m).2.2 this.symm
  ·have n:=(L x y).mpr (.inr (.inr q))
   refine Z n ?_;by_cases X:x∈f::M++[l]
   ·right
    intro c2;have i:=hC x (qH q).1 X;have m:=hC y (eC _ (qH q).2) c2;exact(S.e (g x y n)).2.2 (m.trans i.symm)
   ·exact .inl X
 ·have r:(nxt W (x,y)).2∉A:=λ z=>ht (cq _ z)
  have a0:(nxt W (x,y)).2≠v:=λ z=>ht (ck _ (bu.mpr z));have xy:=(S.e Q).2.2;rcases cf.mp Y with s | s
  ·rcases cf.mp O with j | j
   ·rcases h.all x y s j Q r with q | q
    ·rcases(L x y).mp q with q | q | q
     ·exact .inl ((o x y).mpr (.inl q))
     ·exact absurd (nz x y q) a0
     ·exact .inl ((o x y).mpr (.inr (.inr (.inr q))))
    ·exact .inr q
   ·have yv:=bu.mp j
    subst yv;have xF:=(mem x).mpr ⟨s,S.sym _ _ Q⟩;by_cases xf:x=f
    ·exact .inl ((o x y).mpr (.inr (.inl ⟨xf,rfl⟩)))
    ·have:x∈(f::M++[l]).tail:=by
      rcases dr.mp xF with q | q
      ·exact absurd q xf
      ·exact q
     obtain⟨p,J⟩:=bY this;obtain⟨z,G,N,U,i,m⟩:=qQ S d (g p x ((L p x).mpr (.inr (.inl J))))
     have zv:z=y:=by
      have:=nz p x J;rw[G]at this;exact this
     subst zv;rw[N]at r;exact absurd ((mem p).mp (qH J).1).1 r
  ·have xv:=bu.mp s
   subst xv;rcases cf.mp O with j | j
   ·have yF:=(mem y).mpr ⟨j,Q⟩
    by_cases yl:y=l
    ·exact .inl ((o x y).mpr (.inr (.inr (.inl ⟨rfl,yl⟩))))
    ·have yP:y∈f::M:=by
      rcases cf.mp yF with q | q
      ·exact q
      ·exact absurd (bu.mp q) yl
     obtain⟨p,J⟩:=kBR (l:=l) yP;obtain⟨z,G,N,U,i,m⟩:=qQ S d (g y p ((L y p).mpr (.inr (.inl J))))
     have zv:z=x:=by
      have:=nz y p J;rw[G]at this;exact this
     subst zv;rw[U]at r;exact absurd ((mem p).mp (qi (qH J).2)).1 r
   ·exact absurd (bu.mp j) xy
end
end Tri
namespace Fc
open Cyc Rnd Tri
theorem mN:∀{l:List Nat}{p q:Nat}(s:List Nat),Adj l p q->Adj (l++s) p q
 | [],_,_,_,h=>h.elim
 | [_],_,_,_,h=>h.elim
 | i::j::l,p,q,s,h=>by
  rcases h with h | h
  ·exact .inl h
  ·exact .inr (mN (l:=j::l) s h)
def adj_nx{l:List Nat}{p q:Nat}(r:List Nat)(h:Adj l p q):Nx (l++r) p q:=by
 show Adj (l++r++_) p q;rw[cx];exact mN _ h
section
variable {W:Rows} {T off:List Nat} {a b:Nat}
end
end Fc
namespace Tri
open Cyc Rnd
section
variable {W:Rows}
def kSJ(S:Nb W)(d:∀ t∈kN W,(nxt W (nxt W t)).2=t.1){ms:List Nat}{a b c:Nat}(n:ms.Nodup)(v:ms.take 2=[a,b])(o:E W a b)(H:(nxt W (b,a)).2=c)(L:c∉ms) :
  ∀{i:Nat}{fs ts:List (List Nat)},i+2<=ms.length->goF W ms i=some (fs,ts)->Bd W (ms.take (i+2)) (ts.getLastD []) a b:=by
 have h0:Top W (ms.take 2) (ms.take 2):=by rw[v];exact vR S o
 intro i
 induction i with
 | zero =>
  intro fs ts _ h;unfold goF at h;have h:=bh h;injection h with h1 h2
  rw[<-h2];show Bd W (ms.take 2) (ms.take 2) a b;rw[v];exact Bd.start S d o
 | succ i ih =>
  intro fs ts O h;obtain⟨N,Q,e⟩:=vF (i:=i) (j:=1) h;obtain⟨st,z,T,G⟩:=zO e h;have TT:=uS n S.sym h0 (by omega) e;have D:ms.getD (i+2) 0∉ms.take (i+2):=zG n (by omega) (by omega);have s:ms[i+2]?=some (ms.getD (i+2) 0):=by rw[ak,aa (by omega)];rfl
  have J:ms.take (i+1+2)=ms.take (i+2)++[ms.getD (i+2) 0]:=by rw[iw,s];rfl
  have A:ms.getD (i+2) 0≠c:=λ q=>L (q ▸ cv s);obtain⟨B,f,M,l,C,p,u,mem,I⟩:=uP TT.nd z
  have g:ts.getLastD []=B++[f,ms.getD (i+2) 0,l]++C:=by
   rw[G,bH,p];exact fI u TT.nd
  rw[g,J];refine Bd.step (c:=c) S d (ih (by omega) e) TT.nd TT.sub TT.path H A D u (λ q=>?_) (λ x y ad=>?_)
  ·rw[<-p,mem q]
   constructor
   ·rintro⟨r,m⟩
    refine⟨r,?_⟩;rw[ak]at m
    cases w:W[ms.getD (i+2) 0]? with
    | none=>rw[w]at m;cases m
    | some row=>rw[w]at m;exact⟨row,w,m⟩
   ·rintro⟨r,m⟩
    exact⟨r,Fc.mem_row m⟩
  ·exact I (x,y) (by rw[p];exact kGK ad)
theorem cS:∀{T:List Nat}{x y:Nat},Adj T x y->∃ B C,T=B++x::y::C
 | [],_,_,h=>h.elim
 | [_],_,_,h=>h.elim
 | p::q::r,x,y,h=>by
  rcases h with⟨rfl,rfl⟩ | h
  ·exact⟨[],r,rfl⟩
  ·obtain⟨B,C,e⟩:=cS (T:=q::r) h
   exact⟨p::B,C,by rw[e];rfl⟩
theorem seg{T:List Nat}(nd:T.Nodup):∀{R:List Nat}{x y:Nat},(∀ p q,Adj (x::y::R) p q->Adj T p q)->∃ B C,T=B++(x::y::R)++C
 | [],x,y,h=>by
  obtain⟨B,C,e⟩:=cS (h x y (.inl ⟨rfl,rfl⟩));exact⟨B,C,by rw[e];simp⟩
 | z::R,x,y,h=>by
  obtain⟨B,C,e⟩:=seg nd (R:=R) (x:=y) (y:=z) λ p q a=>h p q (.inr a);obtain⟨b,n,j⟩:=cS (h x y (.inl ⟨rfl,rfl⟩));have d:T=B++y::(z::R++C):=by rw[e];simp
  have c:T=(b++[x])++y::n:=by rw[j];simp
  have:B=b++[x]:=by
   have m:y∉B:=λ q=>by
    rw[d]at nd;exact(de.mp nd).2.2 y q y (eZ ..) rfl
   have f:y∉b++[x]:=λ q=>by
    rw[c]at nd;exact(de.mp nd).2.2 y q y (eZ ..) rfl
   have g:T.idxOf y=B.length:=by rw[d,yu,if_neg m];simp
   have i:T.idxOf y=(b++[x]).length:=by rw[c,yu,if_neg f];simp
   have l:B.length=(b++[x]).length:=g.symm.trans i;have:=congrArg (Fy B.length) (d.symm.trans c);rw[xi rfl,xi l.symm]at this;exact this
  exact⟨b,C,by rw[e,this];simp⟩
def kQY(S:Nb W)(d:∀ t∈kN W,(nxt W (nxt W t)).2=t.1){A T R Q row:List Nat}{a b c v:Nat}(h:Bd W A T a b)(TT:Top W A T)(p:A.Nodup)(J:(nxt W (b,a)).2=c)(H:v≠c)(I:v∉A)
  (j:W[v]?=some row) (g:Ro row (R++Q)) (i:∀ x∈R,x∈A) (X:∀ x∈Q,x∉A) (two:2<=R.length):stF W T A v=some R:=by
 have step:∀ x y,Adj R x y->(nxt W (x,y)).2=v/\E W x y:=λ x y ad=>by
  have nx:Nx row x y:=(g.nx x y).mpr (Fc.adj_nx Q ad);have N:=hZ S.nd ⟨row,j,nx⟩;have Z:E W y v:=S.sym _ _ ⟨row,j,g.perm.mem_iff.mpr (cq _ (qi (qH ad).2))⟩;obtain⟨z,r,m2,G,e1,U⟩:=qQ S d Z;rw[N]at r;have:x=z:=congrArg Av r;subst this;exact⟨by rw[G],U⟩
 have f:∀ x y,Adj R x y->Adj T x y:=λ x y ad=>by
  obtain⟨o,Y⟩:=step x y ad;rcases h.all x y (i x (qH ad).1) (i y (qi (qH ad).2)) Y (by rw[o];exact I) with q | ⟨rfl,rfl⟩
  ·exact q
  ·rw[J]at o
   exact absurd o.symm H
 match R,two,g,i,step,f with
 | x::y::m,_,g,i,step,f =>
  obtain⟨B,C,s⟩:=seg TT.nd f
  obtain⟨M,l,O⟩ : ∃ M l,x::y::m=x::M++[l]:=by
   have L:y::m≠[]:=λ z=>by cases z
   exact⟨(y::m).dropLast,(y::m).getLast L,by rw[iq,eO]⟩
  rw[O]at s g i step ⊢;refine tH TT.nd p s TT.sub (λ q=>?_) (λ t ht=>?_)
  ·constructor
   ·intro D
    refine⟨i q D,?_⟩;rw[ak,j];exact g.perm.mem_iff.mpr (cq _ D)
   ·rintro⟨h1,u⟩
    rw[ak,j]at u;rcases cf.mp (g.perm.mem_iff.mp u) with n | n
    ·exact n
    ·exact absurd h1 (X q n)
  ·exact(step t.1 t.2 (aN (a:=t.1) (b:=t.2) ht)).1
end
end Tri
namespace L2
open PySem PySem.Spec PyProof.Rows
def mO(a b c:ar):checkTypeCall "zip" ⟨[a,b,c],[]⟩=pure ():=by kernel_rfl
def rN(a b c:ar):checkBuiltinCall "zip.__new__" ⟨[.type "zip",a,b,c],[]⟩=pure ():=by kernel_rfl
def kDT(o a b c:ar):argsOk "object.__init__" ⟨[o,a,b,c],[]⟩:=by first | kernel_rfl | decide +kernel | rfl
abbrev jP(h:iS)(T:au)(a b c:ar):Prop:=h.get? T=some {cls:=.type "tuple",data:=.seq #[a,b,c]}
section
variable {prog:eo} {w:iJ} {A:gj} {E:ar->av->Prop} {s:av}
def zI{T:au}{a b c x:ar}{k:Nat}{Q:Unit->av->Prop}(d:jP s.heap T a b c)
  (h:∀ h',h'.get? T=some {cls:=.type "tuple",data:=.seq ((#[a,b,c]:Array ar).setIfInBounds k x)}->jb T s.heap h'->Q () {s with heap:=h'}) :
  dw (model prog w) A (updateSeq T (·.setIfInBounds k x)) Q E s:=by
 refine wpAny_updateSeq d rfl (h _ ?_ (ju ..));rw[qk _ d rfl];simp[ua]
end
structure ZAp3(z TI TO i1 i2 i3:au)(fp1 fp2 fp3:List au):Prop where
 zTI:z≠TI
 zTO:z≠TO
 zi1:z≠i1
 zi2:z≠i2
 zi3:z≠i3
 TOi1:TO≠i1
 TOi2:TO≠i2
 TOi3:TO≠i3
 TITO:TI≠TO
 TIi1:TI≠i1
 TIi2:TI≠i2
 TIi3:TI≠i3
 z1:z∉fp1
 z2:z∉fp2
 z3:z∉fp3
 t1:TO∉fp1
 t2:TO∉fp2
 t3:TO∉fp3
 i2f1:i2∉fp1
 i3f1:i3∉fp1
 i1f2:i1∉fp2
 i3f2:i3∉fp2
 i1f3:i1∉fp3
 i2f3:i2∉fp3
section
variable {prog:eo} {w:iJ} {A:gj} {E:ar->av->Prop} {s:av} {z TI TO i1 i2 i3:au} {fp1 fp2 fp3:List au} {n1 n2 n3 j:Nat} {P1 P2 P3:Nat->ar->Prop} {S1 S2 S3:Nat->iS->Prop} {a b c:ar}
def kBU{Q:ar->av->Prop}(D1:ES prog w A i1 fp1 n1 P1 S1)(D2:ES prog w A i2 fp2 n2 P2 S2)(D3:ES prog w A i3 fp3 n3 P3 S3)(d:ZAp3 z TI TO i1 i2 i3 fp1 fp2 fp3)
  (hz:xa s.heap z TI TO .none) (a6:jP s.heap TI (.ref i1) (.ref i2) (.ref i3)) (a5:jP s.heap TO a b c) (h1:S1 j s.heap) (h2:S2 j s.heap) (h3:S3 j s.heap) (l1:j<n1) (l2:j<n2) (l3:j<n3)
  (hQ:∀ x y v h' tk,P1 j x->P2 j y->P3 j v->xa h' z TI TO (rawInt s.heap.objs.size)->jP h' TO x y v->S1 (j+1) h'->S2 (j+1) h'->S3 (j+1) h'->jP h' s.heap.objs.size x y v ->
   (∀ c o,c≠z->c≠TO->c≠i1->c≠i2->c≠i3->s.heap.get? c=some o->h'.get? c=some o)->Q (.ref s.heap.objs.size) {s with heap:=h',toks:=tk}) :
  dw (model prog w) A (zw.«zip.__next__» ⟨[.ref z],[]⟩) (λ fin s'=>∃ v,fin=.done (.ret v)/\Q v s') E s:=by
 have g:∀{i:Nat}{h h':iS}{c:au},S1 i h->jb c h h'->c∉fp1->S1 i h':=λ st L S=>D1.frame _ _ _ st λ b n o e=>L.extBut b o (λ q=>S (q ▸ n)) e;have l:∀{i:Nat}{h h':iS}{c:au},S2 i h->jb c h h'->c∉fp2->S2 i h':=λ st L S=>D2.frame _ _ _ st λ b n o e=>L.extBut b o (λ q=>S (q ▸ n)) e;have m:∀{i:Nat}{h h':iS}{c:au},S3 i h->jb c h h'->c∉fp3->S3 i h':=λ st L S=>D3.frame _ _ _ st λ b n o e=>L.extBut b o (λ q=>S (q ▸ n)) e;show dw _ _ (field (.ref z) 2 >>= _) _ _ _;refine ae (ip hz rfl (x:=.bool false) rfl ?_);show dw _ _ (field (.ref z) 3 >>= _) _ _ _;refine ae (ip hz rfl (x:=.ref TI) rfl ?_);refine ae (ka a6 rfl ?_);show dw _ _ (iE (.ref z) >>= _) _ _ _;refine ae ?_;unfold iE;refine ae (ip hz rfl (x:=.none) rfl (bj ?_));simp only[if_true];refine ae (vt ?_);refine ae (ip hz rfl (x:=.ref TO) rfl ?_);refine ae (ki hz (by simp) λ g1 Z C=>?_)
 replace Z:xa g1 z TI TO .ellipsis:=Z
 refine ae ?_
 simp only[yt,BA,zu,BZ]
 refine ae (ae (wb ?_));show dw _ _ (iA (.ref i1) >>= _) _ _ _;refine ae (D1.item j _ _ _ l1 (g h1 C d.z1) λ x g2 a9 px a2 D=>bj ?_);have o2:jP g2 TO a b c:=D.extBut _ _ d.TOi1 (C.extBut _ _ d.zTO.symm a5);refine ae (ka o2 rfl ?_);refine ae (zI o2 λ g3 o3 G=>?_)
 replace o3:jP g3 TO x b c:=o3
 refine ae (Au (bj ?_))
 refine ae (ae (wb ?_));show dw _ _ (iA (.ref i2) >>= _) _ _ _;refine ae (D2.item j _ _ _ l2 (l (l (l h2 C d.z2) D d.i1f2) G d.t2) λ y g4 a8 py a4 H=>bj ?_);have o4:jP g4 TO x b c:=H.extBut _ _ d.TOi2 o3;refine ae (ka o4 rfl ?_);refine ae (zI o4 λ g5 o5 I=>?_)
 replace o5:jP g5 TO x y c:=o5
 refine ae (Au (bj ?_))
 refine ae (ae (wb ?_));show dw _ _ (iA (.ref i3) >>= _) _ _ _;refine ae (D3.item j _ _ _ l3 (m (m (m (m (m h3 C d.z3) D d.i1f3) G d.t3) H d.i2f3) I d.t3) λ v g6 a7 a3 a0 J=>bj ?_);have o6:jP g6 TO x y c:=J.extBut _ _ d.TOi3 o5;refine ae (ka o6 rfl ?_);refine ae (zI o6 λ f o7 B=>?_)
 replace o7:jP f TO x y v:=o7
 refine ae (Au (bj (bj ?_)))
 refine ae (ka o7 rfl ?_);refine ae (Cu ?_);have sz:f.objs.size=s.heap.objs.size:=by rw[B.1,J.1,I.1,H.1,G.1,D.1,C.1]
 have z7:xa f z TI TO .ellipsis:=B.extBut _ _ d.zTO (J.extBut _ _ d.zi3 (I.extBut _ _ d.zTO (H.extBut _ _ d.zi2 (G.extBut _ _ d.zTO (D.extBut _ _ d.zi1 Z)))))
 have k7:∀ c o,c≠z->c≠TO->c≠i1->c≠i2->c≠i3->s.heap.get? c=some o->f.get? c=some o:=λ c o u N c3 c4 c5 e =>
  B.extBut _ _ N (J.extBut _ _ c5 (I.extBut _ _ N (H.extBut _ _ c4 (G.extBut _ _ N (D.extBut _ _ c3 (C.extBut _ _ u e))))))
 have a1:S1 (j+1) f:=g (g (g (g (g a2 G d.t1) H d.i2f1) I d.t1) J d.i3f1) B d.t1;have Y:S2 (j+1) f:=l (l (l a4 I d.t2) J d.i3f2) B d.t2;have U:S3 (j+1) f:=m a0 B d.t3;have O:z<f.objs.size:=bz z7;show dw _ _ (ni (.ref z) (.ref f.objs.size) >>= _) _ _ _;refine ae ?_;unfold ni;have z8:xa (f.push {cls:=.type "tuple",data:=.seq #[x,y,v]}) z TI TO .ellipsis:=ao _ z7;refine ae (ki z8 (by simp) λ g9 z9 s9=>?_)
 replace z9:xa g9 z TI TO (rawInt f.objs.size):=z9
 refine ki z9 (by simp) λ p r X=>?_
 replace r:xa p z TI TO (rawInt f.objs.size):=r
 have M:∀ c o,c≠z->f.get? c=some o->p.get? c=some o:=λ c o u e=>X.extBut _ _ u (s9.extBut _ _ u (ao _ e));have T:jP p f.objs.size x y v:=X.extBut _ _ (jc O) (s9.extBut _ _ (jc O) (cg _ rfl));rw[sz]at r T;refine bj ⟨_,rfl,?_⟩;show Q (.ref f.objs.size) _;rw[sz];exact hQ x y v p _ px py a3 r (M _ _ d.zTO.symm o7) (D1.frame _ _ _ a1 λ b n o e=>M b o (λ q=>d.z1 (q ▸ n)) e) (D2.frame _ _ _ Y λ b n o e=>M b o (λ q=>d.z2 (q ▸ n)) e) (D3.frame _ _ _ U λ b n o e=>M b o (λ q=>d.z3 (q ▸ n)) e) T λ c o u N c3 c4 c5 e=>M c o u (k7 c o u N c3 c4 c5 e)
def kGR{Q:uq->av->Prop}(p:ES prog w A i1 fp1 n1 P1 S1)(m:ZAp3 z TI TO i1 i2 i3 fp1 fp2 fp3)
  (hz:xa s.heap z TI TO .none) (h:jP s.heap TI (.ref i1) (.ref i2) (.ref i3)) (G:jP s.heap TO a b c) (h1:S1 n1 s.heap)
  (J:∀ h' e,(∀ c o,c≠z->c≠TO->c≠i1->c≠i2->c≠i3->s.heap.get? c=some o->h'.get? c=some o)->(∃ o,h'.get? e=some o/\o.cls=.type "StopIteration")->E (.ref e) {s with heap:=h'}) :
  dw (model prog w) A (zw.«zip.__next__» ⟨[.ref z],[]⟩) Q E s:=by
 show dw _ _ (field (.ref z) 2 >>= _) _ _ _;refine ae (ip hz rfl (x:=.bool false) rfl ?_);show dw _ _ (field (.ref z) 3 >>= _) _ _ _;refine ae (ip hz rfl (x:=.ref TI) rfl ?_);refine ae (ka h rfl ?_);show dw _ _ (iE (.ref z) >>= _) _ _ _;refine ae ?_;unfold iE;refine ae (ip hz rfl (x:=.none) rfl (bj ?_));simp only[if_true];refine ae (vt ?_);refine ae (ip hz rfl (x:=.ref TO) rfl ?_);refine ae (ki hz (by simp) λ y g i=>?_)
 replace g:xa y z TI TO .ellipsis:=g
 refine ae ?_;simp only[yt,BA,zu,BZ];refine ae (ae (wb ?_));show dw _ _ (iA (.ref i1) >>= _) _ _ _;refine ae (p.done _ _ _ (p.frame _ _ _ h1 λ b C o e=>i.extBut b o (λ q=>m.z1 (q ▸ C)) e) λ I e j H=>?_);obtain⟨v,d,f⟩:=H;have r:xa I z TI TO .ellipsis:=j _ _ m.zi1 g;have B:e≠z:=λ q=>by subst q;rw[r]at d;cases d;simp at f
 exact ki r (by simp) λ D _ l=>J D e (λ c o n _ u _ _ q=>l.extBut _ _ n (j _ _ u (i.extBut _ _ n q))) ⟨v,l.extBut _ _ B d,f⟩
end
def sQ(c f q:Bool)(a b i:au)(xs ys zs:Array ar) :
  Meets (zw.«zip.__new__» ⟨[.type "zip",.ref a,.ref b,.ref i],[]⟩) (λ _ R s=>SqOf c s.heap a xs/\SqOf f s.heap b ys/\SqOf q s.heap i zs /\
   ∀(g1 y u j l D:iS),g1=s.heap.push {cls:=.type (yU c),data:=.fields #[.ref a,.int 0 0]}->y=g1.push {cls:=.type (yU f),data:=.fields #[.ref b,.int 0 0]}->u=y.push {cls:=.type (yU q),data:=.fields #[.ref i,.int 0 0]} ->
    j=u.push {cls:=.type "tuple",data:=.seq #[.ref s.heap.objs.size,.ref g1.objs.size,.ref y.objs.size]}->l=j.push {cls:=.type "tuple",data:=.seq #[.none,.none,.none]} ->
    D=l.push {cls:=.type "zip",data:=.fields #[.none,.bool false,.bool false,.ref u.objs.size,.ref j.objs.size]}->R (.ok (.ret (.ref l.objs.size))) {s with heap:=D}) :=
 .of_wp λ C w A R s h=>by
  obtain⟨hp,g,d,v,os⟩:=s;obtain⟨m,n,B,h⟩:=h;have G:=sub_zip;have p:SqOf c (Ar ⟨hp,g,d,v,os⟩) a xs:=m;have r:SqOf f (Ar ⟨hp.push {cls:=.type (yU c),data:=.fields #[.ref a,.int 0 0]},g,d,v,os⟩) b ys:=n.at λ o e=>ao _ e;have x:SqOf q (Ar ⟨(hp.push {cls:=.type (yU c),data:=.fields #[.ref a,.int 0 0]}).push {cls:=.type (yU f),data:=.fields #[.ref b,.int 0 0]},g,d,v,os⟩) i zs:=B.at λ o e=>ao _ (ao _ e);have h:=h _ _ _ _ _ _ rfl rfl rfl rfl rfl rfl
  wp_walk using bI p,bI r,bI x
  exact⟨_,rfl,h⟩
section
variable {prog:eo} {w:iJ} {A:gj} {E:ar->av->Prop} {s:av}
def sL{r n q:Bool}{l f i:au}{xs ys zs:Array ar}{Q:ar->av->Prop}(h1:SqOf r s.heap l xs)(h2:SqOf n s.heap f ys)(h3:SqOf q s.heap i zs)
  (h:∀ h',xa h' (s.heap.objs.size+5) (s.heap.objs.size+3) (s.heap.objs.size+4) .none->jP h' (s.heap.objs.size+3) (.ref s.heap.objs.size) (.ref (s.heap.objs.size+1)) (.ref (s.heap.objs.size+2)) ->
   jP h' (s.heap.objs.size+4) .none .none .none->ItOf r h' s.heap.objs.size l 0->ItOf n h' (s.heap.objs.size+1) f 0->ItOf q h' (s.heap.objs.size+2) i 0->(∀ c o,s.heap.get? c=some o->h'.get? c=some o)->Q (.ref (s.heap.objs.size+5)) {s with heap:=h'}) :
  dw (model prog w) A (call (.type "zip") [.ref l,.ref f,.ref i]) Q E s:=by
 refine Dj GC (by decide) (mO _ _ _) (rN _ _ _) (λ obj=>kDT obj _ _ _) EY (sQ r n q l f i xs ys zs) ⟨h1,h2,h3,?_⟩;intro a d j m u b N D B C y U;have H:a.objs.size=s.heap.objs.size+1:=by rw[N];exact iX ..
 have L:d.objs.size=s.heap.objs.size+2:=by rw[D,iX,H]
 have I:j.objs.size=s.heap.objs.size+3:=by rw[B,iX,L]
 have G:m.objs.size=s.heap.objs.size+4:=by rw[C,iX,I]
 have Z:u.objs.size=s.heap.objs.size+5:=by rw[y,iX,G]
 have u1:∀ c o,s.heap.get? c=some o->a.get? c=some o:=λ c o e=>by rw[N];exact ao _ e
 have S:∀ c o,a.get? c=some o->d.get? c=some o:=λ c o e=>by rw[D];exact ao _ e
 have M:∀ c o,d.get? c=some o->j.get? c=some o:=λ c o e=>by rw[B];exact ao _ e
 have v:∀ c o,j.get? c=some o->m.get? c=some o:=λ c o e=>by rw[C];exact ao _ e
 have p:∀ c o,m.get? c=some o->u.get? c=some o:=λ c o e=>by rw[y];exact ao _ e
 have g:∀ c o,u.get? c=some o->b.get? c=some o:=λ c o e=>by rw[U];exact ao _ e
 have J:xa b u.objs.size j.objs.size m.objs.size .none:=by rw[U];exact cg _ rfl
 have Y:jP b m.objs.size .none .none .none:=g _ _ (by rw[y];exact cg _ rfl);have O:jP b j.objs.size (.ref s.heap.objs.size) (.ref a.objs.size) (.ref d.objs.size):=g _ _ (p _ _ (by rw[C];exact cg _ rfl));have i1:ItOf r b s.heap.objs.size l 0:=ItOf.at (h:=a) (by rw[N];exact ItOf.new r s.heap l) λ o e=>g _ _ (p _ _ (v _ _ (M _ _ (S _ _ e))));have T:ItOf n b a.objs.size f 0:=ItOf.at (h:=d) (by rw[D];exact ItOf.new n a f) λ o e=>g _ _ (p _ _ (v _ _ (M _ _ e)));have X:ItOf q b d.objs.size i 0:=ItOf.at (h:=j) (by rw[B];exact ItOf.new q d i) λ o e=>g _ _ (p _ _ (v _ _ e));show _/\_;rw[I,G,Z]at J;rw[H,L,I]at O;rw[G]at Y;rw[H]at T;rw[L]at X;rw[Z];exact⟨⟨_,J,rfl⟩,h _ J O Y i1 T X λ c o x=>g _ _ (p _ _ (v _ _ (M _ _ (S _ _ (u1 _ _ x)))))⟩
end
def Inv.handed3{X:Cx}{a:List (au×Obj)}{d:St}{H:Hp}{s:av}{h':iS}{t':Nat}{ch:List au}{x y z:V}{u v r:ar}(I:Inv X a d H s)(l:RelV x u)(i:RelV y v)(n:RelV z r)
  (j:h'.get? s.heap.objs.size=some {cls:=.type "tuple",data:=.seq #[u,v,r]}) (k:∀ b o,b∉ch->s.heap.get? b=some o->h'.get? b=some o) (g:∀ b∈ch,yV X a H b) (f:∀ b∈ch,b<s.heap.objs.size) :
  Inv X a d (upd H s.heap.objs.size (.tup [x,y,z])) {s with heap:=h',toks:=t'}/\(∀ b∈ch,upd H s.heap.objs.size (.tup [x,y,z]) b=none):=by
 have h:∀ b∈ch,upd H s.heap.objs.size (.tup [x,y,z]) b=none:=λ b c=>by rw[kM (dq (f b c))];exact(g b c).1
 have p:Inv X a d (upd H s.heap.objs.size (.tup [x,y,z])) {s with heap:=s.heap.push {cls:=.type "tuple",data:=.seq #[u,v,r]},toks:=s.toks} :=
  I.laid (λ b o e=>ao _ e) (be _) ⟨by simp only[gn,qm];rw[Ap];decide,[u,v,r],.cons l (.cons i (.cons n .nil)),⟨_,cg _ rfl,rfl,0,rfl,rfl⟩⟩
 have A:=Inv.turnedL (h':=h') (t':=t') (ch:=ch) p (λ b o c e=>by
  rcases Ct e with⟨rfl,rfl⟩ | e
  ·exact j
  ·exact k b o c e) (λ b c=>by
  obtain⟨G,B,C,m,D,q⟩:=g b c;exact⟨h b c,B,C,m,D,q⟩)
 exact⟨A,h⟩
def kNH(h l j : Bool)(K : ay)(a b c : au) : It :=
  ⟨λ i H => ∃ d f g x y z, SqX K h H a d /\ SqX K l H b f /\ SqX K j H c g /\ d[i]? = some x /\ f[i]? = some y /\ g[i]? = some z,
   λ i H v m => ∃ T x y z, H T = none /\ v = .ref T /\ (∀ d, SqX K h H a d -> d[i]? = some x) /\ (∀ f, SqX K l H b f -> f[i]? = some y) /\ (∀ g, SqX K j H c g -> g[i]? = some z) /\ m = upd H T (.tup [x, y, z]),
   λ i H => ∃ d, SqX K h H a d /\ d.length = i⟩
def kGX{P:eo}{w:iJ}{K:ay}{a1:List iO} {x1} {ax:Pos} (k1 k2 k3:Bool) (a b c z TI TO m D G:au) (n:ZAp3 z TI TO m D G [m,a] [D,b] [G,c]) :
  Turn P w K (.Tuple a1 x1 ax) (kNH k1 k2 k3 K a b c) [z,TO,m,D,G,TI] z
   (λ i h=>xa h z TI TO .none/\jP h TI (.ref m) (.ref D) (.ref G)/\(∃ u v r,jP h TO u v r)/\ItOf k1 h m a i/\ItOf k2 h D b i/\ItOf k3 h G c i) where
 mem:=by simp
 obj:=λ i h st e he=>by
  obtain⟨L,f,⟨u,v,r,j⟩,h1,N,M⟩:=st;simp only[dr,og,or_false]at he;rcases he with rfl | rfl | rfl | rfl | rfl | rfl
  ·exact⟨_,L,λ v q=>by cases q⟩
  ·exact⟨_,j,λ v q=>by cases q⟩
  ·exact h1.live
  ·exact N.live
  ·exact M.live
  ·exact⟨_,f,λ v q=>by cases q⟩
 keep:=λ i h h' st O=>by
  obtain⟨L,f,⟨u,v,r,j⟩,h1,N,M⟩:=st;exact⟨O z (by simp) _ L,O TI (by simp) _ f,⟨u,v,r,O TO (by simp) _ j⟩,h1.at λ o q=>O m (by simp) o q,N.at λ o q=>O D (by simp) o q,M.at λ o q=>O G (by simp) o q⟩
 item:=by
  intro X hP hw hK Z i a0 s σ H E I hf st hg;subst hP hw hK;obtain⟨L,f,⟨u0,v0,r0,j⟩,h1,N,M⟩:=st;obtain⟨xs,ys,zs,x,y,zz,a4,U,a3,hx,hy,Q⟩:=hg;obtain⟨J,ah,p1⟩:=I.sq a4;obtain⟨C,ab,p2⟩:=I.sq U;obtain⟨B,ag,p3⟩:=I.sq a3;obtain⟨u,hu,ru⟩:=ah.get hx;obtain⟨v,hv,rv⟩:=ab.get hy;obtain⟨r,hr,rr⟩:=ag.get Q;have D1:=xS (prog:=X.prog) (w:=X.w) (A:=X.A.in1) (I.ok.hd Z) k1 m a (uV p1 h1) J.toArray;have D2:=xS (prog:=X.prog) (w:=X.w) (A:=X.A.in1) (I.ok.hd Z) k2 D b (uV p2 N) C.toArray;have D3:=xS (prog:=X.prog) (w:=X.w) (A:=X.A.in1) (I.ok.hd Z) k3 G c (uV p3 M) B.toArray;have S:i<J.toArray.size:=by simpa using(aj.mp hu).1
  have a5:i<C.toArray.size:=by simpa using(aj.mp hv).1
  have Y:i<B.toArray.size:=by simpa using(aj.mp hr).1
  have hT:s.TypeIs (.ref z) "zip":=⟨_,L,rfl⟩;unfold pyNext
  refine ae (zk (jz (name:=xh "__next__") hT sk (mf sk hT Al
   (kBU D1 D2 D3 n L f j ⟨h1,p1⟩ ⟨N,p2⟩ ⟨M,p3⟩ S a5 Y λ u' v' r' h' tk af b0 as z' o' a8 al ac t' hk=>bj ?_) (AX _))))
  have eu:u'=u:=by
   have q:J[i]?=some u':=by simpa using af
   rw[hu]at q;exact(bh q).symm
  have ev:v'=v:=by
   have q:C[i]?=some v':=by simpa using b0
   rw[hv]at q;exact(bh q).symm
  have er:r'=r:=by
   have q:B[i]?=some r':=by simpa using as
   rw[hr]at q;exact(bh q).symm
  subst eu ev er;refine⟨_,rfl,Bk z' λ g b1 l=>?_⟩;have an:z<s.heap.objs.size:=bz L;have b2:TO<s.heap.objs.size:=bz j;have b3:m<s.heap.objs.size:=let ⟨_,e,_⟩:=h1.live;bz e;have b5:D<s.heap.objs.size:=let ⟨_,e,_⟩:=N.live;bz e;have b4:G<s.heap.objs.size:=let ⟨_,e,_⟩:=M.live;bz e;have a6:TI<s.heap.objs.size:=bz f;have a7:g.get? s.heap.objs.size=some {cls:=.type "tuple",data:=.seq #[u',v',r']}:=l.extBut _ _ (jc an) t'
  obtain⟨I2,n2⟩:=I.handed3 (t':=tk) (ch:=[z,TO,m,D,G]) ru rv rr a7 (λ c o d q=>l.extBut c o (λ e=>d (by simp[e])) (hk c o (λ e=>d (by simp[e])) (λ e=>d (by simp[e])) (λ e=>d (by simp[e])) (λ e=>d (by simp[e])) (λ e=>d (by simp[e])) q))
   (λ c d=>hf c (by simp at d ⊢;rcases d with e | e | e | e | e<;>simp[e]))
   (λ c d=>by simp at d;rcases d with rfl | rfl | rfl | rfl | rfl<;>assumption)
  refine⟨.ref s.heap.objs.size,_,I2,rfl,⟨_,x,y,zz,I.hok.fresh (be _),rfl,(λ b7 am=>by rw[I.sq_inj am a4];exact hx),(λ b8 a9=>by rw[I.sq_inj a9 U];exact hy),(λ b6 aw=>by rw[I.sq_inj aw a3];exact Q),rfl⟩,?_,λ c d=>?_⟩
  ·exact⟨b1,l.extBut _ _ n.zTI.symm (hk _ _ n.zTI.symm n.TITO n.TIi1 n.TIi2 n.TIi3 f),⟨_,_,_,l.extBut _ _ n.zTO.symm o'⟩,a8.1.at λ o q=>l.extBut m o n.zi1.symm q,al.1.at λ o q=>l.extBut D o n.zi2.symm q,ac.1.at λ o q=>l.extBut G o n.zi3.symm q⟩
  ·by_cases e:c=TI
   ·subst e
    rw[kM (dq a6)];exact(hf c (by simp)).1
   ·exact n2 c (by simp at d ⊢;rcases d with q | q | q | q | q | q<;>simp_all)
 done:=by
  intro X hP hw hK Z i a0 s σ H E I hf st hg;subst hP hw hK;obtain⟨L,f,⟨u0,v0,r0,j⟩,h1,N,M⟩:=st;obtain⟨xs,hq,hx⟩:=hg;obtain⟨a2,rv,p⟩:=I.sq hq;have D1:=xS (prog:=X.prog) (w:=X.w) (A:=X.A.in1) (I.ok.hd Z) k1 m a (uV p h1) a2.toArray;have hl:a2.toArray.size=i:=by rw[<-hx,rv.length];simp
  have hT:s.TypeIs (.ref z) "zip":=⟨_,L,rfl⟩;unfold pyNext
  refine ae (zk (jz (name:=xh "__next__") hT sk (mf sk hT Al
   (kGR D1 n L f j ⟨hl ▸ h1,p⟩ λ h' e hk he=>?_) (AX _))))
  obtain⟨o,ho,aq⟩:=he;refine ae (CM (T:="StopIteration") (b:=true) ⟨o,ho,aq⟩ Ez ?_)
  refine bj ⟨rfl,I.turnedL (t':=s.toks) (ch:=[z,TO,m,D,G]) (λ c o d q=>hk c o (λ e=>d (by simp[e])) (λ e=>d (by simp[e])) (λ e=>d (by simp[e])) (λ e=>d (by simp[e])) (λ e=>d (by simp[e])) q)
   (λ c d=>hf c (by simp at d ⊢;rcases d with e | e | e | e | e<;>simp[e]))⟩
 self:=λ _ _ _ _ _ st h=>Am st.1 h
def kUT(n a b c:Nat)(i:a<n)(h:b<n)(g:c<n):ZAp3 (n+5) (n+3) (n+4) n (n+1) (n+2) [n,a] [n+1,b] [n+2,c]:=by
 have q:∀{x y u:Nat},x≠y->x≠u->¬ x∈[y,u]:=λ h1 d f=>by
  rcases dr.mp f with e | e
  ·exact h1 e
  ·exact d (bu.mp e)
 constructor<;>first | (intro e;have e:(_:Nat)=_:=e;omega) | exact q (λ e=>by have e:(_:Nat)=_:=e;omega) (λ e=>by have e:(_:Nat)=_:=e;omega)
section
variable {X:Cx}
inductive kLY(k1:Bool)(k2:Bool)(k3:Bool)(K:ay)(R:It->Hp->Prop)(vs:List V)(H1:Hp):Prop
 | mk:∀ a b c,(vs=[.ref a,.ref b,.ref c])->((∃ xs,SqX K k1 H1 a xs))->((∃ ys,SqX K k2 H1 b ys))->((∃ zs,SqX K k3 H1 c zs))->(R (kNH k1 k2 k3 K a b c) H1)->kLY k1 k2 k3 K R vs H1
def kTZ(h f a:Bool)(K:ay)(g:TA):TI:=λ d H R=>g d H λ c b=>kLY h f a K R c b
def kOE(k1 N U:Bool){a b c:iO}{Y:TA}{p n o:Pos}{j:List iO} {x1} (hg:Gl X "zip") (hm:X.mg "zip" = none) (ha:PA X [a,b,c] Y) (hs:starEach [a,b,c] X.env=[(false,eval a X.env),(false,eval b X.env),(false,eval c X.env)]:=by rfl) (l:starEach [b,c] X.env=[(false,eval b X.env),(false,eval c X.env)]:=by rfl) :
  PI X (.Tuple j x1 o) (.Call (.Name "zip" p) [a,b,c] [] n) (kTZ k1 N U X.K Y):=by
 intro g s σ H R I h;refine Eh (zM I hg hm boot_zip (iU (thn (ha n g s σ H _ I h) λ us d ⟨vs,M,i,A,q1⟩=>?_) (by rw[hs,l]) (by rw[l];rfl)));obtain⟨l1,l2,l3,rfl,⟨xs,D⟩,⟨ys,y⟩,⟨zs,x⟩,q⟩:=q1
 cases A with
 | cons r A =>
 obtain⟨v,v',rfl,r',G⟩:=kEA A;cases r
 cases r'
 cases G
 obtain⟨O,a0,p1⟩:=i.sq D;obtain⟨T,a1,p2⟩:=i.sq y;obtain⟨S,a2,Z⟩:=i.sq x;have B:=p1.lt;have u:=p2.lt;have L:=Z.lt;refine sL p1 p2 Z λ h' Q J C h1 h2 h3 hk=>?_;refine Am (s:={d with heap:=h'}) Q ?_
 have f:∀ c,d.heap.objs.size<=c->yV X g M c:=λ c m=>i.fpOk m (i.hok.fresh m)
 refine⟨_,[d.heap.objs.size+5,d.heap.objs.size+4,d.heap.objs.size,d.heap.objs.size+1,d.heap.objs.size+2,d.heap.objs.size+3],_,_,M,rfl,i.kept (t':=d.toks) hk,
  kGX k1 N U l1 l2 l3 _ _ _ _ _ _ (kUT _ _ _ _ B u L),⟨Q,J,⟨_,_,_,C⟩,h1,h2,h3⟩,λ c m=>?_,q⟩
 simp at m;rcases m with rfl | rfl | rfl | rfl | rfl | rfl<;>exact f _ (by omega)
end
def kMJ{j f h:Bool}{K:ay}{a b c:au}{xs ys zs:List V}{g:TG}{r:TS}{D:Ends}{d:St}{H:Hp}(Pv:Nat->St->Hp->Prop)(B:xs.length<=ys.length)(A:xs.length<=zs.length)(h0:Pv 0 d H)
  (I:∀ i d H,i<=xs.length->Pv i d H->SqX K j H a xs/\SqX K f H b ys/\SqX K h H c zs)
  (v:∀ i x y z T d H,xs[i]?=some x->ys[i]?=some y->zs[i]?=some z->H T=none->Pv i d H->g (.ref T) d (upd H T (.tup [x,y,z])) λ σ2 H2=>r {D with nx:=Pv (i+1),ct:=Pv (i+1),bk:=D.nx} σ2 H2) (u:∀ d H,Pv xs.length d H->D.nx d H) :
  ∃ W:Nat->Nat->St->Hp->Prop,(∃ m,W 0 m d H)/\∀ i m d H,W i m d H ->
   ((kNH j f h K a b c).stop i H/\D.nx d H)\/((kNH j f h K a b c).go i H/\∃ N:St->Hp->Prop,(∀ σ' H',N σ' H'->∃ m',m'<m/\W (i+1) m' σ' H')/\∀ x H',(kNH j f h K a b c).yld i H x H'->g x d H' λ σ2 H2=>r {D with nx:=N,ct:=N,bk:=D.nx} σ2 H2):=by
 refine⟨λ i m d H=>m=xs.length-i/\i<=xs.length/\Pv i d H,⟨xs.length,by simp,gy _,h0⟩,?_⟩;rintro i m d H ⟨rfl,n,p⟩;obtain⟨l,o,s⟩:=I i d H n p;by_cases G:i<xs.length
 ·refine .inr ⟨⟨xs,ys,zs,xs[i],ys[i]'(by omega),zs[i]'(by omega),l,o,s,by simp[G],by simp[show i<ys.length by omega],by simp[show i<zs.length by omega]⟩,Pv (i+1),λ σ' H' q=>⟨xs.length-(i+1),by omega,rfl,by omega,q⟩,λ x H' O=>?_⟩
  obtain⟨T,L,S,Q,J,rfl,U,M,C,rfl⟩:=O;exact v i L S Q T d H (U xs l) (M ys o) (C zs s) J p
 ·have:i=xs.length:=by omega
  subst this;exact .inl ⟨⟨xs,l,rfl⟩,u d H p⟩
section
variable {X:Cx} {tg iter kx vx:iO} {ifs:List iO} {sc:wg} {pos py spos:Pos} {Nc:List Str} {js:List (Option Nat)} {wi:TI} {i:Nat} {y:Str}
def kOB{g:TG}{bd:au->TB}(hx:X.xe=λ _ _=>False)(hc:X.calm=true)(hN:X.N.Nodup)(ab:X.N[i]?=some y)(hy:Loc X.env.scope y)(hi:PI X tg iter wi)(S:CS sc X.env.scope)(a5:bU js Nc X.N sc.names=true)
  (hg:∀ C s₂ H₂ fp pins,PG (cxC X Nc sc C s₂ H₂ fp pins) tg g)
  (n:∀ C s₂ H₂ fp pins D L,PTl (cxC X Nc sc C s₂ H₂ fp pins) (yB ifs (cxC X Nc sc C s₂ H₂ fp pins).env (oS kx vx (cxC X Nc sc C s₂ H₂ fp pins).env (.ref D)) L) L (bd D))
  (hs:∀ x,foldedSetIterable iter X.env x=pure x:=by intro _;rfl)
  (a7:swapsWith (.DictComp kx vx [⟨tg,iter,ifs,0⟩] sc pos) (some (.Name y py)) spos.line X.env=pure true:=by rfl)
  (hf:X.fn y=true\/X.env.scope.names.lookup y=some .local:=by first | exact .inl rfl | exact .inr rfl | assumption) :
  PS X (.Assign [.Name y py] (.DictComp kx vx [⟨tg,iter,ifs,0⟩] sc pos) spos) (kJS (tDC js wi g bd) (lY i)):=by
 intro pins s σ H D0 I h;have a9:closureFor sc X.env=pure (uU sc X.env):=yM λ y hy hf=>I.ok.has y.1 (.inl (S.free y hy hf));rw[Cm _ _ _ _ a7];refine ae (vk (ae ?_));show dw _ X.A (do let _ <-comprehension (.DictComp kx vx [⟨tg,iter,ifs,0⟩] sc pos) sc X.env _ (newDict) false (eval iter X.env) (some (assign (.Name y py) X.env))) _ _ s
 refine ae (vj (om (use:=some (assign (.Name y py) X.env)) (Q:=λ _ r=>SP X pins D0 .next r) rfl hs a9 S.kind S.names
  (thn (hi pins s σ H _ I h) λ v s1 h1=>thn h1 λ ah f Z=>?_)) (λ _ r hq=>bj (bj hq)) λ _ _ e=>e)
 obtain⟨it,fp,tn,J,H2,e,U,T,a0,f2,hw⟩:=Z;subst e;have O:∀ b∈fp,b<f.heap.objs.size:=λ b n=>let ⟨o,ho,_⟩:=T.obj _ _ a0 b n;bz ho;refine iz (rh S.nocell (by intro y hy;simp at hy) (λ m j d=>?_) S.kind);dsimp only at j d ⊢;generalize B:f.heap.push {cls:=.type "dict",dict:=none,data:=.dict #[]}=G at j d ⊢;have ag:G.objs.size=f.heap.objs.size+1:=by rw[<-B,iX]
 have a3:f.heap.objs.size≠G.objs.size:=by omega
 have l:f.heap.objs.size<=G.objs.size:=by omega
 have a1:∀ b o,f.heap.get? b=some o->m.get? b=some o:=λ b o e=>d.extBut b o (dq (cy (bz e) l)) (ao _ (B ▸ ao _ e));have Y:m.get? f.heap.objs.size=some {cls:=.type "dict",dict:=none,data:=.dict #[]}:=d.extBut _ _ a3 (ao _ (B ▸ cg _ rfl))
 have new:ObjOk X.prog X.w (upd H2 f.heap.objs.size (.dK [])) m f.heap.objs.size (.dK []):=by
  refine⟨gy _,beq_eq_false_iff_ne.mpr (pe (dq U.big)),[],.nil,?_⟩;obtain⟨o,es,ep,h1,rest⟩:=Cf (knd:=qD X.prog X.w) f.heap;have Z:(f.heap.push {cls:=.type "dict",dict:=none,data:=.dict #[]}).get? f.heap.objs.size=some {cls:=.type "dict",dict:=none,data:=.dict #[]}:=cg _ rfl;have h3:=h1.symm.trans Z;exact⟨o,es,ep,Y.trans h3.symm,rest⟩
 have I4:=wO (js:=js) (Nc:=Nc) (tk:=f.toks+([]:List (Str×ar)).length) U S f2 O a5 l (be _) a3 a1 j new;have hn:H2 f.heap.objs.size=none:=U.fresh
 have f4:∀ b∈fp,yV (cxC X Nc sc G.objs.size f H2 fp pins) [] (upd H2 f.heap.objs.size (.dK [])) b:=λ b n=>by
  obtain⟨h0,h1,Z,h3,h4,h5⟩:=f2 b n;refine⟨?_,dq (cy (O b n) l),λ z=>?_,.inl n,λ x c z=>?_,λ p hp=>?_⟩
  ·rw[kM (dq (O b n))];exact h0
  ·rcases dr.mp (U.stkSub b z) with q | q
   ·exact h1 q
   ·exact Z q
  ·exact h4 x c (bS sc.names [] (λ z=>nomatch z) z)
  ·rcases cf.mp hp with z | z
   ·exact h5 p z
   ·exact absurd z (by simp)
 have a2:tn 0 m:=T.keep _ _ _ a0 λ b n o e=>a1 b o e
 have u:codeAny (model X.prog X.w) X.A (.compLoop (.DictComp kx vx [⟨tg,iter,ifs,0⟩] sc pos) 0 (.ref it) (.ref f.heap.objs.size) (compEnvC sc (uU sc X.env) G.objs.size X.env))
   (compPost (model X.prog X.w) X.A X.xe (some (assign (.Name y py) X.env)) (λ _ r=>SP X pins D0 .next r) (.ref f.heap.objs.size) G.objs.size) {f with heap:=m,toks:=f.toks+([]:List (Str×ar)).length}:=by
  refine yL (X:=cxC X Nc sc G.objs.size f H2 fp pins) (.inr ⟨kx,vx,rfl⟩) hx hc (pF _ _ _ _ _ _ _ _ _ _) T (hg _ _ _ _ _) (n _ _ _ _ _ _ _) I4 a2 f4 (hw _ hn) λ af H' r I' q=>?_;obtain⟨m',ac,_⟩:=I'.loc;have IB:Inv X pins σ H' {r with heap:=r.heap}:=wP U f2 l I' (AN ..)
  have nC:H' G.objs.size=none:=I'.free;have fC:yV X pins H' G.objs.size:=U.fpOk l nC;show dw _ X.A (assign (.Name y py) X.env (.ref f.heap.objs.size)) _ _ r;refine Bn (cB (v:=.ref f.heap.objs.size) IB hN ab hy rfl (λ a4 IC a6=>?_) hf);obtain⟨a,sb,ha⟩:=a6
  have aC:G.objs.size≠a:=by
   rcases ha with rfl | ha
   ·exact fC.2.1
   ·exact λ z=>fC.2.2.2.2.1 y a ha z.symm
  refine⟨m',ac.sameBut sb aC,λ h' a8=>?_⟩;exact⟨_,H',IC.turnedL (t':=a4.toks) (ch:=[G.objs.size]) (λ b o M e=>a8.extBut b o (λ z=>M (by simp[z])) e) (λ b M=>by rw[bu.mp M];exact fC),q⟩
 exact xX (.inr ⟨kx,vx,rfl⟩) rfl rfl u (T.self _ _ _ _ _ a2 u)
end
section
variable {X:Cx} {tg iter el tg2 iter2:iO} {ifs2:List iO} {wi2:TI} {g2:TG} {sc:wg} {pos py spos:Pos} {Nc:List Str} {js:List (Option Nat)} {wi:TI} {i:Nat} {y:Str}
end
end L2
namespace Tri
open Cyc Rnd
theorem kEY{P:Nat->Prop}{w:Nat}:∀{l:List Nat}{p:Nat},(p::l).Nodup->(p::l).getLast?=some w->P p->(∀ x y,Adj (p::l) x y->P x->¬ P y->x=w)->∀ q∈p::l,P q
 | [],p,_,_,hp,_,q,b=>by rw[bu.mp b];exact hp
 | y::l,p,nd,lt,hp,st,q,b=>by
  have c:P y:=fb λ z=>by
   have:=st p y (.inl ⟨rfl,rfl⟩) hp z;rw[gk]at nd;rw[oz]at lt;exact nd.1 (this ▸ vg lt)
  rcases dr.mp b with rfl | b
  ·exact hp
  ·exact kEY (gk.mp nd).2 (by rw[oz]at lt;exact lt) c (λ x z a=>st x z (.inr a)) q b
theorem kEX{P:Nat->Prop}{u w:Nat}:∀{l:List Nat},l.Nodup->l.getLast?=some w->P w->(∀ x y,Adj l x y->P x->¬ P y->x=w)->(∀ x y,Adj l x y->¬ P x->P y->y=u)->(∀ h,l.head?=some h->¬ P h)->∃ outs ins,l=outs++ins/\(∀ z∈outs,¬ P z)/\(∀ z∈ins,P z)/\ins.head?=some u/\ins.getLast?=some w
 | [],_,lt,_,_,_,_=>by cases lt
 | [h],_,lt,pw,_,_,nh=>by
  cases lt
  exact absurd pw (nh h rfl)
 | h::y::l,nd,lt,pw,st,su,nh=>by
  have lt':(y::l).getLast?=some w:=by rw[oz]at lt;exact lt
  by_cases c:P y
  ·have:=su h y (.inl ⟨rfl,rfl⟩) (nh h rfl) c
   refine⟨[h],y::l,rfl,λ z b=>by rw[bu.mp b];exact nh h rfl,kEY (gk.mp nd).2 lt' c λ x z a=>st x z (.inr a),by rw[this];rfl,lt'⟩
  ·obtain⟨o,i,e,h1,d,g,f⟩:=kEX (l:=y::l) (gk.mp nd).2 lt' pw (λ x z a=>st x z (.inr a)) (λ x z a=>su x z (.inr a)) (λ z b=>by cases b;exact c)
   refine⟨h::o,i,by rw[e];rfl,λ z b=>?_,d,g,f⟩;rcases dr.mp b with rfl | b
   ·exact nh _ rfl
   ·exact h1 z b
def yQ{l:List Nat}{p q:Nat}(h:Adj l p q):Nx l p q:=by
 have:=Fc.adj_nx [] h;rwa[iW]at this
section
variable {W:Rows}
def mY(S:Nb W)(a:∀ t∈kN W,(nxt W (nxt W t)).2=t.1){x p q:Nat}(h:R W x p q):nxt W (x,p)=(p,q)/\nxt W (q,x)=(x,p)/\nxt W (p,q)=(q,x):=by
 have e:=zQ h;have n:=hZ S.nd h;obtain⟨z,b,d,c,g,f⟩:=qQ S a (S.sym _ _ e.2);rw[n]at b;cases b
 exact⟨d,n,c⟩
theorem Bd.row(S:Nb W)(d:∀ t∈kN W,(nxt W (nxt W t)).2=t.1){A T:List Nat}{a b c:Nat}(h:Bd W A T a b)(TT:Top W A T)(G:E W b a)(bc:(nxt W (b,a)).2=c)(X:c∉A)
  (Y:T.head?=some a) (lt:T.getLast?=some b) {u x w:Nat} (n1:Nx T u x) (j:Nx T x w) :
  ∃ row ins outs,W[x]?=some row/\Ro row (ins++outs)/\(∀ z∈ins,z∈A)/\(∀ z∈outs,z∉A)/\ins.head?=some u/\ins.getLast?=some w:=by
 have nx:∀ p q,Nx T p q↔Adj T p q\/(p=b/\q=a):=λ p q=>by
  obtain⟨I,rfl⟩:=Fc.head_split Y
  cases I with
  | nil =>
   cases lt
   show Adj ([a]++[a]) p q↔_;constructor
   ·rintro(⟨rfl,rfl⟩ | z)
    ·exact .inr ⟨rfl,rfl⟩
    ·exact z.elim
   ·rintro(z | ⟨rfl,rfl⟩)
    ·exact z.elim
    ·exact .inl ⟨rfl,rfl⟩
  | cons y I =>
   obtain⟨J,e⟩:=Fc.last_split (l:=y::I) (x:=b) (by rw[oz]at lt;exact lt);rw[e];exact nxP J a b p q
 have n:∀ p q,Nx T p q->E W p q/\p∈A/\q∈A/\(nxt W (p,q)).2∉A:=λ p q f=>by
  refine⟨?_,TT.sub _ (kU f).1,TT.sub _ (kU f).2,?_⟩
  ·rcases(nx p q).mp f with z | ⟨rfl,rfl⟩
   ·exact TT.path _ _ z
   ·exact G
  ·rcases(nx p q).mp f with z | ⟨rfl,rfl⟩
   ·exact h.up _ _ z
   ·rw[bc];exact X
 have U:∀ p q,p∈A->q∈A->E W p q->(nxt W (p,q)).2∉A->Nx T p q:=λ p q h1 C B D=>(nx p q).mpr (h.all p q h1 C B D);obtain⟨row,s,mw⟩:=(n x w j).1;obtain⟨i,g,e⟩:=xu mw;have H:Ro row ((g++i)++[w]):=⟨i++[w],g,by rw[e];simp,by simp⟩;have nd:=S.nd _ _ s;have v:=H.nd.mp nd;have st:∀ p q,Nx ((g++i)++[w]) p q->R W x p q:=λ p q f=>⟨row,s,(H.nx p q).mpr f⟩;have O:=(n x w j).2.1;have wA:=(n x w j).2.2.1
 have g1:∀ p q,Nx ((g++i)++[w]) p q->p∈A->q∉A->p=w:=λ p q f hp N=>by
  obtain⟨o,M,Q⟩:=mY S d (st p q f);exact jT TT.nd (U x p O hp (zQ (st p q f)).1 (by rw[o];exact N)) j
 have g2:∀ p q,Nx ((g++i)++[w]) p q->p∉A->q∈A->q=u:=λ p q f hp N=>by
  obtain⟨o,M,Q⟩:=mY S d (st p q f);exact yE TT.nd (U q x N O (S.sym _ _ (zQ (st p q f)).2) (by rw[M];exact hp)) n1
 obtain⟨outs,ins,Z,h1,C,B,D⟩:=kEX (P:=λ z=>z∈A) (u:=u) (w:=w) v (by simp) wA (λ p q ad=>g1 p q (yQ ad)) (λ p q ad=>g2 p q (yQ ad)) (λ L m z=>by
  have f:Nx ((g++i)++[w]) w L:=by
   obtain⟨I,e3⟩:=Fc.head_split m
   have:Nx ([w]++(g++i)) w L:=by
    cases hr:g++i with
    | nil =>
     rw[hr]at m;cases m
     exact .inl ⟨rfl,rfl⟩
    | cons y r =>
     rw[hr]at m;cases m
     exact yQ (.inl ⟨rfl,rfl⟩)
   exact(jJ _ _ _ _).mp this
  obtain⟨o,M,Q⟩:=mY S d (st w L f);have:=(n x w j).2.2.2;rw[o]at this;exact this z)
 refine⟨row,ins,outs,s,H.trans ⟨outs,ins,Z,rfl⟩,C,h1,B,D⟩
end
end Tri
namespace Fc
open Cyc Rnd Tri
section
variable {W:Rows}
def inside(G:Good W){A T B M D:List Nat}{a b c x y v u p q:Nat}(h:Bd W A T a b)(TT:Top W A T)(L:E W b a)(bc:(nxt W (b,a)).2=c)(cA:c∉A)(hd:T.head?=some a)(lt:T.getLast?=some b)
  (e:T=B++(x::M++[y])++D) (vA:v∉A) (vc:v≠c) (ex:E W v x) (ey:E W v y) (ad:Adj (x::M++[y]) p q) (nu:(nxt W (p,q)).2=u) (uv:u≠v):u≠c/\∀ z∈B++D,¬ E W u z:=by
 have S:=(Wb.of G).toNb;have g:=(jS G).1;have ap:=TT.nd;rw[e]at ap;have d1:=de.mp ap;have d2:=de.mp d1.1;have sT:∀ z∈x::M++[y],z∈A:=λ z C=>TT.sub z (by rw[e];exact cq _ (ck _ C))
 have X:(v::(x::M)++[y]).Nodup:=by
  show(v::(x::M++[y])).Nodup;exact gk.mpr ⟨λ z=>vA (sT v z),d2.2.1⟩
 have aw:∀ z,z∉A->z≠v->z∉v::(x::M)++[y]:=λ z C hv hc=>by
  rcases dr.mp hc with r | r
  ·exact hv r
  ·exact C (sT z r)
 have aT:∀ i j,Adj (x::M++[y]) i j->Adj T i j:=λ i j ha=>by
  rw[e,cx];have e2:B++(x::M++[y]++D)=B++x::(M++[y]++D):=by simp
  rw[e2];refine(jA B x _ i j).mpr (.inr ?_);have:=mN D ha;simpa using this
 have nC:∀ i j,Nx (v::(x::M)++[y]) i j↔(i=v/\j=x)\/Adj (x::M++[y]) i j\/(i=y/\j=v):=λ i j=>by
  rw[nxP (x::M) v y i j];show((i=v/\j=x)\/Adj (x::M++[y]) i j)\/_↔_;rw[or_assoc]
 have ce:∀ i j,Nx (v::(x::M)++[y]) i j->E W i j:=λ i j hn=>by
  rcases(nC i j).mp hn with⟨rfl,rfl⟩ | z | ⟨rfl,rfl⟩
  ·exact ex
  ·exact TT.path _ _ (aT _ _ z)
  ·exact S.sym _ _ ey
 obtain⟨f,c1,sy,am⟩:=kSE S G.con (kIK G) X (by simp) ce;have a7:Nx (v::(x::M)++[y]) v x:=(nC _ _).mpr (.inl ⟨rfl,rfl⟩);have a9:Nx (v::(x::M)++[y]) y v:=(nC _ _).mpr (.inr (.inr ⟨rfl,rfl⟩));have fw:∀ i j,Nx (v::(x::M)++[y]) i j->f i j=f v x:=λ i j hn=>kPD S X c1 ce sy hn a7;have bw:∀ i j,Nx (v::(x::M)++[y]) i j->f j i≠f v x:=λ i j hn z=>am i j hn ((fw i j hn).trans z.symm)
 have a3:∀{k i n z:Nat},Nx (v::(x::M)++[y]) i k->Nx (v::(x::M)++[y]) k n->E W k z->z≠i->z≠n->f k z=f z k:=λ hp hn Z n1 n2=>sy _ _ Z (λ s=>n2 (jT X s hn)) (λ s=>n1 (yE X s hp))
 have a8:Nx (v::(x::M)++[y]) p q:=(nC _ _).mpr (.inr (.inl ad));obtain⟨N,m1,m2,m3,ac,b2⟩:=qQ S g (ce p q a8);rw[m1]at nu;have nu:N=u:=nu;subst nu
 have uA:N∉A:=by
  have:=h.up p q (aT _ _ ad);rw[m1]at this;exact this
 have uC:=aw N uA uv
 have up:∀ z,E W N z->f z N=f v x:=λ z Z=>by
  have s1:=c1 p q N (ce p q a8) m1;have s2:=sy q N ac (λ s=>uC (kU s).2) (λ s=>uC (kU s).1);have s3:=rO S c1 sy uC (S.sym _ _ ac) Z;have s4:=sy N z Z (λ s=>uC (kU s).1) (λ s=>uC (kU s).2);rw[<-s4,<-s3,<-s2,s1];exact fw p q a8
 obtain⟨py,ah⟩ : ∃ py,Adj (x::M++[y]) py y:=by
  obtain⟨z,C⟩:=bY (l:=x::M++[y]) (x:=y) (by simp);exact⟨z,C⟩
 have al:Nx (v::(x::M)++[y]) py y:=(nC _ _).mpr (.inr (.inl ah))
 have an:∀ w,Nx T y w->f y w≠f v x:=λ w hw=>by
  obtain⟨row,a4,o,Q,ro,U,ab,s,ht⟩:=h.row S g TT L bc cA hd lt (yQ (aT _ _ ah)) hw;have a0:(a4++o).Nodup:=ro.nd.mp (S.nd _ _ Q);obtain⟨I,rfl⟩:=head_split s;obtain⟨ag,O,mv⟩:=S.sym _ _ ey;rw[Q]at O
  cases O
  have vo:v∈o:=by
   rcases cf.mp ((ro.mem v).mp mv) with z | z
   ·exact absurd (U v z) vA
   ·exact z
  obtain⟨O1,O2,rfl⟩:=xu vo
  cases I with
  | nil =>
   cases ht
   exact bw _ _ al
  | cons i I =>
   have wI:w∈i::I:=by
    rw[oz]at ht;exact vg ht
   have key:=kRY S c1 (A:=[py]) (B:=O2) (t:=v) Q (i::I++O1) (by simpa using ro) (λ z C=>by
    have a1:z∈i::I++O1:=qi C;refine a3 al a9 ⟨row,Q,(ro.mem z).mpr ?_⟩ (λ zp=>?_) (λ zn=>?_)
    ·rcases cf.mp a1 with r | r
     ·exact cq _ (eC _ r)
     ·exact ck _ (cq _ r)
    ·rw[iq,gk]at a0
     refine a0.1 ?_;rw[<-zp];rcases cf.mp a1 with r | r
     ·exact cq _ r
     ·exact ck _ (cq _ r)
    ·rw[zn]at a1
     rcases cf.mp a1 with r | r
     ·exact vA (U v (eC _ r))
     ·have:=(de.mp (de.mp a0).2.1).2.2
      exact this v r v (by simp) rfl) w (cq _ wI)
   rw[key];exact bw _ _ a9
 have right:∀ z∈D,∀ w,E W z w->f z w≠f v x:=λ z C w ew=>by
  cases D with
  | nil=>cases C
  | cons d D =>
   have b1:Nx T y d:=by
    rw[e,show B++(x::M++[y])++d::D=(B++x::M)++y::d::D by simp];exact nx_mid _ _ _ _
   have:=cL S c1 sy (β:=f y d) (d::D) y (λ i j ha=>TT.path _ _ (by
    rw[e,show B++(x::M++[y])++d::D=(B++x::M)++y::d::D by simp]
    exact(jA _ y _ i j).mpr (.inr ha))) (λ k H hc=>by
     rcases dr.mp hc with r | r
     ·exact vA (r ▸ TT.sub k (by rw[e];exact ck _ H))
     ·exact d1.2.2 k (ck _ r) k H rfl) (λ ax a2=>by cases a2;rfl) z C w ew
   rw[this];exact an d b1
 have ba:f b a≠f v x:=by
  cases hD:D with
  | nil =>
   have yb:y=b:=by
    rw[e,hD,iW,<-cx,iZ]at lt;exact bh lt
   have aq:Nx T b a:=by
    obtain⟨I,eI⟩:=head_split hd;obtain⟨J,eJ⟩:=last_split lt;rw[eJ]
    have:Nx ([b]++J) b a:=by
     cases J with
     | nil =>
      rw[eJ]at hd;cases hd
      exact .inl ⟨rfl,rfl⟩
     | cons j J =>
      rw[eJ]at hd;cases hd
      exact yQ (.inl ⟨rfl,rfl⟩)
    exact(jJ _ _ _ _).mp this
   rw[<-yb];exact an a (by rw[yb];exact aq)
  | cons d D' =>
   refine right b ?_ a L;rw[e,hD,iZ]at lt;rw[hD];refine vg (a:=b) ?_;rw[eW (yk d D')]at lt ⊢;exact lt
 have left:∀ z∈B,∀ w,E W z w->f z w≠f v x:=λ z C w ew=>by
  have af:B≠[]:=List.ne_nil_of_mem C;obtain⟨B',p0,eB⟩ : ∃ I u,B=I++[u]:=⟨B.dropLast,B.getLast af,(eO af).symm⟩
  have as:Nx T p0 x:=by
   rw[e,eB,show B'++[p0]++(x::M++[y])++D=B'++p0::x::(M++[y]++D) by simp];exact nx_mid _ _ _ _
  obtain⟨Y,a6⟩ : ∃ Y,Adj (x::M++[y]) x Y:=by
   cases M with
   | nil=>exact⟨y,.inl ⟨rfl,rfl⟩⟩
   | cons m M=>exact⟨m,.inl ⟨rfl,rfl⟩⟩
  have b0:Nx (v::(x::M)++[y]) x Y:=(nC _ _).mpr (.inr (.inl a6))
  have key:f x p0=f x v:=by
   obtain⟨row,a4,o,Q,ro,U,ab,s,ht⟩:=h.row S g TT L bc cA hd lt as (yQ (aT _ _ a6));have a0:(a4++o).Nodup:=ro.nd.mp (S.nd _ _ Q);obtain⟨J,rfl⟩:=last_split ht;obtain⟨ag,O,mv⟩:=S.sym _ _ ex;rw[Q]at O
   cases O
   have vo:v∈o:=by
    rcases cf.mp ((ro.mem v).mp mv) with z | z
    ·exact absurd (U v z) vA
    ·exact z
   obtain⟨O1,O2,rfl⟩:=xu vo;have pw:p0≠Y:=λ z=>d2.2.2 p0 (by rw[eB];simp) Y (qi (qH a6).2) z
   have pJ:p0∈J:=by
    cases J with
    | nil=>exact absurd (bh s).symm pw
    | cons i J=>rw[show p0=i from(bh s).symm];simp
   have a5:Ro row ([]++v::((O2++J)++(Y::O1))):=ro.trans ⟨J++[Y]++O1,v::O2,by simp,by simp⟩;have nd2:=a5.nd.mp (S.nd _ _ Q);rw[kq,gk]at nd2;refine kLV S c1 Q (O2++J) [] (Y::O1) v a5 (λ k H=>?_) p0 (ck _ pJ);refine a3 a7 b0 ⟨row,Q,(a5.mem k).mpr (by simp at H ⊢;rcases H with r | r<;>simp[r])⟩ (λ kv=>?_) (λ kw=>?_)
   ·exact nd2.1 (kv ▸ cq _ H)
   ·exact(de.mp nd2.2).2.2 k H Y (by simp) kw
  have:=cL S c1 sy (β:=f x v) B.reverse x (λ i j ha=>S.sym _ _ (TT.path _ _ (by
   rw[e,cx,show B++(x::M++[y]++D)=B++x::(M++[y]++D) by simp];refine(jA _ x _ j i).mpr (.inl ?_);refine kGL (l:=B++[x]) (p:=i) (q:=j) ?_;rw[yo]
   exact ha))) (λ k H hc=>by
    have H:=yx.mp H;rcases dr.mp hc with r | r
    ·exact vA (r ▸ TT.sub k (by rw[e];exact cq _ (cq _ H)))
    ·exact d2.2.2 k H k r rfl) (λ ax a2=>by
     rw[eB,yo]at a2;cases a2
     exact key) z (yx.mpr C) w ew
  rw[this];exact bw _ _ a7
 refine⟨λ uc=>?_,λ z C Z=>?_⟩
 ·subst uc
  obtain⟨z,k1,k2,k3,f1,f2⟩:=qQ S g L;rw[k1]at bc;have bc:z=N:=bc;subst bc;have:=c1 b a z L k1;exact ba (this.symm.trans (up a (S.sym _ _ f1)))
 ·rcases cf.mp C with r | r
  ·exact left z r N (S.sym _ _ Z) (up z Z)
  ·exact right z r N (S.sym _ _ Z) (up z Z)
end
end Fc
namespace Tri
open Cyc Rnd
theorem mF{row:List Nat}:∀(R:List Nat)(x:Nat)(P rest:List Nat),(P++x::rest).Nodup->(P++x::R).Nodup->(∀ p q,Adj (x::R) p q->Nx (P++x::rest) p q)->∃ Q,rest=R++Q
 | [],x,P,rest,_,_,_=>⟨rest,rfl⟩
 | y::R,x,P,rest,nd,ndR,st=>by
  have h:=st x y (.inl ⟨rfl,rfl⟩)
  cases rest with
  | nil =>
   exfalso;have b:Nx ([x]++P) x y:=(jJ P [x] x y).mp h;have c:y∈P++[x]:=(kU h).2;rw[show P++x::y::R=(P++[x])++y::R by simp]at ndR;exact(de.mp ndR).2.2 y c y (by simp) rfl
  | cons y0 rest =>
   have b:Nx (P++x::y0::rest) x y0:=Fc.nx_mid P x y0 rest;have:=jT nd h b;subst this
   obtain⟨Q,e⟩:=mF (row:=row) R y (P++[x]) rest (by simpa using nd) (by simpa using ndR) (λ p q a=>by
    have:=st p q (.inr a);simpa using this)
   exact⟨Q,by rw[e];rfl⟩
section
variable {W:Rows}
def Bd.inn(S:Nb W){A T:List Nat}{a b:Nat}(h:Bd W A T a b)(g:a∈T)(has:∀ x∈A,∃ y∈A,E W x y){x y:Nat}(c:x∈A)(l:y∉A)(e:E W x y):x∈T:=by
 refine fb λ d=>l ?_;obtain⟨p,hp,f⟩:=has x c;obtain⟨r,q,nd,mem,pv⟩:=Fc.row_at S (S.e e).1;refine Fc.rot_to nd (P:=λ z=>z∈A) ((mem y).mpr e) ((mem p).mpr f) hp λ w v o _ j i=>?_;refine fb λ m=>d ?_;have n:=pv w v j;rcases h.all w x i c (S.sym _ _ ((mem w).mp o)) (by rw[n];exact m) with z | ⟨_,rfl⟩
 ·exact qi (qH z).2
 ·exact g
def jI{T:List Nat}{m:Nat}(h:m<T.length):T[m]?=some (T.getD m 0):=by rw[ak,aa h];rfl
theorem vK:∀{T:List Nat}{m:Nat},m+1<T.length->Adj T (T.getD m 0) (T.getD (m+1) 0)
 | [],_,h=>by simp at h
 | [_],_,h=>by simp at h
 | a::b::r,0,_=>.inl ⟨rfl,rfl⟩
 | a::b::r,m+1,h=>.inr (by
  have:=vK (T:=b::r) (m:=m) (by simpa using h);simpa using this)
theorem fN:∀{T:List Nat}{p q:Nat},Adj T p q->∃ m,m+1<T.length/\p=T.getD m 0/\q=T.getD (m+1) 0
 | [],_,_,h=>h.elim
 | [_],_,_,h=>h.elim
 | a::b::r,p,q,h=>by
  rcases h with⟨rfl,rfl⟩ | h
  ·exact⟨0,by simp,rfl,rfl⟩
  ·obtain⟨m,h1,d,c⟩:=fN (T:=b::r) h
   exact⟨m+1,by simpa using h1,by simpa using d,by simpa using c⟩
def aL(T:List Nat)(i k:Nat):List Nat:=(T.drop i).take (k+1-i)
def uM{T:List Nat}{i k:Nat}(h:i<=k)(a:k<T.length):(aL T i k).length=k+1-i:=by
 unfold aL;rw[dc,iR];omega
def yT{T:List Nat}{i k j:Nat}(h:i<=k)(b:k<T.length)(a:j<k+1-i):(aL T i k).getD j 0=T.getD (i+j) 0:=by
 unfold aL;rw[ak,DR,if_pos a,AE,ak]
def kBK{T:List Nat}{i k:Nat}(h:i<=k)(a:k<T.length):T=T.take i++aL T i k++T.drop (k+1):=by
 unfold aL;have e:T.drop (k+1)=(T.drop i).drop (k+1-i):=by rw[AU];congr 1;omega
 rw[e,cx,iB,iB]
def oT{T:List Nat}{i k:Nat}(h:i<k)(a:k<T.length):∃ M,aL T i k=T.getD i 0::M++[T.getD k 0]:=by
 have l:=uM (gh h) a;have d:=yT (j:=0) (gh h) a (by omega);have b:=yT (j:=k-i) (gh h) a (by omega);rw[show i+(k-i)=k by omega]at b;generalize aL T i k=L at l d b
 cases L with
 | nil=>simp at l;omega
 | cons x L =>
  have c:L≠[]:=λ z=>by rw[z]at l;simp at l;omega
  refine⟨L.dropLast,?_⟩;have f:x=T.getD i 0:=d
  have g:L.getLast c=T.getD k 0:=by
   rw[<-b,List.getLast_eq_getElem,ak];have m:L.length=k-i:=by simp at l;omega
   have:k-i=(L.length-1)+1:=by have:=wd.mpr c;omega
   rw[this,List.getElem?_cons_succ,aa]
   rfl
  rw[<-f,<-g,iq,eO]
def kMX{T:List Nat}{i k l:Nat}(h1:i<=l)(b:l<=k)(a:k<T.length):T.getD l 0∈aL T i k:=by
 have:=yT (T:=T) (i:=i) (k:=k) (j:=l-i) (by omega) a (by omega);rw[show i+(l-i)=l by omega]at this;rw[<-this];refine cv (jI ?_);rw[uM (by omega) a];omega
def kLQ{T:List Nat}{i k x:Nat}(h:i<=k)(a:k<T.length)(b:x∈aL T i k):∃ l,i<=l/\l<=k/\x=T.getD l 0:=by
 obtain⟨j,c,rfl⟩:=eY.mp b;have l:=uM h a;refine⟨i+j,by omega,by omega,?_⟩;rw[<-yT h a (by omega),ak,aa c]
 rfl
structure Nxt(W:Rows)(A:List Nat)(c v:Nat)(row R Q:List Nat):Prop where
 lt:v<W.length
 no:v∉A
 nc:v≠c
 er:W[v]?=some row
 ro:Ro row (R++Q)
 hR:∀ x∈R,x∈A
 hQ:∀ x∈Q,x∉A
 two:2<=R.length
 ne:Q≠[]
def lV{T:List Nat}(nd:T.Nodup){i j:Nat}(hi:i<T.length)(a:j<T.length)(e:T.getD i 0=T.getD j 0):i=j:=by
 have h1:=jI hi;have b:=jI a;rw[e,<-b]at h1;exact(yh hi nd).mp h1
def kUF(S:Nb W)(d:∀ t∈kN W,(nxt W (nxt W t)).2=t.1){A T:List Nat}{a b c:Nat}(h:Bd W A T a b)(TT:Top W A T)(bc:(nxt W (b,a)).2=c)(aT:a∈T)(has:∀ x∈A,∃ y∈A,E W x y)
  {u lo hi:Nat} (uA:u∉A) (uc:u≠c) (j:lo<hi) (g:hi<T.length) (U:∀ m,lo<=m->m<hi->(nxt W (T.getD m 0,T.getD (m+1) 0)).2=u) (only:∀ l,l<T.length->E W u (T.getD l 0)->lo<=l/\l<=hi):∃ v row R Q,Nxt W A c v row R Q:=by
 have C:∀ m,lo<=m->m<hi->R W u (T.getD m 0) (T.getD (m+1) 0):=λ m h1 Z=>by
  have e:=TT.path _ _ (vK (T:=T) (m:=m) (by omega));obtain⟨z,m1,m2,m3,O,e2⟩:=qQ S d e;have:=U m h1 Z;rw[m1]at this;have this:z=u:=this;subst this;obtain⟨q,r,n,_⟩:=vT S O;rw[m2]at n;cases n
  exact r
 obtain⟨row,i,G⟩:=C lo (be _) j;have nd:=S.nd _ _ i;have cl:=uM (T:=T) (gh j) g
 have s:(aL T lo hi).Nodup:=by
  have:=TT.nd;rw[kBK (gh j) g]at this;exact(de.mp (de.mp this).1).2.1
 have H:∀ p q,Adj (aL T lo hi) p q->Nx row p q:=λ p q ad=>by
  obtain⟨m,h1,rfl,rfl⟩:=fN ad;rw[yT (gh j) g (by omega),yT (gh j) g (by omega)];obtain⟨a1,o,B⟩:=C (lo+m) (by omega) (by omega);rw[i]at o
  cases o
  exact B
 obtain⟨M,L⟩:=oT j g;obtain⟨r1,Y,e0⟩:=xu (kU G).1;have f:Ro row ([]++T.getD lo 0::(Y++r1)):=⟨r1,T.getD lo 0::Y,e0,by simp⟩;obtain⟨Q,eQ⟩:=mF (row:=row) (M++[T.getD hi 0]) (T.getD lo 0) [] (Y++r1) (f.nd.mp nd) (by rw[L]at s;exact s) (λ p q ad=>(f.nx p q).mp (H p q (by rw[L];exact ad)))
 have D:Ro row (aL T lo hi++Q):=by
  rw[L];rw[eQ]at f;simpa using f
 have a0:=D.nd.mp nd;refine⟨u,row,aL T lo hi,Q,⟨(aj.mp i).1,uA,uc,i,D,λ x N=>?_,λ x N xA=>?_,by omega,λ z=>?_⟩⟩
 ·obtain⟨l,_,_,rfl⟩:=kLQ (gh j) g N
  exact TT.sub _ (cv (jI (by omega)))
 ·have eu:E W u x:=⟨row,i,(D.mem x).mpr (ck _ N)⟩
  have xT:=h.inn S aT has xA uA (S.sym _ _ eu);obtain⟨l,J,I⟩:=eY.mp xT;have I:x=T.getD l 0:=by rw[ak,aa J,<-I];rfl
  rw[I]at eu;obtain⟨o1,o2⟩:=only l J eu;exact(de.mp a0).2.2 x (by rw[I];exact kMX o1 o2 g) x N rfl
 ·rw[z,iW,L]at D
  have B:Nx row (T.getD hi 0) (T.getD lo 0):=(D.nx _ _).mpr ((nxP M _ _ _ _).mpr (.inr ⟨rfl,rfl⟩));obtain⟨t1,t2,X⟩:=mY S d (x:=u) ⟨row,i,B⟩
  have eh:E W (T.getD hi 0) (T.getD lo 0):=by
   obtain⟨z,_,m2,_,O,e2⟩:=qQ S d (x:=u) (y:=T.getD hi 0) ⟨row,i,(kU B).1⟩;rw[t1]at *;have:=O
   have q:z=T.getD lo 0:=by
    obtain⟨z',k1,_⟩:=qQ S d (x:=u) (y:=T.getD hi 0) ⟨row,i,(kU B).1⟩;exact fb λ _=>by simp_all
   exact q ▸ O
  have mem:∀ l,l<T.length->T.getD l 0∈A:=λ l J=>TT.sub _ (cv (jI J));rcases h.all _ _ (mem hi g) (mem lo (by omega)) eh (by rw[X];exact uA) with q | ⟨q1,q2⟩
  ·obtain⟨m,h1,Z,h3⟩:=fN q
   have i1:=lV TT.nd g (by omega) Z;have i2:=lV TT.nd (by omega) h1 h3;omega
  ·rw[q1,q2]at X
   rw[X]at bc;exact uc bc
def inT(G:Good W){A T:List Nat}{a b c v u i k m:Nat}(h:Bd W A T a b)(TT:Top W A T)(g:E W b a)(C:(nxt W (b,a)).2=c)(s:c∉A)(x:T.head?=some a)(lt:T.getLast?=some b)
  (f:i<k) (d:k<T.length) (B:v∉A) (y:v≠c) (ex:E W v (T.getD i 0)) (I:E W v (T.getD k 0)) (J:i<=m) (mk:m<k) (D:(nxt W (T.getD m 0,T.getD (m+1) 0)).2=u) (H:u≠v) :
  u≠c/\∀ l,l<T.length->E W u (T.getD l 0)->i<=l/\l<=k:=by
 obtain⟨M,o⟩:=oT f d;have e:=kBK (gh f) d
 have ad:Adj (T.getD i 0::M++[T.getD k 0]) (T.getD m 0) (T.getD (m+1) 0):=by
  have:=vK (T:=aL T i k) (m:=m-i) (by rw[uM (gh f) d];omega);rw[yT (gh f) d (by omega),yT (gh f) d (by omega),show i+(m-i)=m by omega,show i+(m-i+1)=m+1 by omega,o]at this;exact this
 rw[o]at e;obtain⟨h1,p⟩:=Fc.inside G h TT g C s x lt e B y ex I ad D H;refine⟨h1,λ l n j=>?_⟩;rcases iH l i with q | q
 ·refine absurd j (p _ (cq _ ?_))
  refine cv (i:=l) ?_;rw[DR,if_pos q];exact jI n
 ·rcases iH k l with r | r
  ·refine absurd j (p _ (ck _ ?_))
   refine cv (i:=l-(k+1)) ?_;rw[AE,show k+1+(l-(k+1))=l by omega];exact jI n
  ·exact⟨q,r⟩
def kPG{P:Nat->Prop}{t m:Nat}(x:P m)(mt:m+1<t)(i:P (m+1)):∃ lo hi,lo<=m/\m+1<=hi/\hi<t/\P lo/\P hi/\∀ l,l<t->P l->lo<=l/\l<=hi:=by
 have low:∀ n,n<=m->(∃ l,l<=n/\P l)->∃ lo,lo<=n/\P lo/\∀ l,P l->lo<=l:=by
  intro n
  induction n with
  | zero =>
   rintro _ ⟨l,h1,a⟩;exact⟨0,be _,(by rw[show 0=l by omega];exact a),λ l _=>gy _⟩
  | succ n ih =>
   rintro j ⟨l,h1,a⟩;by_cases c:∃ l,l<=n/\P l
   ·obtain⟨lo,g,h,f⟩:=ih (by omega) c
    exact⟨lo,by omega,h,f⟩
   ·have:l=n+1:=by
     rcases iH l (n+1) with q | q
     ·exact absurd ⟨l,by omega,a⟩ c
     ·omega
    refine⟨n+1,be _,this ▸ a,λ b o=>?_⟩;rcases iH b (n+1) with q | q
    ·exact absurd ⟨b,by omega,o⟩ c
    ·exact q
 have high:∀ d n,n+d+1=t->(∃ l,n<=l/\l<t/\P l)->∃ hi,n<=hi/\hi<t/\P hi/\∀ l,l<t->P l->l<=hi:=by
  intro d
  induction d with
  | zero =>
   rintro n j ⟨l,h1,a,g⟩;exact⟨l,h1,a,g,λ b o _=>by omega⟩
  | succ d ih =>
   rintro n j ⟨l,h1,a,g⟩;by_cases c:∃ l,n+1<=l/\l<t/\P l
   ·obtain⟨hi,h,f,B,y⟩:=ih (n+1) (by omega) c
    exact⟨hi,by omega,f,B,y⟩
   ·refine⟨l,h1,a,g,λ b h f=>?_⟩
    rcases iH l b with q | q
    ·exact absurd ⟨b,by omega,h,f⟩ c
    ·exact q
 obtain⟨lo,C,A,u⟩:=low m (be _) ⟨m,be _,x⟩;obtain⟨hi,s,r,v,p⟩:=high (t-m-2) (m+1) (by omega) ⟨m+1,be _,mt,i⟩;exact⟨lo,hi,C,s,r,A,v,λ l h1 a=>⟨u l a,p l h1 a⟩⟩
def kHE(G:Good W){A T:List Nat}{a b c:Nat}(h:Bd W A T a b)(TT:Top W A T)(B:E W b a)(bc:(nxt W (b,a)).2=c)(cA:c∉A)(hd:T.head?=some a)(lt:T.getLast?=some b)
  (has:∀ x∈A,∃ y∈A,E W x y) {z:Nat} (zl:z<W.length) (zA:z∉A) (zc:z≠c):∃ v row R Q,Nxt W A c v row R Q:=by
 have S:=(Wb.of G).toNb;have d:=(jS G).1;have aT:a∈T:=Dz hd;have bT:b∈T:=vg lt;have ab:a≠b:=λ q=>(S.e B).2.2 q;have mem:∀ l,l<T.length->T.getD l 0∈A:=λ l H=>TT.sub _ (cv (jI H));have C:∀ m,m+1<T.length->Adj T (T.getD m 0) (T.getD (m+1) 0):=λ m D=>vK D
 have a0:∀ m u,m+1<T.length->(nxt W (T.getD m 0,T.getD (m+1) 0)).2=u->u∉A/\E W u (T.getD m 0)/\E W u (T.getD (m+1) 0):=λ m u D e=>by
  obtain⟨z,m1,m2,m3,e1,e2⟩:=qQ S d (TT.path _ _ (C m D));have up:=h.up _ _ (C m D);rw[m1]at e up;have e:z=u:=e;subst e;exact⟨up,e2,S.sym _ _ e1⟩
 refine fb λ no=>?_
 have a4:∀ m u,m+1<T.length->(nxt W (T.getD m 0,T.getD (m+1) 0)).2=u->u≠c->(∀ l,E W u (T.getD l 0)->l<m->∀ g,l<=g->g<m->(nxt W (T.getD g 0,T.getD (g+1) 0)).2=u)->(∀ l,l<T.length->E W u (T.getD l 0)->m+1<l->∀ g,m+1<=g->g<l->(nxt W (T.getD g 0,T.getD (g+1) 0)).2=u)->False:=λ m u D eu N a2 a8=>by
  obtain⟨uA,X,Y⟩:=a0 m u D eu;obtain⟨lo,hi,l1,l2,l3,l4,l5,l6⟩:=kPG (P:=λ l=>E W u (T.getD l 0)) X D Y;refine no (kUF S d h TT bc aT has uA N (lo:=lo) (hi:=hi) (by omega) l3 (λ g O M=>?_) l6);rcases yg g m with r | r | r
  ·exact a2 lo l4 (by omega) g O r
  ·rw[r];exact eu
  ·exact a8 hi l3 l5 (by omega) g (by omega) M
 have s:∀ n v i k,k-i=n->i<k->k<T.length->v∉A->v≠c->E W v (T.getD i 0)->E W v (T.getD k 0)->∀ m,i<=m->m<k->(nxt W (T.getD m 0,T.getD (m+1) 0)).2=v:=by
  intro n
  induction n using BF with
  | _ n ih =>
   intro v i k en ik kt vA vc ex ey m im mk;refine fb λ ne=>?_;obtain⟨uA,X,Y⟩:=a0 m _ (by omega) rfl;obtain⟨N,on⟩:=inT G h TT B bc cA hd lt ik kt vA vc ex ey im mk rfl ne;refine a4 m _ (by omega) rfl N (λ l j Z g O M=>?_) (λ l H j Z g O M=>?_)
   ·have:=on l (by omega) j
    exact ih (m-l) (by omega) _ l m rfl Z (by omega) uA N j X g O M
   ·have:=on l H j
    exact ih (l-(m+1)) (by omega) _ (m+1) l rfl Z H uA N Y j g O M
 have U:∀ m,m+1<T.length->(nxt W (T.getD m 0,T.getD (m+1) 0)).2=c:=λ m D=>by
  refine fb λ N=>?_;obtain⟨uA,X,Y⟩:=a0 m _ D rfl;refine a4 m _ D rfl N (λ l j Z g O M=>?_) (λ l H j Z g O M=>?_)
  ·exact s _ _ l m rfl Z (by omega) uA N j X g O M
  ·exact s _ _ (m+1) l rfl Z H uA N Y j g O M
 obtain⟨cz,k1,k2,k3,f1,f2⟩:=qQ S d B;have ah:=bc;rw[k1]at bc;have bc:cz=c:=bc
 subst bc
 have cT:∀ x,E W cz x->x∈T:=λ x ex=>by
  obtain⟨r,er,nd,mm,pv⟩:=Fc.row_at S (S.e ex).1;refine Fc.rot_to nd (P:=λ z=>z∈T) ((mm x).mpr ex) ((mm a).mpr (S.sym _ _ f1)) aT λ w v hw _ hv wT=>?_;have n:=pv w v hv;obtain⟨l,H,j⟩:=eY.mp wT;have j:w=T.getD l 0:=by rw[ak,aa H,<-j];rfl
  cases l with
  | zero =>
   have wa:w=a:=by
    rw[j,ak,<-List.head?_eq_getElem?,hd];rfl
   rw[wa,k2]at n;cases n
   exact bT
  | succ l =>
   obtain⟨z',m1,m2,m3,e1,e2⟩:=qQ S d (TT.path _ _ (C l H));have:=U l H;rw[m1]at this;have this:z'=cz:=this;subst this;rw[j,m2]at n;cases n
   exact cv (jI (by omega))
 have tc:∀ x y,x∈T->E W x y->y∈A\/y=cz:=λ x y hx e=>by
  obtain⟨u,X⟩:=kQD hx;obtain⟨w,Y⟩:=cH hx;obtain⟨row,a5,f,er,ro,a7,af,hh,ht⟩:=h.row S d TT B (by rw[k1]) cA hd lt X Y;obtain⟨ag,a3,my⟩:=e;rw[er]at a3
  cases a3
  rcases cf.mp ((ro.mem y).mp my) with q | q
  ·exact .inl (a7 y q)
  ·right
   have ac:(a5++f).Nodup:=ro.nd.mp (S.nd _ _ er)
   have th:∀ p q,Nx T p q->nxt W (p,q)=(q,cz):=λ p q hn=>by
    have:Adj T p q\/(p=b/\q=a):=by
     obtain⟨I,rfl⟩:=Fc.head_split hd
     cases I with
     | nil =>
      cases lt
      exact absurd rfl ab
     | cons y I =>
      obtain⟨J,e⟩:=Fc.last_split (l:=y::I) (x:=b) (by rw[oz]at lt;exact lt);rw[e]at hn ⊢;exact(nxP J a b p q).mp hn
    rcases this with z | ⟨rfl,rfl⟩
    ·obtain⟨m,h1,rfl,rfl⟩:=fN z
     exact wj rfl (U m h1)
    ·exact k1
   obtain⟨I,eI⟩:=Fc.last_split ht;obtain⟨J,eJ⟩:=Fc.head_split hh
   cases f with
   | nil=>cases q
   | cons o f =>
    have hn:Nx row w o:=(ro.nx _ _).mpr (by
     rw[eI,cx];exact Fc.nx_mid I w o f)
    obtain⟨t1,t2,t3⟩:=mY S d (x:=x) ⟨row,er,hn⟩;have t4:=th x w Y;rw[t1]at t4;have oc:o=cz:=congrArg Av t4;subst oc;obtain⟨L,lst,eL⟩ : ∃ L lst,o::f=L++[lst]:=⟨(o::f).dropLast,(o::f).getLast (yk _ _),(eO _).symm⟩
    have a9:Nx row lst u:=(ro.nx _ _).mpr (by
     rw[eL,eJ];refine(jJ _ _ _ _).mpr ?_;rw[cx];exact Fc.nx_mid L lst u J)
    obtain⟨am,a6,al⟩:=mY S d (x:=x) ⟨row,er,a9⟩;have t5:=th u x X;rw[a6]at t5;have lc:lst=o:=congrArg Av t5;subst lc
    cases L with
    | nil =>
     rw[eL]at q;exact bu.mp q
    | cons l0 L =>
     have e0:lst=l0:=(Fn eL).1;have nd3:=(de.mp ac).2.1;rw[eL,<-e0,iq,gk]at nd3;exact absurd (by simp) nd3.1
 have a1:∀ x,Reach W a x->x∈A\/x=cz:=λ x r=>by
  induction r with
  | here=>exact .inl (TT.sub a aT)
  | more _ e ih =>
   rename_i p q _
   rcases ih with r | r
   ·by_cases qA:q∈A
    ·exact .inl qA
    ·exact tc p q (h.inn S aT has r qA e) e
   ·rw[r]at e
    exact .inl (TT.sub q (cT q e))
 rcases a1 z ((Reach.symm S.sym (G.con a (S.e B).2.1)).trans (G.con z zl)) with q | q
 ·exact zA q
 ·exact zc q
end
structure OI(W:Rows)(a b c:Nat)(O:List Nat)(Fs Ts:List (List Nat)):Prop where
 go:goF W O (O.length-2)=some (Fs,Ts)
 two:2<=O.length
 e2:O.take 2=[a,b]
 nd:O.Nodup
 nc:c∉O
 lt:∀ x∈O,x<W.length
section
variable {W:Rows} {a b c:Nat}
def kBF{x y:Nat}(h:y∈W.getD x []):E W x y:=by
 rw[ak]at h
 cases w:W[x]? with
 | none=>rw[w]at h;cases h
 | some row=>rw[w]at h;exact⟨row,w,h⟩
def OI.start(S:Nb W)(d:E W a b)(g:c≠a)(h:c≠b):OI W a b c [a,b] [] [[a,b]]:=by
 have:=S.e d;refine⟨rfl,by simp,rfl,by simp;exact λ q=>this.2.2 q.symm,by simp[g,h],λ x f=>?_⟩;simp at f;rcases f with rfl | rfl
 ·exact this.1
 ·exact this.2.1
def OI.full{O:List Nat}{Fs Ts:List (List Nat)}(I:OI W a b c O Fs Ts):O.take (O.length-2+2)=O:=by
 rw[ud I.two,iG]
def OI.top(S:Nb W)(d:E W a b){O:List Nat}{Fs Ts:List (List Nat)}(I:OI W a b c O Fs Ts):Top W O (Ts.getLastD []):=by
 have:=uS I.nd S.sym (by rw[I.e2];exact vR S d) (by have:=I.two;omega) I.go;rwa[I.full]at this
def OI.bd(S:Nb W)(d:∀ t∈kN W,(nxt W (nxt W t)).2=t.1)(f:E W a b)(g:(nxt W (b,a)).2=c){O:List Nat}{Fs Ts:List (List Nat)}(I:OI W a b c O Fs Ts):Bd W O (Ts.getLastD []) a b:=by
 have:=kSJ S d I.nd I.e2 f g I.nc (by have:=I.two;omega) I.go;rwa[I.full]at this
def kFU(S:Nb W)(c:E W a b){ms:List Nat}(n:ms.Nodup)(u:ms.take 2=[a,b]):∀{i:Nat}{fs ts:List (List Nat)},i+2<=ms.length->goF W ms i=some (fs,ts)->((ts.getLastD []).head?=some a/\(ts.getLastD []).getLast?=some b)/\∀ x∈ms.take (i+2),∃ y∈ms.take (i+2),E W x y:=by
 have h0:Top W (ms.take 2) (ms.take 2):=by rw[u];exact vR S c
 intro i
 induction i with
 | zero =>
  intro fs ts _ h;unfold goF at h;have h:=bh h;injection h with h1 h2
  rw[<-h2];show(((ms.take 2)).head?=_/\((ms.take 2)).getLast?=_)/\∀ x∈ms.take 2,∃ y∈ms.take 2,E W x y;rw[u];refine⟨⟨rfl,rfl⟩,λ x m=>?_⟩;simp at m;rcases m with rfl | rfl
  ·exact⟨b,by simp,c⟩
  ·exact⟨a,by simp,S.sym _ _ c⟩
 | succ i ih =>
  intro fs ts L h;obtain⟨J,O,e⟩:=vF (i:=i) (j:=1) h;obtain⟨st,z,Q,v⟩:=zO e h;have TT:=uS n S.sym h0 (by omega) e;obtain⟨⟨o,g⟩,G⟩:=ih (by omega) e;have A:ms[i+2]?=some (ms.getD (i+2) 0):=by rw[ak,aa (by omega)];rfl
  have H:ms.take (i+1+2)=ms.take (i+2)++[ms.getD (i+2) 0]:=by rw[iw,A];rfl
  obtain⟨B,f,M,l,C,p,s,mem,N⟩:=uP TT.nd z
  have d:ts.getLastD []=B++[f,ms.getD (i+2) 0,l]++C:=by
   rw[v,bH,p];exact fI s TT.nd
  rw[d,H];rw[s]at o g;refine⟨⟨?_,?_⟩,λ x m=>?_⟩
  ·cases B with
   | nil=>exact o
   | cons b0 B=>exact o
  ·cases C with
   | nil =>
    simp only[iW,iZ]at g ⊢;simpa using g
   | cons c0 C =>
    rw[iZ]at g ⊢;rw[eW (yk c0 C)]at g ⊢;exact g
  ·rcases cf.mp m with q | q
   ·obtain⟨y,D,I⟩:=G x q
    exact⟨y,cq _ D,I⟩
   ·have r:=(mem f).mp (by rw[p];simp)
    refine⟨f,cq _ r.1,?_⟩;rw[bu.mp q];exact kBF r.2
def OI.next(G:Good W)(d:E W a b)(g:(nxt W (b,a)).2=c){O:List Nat}{Fs Ts:List (List Nat)}(I:OI W a b c O Fs Ts)(more:O.length+1<W.length):∃ v row R Q,Nxt W O c v row R Q:=by
 have S:=(Wb.of G).toNb;have f:=(jS G).1;obtain⟨⟨h1,i⟩,h⟩:=kFU S d I.nd I.e2 (by have:=I.two;omega) I.go;rw[I.full]at h
 obtain⟨z,j,m,l⟩ : ∃ z,z<W.length/\z∉O/\z≠c:=by
  refine fb λ o=>?_
  have:=fc (uy (n:=W.length)) (l₂:=c::O) λ x p=>by
   refine fb λ nx=>o ⟨x,jo.mp p,λ q=>nx (eC _ q),λ q=>nx (q ▸ eZ ..)⟩
  rw[iI,gn]at this;omega
 exact kHE G (I.bd S f d g) (I.top S d) (S.sym _ _ d) g I.nc h1 i h j m l
def OI.more(S:Nb W)(d:∀ t∈kN W,(nxt W (nxt W t)).2=t.1)(f:E W a b)(h:(nxt W (b,a)).2=c){O R Q row:List Nat}{v:Nat}{Fs Ts:List (List Nat)}(I:OI W a b c O Fs Ts)(N:Nxt W O c v row R Q) :
  ∃ Ts',OI W a b c (O++[v]) (Fs++[R]) Ts':=by
 have st:=kQY S d (I.bd S d f h) (I.top S f) I.nd h N.nc N.no N.er N.ro N.hR N.hQ N.two;have two:=I.two
 have i:goF W (O++[v]) (O.length-2)=some (Fs,Ts):=by
  rw[<-I.go];refine lN ?_;rw[ud two,iG,xi rfl]
 have l:=lU (st:=R) i (by
  rw[ud two,xi rfl,ak,di];exact st)
 refine⟨Ts++[poF (Ts.getLastD []) R ((O++[v]).getD (O.length-2+2) 0)],⟨?_,by rw[bq];omega,by rw[sd two];exact I.e2,?_,?_,λ x g=>?_⟩⟩
 ·rw[bq,fk,show O.length+1-2=O.length-2+1 by omega]
  exact l
 ·exact de.mpr ⟨I.nd,by simp,λ x g y j z=>N.no (by rw[<-bu.mp j,<-z];exact g)⟩
 ·intro q
  rcases cf.mp q with q | q
  ·exact I.nc q
  ·exact N.nc (bu.mp q).symm
 ·rcases cf.mp g with q | q
  ·exact I.lt x q
  ·rw[bu.mp q];exact N.lt
def OI.last(G:Good W)(s:E W a b)(H:(nxt W (b,a)).2=c){O:List Nat}{Fs Ts:List (List Nat)}(I:OI W a b c O Fs Ts)(full:O.length+1=W.length) :
  ∃ row Ts',W[c]?=some row/\Ro row (Ts.getLastD [])/\(Ts.getLastD []).head?=some a/\zN W a b c (O++[c])=some (Fs++[Ts.getLastD []],Ts')/\(O++[c]).Perm (cw W.length):=by
 have S:=(Wb.of G).toNb;have g:=(jS G).1;have TT:=I.top S s;have h:=I.bd S g s H;obtain⟨⟨o,lt⟩,has⟩:=kFU S s I.nd I.e2 (by have:=I.two;omega) I.go;rw[I.full]at has;have two:=I.two;obtain⟨f,k1,k2,k3,f1,f2⟩:=qQ S g (S.sym _ _ s);rw[k1]at H;have H:f=c:=H;subst H;have cl:f<W.length:=(S.e f2).1
 have pm:(O++[f]).Perm (cw W.length):=by
  have nd:(O++[f]).Nodup:=de.mpr ⟨I.nd,by simp,λ x u y hy z=>I.nc (by rw[<-bu.mp hy,<-z];exact u)⟩
  have sub:∀ x∈O++[f],x∈cw W.length:=λ x u=>by
   rcases cf.mp u with q | q
   ·exact jo.mpr (I.lt x q)
   ·rw[bu.mp q];exact jo.mpr cl
  refine(uf nd uy).mpr λ x=>⟨sub x,λ u=>fb λ N=>?_⟩
  have:=fc (gk.mpr ⟨N,nd⟩) (l₂:=cw W.length) λ y hy=>by
   rcases dr.mp hy with q | q
   ·rw[q];exact u
   ·exact sub y q
  rw[gn,bq,fk,iI]at this;omega
 have only:∀ x,x<W.length->x∉O->x=f:=λ x u N=>by
  have:=pm.mem_iff.mpr (jo.mpr u);rcases cf.mp this with q | q
  ·exact absurd q N
  ·exact bu.mp q
 generalize hT:Ts.getLastD []=T at *;have aT:a∈T:=Dz o;have bT:b∈T:=vg lt;have L:b≠a:=(S.e s).2.2
 have lT:2<=T.length:=by
  match T,o,lt with
  | [],o,_=>cases o
  | [x],o,lt =>
   cases o
   cases lt
   exact absurd rfl L
  | _::_::_,_,_=>simp
 have U:∀ p q,Adj T p q->nxt W (p,q)=(q,f)/\R W f p q:=λ p q ad=>by
  obtain⟨z,m1,m2,m3,e1,A⟩:=qQ S g (TT.path _ _ ad);have up:=h.up p q ad;rw[m1]at up;have:=only z (S.e e1).2.1 up;subst this;obtain⟨y,r,n,_⟩:=vT S e1;rw[m2]at n;cases n
  exact⟨m1,r⟩
 obtain⟨row,D,ma⟩:=S.sym _ _ f1;have nd:=S.nd _ _ D
 have mem:∀ x,x∈row↔x∈T:=λ x=>by
  constructor
  ·intro u
   have ex:E W f x:=⟨row,D,u⟩;have xl:=S.e ex;have xO:x∈O:=fb λ N=>xl.2.2 (only x xl.2.1 N);exact h.inn S aT has xO I.nc (S.sym _ _ ex)
  ·intro u
   obtain⟨l,hl,Y⟩:=eY.mp u;have Y:x=T.getD l 0:=by rw[ak,aa hl,<-Y];rfl
   have:∃ p q,R W f p q/\(x=p\/x=q):=by
    rcases iH (l+1) T.length with q | q
    ·exact⟨_,_,(U _ _ (vK q)).2,.inl Y⟩
    ·have:=vK (T:=T) (m:=l-1) (by omega)
     rw[show l-1+1=l by omega]at this;exact⟨_,_,(U _ _ this).2,.inr Y⟩
   obtain⟨p,q,⟨v,d,hn⟩,hp⟩:=this;rw[D]at d
   cases d
   rcases hp with rfl | rfl
   ·exact(kU hn).1
   ·exact(kU hn).2
 have X:∀ p q,Adj T p q->Nx row p q:=λ p q ad=>by
  obtain⟨v,d,hn⟩:=(U p q ad).2;rw[D]at d
  cases d
  exact hn
 obtain⟨I',Z⟩:=Fc.head_split o;obtain⟨r1,r2,e0⟩:=xu ma;have i:Ro row ([]++a::(r2++r1)):=⟨r1,a::r2,e0,by simp⟩;obtain⟨Q,eQ⟩:=mF (row:=row) I' a [] (r2++r1) (i.nd.mp nd) (by have:=TT.nd;rw[Z]at this;exact this) (λ p q ad=>(i.nx p q).mp (X p q (by rw[Z];exact ad)))
 have Q0:Q=[]:=by
  cases Q with
  | nil=>rfl
  | cons q Q =>
   exfalso;have nd2:=i.nd.mp nd;rw[eQ,kq,show a::(I'++q::Q)=(a::I')++q::Q from rfl,<-Z]at nd2;have qr:q∈row:=(i.mem q).mpr (by rw[eQ];simp);exact(de.mp nd2).2.2 q ((mem q).mp qr) q (by simp) rfl
 have ro:Ro row T:=by
  rw[eQ,Q0,iW,kq,<-Z]at i;exact i
 obtain⟨M,eM⟩ : ∃ M,T=a::M++[b]:=by
  obtain⟨J,eJ⟩:=Fc.last_split lt;rw[eJ]at o
  cases J with
  | nil=>cases o;exact absurd rfl L
  | cons j J =>
   cases o
   exact⟨J,eJ⟩
 have st:stF W T O f=some (a::M++[b]):=tH (B:=[]) (C:=[]) TT.nd I.nd (by rw[eM];simp) TT.sub (λ q=>by
   rw[<-eM];constructor
   ·intro hq
    refine⟨TT.sub q hq,Fc.mem_row ⟨row,D,(mem q).mpr hq⟩⟩
   ·rintro⟨_,hq⟩
    obtain⟨v,d,hr⟩:=kBF hq;rw[D]at d
    cases d
    exact(mem q).mp hr) (λ t ht=>by
   rw[<-eM]at ht;rw[(U t.1 t.2 (aN (a:=t.1) (b:=t.2) ht)).1])
 rw[<-eM]at st
 have go:goF W (O++[f]) (O.length-2)=some (Fs,Ts):=by
  rw[<-I.go];refine lN ?_;rw[ud two,iG,xi rfl]
 have on:=lU (st:=T) go (by
  rw[ud two,xi rfl,ak,di,hT];exact st)
 suffices e:zN W a b f (O++[f])=some (Fs++[T],Ts++[poF (Ts.getLastD []) T ((O++[f]).getD (O.length-2+2) 0)]) from⟨row,_,D,ro,o,e,pm⟩
 unfold zN
 have g0:(O++[f])[0]?=some a/\(O++[f])[1]?=some b:=by
  have A:=I.e2
  match O,two,A with
  | x::y::r,_,A =>
   simp at A;exact⟨by rw[A.1];rfl,by rw[A.2];rfl⟩
 rw[if_pos ⟨g0.1,g0.2,by simp⟩,bq,fk,show O.length+1-2=O.length-2+1 by omega];exact on
def zE(row A:List Nat):List Nat:=(cw row.length).filter λ k=>decide (row.getD k 0∈A) && !decide ((if k=0 then row.getLastD 0 else row.getD (k-1) 0)∈A)
def vO(row A:List Nat):List Nat:=if(zE row A).length≠1 then[] else(row.drop ((zE row A).headD 0)++row.take ((zE row A).headD 0)).filter λ q=>decide (q∈A)
def mem_begs{row A:List Nat}{k:Nat}:k∈zE row A↔k<row.length/\row.getD k 0∈A/\(if k=0 then row.getLastD 0 else row.getD (k-1) 0)∉A:=by
 unfold zE;simp
def rL{row:List Nat}{k:Nat}(h:k<row.length):Nx row (if k=0 then row.getLastD 0 else row.getD (k-1) 0) (row.getD k 0):=by
 by_cases c:k=0
 ·rw[if_pos c,c]
  have a:row≠[]:=λ z=>by rw[z]at h;simp at h
  obtain⟨J,l,e⟩ : ∃ J l,row=J++[l]:=⟨row.dropLast,row.getLast a,(eO a).symm⟩;rw[e];have b:(J++[l]).getLastD 0=l:=by rw[ji,iZ];rfl
  rw[b];refine(jJ [l] J _ _).mp ?_
  cases J with
  | nil=>exact .inl ⟨rfl,rfl⟩
  | cons j J=>exact yQ (.inl ⟨rfl,rfl⟩)
 ·rw[if_neg c]
  have:=vK (T:=row) (m:=k-1) (by omega);rw[show k-1+1=k by omega]at this;exact yQ this
theorem kFJ{P:Nat->Prop}:∀{l:List Nat},(∀ x y,Adj l x y->¬ P x->¬ P y)->∃ R Q,l=R++Q/\(∀ x∈R,P x)/\∀ x∈Q,¬ P x
 | [],_=>⟨[],[],rfl,(λ _ h=>by cases h),(λ _ h=>by cases h)⟩
 | [x],_=>by
  by_cases c:P x
  ·exact⟨[x],[],rfl,λ y d=>by rw[bu.mp d];exact c,λ _ h=>by cases h⟩
  ·exact⟨[],[x],rfl,(λ _ h=>by cases h),λ y d=>by rw[bu.mp d];exact c⟩
 | x::y::l,st=>by
  obtain⟨R,Q,e,h1,f⟩:=kFJ (l:=y::l) λ p q a=>st p q (.inr a);by_cases c:P x
  ·exact⟨x::R,Q,by rw[e];rfl,λ z b=>by
    rcases dr.mp b with rfl | b
    ·exact c
    ·exact h1 z b,f⟩
  ·have g:=st x y (.inl ⟨rfl,rfl⟩) c
   cases R with
   | cons r R =>
    have:y=r:=(Fn e).1;exact absurd (h1 r (by simp)) (this ▸ g)
   | nil=>exact⟨[],x::Q,by rw[e];rfl,(λ _ h=>by cases h),λ z b=>by
     rcases dr.mp b with rfl | b
     ·exact c
     ·exact f z b⟩
def kBC{A R Q:List Nat}(h1:∀ x∈R,x∈A)(b:∀ x∈Q,x∉A):(R++Q).filter (λ q=>decide (q∈A))=R:=by
 rw[so,DE.mpr λ x a=>by simpa using h1 x a,AY.mpr λ x a=>by simpa using b x a,iW]
def kCO{row A:List Nat}(nd:row.Nodup)(h:1<(vO row A).length):∃ Q,Ro row (vO row A++Q)/\(∀ x∈vO row A,x∈A)/\(∀ x∈Q,x∉A)/\Q≠[]:=by
 unfold vO at h ⊢;by_cases c:(zE row A).length≠1
 ·rw[if_pos c]at h
  simp at h
 rw[if_neg c]at h ⊢;obtain⟨k,m⟩ : ∃ k,zE row A=[k]:=Ca.mp (Classical.not_not.mp c);have f:=mem_begs.mp (by rw[m];exact bu.mpr rfl:k∈zE row A);rw[m]at h ⊢;show ∃ Q,Ro row ((row.drop k++row.take k).filter _++Q)/\(∀ x∈(row.drop k++row.take k).filter _,_)/\_;have a:Ro row (row.drop k++row.take k):=⟨row.take k,row.drop k,(iB k row).symm,rfl⟩;have nd2:=a.nd.mp nd
 obtain⟨q,g⟩ : ∃ q,row.drop k++row.take k=row.getD k 0::q:=by
  have b:=f.1;clear f h;rw[yz b];refine⟨row.drop (k+1)++row.take k,?_⟩
  have:row.getD k 0=row[k]:=by
   rw[ak,aa b]
   rfl
  rw[this]
  rfl
 have l:∀ x y,Adj (row.drop k++row.take k) x y->¬ x∈A->¬ y∈A:=λ x y ad u s=>by
  have n:Nx row x y:=(a.nx x y).mpr (yQ ad);obtain⟨j,i,d⟩:=eY.mp (kU n).2;have d:y=row.getD j 0:=by rw[ak,aa i,<-d];rfl
  have p:=rL i;rw[<-d]at p;have v:=yE nd n p;have:j∈zE row A:=mem_begs.mpr ⟨i,by rw[<-d];exact s,by rw[<-v];exact u⟩;rw[m]at this;have:j=k:=bu.mp this;subst this;have t:=(qH ad).2;rw[g]at t nd2;rw[gk]at nd2;exact nd2.1 (d ▸ t)
 obtain⟨R,Q,e,h1,o⟩:=kFJ (P:=λ z=>z∈A) l;rw[e,kBC (A:=A) h1 o];rw[e]at a;refine⟨Q,a,h1,o,λ z=>?_⟩;have r:=kU (rL f.1);have:=(a.mem _).mp r.1;rw[z,iW]at this;exact f.2.2 (h1 _ this)
def kKQ{row A R Q:List Nat}(nd:row.Nodup)(i:Ro row (R++Q))(h1:∀ x∈R,x∈A)(o:∀ x∈Q,x∉A)(I:R≠[])(v:Q≠[]):(vO row A).length=R.length:=by
 have nd2:=i.nd.mp nd
 obtain⟨x,b,rfl⟩ : ∃ x b,R=x::b:=by
  cases R with
  | nil=>exact absurd rfl I
  | cons x R=>exact⟨x,R,rfl⟩
 obtain⟨c,y,rfl⟩ : ∃ c y,Q=c++[y]:=⟨Q.dropLast,Q.getLast v,(eO v).symm⟩;have s:Nx row y x:=(i.nx y x).mpr ((jJ [y] (x::b++c) _ _).mp (by exact yQ (.inl ⟨rfl,rfl⟩)) |> λ h=>by simpa using h)
 have key:∀ k,k∈zE row A↔k=row.idxOf x:=λ k=>by
  have G:x∈row:=(kU s).2;have g:row.idxOf x<row.length:=gw G;have n:row.getD (row.idxOf x) 0=x:=by rw[ak,aa g,Bf];rfl
  rw[mem_begs];constructor
  ·rintro⟨u,j,D⟩
   have f:=rL u;have d:=(i.nx _ _).mp f
   have L:row.getD k 0=x:=by
    refine fb λ C=>D ?_;have m:=(kU d).2
    have inR:row.getD k 0∈x::b:=by
     rcases cf.mp m with q | q
     ·exact q
     ·exact absurd j (o _ q)
    have inT:row.getD k 0∈(x::b).tail:=by
     rcases dr.mp inR with q | q
     ·exact absurd q C
     ·exact q
    obtain⟨p,hp⟩:=bY (l:=x::b) inT;have:=yE nd2 d (Fc.adj_nx (c++[y]) hp);rw[this];exact h1 p (qH hp).1
   exact lV nd u g (by rw[L,n])
  ·rintro rfl
   refine⟨g,by rw[n];exact h1 x (by simp),?_⟩;have f:=rL g;rw[n]at f;rw[yE nd f s];exact o y (by simp)
 have J:(zE row A).length=1:=by
  have a:(zE row A).Nodup:=uy.filter _;have B:zE row A≠[]:=λ z=>by have:=(key (row.idxOf x)).mpr rfl;rw[z]at this;cases this
  match hb:zE row A,a,B with
  | [k],_,_=>rfl
  | k::j::r,a,_ =>
   have M:=(key k).mp (by rw[hb];simp);have H:=(key j).mp (by rw[hb];simp);rw[gk]at a;exact absurd (by rw[M,H];simp) a.1
 unfold vO;rw[if_neg (by rw[J];simp)];generalize(zE row A).headD 0=k;have p1:(row.drop k++row.take k).Perm ((x::b)++(c++[y])):=(Ro.perm ⟨row.take k,row.drop k,(iB k row).symm,rfl⟩ : row.Perm (row.drop k++row.take k)).symm.trans i.perm;have:=(p1.filter λ q=>decide (q∈A)).length_eq;rw[this,kBC h1 o]
end
abbrev Sps:=List (Nat×Int×Int)
def jW(s:Nat×Int×Int)(r:Sps)(p:Nat):atS (s::r) p=if s.1=p then s.2 else atS r p:=by
 unfold atS;rw[uo];by_cases e:s.1=p
 ·rw[if_pos e,show(s.1 == p)=true by simp[e]]
  rfl
 ·rw[if_neg e,show(s.1 == p)=false by simp[e]]
def dN{G:List Nat}{b:Int}{p:Nat}:∀{S:Sps},p∈S.map (·.1)->atS (mvS S G b) p=if p∈G then((atS S p).1+b,(atS S p).2) else atS S p:=by
 intro S
 induction S with
 | nil=>intro h;simp at h
 | cons s r ih =>
  intro h;have e:mvS (s::r) G b=(if s.1∈G then(s.1,s.2.1+b,s.2.2) else s)::mvS r G b:=rfl;rw[e,jW,jW];have a:(if s.1∈G then(s.1,s.2.1+b,s.2.2) else s:Nat×Int×Int).1=s.1:=by split<;>rfl
  rw[a];by_cases c:s.1=p
  ·rw[if_pos c,if_pos c,<-c]
   split<;>rfl
  ·rw[if_neg c,if_neg c]
   refine ih ?_;rw[gv]at h;rcases dr.mp h with q | q
   ·exact absurd q.symm c
   ·exact q
def cR{R:Sps}{p:Nat}:∀{S:Sps},p∈S.map (·.1)->atS (S++R) p=atS S p:=by
 intro S
 induction S with
 | nil=>intro h;simp at h
 | cons s r ih =>
  intro h;rw[iq,jW,jW];by_cases c:s.1=p
  ·rw[if_pos c,if_pos c]
  ·rw[if_neg c,if_neg c]
   refine ih ?_;rw[gv]at h;rcases dr.mp h with q | q
   ·exact absurd q.symm c
   ·exact q
def mM{v:Nat}{x:Int×Int}:∀{S:Sps},v∉S.map (·.1)->atS (S++[(v,x)]) v=x:=by
 intro S
 induction S with
 | nil=>intro _;rw[kq,jW,if_pos rfl]
 | cons s r ih =>
  intro h;rw[gv,dr,not_or]at h;rw[iq,jW,if_neg (pe h.1)];exact ih h.2
def kPH{X Y:List Nat}{l:Nat}(nd:(X++l::Y).Nodup):(X++l::Y).drop ((X++l::Y).idxOf l)=l::Y:=by
 have:l∉X:=λ z=>(de.mp nd).2.2 l z l (by simp) rfl;rw[yu,if_neg this,yq,AQ,Aw (be _),List.drop_length,kq]
def rT{S:Sps}{U:Nat->List Nat}{T M X Y:List Nat}{v f l:Nat}(nd:T.Nodup)(e:T=X++l::Y) :
  gst S U v (f::M++[l]) T=(mvS (mvS S (M.flatMap U) 1) ((l::Y).flatMap U) 2++[(v,ovr (atS (mvS (mvS S (M.flatMap U) 1) ((l::Y).flatMap U) 2) f) (atS (mvS (mvS S (M.flatMap U) 1) ((l::Y).flatMap U) 2) l))],λ p=>if p=v then v::M.flatMap U else U p):=by
 have h1:(f::M++[l]).tail.dropLast=M:=by simp
 have a:(f::M++[l]).getLastD 0=l:=by rw[ji,pd];rfl
 unfold gst;rw[h1,a,e,kPH (by rw[<-e];exact nd)]
 rfl
def apart{T L R:List Nat}{U:Nat->List Nat}(un:(T.flatMap U).Nodup)(e:T=L++R){x:Nat}(h1:x∈L.flatMap U)(a:x∈R.flatMap U):False:=by
 rw[e,ue]at un;exact(de.mp un).2.2 x h1 x a rfl
def qM{L:List Nat}{U:Nat->List Nat}{x p:Nat}(h:p∈L)(a:x∈U p):x∈L.flatMap U:=xb.mpr ⟨p,h,a⟩
def wJ{L R:List Nat}{U:Nat->List Nat}{x:Nat}(h:∀ p∈L,p∈R)(a:x∈L.flatMap U):x∈R.flatMap U:=by
 obtain⟨p,hp,z⟩:=xb.mp a;exact qM (h p hp) z
def rV{ms:List Nat}{Fs Ts:List (List Nat)}:∀(i p:Nat),p∈(gF ms Fs Ts i).2 p:=by
 intro i
 induction i with
 | zero=>intro p;exact bu.mpr rfl
 | succ i ih =>
  intro p;show p∈(if p=_ then _::_ else(gF ms Fs Ts i).2 p)
  split
  ·rename_i c
   rw[c];exact eZ
  ·exact ih p
section
variable {W:Rows} {ms:List Nat} {a b k n:Nat} {fs ts X Y:List (List Nat)} {su sv T1 T1' T2:List Nat}
end
def kEF:∀{g:List Int}{a:Nat}(h:a<g.length)(i:Nat),((g.set a (g[a]+1)).take (i+1)).sum=(g.take (i+1)).sum+if a<=i then 1 else 0:=by
 intro g
 induction g with
 | nil=>intro a h;simp at h
 | cons x g ih =>
  intro a h i
  cases a with
  | zero =>
   show((x+1)::g.take i).sum=(x::g.take i).sum+_;rw[AO,AO,if_pos (gy _)];omega
  | succ a =>
   have b:a<g.length:=by simpa using h
   show(x::(g.set a (g[a]+1)).take i).sum=(x::g.take i).sum+_;rw[AO,AO]
   cases i with
   | zero=>rw[if_neg (by omega)];simp
   | succ i =>
    rw[ih b i];by_cases c:a<=i
    ·rw[if_pos c,if_pos (by omega)];omega
    ·rw[if_neg c,if_neg (by omega)];omega
def kEG(g:List Int){a b:Nat}(h:a<=b):((g.drop a).take (b-a)).sum=(g.take b).sum-(g.take a).sum:=by
 have:g.take b=g.take a++(g.drop a).take (b-a):=by rw[<-List.take_add,show a+(b-a)=b by omega]
 rw[this,AD];omega
structure Pre(g:List Int)(T:List Nat)(S:Sps):Prop where
 len:g.length=T.length
 at':∀(i p:Nat),T[i]?=some p->(g.take (i+1)).sum=(atS S p).1
def wdr(g:List Int)(a b:Nat):List Int:=(g.set a (g.getD a 0+1)).set b ((g.set a (g.getD a 0+1)).getD b 0+1)
def kNK(g:List Int)(a b:Nat):(wdr g a b).length=g.length:=by unfold wdr;rw[AB,AB]
def kNJ{g:List Int}{a b:Nat}(d:a<g.length)(f:b<g.length)(i:Nat):((wdr g a b).take (i+1)).sum=(g.take (i+1)).sum+(if a<=i then 1 else 0)+if b<=i then 1 else 0:=by
 have h:g.getD a 0=g[a]:=by rw[ak,aa d];rfl
 have c:b<(g.set a (g[a]+1)).length:=by rw[AB];exact f
 have j:(g.set a (g[a]+1)).getD b 0=(g.set a (g[a]+1))[b]:=by rw[ak,aa c];rfl
 unfold wdr;rw[h,j,kEF c,kEF d]
section
variable {S:Sps} {U:Nat->List Nat} {T B M C:List Nat} {v f l:Nat} {g:List Int}
def kHP(D:T.Nodup)(un:(T.flatMap U).Nodup)(a:∀ p,p∈U p)(all:∀ z∈T.flatMap U,z∈S.map (·.1))(m:T=B++(f::M++[l])++C)(P:Pre g T S) :
  Pre (wdr g (B.length+1) (B.length+1+M.length)) T (mvS (mvS S (M.flatMap U) 1) ((l::C).flatMap U) 2):=by
 have y:T.length=B.length+1+M.length+1+C.length:=by rw[m];simp;omega
 have j:T=(B++[f])++(M++l::C):=by rw[m];simp
 have n:T=(B++f::M)++(l::C):=by rw[m];simp
 refine⟨by rw[kNK];exact P.len,λ i p e=>?_⟩;have A:=(aj.mp e).1;rw[kNJ (by rw[P.len];omega) (by rw[P.len];omega),P.at' i p e];have v:p∈T:=cv e;have b:=all p (qM v (a p));rw[dN (by rw[qZ];exact b),dN b];have x:∀ z∈M,z∈M++l::C:=λ z d=>cq _ d;have u:∀ z∈l::C,z∈M++l::C:=λ z d=>ck _ d;have h:∀ z∈M,z∈B++f::M:=λ z d=>by simp[d]
 rcases iH i (B.length+1) with c | c
 ·have pB:p∈B++[f]:=by
   rw[j,az (by simp;omega)]at e;exact cv e
  have o:p∉M.flatMap U:=λ z=>apart un j (qM pB (a p)) (wJ x z);have q:p∉(l::C).flatMap U:=λ z=>apart un j (qM pB (a p)) (wJ u z);rw[if_neg o,if_neg q,if_neg (by omega),if_neg (by omega)];omega
 ·rcases iH i (B.length+1+M.length) with r | r
  ·have s:p∈M:=by
    rw[j,bf (by simp;omega),az (by simp;omega)]at e;exact cv e
   have q:p∉(l::C).flatMap U:=λ z=>apart un n (qM (h p s) (a p)) z;rw[if_pos (qM s (a p)),if_neg q,if_pos c,if_neg (by omega)];omega
  ·have pC:p∈l::C:=by
    rw[n,bf (by simp;omega)]at e;exact cv e
   have o:p∉M.flatMap U:=λ z=>apart un n (wJ h z) (qM pC (a p));rw[if_neg o,if_pos (qM pC (a p)),if_pos c,if_pos r];show _+1+1=(atS S p).1+2;omega
def kOC{d:Sps}{q:Int×Int}(O:T.Nodup)(h:T=B++(f::M++[l])++C)(D:v∉d.map (·.1))(j:∀ p∈T,p∈d.map (·.1))(P:Pre g T d){far wide:Int}(A:wide=(atS d l).1-(atS d f).1)(H:q.1=(atS d f).1+far) :
  Pre (g.take (B.length+1)++[far,wide-far]++g.drop (B.length+1+M.length+1)) (B++[f,v,l]++C) (d++[(v,q)]):=by
 have L:T.length=B.length+1+M.length+1+C.length:=by rw[h];simp;omega
 have J:=P.len;have I:T[B.length]?=some f:=by rw[h];simp
 have G:T[B.length+1+M.length]?=some l:=by
  rw[show T=(B++f::M)++(l::C) by rw[h];simp,bf (by simp;omega)];simp only[bq,gn];rw[show B.length+1+M.length-(B.length+(M.length+1))=0 by omega]
  rfl
 have pf:=P.at' _ _ I;have s:=P.at' _ _ G;have r:(g.take (B.length+1)).length=B.length+1:=by rw[dc];omega
 refine⟨by simp;omega,λ i p e=>?_⟩;have N:=(aj.mp e).1;rcases iH i (B.length+1) with c | c
 ·have o:T[i]?=some p:=by
   rw[show B++[f,v,l]++C=(B++[f])++([v,l]++C) by simp,az (by simp;omega)]at e;rw[show T=(B++[f])++(M++l::C) by rw[h];simp,az (by simp;omega)];exact e
  rw[cR (j p (cv o)),<-P.at' i p o,cx,sd (by omega),BN,show min (i+1) (B.length+1)=i+1 by omega]
 ·rcases iH i (B.length+2) with x | x
  ·have n:i=B.length+1:=by omega
   have u:p=v:=by
    rw[show B++[f,v,l]++C=(B++[f])++(v::l::C) by simp,bf (by simp;omega),n]at e;simpa using e.symm
   rw[u,mM D,n,cx,CH,r,show B.length+1+1-(B.length+1)=1 by omega,jh (by omega),AD];show(g.take (B.length+1)).sum + [far].sum=q.1;rw[pf,H];simp
  ·-- l and what is behind
   have o:T[i-2+M.length+1]?=some p:=by
    rw[show B++[f,v,l]++C=(B++[f,v])++(l::C) by simp,bf (by simp;omega)]at e;rw[show T=(B++f::M)++(l::C) by rw[h];simp,bf (by simp;omega)];rw[<-e]
    congr 1
    simp;omega
   rw[cR (j p (cv o)),<-P.at' _ p o,CH,AD];have y:(g.take (B.length+1)++[far,wide-far]).length=B.length+3:=by simp;omega
   rw[jh (by omega),y,AD,pf];have m:=kEG g (a:=B.length+1+M.length+1) (b:=i-2+M.length+1+1) (by omega);rw[show i-2+M.length+1+1-(B.length+1+M.length+1)=i+1-(B.length+3) by omega]at m;rw[m,s];show(atS d f).1 + [far,wide-far].sum+_=_;have:[far,wide-far].sum=wide:=by simp;omega
   rw[this,A];omega
structure Tkn(T:List Nat)(S:Sps)(U:Nat->List Nat)(tk:List (Nat×Nat×Int)):Prop where
 off:∀ e∈tk,(atS S e.1).1=(atS S e.2.1).1+e.2.2
 hang:∀ e∈tk,∀ r∈T,e.1∈U r↔e.2.1∈U r
 dom:∀ e∈tk,e.1∈S.map (·.1)/\e.2.1∈S.map (·.1)
 cov:∀ q∈S.map (·.1),q∈T\/∃ e∈tk,e.1=q
 ord:∀(i:Nat)(e:Nat×Nat×Int),tk[i]?=some e->e.2.1∈T\/∃(i':Nat)(e':Nat×Nat×Int),i<i'/\tk[i']?=some e'/\e'.1=e.2.1
def kJI(I:T.Nodup)(un:(T.flatMap U).Nodup)(n:∀ p,p∈U p)(all:∀ z∈T.flatMap U,z∈S.map (·.1))(J:v∉S.map (·.1))(s:T=B++(f::M++[l])++C){tk:List (Nat×Nat×Int)}(R:Tkn T S U tk) :
  Tkn (B++[f,v,l]++C) (gst S U v (f::M++[l]) T).1 (gst S U v (f::M++[l]) T).2 (tk++M.map λ m=>(m,v,(atS (gst S U v (f::M++[l]) T).1 m).1-(atS (gst S U v (f::M++[l]) T).1 v).1)):=by
 have Z:T=(B++f::M)++l::C:=by rw[s];simp
 rw[rT I Z];dsimp only;have O:∀ p∈M,p∈T:=λ p hp=>by rw[s];simp[hp]
 have iC:∀ p∈l::C,p∈T:=λ p hp=>by rw[Z];exact ck _ hp
 have A:∀{p},p∈T->p∈S.map (·.1):=λ{p} hp=>all p (qM hp (n p));have a0:v∉T:=λ z=>J (A z)
 have a:∀ e∈tk,∀ L:List Nat,(∀ p∈L,p∈T)->(e.1∈L.flatMap U↔e.2.1∈L.flatMap U):=λ e b L hL=>by
  rw[xb,xb];exact⟨λ⟨p,hp,z⟩=>⟨p,hp,(R.hang e b p (hL p hp)).mp z⟩,λ⟨p,hp,z⟩=>⟨p,hp,(R.hang e b p (hL p hp)).mpr z⟩⟩
 have nU:∀ p∈T,v∉U p:=λ p hp z=>J (all v (qM hp z))
 have G:∀ r,r∈B++[f,v,l]++C->r≠v->r∈T/\r∉M:=λ r d rv=>by
  simp only[cf,dr,og,or_false,rv,false_or]at d;have c1:T=(B++[f])++(M++l::C):=by rw[s];simp
  have u:∀ z,z∈B++[f]->z∉M:=λ z h1 g=>by
   rw[c1]at I;exact(de.mp I).2.2 z h1 z (by simp[g]) rfl
  have j:∀ z,z∈l::C->z∉M:=λ z h1 g=>by
   rw[Z]at I;exact(de.mp I).2.2 z (by simp[g]) z h1 rfl
  rcases d with(d | d | d) | d
  ·exact⟨by rw[s];simp[d],u r (by simp[d])⟩
  ·exact⟨by rw[s];simp[d],u r (by simp[d])⟩
  ·exact⟨by rw[s];simp[d],j r (by simp[d])⟩
  ·exact⟨by rw[s];simp[d],j r (by simp[d])⟩
 have fst:∀ x:Int×Int,(mvS (mvS S (M.flatMap U) 1) ((l::C).flatMap U) 2++[(v,x)]).map (·.1)=S.map (·.1)++[v]:=λ x=>by rw[eE,qZ,qZ];rfl
 generalize ovr (atS (mvS (mvS S (M.flatMap U) 1) ((l::C).flatMap U) 2) f) (atS (mvS (mvS S (M.flatMap U) 1) ((l::C).flatMap U) 2) l)=q;have H:∀ p∈S.map (·.1),atS (mvS (mvS S (M.flatMap U) 1) ((l::C).flatMap U) 2++[(v,q)]) p=atS (mvS (mvS S (M.flatMap U) 1) ((l::C).flatMap U) 2) p:=λ p hp=>cR (by rw[qZ,qZ];exact hp);refine⟨λ e b=>?_,λ e b r d=>?_,λ e b=>?_,λ p hp=>?_,λ i e N=>?_⟩
 ·rcases cf.mp b with b | b
  ·obtain⟨u,j⟩:=R.dom e b
   have ax:∀ p∈S.map (·.1),(atS (mvS (mvS S (M.flatMap U) 1) ((l::C).flatMap U) 2) p).1=(atS S p).1+(if p∈M.flatMap U then 1 else 0)+(if p∈(l::C).flatMap U then 2 else 0):=λ p hp=>by
    rw[dN (by rw[qZ];exact hp),dN hp];by_cases h1:p∈M.flatMap U<;>by_cases g:p∈(l::C).flatMap U<;>simp only[h1,g,if_true,if_false]<;>simp
   have o:=R.off e b;have i1:=a e b M O;have i2:=a e b (l::C) iC;rw[H _ u,H _ j,ax _ u,ax _ j,o];by_cases h1:e.2.1∈M.flatMap U<;>by_cases g:e.2.1∈(l::C).flatMap U<;>simp only[h1,g,i1,i2,if_true,if_false]<;>omega
  ·obtain⟨m,y,rfl⟩:=iP.mp b
   dsimp only;omega
 ·show e.1∈(if r=v then v::M.flatMap U else U r)↔e.2.1∈(if r=v then v::M.flatMap U else U r)
  rcases cf.mp b with b | b
  ·obtain⟨u,j⟩:=R.dom e b
   by_cases c:r=v
   ·rw[if_pos c,dr,dr,a e b M O]
    have n1:e.1≠v:=λ z=>J (z ▸ u);have n2:e.2.1≠v:=λ z=>J (z ▸ j);simp[n1,n2]
   ·rw[if_neg c]
    exact R.hang e b r (G r d c).1
  ·obtain⟨m,y,rfl⟩:=iP.mp b
   dsimp only;by_cases c:r=v
   ·rw[if_pos c]
    exact⟨λ _=>eZ,λ _=>eC _ (qM y (n m))⟩
   ·rw[if_neg c]
    obtain⟨r1,r2⟩:=G r d c;refine⟨λ z=>?_,λ z=>absurd z (nU r r1)⟩
    exfalso
    obtain⟨X,Y,Q⟩:=xu r1;have D:=O m y;have mr:m≠r:=λ z=>r2 (z ▸ y);rw[Q]at D;rcases cf.mp D with h | h
    ·exact apart un (show T=X++(r::Y) from Q) (qM h (n m)) (qM (p:=r) (by simp) z)
    ·rcases dr.mp h with h | h
     ·exact mr h
     ·exact apart un (show T=(X++[r])++Y by rw[Q];simp) (qM (p:=r) (by simp) z) (qM h (n m))
 ·rw[fst]
  rcases cf.mp b with b | b
  ·obtain⟨u,j⟩:=R.dom e b
   exact⟨cq _ u,cq _ j⟩
  ·obtain⟨m,y,rfl⟩:=iP.mp b
   exact⟨cq _ (A (O m y)),ck _ (bu.mpr rfl)⟩
 ·rw[fst]at hp
  rcases cf.mp hp with hp | hp
  ·rcases R.cov p hp with h | ⟨e,b,rfl⟩
   ·by_cases c:p∈M
    ·exact .inr ⟨_,ck _ (iP.mpr ⟨p,c,rfl⟩),rfl⟩
    ·refine .inl ?_
     rw[s]at h;simp only[cf,dr,og,or_false]at h ⊢;rcases h with(h | (h | h) | h) | h
     ·exact .inl (.inl h)
     ·exact .inl (.inr (.inl h))
     ·exact absurd h c
     ·exact .inl (.inr (.inr (.inr h)))
     ·exact .inr h
   ·exact .inr ⟨e,cq _ b,rfl⟩
  ·rw[bu.mp hp]
   exact .inl (by simp)
 ·rcases iH i tk.length with c | c
  ·rw[az c]at N
   rcases R.ord i e N with h | ⟨i',e',h1,g,h3⟩
   ·by_cases cm:e.2.1∈M
    ·obtain⟨k,hk⟩:=Ac.mp cm
     refine .inr ⟨tk.length+k,_,by omega,(by rw[bf (by omega),show tk.length+k-tk.length=k by omega,bg,hk];rfl),?_⟩
     rfl
    ·refine .inl ?_
     rw[s]at h;simp only[cf,dr,og,or_false]at h ⊢;rcases h with(h | (h | h) | h) | h
     ·exact .inl (.inl h)
     ·exact .inl (.inr (.inl h))
     ·exact absurd h cm
     ·exact .inl (.inr (.inr (.inr h)))
     ·exact .inr h
   ·exact .inr ⟨i',e',h1,by rw[az (aj.mp g).1];exact g,h3⟩
  ·rw[bf c,bg]at N
   obtain⟨m,_,rfl⟩:=cu.mp N;exact .inl (by simp)
end
section
variable {W:Rows} {ms:List Nat} {a b n:Nat} {Fs Ts:List (List Nat)}
def oN{i:Nat}{fs ts:List (List Nat)}(b:goF W ms i=some (fs,ts)):ts[0]?=some (ms.take 2):=by
 induction i generalizing fs ts with
 | zero =>
  unfold goF at b;have q:=bh b;injection q with q1 a
  rw[<-a]
  rfl
 | succ i ih =>
  obtain⟨h,f,a⟩:=vF (i:=i) (j:=1) b;obtain⟨c,g,l,d⟩:=zO a b;have:=(xH a).2;rw[d,az (by omega)];exact ih a
end
def Rl(S:Sps)(p q:Nat):Prop:=-((atS S q).1-(atS S p).1)<=(atS S q).2-(atS S p).2/\(atS S q).2-(atS S p).2<=(atS S q).1-(atS S p).1
def Rl.trans{S:Sps}{p q r:Nat}(h:Rl S p q)(h':Rl S q r):Rl S p r:=by
 unfold Rl at *;omega
structure Con(T:List Nat)(S:Sps)(a b i:Nat):Prop where
 ends:∃ M,T=a::M++[b]
 ca:atS S a=(0,0)
 cb:atS S b=(2*(i:Int),0)
 slope:T.Pairwise (Rl S)
section
variable {S:Sps} {U:Nat->List Nat} {T B M C:List Nat} {v f l:Nat}
def lD(un:(T.flatMap U).Nodup)(a:∀ p,p∈U p)(all:∀ z∈T.flatMap U,z∈S.map (·.1))(q:T=B++(f::M++[l])++C) :
  (∀ p∈B++[f],atS (mvS (mvS S (M.flatMap U) 1) ((l::C).flatMap U) 2) p=atS S p)/\(∀ p∈M,atS (mvS (mvS S (M.flatMap U) 1) ((l::C).flatMap U) 2) p=((atS S p).1+1,(atS S p).2)) /\
   ∀ p∈l::C,atS (mvS (mvS S (M.flatMap U) 1) ((l::C).flatMap U) 2) p=((atS S p).1+2,(atS S p).2):=by
 have h:T=(B++[f])++(M++l::C):=by rw[q];simp
 have m:T=(B++f::M)++(l::C):=by rw[q];simp
 have b:∀ p∈T,atS (mvS (mvS S (M.flatMap U) 1) ((l::C).flatMap U) 2) p=if p∈(l::C).flatMap U then((if p∈M.flatMap U then((atS S p).1+1,(atS S p).2) else atS S p).1+2,(if p∈M.flatMap U then((atS S p).1+1,(atS S p).2) else atS S p).2) else(if p∈M.flatMap U then((atS S p).1+1,(atS S p).2) else atS S p):=λ p hp=>by
  have d:=all p (qM hp (a p));rw[dN (by rw[qZ];exact d),dN d]
 have n:∀ z∈M,z∈M++l::C:=λ z g=>cq _ g;have o:∀ z∈l::C,z∈M++l::C:=λ z g=>ck _ g;have c:∀ z∈M,z∈B++f::M:=λ z g=>by simp[g]
 refine⟨λ p hp=>?_,λ p hp=>?_,λ p hp=>?_⟩
 ·have j:p∉M.flatMap U:=λ z=>apart un h (qM hp (a p)) (wJ n z)
  have i:p∉(l::C).flatMap U:=λ z=>apart un h (qM hp (a p)) (wJ o z);rw[b p (by rw[h];exact cq _ hp),if_neg i,if_neg j]
 ·have i:p∉(l::C).flatMap U:=λ z=>apart un m (qM (c p hp) (a p)) z
  rw[b p (by rw[h];exact ck _ (n p hp)),if_neg i,if_pos (qM hp (a p))]
 ·have j:p∉M.flatMap U:=λ z=>apart un m (wJ c z) (qM hp (a p))
  rw[b p (by rw[h];exact ck _ (o p hp)),if_pos (qM hp (a p)),if_neg j]
def kBM{a b i:Nat}(tn:T.Nodup)(un:(T.flatMap U).Nodup)(o:∀ p,p∈U p)(all:∀ z∈T.flatMap U,z∈S.map (·.1))(nv:v∉S.map (·.1))(m:T=B++(f::M++[l])++C)(R:Con T S a b i) :
  Con (B++[f,v,l]++C) (gst S U v (f::M++[l]) T).1 a b (i+1):=by
 have H:T=(B++f::M)++l::C:=by rw[m];simp
 rw[rT tn H];dsimp only;obtain⟨L,m2,J⟩:=lD un o all m;have fst:(mvS (mvS S (M.flatMap U) 1) ((l::C).flatMap U) 2).map (·.1)=S.map (·.1):=by rw[qZ,qZ]
 have Q:∀ p∈T,p∈S.map (·.1):=λ p hp=>all p (qM hp (o p));generalize mvS (mvS S (M.flatMap U) 1) ((l::C).flatMap U) 2=c at *;obtain⟨N,g⟩:=R.ends;have pw:=R.slope;rw[H]at pw;obtain⟨s,Z,u⟩:=eA.mp pw;rw[show B++f::M=(B++[f])++M by simp]at s u;obtain⟨a0,_,_⟩:=eA.mp s;have a1:Rl S f l:=u f (by simp) l (by simp);have X:atS (c++[(v,ovr (atS c f) (atS c l))]) v=ovr (atS c f) (atS c l):=mM (by rw[fst];exact nv);have A:∀ p∈T,atS (c++[(v,ovr (atS c f) (atS c l))]) p=atS c p:=λ p hp=>cR (by rw[fst];exact Q p hp)
 have r:∀ p∈B++[f],atS (c++[(v,ovr (atS c f) (atS c l))]) p=atS S p:=λ p hp=>by
  rw[A p (by rw[m];simp only[cf,dr,og,or_false]at hp ⊢;rcases hp with h | h<;>simp[h]),L p hp]
 have G:∀ p∈l::C,atS (c++[(v,ovr (atS c f) (atS c l))]) p=((atS S p).1+2,(atS S p).2):=λ p hp=>by
  rw[A p (by rw[H];exact ck _ hp),J p hp]
 have of:=r f (by simp);have ol:=G l (by simp);rw[L f (by simp),J l (by simp)]at X r G of ol;rw[L f (by simp),J l (by simp)];generalize c++[(v,ovr (atS S f) ((atS S l).1+2,(atS S l).2))]=j at *
 have y:Rl j f v:=by
  unfold Rl at *;rw[X,of];unfold ovr;dsimp only;omega
 have D:Rl j v l:=by
  unfold Rl at *;rw[X,ol];unfold ovr;dsimp only;omega
 have r1:∀ p∈B++[f],∀ q∈B++[f],Rl S p q->Rl j p q:=λ p hp q d h=>by unfold Rl at *;rw[r p hp,r q d];exact h
 have r3:∀ p∈l::C,∀ q∈l::C,Rl S p q->Rl j p q:=λ p hp q d h=>by unfold Rl at *;rw[G p hp,G q d];dsimp only;omega
 have P1:(B++[f]).Pairwise (Rl j):=a0.imp_of_mem λ hp d h=>r1 _ hp _ d h;have P3:(l::C).Pairwise (Rl j):=Z.imp_of_mem λ hp d h=>r3 _ hp _ d h
 have I:∀ p∈B++[f],p=f\/Rl j p f:=λ p hp=>by
  rcases cf.mp hp with h | h
  ·exact .inr ((eA.mp P1).2.2 p h f (by simp))
  ·exact .inl (by simpa using h)
 have O:∀ q∈l::C,q=l\/Rl j l q:=λ q d=>by
  rcases dr.mp d with h | h
  ·exact .inl h
  ·exact .inr ((xx.mp P3).1 q h)
 have tv:∀ p∈B++[f],Rl j p v:=λ p hp=>by
  rcases I p hp with rfl | h
  ·exact y
  ·exact h.trans y
 have fv:∀ q∈l::C,Rl j v q:=λ q d=>by
  rcases O q d with rfl | h
  ·exact D
  ·exact D.trans h
 refine⟨?_,?_,?_,?_⟩
 ·-- the ends
  have hB:∃ B',B++[f]=a::B':=by
   cases B with
   | nil=>rw[m]at g;simp only[kq,iq,xp]at g;exact⟨[],by rw[g.1];rfl⟩
   | cons x B=>rw[m]at g;simp only[iq,xp]at g;exact⟨B++[f],by rw[g.1];rfl⟩
  have hC:∃ Y,l::C=Y++[b]:=by
   have:=congrArg By g;have n:l::C≠[]:=yk _ _;rw[H,iZ,eW n,pd]at this;have:(l::C).getLast n=b:=by simpa using this
   exact⟨(l::C).dropLast,by rw[<-this,eO]⟩
  obtain⟨B',hB⟩:=hB;obtain⟨Y,hC⟩:=hC;refine⟨B'++[v]++Y,?_⟩;rw[show B++[f,v,l]++C=(B++[f])++[v]++(l::C) by simp,hB,hC];simp
 ·have ha:a∈B++[f]:=by
   cases B with
   | nil=>rw[m]at g;simp only[kq,iq,xp]at g;rw[g.1];simp
   | cons x B=>rw[m]at g;simp only[iq,xp]at g;rw[g.1];simp
  rw[r a ha,R.ca]
 ·have hb:b∈l::C:=by
   have:=congrArg By g;have n:l::C≠[]:=yk _ _;rw[H,iZ,eW n,pd]at this;have:(l::C).getLast n=b:=by simpa using this
   rw[<-this];exact EK n
  rw[G b hb,R.cb];show(2*(i:Int)+2,(0:Int))=(2*((i+1:Nat):Int),0);rw[show 2*(i:Int)+2=2*((i+1:Nat):Int) by omega]
 ·rw[show B++[f,v,l]++C=(B++[f])++(v::(l::C)) by simp]
  refine eA.mpr ⟨P1,xx.mpr ⟨fv,P3⟩,λ p hp q d=>?_⟩;rcases dr.mp d with rfl | d
  ·exact tv p hp
  ·exact(tv p hp).trans (fv q d)
end
def kFS{g:List Int}{T:List Nat}{S:Sps}{a b i:Nat}(R:Con T S a b i)(P:Pre g T S):(∀ x∈g,0<=x/\x<=2*(i:Int)):=by
 obtain⟨M,m⟩:=R.ends
 have mono:∀(k f p q:Nat),k<f->T[k]?=some p->T[f]?=some q->(atS S p).1<=(atS S q).1:=λ k f p q u h1 v=>by
  obtain⟨o,n⟩:=aj.mp h1;obtain⟨s,y⟩:=aj.mp v;have:=lj.mp R.slope k f o s u;rw[n,y]at this;unfold Rl at this;omega
 have h:T[0]?=some a:=by rw[m];rfl
 have l:T[T.length-1]?=some b:=by rw[m];simp
 intro x A;obtain⟨j,r,B⟩:=eY.mp A;have G:=P.len;have d:j<T.length:=by omega
 have p1:=P.at' j _ (aa d);rw[Bs,AD,aa r,B]at p1;have p1:(g.take j).sum+x=(atS S T[j]).1:=by simpa using p1
 have H:(atS S T[j]).1<=2*(i:Int):=by
  rcases iH j (T.length-1) with c | c
  ·have:=mono j _ _ _ c (aa d) l
   rw[R.cb]at this;exact this
  ·have:T[j]?=some b:=by rw[show j=T.length-1 by omega];exact l
   rw[aa d]at this;rw[bh this,R.cb];exact EU _
 cases j with
 | zero =>
  have:T[0]?=some T[0]:=aa d;rw[h]at this;rw[<-bh this,R.ca]at p1;have p1:(0:Int)+x=0:=by simpa using p1
  omega
 | succ j =>
  have p0:=P.at' j _ (aa (by omega));have C:=mono j (j+1) _ _ (by omega) (aa (by omega)) (aa d)
  have D:0<=(atS S T[j]).1:=by
   cases j with
   | zero =>
    have:T[0]?=some T[0]:=aa (by omega);rw[h]at this;rw[<-bh this,R.ca];exact EU _
   | succ j =>
    have:=mono 0 (j+1) _ _ (by omega) h (aa (by omega));rw[R.ca]at this;exact this
  omega
section
variable {W:Rows} {ms:List Nat} {a b n:Nat} {Fs Ts:List (List Nat)}
def kMI(S:Nb W)(d:∀ t∈kN W,(nxt W (nxt W t)).2=t.1)(c:ms.Nodup)(m:ms.take 2=[a,b])(g:E W a b)(r:n+2<=ms.length)(o:goF W ms n=some (Fs,Ts)) :
  ∀ j,j<=n->Con (Ts.getD j []) (gF ms Fs Ts j).1 a b j:=by
 have h0:Top W (ms.take 2) (ms.take 2):=by rw[m];exact vR S g
 obtain⟨H,lt⟩:=xH o;intro j
 induction j with
 | zero =>
  intro _;have s:Ts.getD 0 []=[a,b]:=by rw[ak,oN o,m];rfl
  have A:(gF ms Fs Ts 0).1=[(a,0,0),(b,0,0)]:=by show(ms.take 2).map _=_;rw[m];rfl
  have z:∀ x,atS [(a,0,0),(b,0,0)] x=(0,0):=λ x=>by
   rw[jW,jW]
   split
   ·rfl
   ·split<;>rfl
  rw[s,A];refine⟨⟨[],rfl⟩,z a,z b,?_⟩;refine xx.mpr ⟨λ q _=>?_,kl _ _⟩;unfold Rl;rw[z,z];omega
 | succ j ih =>
  intro G;have R:=ih (by omega);have get:∀(L:List (List Nat))(i:Nat),i<L.length->L[i]?=some (L.getD i []):=λ L i h=>by rw[ak,aa h];rfl
  obtain⟨D,B,f,M,l,C,y,u,p⟩:=bN S.sym c h0 r o j _ _ _ (get Fs j (by omega)) (get Ts j (by omega)) (get Ts (j+1) (by omega));have I:=kDJ S d c m g r o j (by omega);show Con _ (gst _ _ _ _ _).1 _ _ _;rw[y,p];refine kBM D.nd I.nd (rV j) (λ z v=>by rw[I.fst];exact I.sub z v) ?_ u R;rw[I.fst];exact zG c (be _) (by omega)
def mem_gW{W:Rows}{v z:Nat}:z∈W.getD v []↔Tri.E W v z:=by
 rw[ak];unfold Tri.E
 cases e:W[v]? with
 | none=>simp
 | some row=>simp
def kIA{c:Nat}(S:Nb W)(d:∀ t∈kN W,(nxt W (nxt W t)).2=t.1)(g:ms.Nodup)(r:ms.take 2=[a,b])(p:E W a b)(hn:n+3=ms.length)(s:goF W ms (n+1)=some (Fs,Ts))(D:ms.getD (n+2) 0=c)(u:E W a c)(y:E W b c) :
  atS (gF ms Fs Ts (n+1)).1 c=((n:Int)+1,(n:Int)+1):=by
 have h0:Top W (ms.take 2) (ms.take 2):=by rw[r];exact vR S p
 have R:=kMI S d g r p (by omega) s n (by omega);have I:=kDJ S d g r p (by omega) s n (by omega);obtain⟨lF,lT⟩:=xH s;obtain⟨fs,J,e⟩:=vF (i:=n) (j:=1) s;obtain⟨st,z,e1,X⟩:=zO e s;have TT:=uS g S.sym h0 (by omega) e;obtain⟨Z,lt⟩:=xH e;obtain⟨B,f,M,l,C,v,m,mem,nz⟩:=uP TT.nd z
 have A:Ts.getD n []=J.getLastD []:=by
  rw[X,ak,az (by omega),ji,ml,show J.length-1=n by omega]
 have G:Fs.getD n []=st:=by
  rw[e1,ak,<-Z,di]
  rfl
 have q:=TT.nd;rw[<-A]at q m;generalize H:Ts.getD n []=T at *;rw[D]at mem;have inr:∀ x,E W x c->x∈W.getD c []:=λ x h=>mem_gW.mpr (S.sym _ _ h);have Y:a∈st:=(mem a).mpr ⟨qh (i:=2) (by rw[BN,show min 2 (n+2)=2 by omega,r];simp),inr a u⟩;have Q:b∈st:=(mem b).mpr ⟨qh (i:=2) (by rw[BN,show min 2 (n+2)=2 by omega,r];simp),inr b y⟩;obtain⟨N,o⟩:=R.ends
 have fa:f=a:=by
  cases B with
  | nil=>rw[m]at o;simp only[kq,iq,xp]at o;exact o.1
  | cons x B =>
   rw[m]at o;simp only[iq,xp]at o;rw[m,o.1,<-v]at q;simp only[iq,gk]at q;exact absurd (by simp[Y]) q.1
 have U:l=b:=by
  rcases List.eq_nil_or_concat C with rfl | ⟨C',x,hC⟩
  ·have:=congrArg By (m.symm.trans o)
   rw[iW,iZ,pd,pd]at this;simpa using this
  ·rw[List.concat_eq_append]at hC
   subst hC;have:=congrArg By (m.symm.trans o);rw[<-cx,pd,pd]at this;have:x=b:=by simpa using this
   rw[m,this,<-v,<-cx]at q;exact absurd rfl ((de.mp q).2.2 b (by simp[Q]) b (by simp))
 subst fa U;show atS (gst (gF ms Fs Ts n).1 (gF ms Fs Ts n).2 (ms.getD (n+2) 0) (Fs.getD n []) (Ts.getD n [])).1 c=_;rw[D,G,H,v,rT q (show T=(B++f::M)++l::C by rw[m];simp)];dsimp only
 have nv:c∉(gF ms Fs Ts n).1.map (·.1):=by
  rw[I.fst,<-D];exact zG g (be _) (by omega)
 obtain⟨O,m2,L⟩:=lD I.nd (rV n) (λ z hz=>by rw[I.fst];exact I.sub z hz) (by rw[H];exact m);rw[mM (by rw[qZ,qZ];exact nv),O f (by simp),L l (by simp),R.ca,R.cb];show((0:Int)+(2*(n:Int)+2-0+0-0) / 2,(0:Int)+(2*(n:Int)+2-0+0-0) / 2)=_;rw[show(0:Int)+(2*(n:Int)+2-0+0-0) / 2=(n:Int)+1 by omega]
end
def kAS{g:List Int}{a:Nat}{y x:Int}(h:x∈g.set a y):x∈g\/x=y:=List.mem_or_eq_of_mem_set h
def kNL{g:List Int}{a b:Nat}{n:Int}(i:0<=n)(h:∀ x∈g,0<=x/\x<=n):∀ x∈wdr g a b,0<=x/\x<=n+2:=by
 have d:∀(l:List Int)(k:Nat)(m:Int),0<=m->(∀ x∈l,0<=x/\x<=m)->0<=l.getD k 0/\l.getD k 0<=m:=λ l k m f j=>by
  rw[ak]
  cases e:l[k]? with
  | none=>exact⟨EU _,f⟩
  | some x=>exact j x (cv e)
 have h1:∀ x∈g.set a (g.getD a 0+1),0<=x/\x<=n+1:=λ x c=>by
  have:=d g a n i h;rcases kAS c with q | q
  ·have:=h x q;omega
  ·omega
 intro x c;unfold wdr at c;have:=d _ b (n+1) (by omega) h1;rcases kAS c with q | q
 ·have:=h1 x q;omega
 ·omega
section
variable {S:Sps} {U:Nat->List Nat} {T B M C:List Nat} {v f l:Nat} {g:List Int} {tk:List (Nat×Nat×Int)} {a b i:Nat}
structure RkS(T:List Nat)(S:Sps)(U:Nat->List Nat)(a b i:Nat)(g:List Int)(tk:List (Nat×Nat×Int)):Prop where
 con:Con T S a b i
 pre:Pre g T S
 tkn:Tkn T S U tk
 num:tk.length+T.length=i+2
def kDX(g1:List Int)(B M:List Nat):Int:=((g1.drop (B.length+1)).take (M.length+1)).sum
def kNY(u:T.Nodup)(un:(T.flatMap U).Nodup)(d:∀ p,p∈U p)(all:∀ z∈T.flatMap U,z∈S.map (·.1))(H:v∉S.map (·.1))(h:T=B++(f::M++[l])++C)(R:RkS T S U a b i g tk)
  {g1:List Int} (eg:g1=wdr g (B.length+1) (B.length+1+M.length)) {far wide:Int} (ew:wide=kDX g1 B M) (ef:far=(wide+(atS S l).2-(atS S f).2) / 2) :
  (∀ x∈g1,0<=x/\x<=2*(i:Int)+2)/\g1.length=T.length/\(atS (gst S U v (f::M++[l]) T).1 v).2=(wide+(atS S l).2+(atS S f).2) / 2/\(∀ p∈S.map (·.1),(atS (gst S U v (f::M++[l]) T).1 p).2=(atS S p).2) /\
   RkS (B++[f,v,l]++C) (gst S U v (f::M++[l]) T).1 (gst S U v (f::M++[l]) T).2 a b (i+1) (g1.take (B.length+1)++[far,wide-far]++g1.drop (B.length+1+M.length+1)) (tk++(cw M.length).map λ j=>(M.getD j 0,v,((g1.drop (B.length+1)).take (j+1)).sum-far)):=by
 have A:=kBM u un d all H h R.con;have G:=kJI u un d all H h R.tkn;have r:=kHP u un d all h R.pre;have J:=kNL (a:=B.length+1) (b:=B.length+1+M.length) (by omega) (kFS R.con R.pre);rw[<-eg]at r J;obtain⟨m1,m2,m3⟩:=lD un d all h;have Y:T=(B++f::M)++l::C:=by rw[h];simp
 have lT:T.length=B.length+1+M.length+1+C.length:=by rw[h];simp;omega
 have fst:(mvS (mvS S (M.flatMap U) 1) ((l::C).flatMap U) 2).map (·.1)=S.map (·.1):=by rw[qZ,qZ]
 have n:∀ p∈T,p∈S.map (·.1):=λ p hp=>all p (qM hp (d p))
 have o:∀ p∈S.map (·.1),(atS (mvS (mvS S (M.flatMap U) 1) ((l::C).flatMap U) 2) p).2=(atS S p).2:=λ p hp=>by
  rw[dN (by rw[qZ];exact hp),dN hp];by_cases h1:p∈M.flatMap U<;>by_cases O:p∈(l::C).flatMap U<;>simp only[h1,O,if_true,if_false]
 rw[rT u Y]at A G ⊢;dsimp only at A G ⊢;generalize mvS (mvS S (M.flatMap U) 1) ((l::C).flatMap U) 2=c at *;have lg:=r.len;have tf:T[B.length]?=some f:=by rw[h];simp
 have tl:T[B.length+1+M.length]?=some l:=by
  rw[Y,bf (by simp;omega)];simp only[bq,gn];rw[show B.length+1+M.length-(B.length+(M.length+1))=0 by omega]
  rfl
 have pf:=r.at' _ _ tf;have Z:=r.at' _ _ tl
 have s:∀ j,((g1.drop (B.length+1)).take (j+1)).sum=(g1.take (B.length+1+(j+1))).sum-(atS c f).1:=λ j=>by
  have:=kEG g1 (a:=B.length+1) (b:=B.length+1+(j+1)) (by omega);rw[show B.length+1+(j+1)-(B.length+1)=j+1 by omega]at this;rw[this,pf]
 have y:wide=(atS c l).1-(atS c f).1:=by
  rw[ew];unfold kDX;rw[s,show B.length+1+(M.length+1)=B.length+1+M.length+1 by omega,Z]
 have I:=o l (n l (by rw[h];simp));have L:=o f (n f (by rw[h];simp))
 have N:(ovr (atS c f) (atS c l)).1=(atS c f).1+far:=by
  unfold ovr;dsimp only;rw[I,L,ef,y]
  try omega
 have q2:(ovr (atS c f) (atS c l)).2=(wide+(atS S l).2+(atS S f).2) / 2:=by
  unfold ovr;dsimp only;rw[I,L,y];omega
 have q:v∉c.map (·.1):=by rw[fst];exact H
 refine⟨J,lg,by rw[mM q,q2],λ p hp=>by rw[cR (by rw[fst];exact hp),o p hp],A,kOC u h q (λ p hp=>by rw[fst];exact n p hp) r y N,?_,?_⟩
 ·have ee:(cw M.length).map (λ j=>(M.getD j 0,v,((g1.drop (B.length+1)).take (j+1)).sum-far))=M.map λ m=>(m,v,(atS (c++[(v,ovr (atS c f) (atS c l))]) m).1-(atS (c++[(v,ovr (atS c f) (atS c l))]) v).1):=by
   refine Ai (by simp) λ j h1 O=>?_;have D:j<M.length:=by simpa using h1
   rw[yw,yw,List.getElem_range];have em:M.getD j 0=M[j]:=by rw[ak,aa D];rfl
   have Q:T[B.length+(j+1)]?=some M[j]:=by
    rw[show T=(B++[f])++(M++l::C) by rw[h];simp,bf (by simp),bq,fk,show B.length+(j+1)-(B.length+1)=j by omega,az D,aa D]
   have X:=r.at' _ _ Q;rw[show B.length+(j+1)+1=B.length+1+(j+1) by omega]at X;have a1:(atS (c++[(v,ovr (atS c f) (atS c l))]) v).1=(atS c f).1+far:=by rw[mM q,N]
   have a2:atS (c++[(v,ovr (atS c f) (atS c l))]) M[j]=atS c M[j]:=cR (by rw[fst];exact n _ (cv Q))
   have a3:((g1.drop (B.length+1)).take (j+1)).sum-far=(atS (c++[(v,ovr (atS c f) (atS c l))]) M[j]).1-(atS (c++[(v,ovr (atS c f) (atS c l))]) v).1:=by
    rw[a1,a2,s,X];omega
   rw[em,a3]
  rw[ee];exact G
 ·have:=R.num
  simp only[bq,ai,iI,gn,qm];omega
def kNX{ab:a≠b}:RkS [a,b] [(a,0,0),(b,0,0)] (λ p=>[p]) a b 0 [0,0] []:=by
 have z:∀ x,atS [(a,0,0),(b,0,0)] x=(0,0):=λ x=>by
  rw[jW,jW]
  split
  ·rfl
  ·split<;>rfl
 refine⟨⟨⟨[],rfl⟩,z a,z b,?_⟩,⟨rfl,λ i p e=>?_⟩,⟨λ e h=>(nomatch h),λ e h=>(nomatch h),λ e h=>(nomatch h),λ q c=>.inl c,λ i e h=>by simp at h⟩,rfl⟩
 ·refine xx.mpr ⟨λ q _=>?_,kl _ _⟩
  unfold Rl;rw[z,z];omega
 ·rw[z]
  match i with
  | 0=>rfl
  | 1=>rfl
  | i+2=>simp at e
end
end Tri
namespace L2
open PySem PySem.Spec PyProof.Rows
def Itv(K:ay)(a:au)(n:Nat):It :=
 ⟨λ i H=>∃ b x,SqL K H a b/\b.length=n/\i<n/\b[n-1-i]?=some x,λ i H x c=>c=H/\∀ b,SqL K H a b->b[n-1-i]?=some x,λ i H=>n=i⟩
def kJE{P:eo}{w:iJ}{K:ay}{tg:iO}(a it:au)(n:Nat):Turn P w K tg (Itv K a n) [it] it (λ i h=>h.IsRevIter it a ((n:Int)-1-(i:Int))) where
 mem:=by simp
 obj:=λ i h st b g=>by
  have e:b=it:=by simpa using g
  subst e;obtain⟨o,e,c,d⟩:=st;exact⟨o,e,λ v z=>by rw[d]at z;cases z⟩
 keep:=λ i h q st k=>st.at λ o e=>k it (by simp) o e
 item:=by
  intro X C y A M i f s L H E I m st l;subst C y A;obtain⟨xs,x,O,hn,hi,N⟩:=l;obtain⟨T,Z,p,hz⟩:=I.list O;obtain⟨u,hu,ru⟩:=Z.get N;obtain⟨r,B,Y,D,G,J⟩:=m it (by simp);rw[show(n:Int)-1-(i:Int)=((n-1-i:Nat):Int) by omega]at st;refine wpAny_pyNext_rev_item st p.isList (x:=u) (by simpa using hu) λ q j Q=>?_;have S:Inv X f L H {s with heap:=q}:=I.turned (t':=s.toks) (λ b o g e=>(Q.2 b g).trans e) r B D G J
  rw[show((n-1-i:Nat):Int)-1=(n:Int)-1-((i+1:Nat):Int) by omega]at j;obtain⟨o,e,c,d⟩:=id j;exact⟨u,rfl,kFQ (s:={s with heap:=q}) e c d (by decide) ⟨x,H,S,ru,⟨rfl,λ ys hy=>by rw[I.list_inj hy O];exact N⟩,j,λ b g=>(m b g).1⟩⟩
 done:=by
  intro X C y A M i f s L H E I m st l;subst C y A;have l:n=i:=l;subst l;obtain⟨r,B,Y,D,G,J⟩:=m it (by simp);rw[show(n:Int)-1-(n:Int) = -1 by omega]at st;exact wpAny_pyNext_rev_end (I.ok.hd M) st λ q U=>⟨rfl,I.turned (t':=s.toks) (λ b o g e=>U b o g e) r B D G J⟩
 self:=λ _ _ _ _ _ st h=>Cz st h
inductive kQF(K:ay)(R:It->Hp->Prop)(vs:List V)(H1:Hp):Prop
 | mk:∀ a xs,(vs=[.ref a])->SqL K H1 a xs->(R (Itv K a xs.length) H1)->kQF K R vs H1
def kVH(K:ay)(d:TA):TI:=λ c H R=>d c H λ b a=>kQF K R b a
section
variable {X:Cx} {tg:iO}
def kRJ{a:iO}{m:TA}{p f:Pos}(L:Gl X "reversed")(B:X.mg "reversed" = none)(y:PA X [a] m)(v:starEach [a] X.env=[(false,eval a X.env)]:=by rfl):PI X tg (.Call (.Name "reversed" p) [a] [] f) (kVH X.K m):=by
 intro g s u H R I h;refine Eh (zM I L B boot_reversed (iU (thn (y f g s u H _ I h) λ O c ⟨M,n,i,C,A⟩=>?_) v rfl));obtain⟨l,j,rfl,J,q⟩:=A
 cases C with
 | cons r rr =>
  cases rr
  cases r
  obtain⟨d,G,p,N⟩:=i.list J;refine call_reversed_list p.isList ?_;have x:d.toArray.size=j.length:=by rw[fj];exact G.length.symm
  have st:(c.heap.push (revObj l ((d.toArray.size:Int)-1))).IsRevIter c.heap.objs.size l ((j.length:Int)-1-((0:Nat):Int)):=⟨_,cg _ rfl,rfl,by rw[x];simp[revObj]⟩;refine Cz (s:={c with heap:=_}) st ?_
  refine⟨c.heap.objs.size,[c.heap.objs.size],_,_,n,rfl,i.kept (t':=c.toks) λ b o e=>ao _ e,kJE l _ j.length,st,λ b D=>?_,q⟩;have e:b=c.heap.objs.size:=by simpa using D
  subst e;exact i.fpOk (be _) (i.hok.fresh (be _))
end
def kPE{K:ay}{a:au}{xs:List V}{g:TG}{d:TS}{D:Ends}{b:St}{H:Hp}(Pv:Nat->St->Hp->Prop)(h0:Pv 0 b H)(l:∀ i b H,i<=xs.length->Pv i b H->SqL K H a xs)
  (h:∀ i x b H,xs[xs.length-1-i]?=some x->i<xs.length->Pv i b H->g x b H λ σ2 H2=>d {D with nx:=Pv (i+1),ct:=Pv (i+1),bk:=D.nx} σ2 H2) (f:∀ b H,Pv xs.length b H->D.nx b H) :
  ∃ W:Nat->Nat->St->Hp->Prop,(∃ m,W 0 m b H)/\∀ i m b H,W i m b H ->
   ((Itv K a xs.length).stop i H/\D.nx b H)\/((Itv K a xs.length).go i H/\∃ N:St->Hp->Prop,(∀ σ' H',N σ' H'->∃ m',m'<m/\W (i+1) m' σ' H')/\∀ x H',(Itv K a xs.length).yld i H x H'->g x b H' λ σ2 H2=>d {D with nx:=N,ct:=N,bk:=D.nx} σ2 H2):=by
 refine⟨λ i m b H=>m=xs.length-i/\i<=xs.length/\Pv i b H,⟨xs.length,by simp,gy _,h0⟩,?_⟩;rintro i m b H ⟨rfl,j,p⟩;have q:=l i b H j p;by_cases c:i<xs.length
 ·refine .inr ⟨⟨xs,xs[xs.length-1-i],q,rfl,c,aa (by omega)⟩,Pv (i+1),λ σ' H' n=>⟨xs.length-(i+1),by omega,rfl,c,n⟩,λ x H' y=>?_⟩
  obtain⟨e,y⟩:=y;subst e;exact h i x b _ (y xs q) c p
 ·have e:i=xs.length:=by omega
  subst e;exact .inl ⟨rfl,f b H p⟩
end L2
namespace Prf
open PySem L2 Own Tri Cyc Rnd
def top(i:Nat):ph:=PySem.Challenge.pw_restdraw_k62_whole_by_gaps.main.body.getD i (.Pass ⟨0,0,0,0⟩)
abbrev gL:ph:=top 7
def tV:FnScope ["thing"] ["thing"] (kO gL):=qN
abbrev dB:ph:=top 8
def pR:FnScope ["thing","many"] ["thing","many"] (kO dB):=qN
abbrev gD:ph:=top 9
def tQ:FnScope ["web"] ["web"] (kO gD):=qN
abbrev kKJ:ph:=top 10
def kNT:FnScope ["web"] ["web"] (kO kKJ):=qN
abbrev tY:ph:=top 11
def kHJ:FnScope ["web","step","p","q","row"] ["web","step"] (kO tY):=qN
abbrev uW:ph:=top 12
def fX:FnScope ["web","step","steps","further"] ["web","step"] (kO uW):=qN
abbrev kEW:ph:=top 13
def kKI:FnScope ["web","told","seen","step","steps"] ["web"] (kO kEW):=qN
abbrev nP:ph:=top 14
def kCM:FnScope ["web"] ["web"] (kO nP):=qN
abbrev vX:ph:=top 15
def dQ:FnScope ["web"] ["web"] (kO vX):=qN
abbrev zR:ph:=top 17
def aG:FnScope ["web","some"] ["web"] (kO zR):=qN
abbrev dC:ph:=top 18
def pS:FnScope ["web","p","q","r"] ["web","p","q","r"] (kO dC):=qN
abbrev nQ:ph:=top 19
def kCN:FnScope ["web","thing","a","b","c"] ["web","thing"] (kO nQ):=qN
abbrev wK:ph:=top 20
def aR:FnScope ["web","base","face"] ["web","base"] (kO wK):=qN
abbrev gM:ph:=top 22
def tW:FnScope ["web","base","thing","a","b","c"] ["web","base","thing"] (kO gM):=qN
abbrev vN:ph:=top 23
def cC:FnScope ["web","top","ahead","place","below","stretch","start"] ["web","top","ahead","place"] (kO vN):=qN
abbrev gG:ph:=top 24
def tR:FnScope ["top","stretch","place","start","end"] ["top","stretch","place"] (kO gG):=qN
abbrev kKK:ph:=top 25
def kNU:FnScope ["web","base","thing","found","tops","at","stretch"] ["web","base","thing"] (kO kKK):=qN
abbrev vW:ph:=top 26
def dP:FnScope ["web","base","order","both"] ["web","base","order"] (kO vW):=qN
abbrev uX:ph:=top 28
def fY:FnScope ["spots","hung","places","by","gone"] ["spots","hung","places","by"] (kO uX):=qN
abbrev cW:ph:=top 29
def pL:FnScope ["left","right","x","y","further","higher","way"] ["left","right"] (kO cW):=qN
abbrev gN:ph:=top 30
def tX:FnScope ["order","found","tops","spots","hung","told","v","stretch","top","right"] ["order","found","tops"] (kO gN):=qN
abbrev kKL:ph:=top 31
def kNV:FnScope ["web","base","order","found","tops","spots"] ["web","base","order"] (kO kKL):=qN
abbrev nL:ph:=top 33
def kCK:FnScope ["_law_script","_law_k","_law_cell"] ["_law_script","_law_k"] (kO nL):=qN
abbrev cZ:ph:=top 34
def pP:FnScope ["_law_pot_here","_law_many","_law_digit_here"] ["_law_pot_here","_law_many"] (kO cZ):=qN
abbrev dA:ph:=top 35
def pQ:FnScope ["_law_rows","_law_p","_law_q","_law_row"] ["_law_rows","_law_p","_law_q"] (kO dA):=qN
abbrev aS:ph:=top 36
def mQ:FnScope ["_law_rows","_law_p","_law_v","_law_new","_law_row"] ["_law_rows","_law_p","_law_v","_law_new"] (kO aS):=qN
abbrev nO:ph:=top 37
def kCL:FnScope ["_law_rows","_law_p","_law_q","_law_r","_law_new"] ["_law_rows","_law_p","_law_q"] (kO nO):=qN
abbrev gJ:ph:=top 38
def tT:FnScope ["_law_rows","_law_p","_law_q","_law_r","_law_s"] ["_law_rows","_law_p","_law_q"] (kO gJ):=qN
abbrev gI:ph:=top 39
def tS:FnScope ["_law_pot_here","_law_rows","_law_p"] ["_law_pot_here","_law_rows"] (kO gI):=qN
abbrev vZ:ph:=top 40
def dS:FnScope ["_law_pot_here","_law_n","_law_rows","_law_k","_law_p","_law_q"] ["_law_pot_here","_law_n"] (kO vZ):=qN
abbrev cY:ph:=top 41
def pO:FnScope ["_law_pot_here","_law_n","_law_found","_law_k"] ["_law_pot_here","_law_n"] (kO cY):=qN
abbrev nJ:ph:=top 42
def kCI:FnScope ["_law_rows","_law_names_here","_law_found","_law_p","_law_row","_law_called","_law_k"] ["_law_rows","_law_names_here"] (kO nJ):=qN
abbrev gK:ph:=top 43
def tU:FnScope ["_law_pot_here","_law_web_here","_law_a","_law_c"] ["_law_pot_here","_law_web_here"] (kO gK):=qN
abbrev nK:ph:=top 44
def kCJ:FnScope ["_law_web_here","_law_ahead_here","_law_v","_law_row","_law_begins"] ["_law_web_here","_law_ahead_here","_law_v"] (kO nK):=qN
abbrev uY:ph:=top 45
def fZ:FnScope ["_law_pot_here","_law_web_here","_law_base_here","_law_order","_law_runs","_law_k","_law_some","_law_v","_law_row","_law_first"] ["_law_pot_here","_law_web_here","_law_base_here"] (kO uY):=qN
abbrev cX:ph:=top 46
def pN:FnScope ["_law_gaps","_law_first","_law_last"] ["_law_gaps","_law_first","_law_last"] (kO cX):=qN
abbrev vY:ph:=top 47
def dR:FnScope ["_law_order","_law_runs","_law_ring","_law_gaps","_law_high","_law_taken","_law_k","_law_v","_law_run_here","_law_left","_law_right","_law_wide","_law_far","_law_at","_law_found","_law_p","_law_by"] ["_law_order","_law_runs"] (kO vY):=qN
abbrev kEV:ph:=top 48
def sc_law:FnScope ["_law_script","_law_pot_here","_law_n","_law_web_here","_law_base_here","_law_order","_law_runs","_law_found"] ["_law_script"] (kO kEV):=qN
structure FxG(K:ay)(mg:Str->Option ar):Prop where
 X:∃ h:iS,K.In h/\h.Ns gm mg
 d0:jQ K "is_whole" gL
 d1:jQ K "are_whole" dB
 d2:jQ K "steps_of" gD
 d3:jQ K "ties" kKJ
 d4:jQ K "behind" tY
 d5:jQ K "steps_round" uW
 d6:jQ K "faces" kEW
 d7:jQ K "is_flat" nP
 d8:jQ K "must_be_flat" vX
 d9:jQ K "uncornered_face" zR
 d10:jQ K "are_round" dC
 d11:jQ K "is_base" nQ
 d12:jQ K "must_have_base" wK
 d13:jQ K "has_ends" gM
 d14:jQ K "stretch_under" vN
 d15:jQ K "put_over" gG
 d16:jQ K "laid" kKK
 d17:jQ K "must_be_laid" vW
 d18:jQ K "moved_right" uX
 d19:jQ K "spot_over" cW
 d20:jQ K "grids_by" gN
 d21:jQ K "grid" kKL
 d22:jQ K "_law_pot" nL
 d23:jQ K "_law_digit" cZ
 d24:jQ K "_law_ahead" dA
 d25:jQ K "_law_behind" aS
 d26:jQ K "_law_add" nO
 d27:jQ K "_law_flip" gJ
 d28:jQ K "_law_step" gI
 d29:jQ K "_law_cornered" vZ
 d30:jQ K "_law_names" cY
 d31:jQ K "_law_web" nJ
 d32:jQ K "_law_base" gK
 d33:jQ K "_law_run" nK
 d34:jQ K "_law_ordered" uY
 d35:jQ K "_law_wider" cX
 d36:jQ K "_law_reckoned" vY
 d37:jQ K "law" kEV
 y0:jd K gm "len" = some none
 y1:jd K gm "max" = some none
 y2:jd K gm "abs" = some none
 y3:jd K gm "range" = some none
 y4:jd K gm "enumerate" = some none
 y5:jd K gm "min" = some none
 y6:jd K gm "tuple" = some none
 y7:jd K gm "sorted" = some none
 y8:jd K gm "isinstance" = some none
 y9:jd K gm "bool" = some none
 y10:jd K gm "int" = some none
 y11:jd K gm "all" = some none
 y12:jd K gm "list" = some none
 y13:jd K gm "zip" = some none
 y14:jd K gm "sum" = some none
 y15:jd K gm "reversed" = some none
def FxG.z{K:ay}{mg:Str->Option ar}(B:FxG K mg){n:Str}(y:jd K gm n=some none):mg n=none:=by
 obtain⟨h,x,g⟩:=B.X;exact PySem.W.mg_none_of x g y
def Bad(c:Cn):Prop:=FxG c.K c.mg/\∃ f a,Fun c.K "law" "law" kEV f a/\¬ FnOk c.P c.w c.K c.mg c.base CX0 11 f a ["_law_script"] (nE c.K)
noncomputable def c0:Cn:=Classical.epsilon Bad
noncomputable def P:eo:=c0.P
noncomputable def w:iJ:=c0.w
noncomputable def K:ay:=c0.K
noncomputable def mg:Str->Option ar:=c0.mg
noncomputable def base:iS:=c0.base
abbrev Fx:=FxG K mg
abbrev Hs:=Own.Has P w K mg base
def kC{H:Hp}{p:au}(h:H p=none)(o:HO):Same H (upd H p o):=λ b u q=>by rw[kM (kJ q h)];exact q
def SameBut(a:au)(H H':Hp):Prop:=∀ b o,b≠a->H b=some o->H' b=some o
inductive kPU(K:ay)(vs:List V)(H:Hp)(Q:VK)(Y:XK):Prop
 | mk:∀(a:au)(ns:List Int)(k:Int),(vs=[.ref a,.int k])->(SqL K H a (ns.map V.int))->(ns.length<=63)->(0<=k)->(k<=63)->(∀(p:au)(x y:Int)(H':Hp),0<=x->Same H H'->H p=none->H' p=some (.lst [.int x,.int y])->Q (.ref p) H')->kPU K vs H Q Y
def PotAt(H:Hp)(a:au):Prop:=∃ x y:Int,H a=some (.lst [.int x,.int y])/\0<=x
inductive kER(vs:List V)(H:Hp)(Q:VK)(Y:XK):Prop
 | mk:∀(a:au)(m:Int),(vs=[.ref a,.int m])->(PotAt H a)->(0<m)->(m.natAbs<2 ^ 9000)->(∀(d:Int)(H':Hp),0<=d->d<m->SameBut a H H'->PotAt H' a->Q (.int d) H')->kER vs H Q Y
def vn(n:Nat):V:=.int (n:Int)
def ci(n:Nat):Int:=n
structure RowsAt(H:Hp)(r:au)(A:List au)(L:Rows):Prop where
 top:H r=some (.lst (A.map V.ref))
 len:A.length=L.length
 nd:A.Nodup
 out:r∉A
 row:∀(i:Nat)(a:au)(ns:List Nat),A[i]?=some a->L[i]?=some ns->H a=some (.lst (ns.map vn))
def xB(a:List Nat):a.map vn=(a.map ci).map V.int:=by
 rw[AW]
 rfl
def qG{a:List Nat}{n:Nat}(h:n∈a):vL (a.map ci) (n:Int) (a.idxOf n):=by
 have c:=gw h;refine⟨?_,λ m d e=>?_⟩
 ·rw[bg,aa c,Bf c]
  rfl
 ·have b:m<a.length:=by omega
  rw[bg,aa b]at e
  have f:a[m]=n:=by
   have z:((a[m]:Nat):Int)=(n:Int):=bh e;omega
  have q:=List.not_of_lt_findIdx (p:=(· == n)) (xs:=a) d;rw[f]at q;simp at q
def RowsAt.at{H:Hp}{r:au}{A:List au}{L:Rows}(x:RowsAt H r A L){i:Nat}{c:List Nat}(h:L[i]?=some c):∃ a,A[i]?=some a/\H a=some (.lst (c.map vn))/\atI (A.map V.ref) (i:Int)=some (.ref a):=by
 have b:i<A.length:=by rw[x.len];exact(aj.mp h).1
 refine⟨A[i],aa b,x.row i _ c (aa b) h,qS ?_⟩;rw[bg,aa b]
 rfl
inductive kET(vs:List V)(H:Hp)(Q:VK)(Y:XK):Prop
 | mk:∀(r b:au)(xs:List V)(p q:Nat)(row:List Nat)(v:Nat),(vs=[.ref r,vn p,vn q])->((H r=some (.lst xs)/\H b=some (.lst (row.map vn))\/H r=some (.tup xs)/\H b=some (.tup (row.map vn))))->(atI xs (q:Int)=some (.ref b))->(p∈row)->(xK row p=some v)->(Q (vn v) H)->kET vs H Q Y
def sP{row:List Nat}{p v:Nat}(hp:p∈row)(h:xK row p=some v):atI (row.map vn) ((row.idxOf p:Int)-1)=some (vn v):=by
 have b:=gw hp;unfold xK at h;by_cases h0:row.idxOf p=0
 ·rw[if_pos h0]at h
  rw[h0]
  have e:row=row.dropLast++[v]:=by
   have a:row≠[]:=λ z=>by rw[z]at hp;cases hp
   rw[eW a]at h;rw[<-bh h];exact(eO a).symm
  rw[e,eE];exact yJ _ _
 ·rw[if_neg h0]at h
  have e:((row.idxOf p:Int)-1)=((row.idxOf p-1:Nat):Int):=by omega
  rw[e];exact qS (by rw[bg,h];rfl)
section
def at0{x y:V}:atI [x,y] 0=some x:=rfl
def at1{x y:V}:atI [x,y] 1=some y:=rfl
def zC(B:Fx):Hs "_law_ahead" ["_law_rows","_law_p","_law_q"] 1 (kET):=by
 refine qP B.X B.d24 pQ λ f j A c s H l Q E g n h=>?_;obtain⟨r,b,m,p,q,row,v,rfl,⟨h1,a⟩ | ⟨h1,a⟩,d,hp,i,k⟩:=h
 ·refine⟨_,(kE (pst 3 g (pix kW (pv 0) (pv 2)))
   (kL (kX (pix kW (pv 3) (kT xW (jD je jf yG (pv 3) (p1 (pv 1))) kI))))),?_⟩
  try dsimp only[qY]
  refine⟨_,rfl,_,rfl,r,_,_,_,rfl,rfl,SqL.of h1,d,?_⟩;refine⟨_,rfl,_,rfl,.inl ⟨rfl,_,SqL.of a⟩,_,rfl,b,row.map ci,p,row.idxOf p,rfl,rfl,by rw[a,xB],qG hp,_,_,rfl,rfl,?_⟩;exact⟨b,_,_,_,rfl,rfl,SqL.of a,sP hp i,k⟩
 ·refine⟨_,(kE (pst 3 g (pix qC (pv 0) (pv 2)))
   (kL (kX (pix qC (pv 3) (kT xW (kAE zm zo zq cI (pv 3) (p1 (pv 1))) kI))))),?_⟩
  try dsimp only[qY]
  refine⟨_,rfl,_,rfl,r,_,_,_,rfl,rfl,SqT.of h1,d,?_⟩;refine⟨_,rfl,_,rfl,.inr (.inl ⟨rfl,.inr ⟨_,a⟩⟩),_,rfl,b,row.map ci,p,row.idxOf p,rfl,rfl,SqT.of (by rw[a,xB]),qG hp,_,_,rfl,rfl,?_⟩;exact⟨b,_,_,_,rfl,rfl,SqT.of a,sP hp i,k⟩
theorem RowsAt.set{H:Hp}{r:au}{A:List au}{L:Rows}(x:RowsAt H r A L){i:Nat}{a:au}(h:A[i]?=some a)(f:List Nat):RowsAt (upd H a (.lst (f.map vn))) r A (L.set i f):=by
 have l:r≠a:=λ z=>x.out (z ▸ cv h);have m:i<L.length:=by rw[<-x.len];exact(aj.mp h).1
 refine⟨by rw[kM l];exact x.top,by rw[AB];exact x.len,x.nd,x.out,λ j b o c d=>?_⟩;rcases zV m d with⟨rfl,rfl⟩ | ⟨g,d⟩
 ·rw[h]at c
  cases c
  exact kA
 ·have n:b≠a:=λ z=>by
   subst z;have:=(yh (aj.mp c).1 x.nd).mp (c.trans h.symm);exact g this
  rw[kM n];exact x.row j b o c d
def ButRows(r:au)(A:List au)(H H':Hp):Prop:=∀ b o,b≠r->b∉A->H b=some o->H' b=some o
inductive tO(vs:List V)(H:Hp)(Q:VK)(Y:XK):Prop
 | mk:∀(r:au)(A:List au)(L:Rows)(p v n:Nat)(row:List Nat),(vs=[.ref r,vn p,vn v,vn n])->(RowsAt H r A L)->(L[p]?=some row)->(v∈row)->(row.length<=1000)->(∀ H',ButRows r A H H'->RowsAt H' r A (L.set p (jH row v n))->Q .non H')->tO vs H Q Y
def xP(B:Fx):Hs "_law_behind" ["_law_rows","_law_p","_law_v","_law_new"] 1 (tO):=by
 refine qP B.X B.d25 mQ λ f x A d s H D Q E u I h=>?_;obtain⟨r,G,L,p,v,n,row,rfl,X,hp,g,m,k⟩:=h
 refine⟨_,(kE (pst 4 u (pix kW (pv 0) (pv 1)))
   (kL (qL (jD Bz CA oA (pv 4) (p2 (kT qF (jD je jf yG (pv 4) (p1 (pv 2))) kI) (pv 3)))))),?_⟩
 try dsimp only[qY]
 obtain⟨a,i,c,j⟩:=X.at hp;have C:=gw g;refine⟨_,rfl,_,rfl,r,_,_,_,rfl,rfl,SqL.of X.top,j,?_⟩;refine⟨_,rfl,.inl ⟨rfl,_,SqL.of c⟩,_,rfl,.inl ⟨rfl,_,SqL.of c⟩,_,rfl,a,row.map ci,v,row.idxOf v,rfl,rfl,by rw[c,xB],qG g,_,_,rfl,rfl,_,rfl,a,_,_,_,rfl,rfl,c,by omega,by omega,by rw[ai];exact kQ m,?_⟩
 have e:Fy ((row.idxOf v:Int)+1).toNat (row.map vn)++vn n::Gp ((row.idxOf v:Int)+1).toNat (row.map vn)=(jH row v n).map vn:=by
  have z:((row.idxOf v:Int)+1).toNat=row.idxOf v+1:=by omega
  rw[z];unfold jH;rw[eE,ug,gv,wq]
 have q:=k (upd H a (.lst ((jH row v n).map vn))) (λ b o _ y h=>by
  have l:b≠a:=λ z=>y (by rw[z];exact cv i);rw[kM l];exact h) (X.set i _)
 rw[<-e]at q;exact q
def ButRows.trans{r:au}{A:List au}{H c d:Hp}(x:ButRows r A H c)(y:ButRows r A c d):ButRows r A H d:=λ b o h1 a h=>y b o h1 a (x b o h1 a h)
def cD{L:Rows}(G:Good L){p:Nat}{row:List Nat}(h:L[p]?=some row):row.length<=6*L.length:=by
 have q:=yY L p row [] h;have t:=G.tot;simp only[qm]at q;omega
def RowsAt.app{H:Hp}{r:au}{A:List au}{L:Rows}(x:RowsAt H r A L){a:au}(h:H a=none)(m:List Nat):RowsAt (upd (upd H a (.lst (m.map vn))) r (.lst (A.map V.ref++[V.ref a]))) r (A++[a]) (L++[m]):=by
 have o:r≠a:=kJ x.top h
 have l:∀ b,b∈A->b≠a:=λ b d=>by
  obtain⟨i,f,rfl⟩:=eY.mp d;have g:i<L.length:=by rw[<-x.len];exact f
  exact kJ (x.row i _ _ (aa f) (aa g)) h
 refine⟨by rw[kA,eE];rfl,by simp[x.len],?_,?_,λ i b s d f=>?_⟩
 ·rw[de]
  exact⟨x.nd,by simp,λ b d c j=>by simp at j;rw[j];exact l b d⟩
 ·intro z
  rcases cf.mp z with z | z
  ·exact x.out z
  ·exact o (by simpa using z)
 ·by_cases p:i<A.length
  ·rw[az p]at d
   rw[az (by rw[<-x.len];exact p)]at f;have n:=cv d;have q:b≠r:=λ z=>x.out (by rw[<-z];exact n);rw[kM q,kM (l b n)];exact x.row i b s d f
  ·have e:i=A.length:=by
    have:=(aj.mp d).1;simp at this;omega
   subst e;rw[bf (be _)]at d;rw[bf (by rw[x.len];exact be _)]at f;rw[x.len]at f;simp at d f;subst d f;rw[kM o.symm,kA]
inductive kPV(vs:List V)(H:Hp)(Q:VK)(Y:XK):Prop
 | mk:∀(r:au)(A:List au)(L:Rows)(p q:Nat),(vs=[.ref r,vn p,vn q])->(RowsAt H r A L)->(Good L)->(L.length<=150)->(E L p q)->(∀(x:au)(L':Rows)(H':Hp),H x=none->ButRows r A H H'->RowsAt H' r (A++[x]) L'->Good L'->L'.length=L.length+1->Q .non H')->kPV vs H Q Y
def kCZ(B:Fx):Hs "_law_add" ["_law_rows","_law_p","_law_q"] 2 (kPV):=by
 refine qP B.X B.d26 kCL λ f a0 A J s H vs Q E U y h=>?_;obtain⟨r,a,L,p,q,rfl,X,G,hL,hE,k⟩:=h
 refine⟨_,(kE (pst 3 U (pf (zC B) y (kH (pv 0) (kH (pv 1) (kH (pv 2) kY)))))
   (kE (pst 4 U (kR kP rfl (B.z B.y0) fq (p1 (pv 0))))
   (kE (qL (pf (xP B) y (kH (pv 0) (kH (pv 1) (kH (pv 2) (kH (pv 4) kY))))))
   (kE (qL (pf (xP B) y (kH (pv 0) (kH (pv 2) (kH (pv 3) (kH (pv 4) kY))))))
   (kE (qL (pf (xP B) y (kH (pv 0) (kH (pv 3) (kH (pv 1) (kH (pv 4) kY))))))
   (kL (qL (jD ir iu jZ (pv 0) (p1 (qO (kH (pv 1) (kH (pv 2) (kH (pv 3) kY))))))))))))),?_⟩
 try dsimp only[qY]
 obtain⟨d,n,D⟩:=G.sym hE;obtain⟨u,hp,mp⟩:=hE;obtain⟨t,Z⟩:=wY D;have f:=yZ (G.nd q d n) D Z;have S:R L q t p:=⟨d,n,f⟩;have Fr:=G.tri _ _ _ S;obtain⟨v,j,nr⟩:=id Fr;have gd:=kND G hp n j f;obtain⟨lq,lt,lp,tq,pq⟩:=wL G S;obtain⟨_,_,_,pt,_⟩:=wL G Fr;have mr:=(kU nr).1;have g:(a.map V.ref).length=L.length:=by rw[ai];exact X.len
 obtain⟨aX,_,M,I⟩:=X.at n;refine⟨_,rfl,_,rfl,_,rfl,r,aX,_,p,q,d,t,rfl,.inl ⟨X.top,M⟩,I,D,Z,?_⟩;refine⟨_,rfl,r,_,rfl,.inl (SqL.of X.top),?_⟩;refine⟨_,rfl,_,rfl,_,rfl,_,rfl,r,a,L,p,q,(a.map V.ref).length,u,rfl,X,hp,mp,(by have:=cD G hp;omega),λ H1 b1 X1=>?_⟩;have N:(L.set p (jH u q (a.map V.ref).length))[q]?=some d:=by rw[fe pq];exact n
 refine⟨_,rfl,_,rfl,_,rfl,_,rfl,r,a,_,q,t,(a.map V.ref).length,d,rfl,X1,N,(kU f).1,(by have:=cD G n;omega),λ H2 b2 X2=>?_⟩;have C:((L.set p (jH u q (a.map V.ref).length)).set q (jH d t (a.map V.ref).length))[t]?=some v:=by rw[fe (λ z=>tq z.symm),fe pt];exact j
 refine⟨_,rfl,_,rfl,_,rfl,_,rfl,r,a,_,t,p,(a.map V.ref).length,v,rfl,X2,C,mr,(by have:=cD G j;omega),λ H3 b3 m=>?_⟩;refine⟨_,rfl,.inl ⟨rfl,_,SqL.of m.top⟩,_,rfl,_,rfl,_,rfl,yS3,λ x l=>?_⟩;have rx:r≠x:=kJ m.top l;have c:=b1.trans (b2.trans b3)
 have xn:H x=none:=by
  cases e:H x with
  | none=>rfl
  | some o =>
   have xA:x∉a:=λ z=>by
    obtain⟨i,T,rfl⟩:=eY.mp z;have O:i<(((L.set p (jH u q (a.map V.ref).length)).set q (jH d t (a.map V.ref).length)).set t (jH v p (a.map V.ref).length)).length:=by rw[<-m.len];exact T
    rw[m.row i _ _ (aa T) (aa O)]at l;cases l
   rw[c x o (λ z=>rx z.symm) xA e]at l;cases l
 refine⟨r,_,_,rfl,rfl,(by rw[kM rx];exact m.top),(by rw[g];exact kQ (by omega)),?_⟩;have Y:=m.app l [p,q,t];rw[g]at Y;refine k x (aM L p q t u d v) _ xn (λ b o h1 h2 h=>?_) Y gd (by simp[aM]);have bx:b≠x:=λ z=>by rw[z,xn]at h;cases h
 rw[kM h1,kM bx];exact c b o h1 h2 h
def kMV(a:List Int)(lo hi:Option Int):∃ ms:List Int,jV (a.map V.int) lo hi=ms.map V.int/\ms.length<=a.length:=by
 refine⟨(a.drop (HT.sIx (a.map V.int).length 0 lo)).take (HT.sIx (a.map V.int).length (a.map V.int).length hi-HT.sIx (a.map V.int).length 0 lo),?_,?_⟩
 ·unfold jV
  rw[ug,wq]
 ·rw[dc,iR]
  omega
def kIM(ms:List Int):∃ c:Int,atI (ms.map V.int++[V.int 0]) 0=some (V.int c):=by
 cases ms with
 | nil=>exact⟨0,rfl⟩
 | cons x r=>exact⟨x,qS (j:=0) rfl⟩
def xL{n:Nat}(h:n<=20000):n<sizeLine:=jj h (by rw[Ap];decide)
def kTH{n:Nat}(h:n<=1000):n<=sizeLine:=gh (kQ h)
def kCY(B:Fx):Hs "_law_pot" ["_law_script","_law_k"] 1 (kPU K):=by
 refine qP B.X B.d22 kCK λ f v A b s H J Q E r N h=>?_;obtain⟨a,d,k,rfl,m,y,L,M,q⟩:=h
 refine⟨_,(kE (pst 2 r (pix kW (kT wC (qB jE (pv 0) (kZ (pv 1)) (kZ (kT qF (pv 1) kI))) (qO (p1 kI))) kI))
   (kL (kX (qO (p2 (kR (kIU rfl) rfl (B.z B.y1) GM (p2 kI (kT xW (pv 2) (kT kRO kI kI)))) (kT qF (kT gZ (kT qF (kT qF (kR kNA rfl (B.z B.y2) GN (p1 (pv 2))) (kT rE kI (pv 1))) kI) kI) kI)))))),?_⟩
 try dsimp only[qY]
 obtain⟨o,em,I⟩:=kMV d (some k) (some (k+1));obtain⟨c,u⟩:=kIM o;refine⟨_,rfl,_,rfl,k,rfl,_,rfl,_,_,rfl,rfl,k+1,rfl,a,_,rfl,m,λ p1 h1=>?_⟩;refine⟨yS1,λ p2 j=>?_⟩;have i:p1≠p2:=kJ kA j;refine⟨p1,p2,_,_,rfl,rfl,(by rw[kM i];exact kA),kA,(by rw[em,ai,fk];exact kTH (by omega)),λ G p=>?_⟩;refine⟨G,_,_,_,rfl,rfl,SqL.of kA,(by rw[em];exact u),?_⟩;have n:Same H (upd H p1 (.lst (jV (d.map V.int) (some k) (some (k+1))))):=kC h1 _;have D:=kC j (.lst [V.int 0]);have x:=kC p (.lst (jV (d.map V.int) (some k) (some (k+1))++[V.int 0]));have g:=n.trans (D.trans x);refine⟨_,rfl,_,_,rfl,rfl,⟨by decide,by decide,by decide⟩,_,_,rfl,rfl,_,_,rfl,_,rfl,c,rfl,_,rfl,_,_,rfl,rfl,.inl ⟨by decide,by decide⟩,_,_,rfl,rfl,_,_,rfl,rfl,_,_,rfl,rfl,(by show(0:Int)<2147483629;decide),_,_,rfl,rfl,yS2,λ C l=>?_⟩;refine q C _ _ _ ?_ (g.trans (kC l _)) (g.free l) kA
 split<;>omega
def SameBut.trans{a:au}{H c d:Hp}(x:SameBut a H c)(y:SameBut a c d):SameBut a H d:=λ b o n h=>y b o n (x b o n h)
def SameBut.of{a:au}{H H':Hp}(h:Same H H'):SameBut a H H':=λ b o _ e=>h b o e
def kGG{a:au}{H:Hp}{o:HO}:SameBut a H (upd H a o):=λ b u n h=>by rw[kM n];exact h
def qR(B:Fx):Hs "_law_digit" ["_law_pot_here","_law_many"] 1 (kER):=by
 refine qP B.X B.d23 pP λ f n A g s H p Q E l u h=>?_;obtain⟨a,m,rfl,⟨x,y,b,i⟩,d,j,q⟩:=h
 refine⟨_,(kE (yW (qK kQC (pix kW (pv 0) kI) kI (jC _)) (kE (pst 2 l (kT gZ (pix kW (pv 0) kI) (pv 1)))
   (kE (xV (kT Own.op_fdivW (pix kW (pv 0) kI) (pv 1)) (gX (pv 0) kI vV))
   (kL (kX (pv 2))))) jL)
   (kE (xV (kT gZ (kT qF (kT rE (pix kW (pv 0) kI) kI) kI) kI) (gX (pv 0) kI vV))
   (kL (kX (kT gZ (kT fK (kT gZ (kT rE (pix kW (pv 0) kI) (pix kW (pv 0) kI)) kI) kI) (pv 1)))))),?_⟩
 try dsimp only[qY]
 refine⟨_,rfl,a,_,_,_,rfl,rfl,SqL.of b,at0,_,_,rfl,rfl,_,rfl,?_⟩;refine kIE (λ c=>?_) (λ c=>?_)
 ·refine⟨_,rfl,a,_,_,_,rfl,rfl,SqL.of b,at0,_,rfl,_,_,rfl,rfl,d,?_⟩
  refine⟨_,rfl,a,_,_,_,rfl,rfl,SqL.of b,at0,_,rfl,_,_,rfl,rfl,⟨by omega,j⟩,?_⟩;refine⟨_,rfl,a,_,_,0,rfl,rfl,b,rfl,?_⟩;refine⟨_,rfl,?_⟩;refine q _ _ (Cj _ (by omega)) (Bg _ d) kGG ⟨_,_,kA,?_⟩;rw[BU _ (by omega)];exact Int.ediv_nonneg i (by omega)
 ·refine⟨_,rfl,a,_,_,_,rfl,rfl,SqL.of b,at1,_,_,rfl,rfl,.inr ⟨by decide,by decide⟩,_,_,rfl,rfl,_,_,rfl,rfl,(by show(0:Int)<2147483647;decide),?_⟩
  refine⟨_,rfl,a,_,_,1,rfl,rfl,b,rfl,?_⟩;have r:0<=(y*48271+39373) % 2147483647:=Cj _ (by decide);have o:(y*48271+39373) % 2147483647<2147483647:=Bg _ (by decide);refine⟨_,rfl,a,_,_,_,rfl,rfl,SqL.of kA,at1,_,rfl,a,_,_,_,rfl,rfl,SqL.of kA,at1,_,_,rfl,rfl,.inl ⟨?_,?_⟩,_,_,rfl,rfl,(by show(0:Int)<2147483629;decide),_,_,rfl,rfl,⟨by decide,by decide⟩,_,rfl,_,_,rfl,rfl,d,?_⟩
  ·show -(2 ^ 64)<(y*48271+39373) % 2147483647
   omega
  ·show(y*48271+39373) % 2147483647<2 ^ 64
   omega
  ·exact q _ _ (Cj _ (by omega)) (Bg _ d) kGG ⟨_,_,kA,i⟩
def keep{H a d:Hp}{p:au}(g:Same H a)(n:H p=none)(b:SameBut p a d):Same H d:=λ c o e=>b c o (kJ e n) (g c o e)
def PotAt.kept{H H':Hp}{p:au}(h:PotAt H p)(g:Same H H'):PotAt H' p:=by
 obtain⟨x,y,e,z⟩:=h;exact⟨x,y,g _ _ e,z⟩
def fA{i:Int}(h:i.natAbs<2 ^ 200):i.natAbs<2 ^ 9000:=cy h (Nat.pow_le_pow_right (by decide) (by decide))
def PotAt.other{H:Hp}{a l:au}{o:HO}(h:PotAt H a)(n:a≠l):PotAt (upd H l o) a:=by
 obtain⟨x,y,e,z⟩:=h;exact⟨x,y,by rw[kM n];exact e,z⟩
def kSG(s:Nat)(row:List Nat):inV (vn s) (row.map vn)=decide (s∈row):=by
 unfold inV;rw[iV,EM,decide_eq_true_iff];constructor
 ·rintro⟨x,b,e⟩
  obtain⟨n,a,rfl⟩:=iP.mp b;have:((n:Int) == (s:Int))=true:=e
  have:n=s:=by
   have:=eq_of_beq this;omega
  subst this;exact a
 ·intro h
  exact⟨vn s,iP.mpr ⟨s,h,rfl⟩,(beq_self_eq_true (s:Int))⟩
def kPF(row:List Nat):(row.map vn).all aB=true:=by
 rw[GE,wz];intro x _
 rfl
def kMO(row:List Nat)(q:Nat):((row.map ci).eraseIdx (row.idxOf q)).map V.int=(jU row q).map vn:=by
 unfold jU;rw[xB,vE ci]
def kHG{L:Rows}{i j:Nat}{r:List Nat}{row:List Nat}(h:L[j]?=some row)(n:i≠j):(L.set i r)[j]?=some row:=by rw[fe n];exact h
inductive kKC(vs:List V)(H:Hp)(Q:VK)(Y:XK):Prop
 | mk:∀(r:au)(A:List au)(L:Rows)(p q:Nat),(vs=[.ref r,vn p,vn q])->(RowsAt H r A L)->(Good L)->(L.length<=150)->(E L p q)->(∀(L':Rows)(H':Hp),ButRows r A H H'->RowsAt H' r A L'->Good L'->L'.length=L.length->Q .non H')->kKC vs H Q Y
def kAI(B:Fx):Hs "_law_flip" ["_law_rows","_law_p","_law_q"] 2 (kKC):=by
 refine qP B.X B.d27 tT λ f a3 A Z s H vs Q E nN C h=>?_;obtain⟨r,A1,L,p,q,rfl,X,G,hL,hE,k⟩:=h
 refine⟨_,(kE (pst 3 nN (pf (zC B) C (kH (pv 0) (kH (pv 1) (kH (pv 2) kY)))))
   (kE (pst 4 nN (pf (zC B) C (kH (pv 0) (kH (pv 2) (kH (pv 1) kY)))))
   (kL (yW (PW.pt (pW (qK kAG (pv 3) (pv 4) (jC _)) (pV (qK vC (pv 4) (pix kW (pv 0) (pv 3)) rfl)))) (kE (qL (jD CB CC nZ (pix kW (pv 0) (pv 1)) (p1 (pv 2))))
   (kE (qL (jD CB CC nZ (pix kW (pv 0) (pv 2)) (p1 (pv 1))))
   (kE (qL (pf (xP B) C (kH (pv 0) (kH (pv 3) (kH (pv 1) (kH (pv 4) kY))))))
   (kL (qL (pf (xP B) C (kH (pv 0) (kH (pv 4) (kH (pv 2) (kH (pv 3) kY)))))))))) jL)))),?_⟩
 try dsimp only[qY]
 obtain⟨d,x,y⟩:=G.sym hE;obtain⟨a,hp,mp⟩:=hE;obtain⟨t,ht⟩:=wY y;obtain⟨u,hu⟩:=wY mp;have f:=yZ (G.nd q d x) y ht;have f':=yZ (G.nd p a hp) mp hu;have Fq:R L q t p:=⟨d,x,f⟩;have Fp:R L p u q:=⟨a,hp,f'⟩;have Ft:=G.tri _ _ _ Fq;have Fu:=G.tri _ _ _ Fp;obtain⟨D,g,nt⟩:=id Ft;obtain⟨ru,j,nu⟩:=id Fu;obtain⟨lq,lt,lp,tq,pq⟩:=wL G Fq;obtain⟨_,lu,_,a5,qp⟩:=wL G Fp;obtain⟨_,_,_,pt,qt⟩:=wL G Ft;obtain⟨_,_,_,qu,pu⟩:=wL G Fu;obtain⟨aX,_,a0,S⟩:=X.at x;refine⟨_,rfl,_,rfl,_,rfl,r,aX,_,p,q,d,t,rfl,.inl ⟨X.top,a0⟩,S,y,ht,?_⟩;obtain⟨aY,_,I,J⟩:=X.at hp;refine⟨_,rfl,_,rfl,_,rfl,r,aY,_,q,p,a,u,rfl,.inl ⟨X.top,I⟩,J,mp,hu,?_⟩;have stay:=k L H (λ _ _ _ _ h=>h) X G rfl;refine⟨_,rfl,_,rfl,rfl,_,rfl,?_⟩;refine kIE (λ c=>?_) (λ c=>yK stay);have tu:t≠u:=λ z=>by subst z;simp[vn]at c
 obtain⟨at',a4,a2,Y⟩:=X.at g;refine⟨_,rfl,_,rfl,_,rfl,r,_,_,_,rfl,rfl,SqL.of X.top,Y,at',_,rfl,.inl (SqL.of a2),rfl,kPF _,_,rfl,?_⟩;rw[kSG];refine kIE (λ c2=>?_) (λ c2=>stay);have ut:u∉D:=λ z=>by simp[z]at c2
 have gd:=kIL G hp x g j f f' tu ut
 obtain⟨ap,l,n,U⟩:=X.at hp;refine⟨_,rfl,_,rfl,r,_,_,_,rfl,rfl,SqL.of X.top,U,.inl ⟨rfl,_,SqL.of n⟩,_,rfl,ap,a.map ci,q,a.idxOf q,rfl,rfl,(by rw[n,xB]),qG mp,?_⟩;rw[kMO];have X1:=X.set l (jU a q);have a1:=kHG (i:=p) (r:=jU a q) x pq;obtain⟨O,v,m,M⟩:=X1.at a1;refine⟨_,rfl,_,rfl,r,_,_,_,rfl,rfl,SqL.of X1.top,M,.inl ⟨rfl,_,SqL.of m⟩,_,rfl,O,d.map ci,p,d.idxOf p,rfl,rfl,(by rw[m,xB]),qG y,?_⟩;rw[kMO];have X2:=X1.set v (jU d p)
 have b2:ButRows r A1 H (upd (upd H ap (.lst ((jU a q).map vn))) O (.lst ((jU d p).map vn))):=λ b o h1 h2 h=>by
  rw[kM (λ z=>h2 (by rw[z];exact cv v)),kM (λ z=>h2 (by rw[z];exact cv l))];exact h
 generalize upd (upd H ap (.lst ((jU a q).map vn))) O (.lst ((jU d p).map vn))=H2 at *;have N:=kHG (i:=q) (r:=jU d p) (kHG (i:=p) (r:=jU a q) g pt) qt;refine⟨_,rfl,_,rfl,_,rfl,_,rfl,r,A1,_,t,p,u,D,rfl,X2,N,(kU nt).1,(by have:=cD G g;omega),λ H3 b3 X3=>?_⟩;have T:=kHG (i:=t) (r:=jH D p u) (kHG (i:=q) (r:=jU d p) (kHG (i:=p) (r:=jU a q) j pu) qu) tu;refine⟨_,rfl,_,rfl,_,rfl,_,rfl,r,A1,_,u,q,t,ru,rfl,X3,T,(kU nu).1,(by have:=cD G j;omega),λ H4 b4 X4=>?_⟩;exact k _ H4 (b2.trans (b3.trans b4)) X4 gd (by simp[zP])
structure Some'(L:Rows):Prop where
 pos:0<L.length
 le:L.length<=150
 ne:∀(p:Nat)(row:List Nat),L[p]?=some row->row≠[]/\row.length<=1000
def RowsAt.but{H H':Hp}{r a:au}{A:List au}{L:Rows}(x:RowsAt H r A L)(h1:a≠r)(d:a∉A)(g:SameBut a H H'):RowsAt H' r A L :=
 ⟨g _ _ h1.symm x.top,x.len,x.nd,x.out,λ i b f c h=>g _ _ (λ z=>d (z ▸ cv c)) (x.row i b f c h)⟩
def kDY{row:List Nat}{j:Nat}(h:j<row.length):atI (row.map vn) (j:Int)=some (vn row[j]):=qS (by rw[bg,aa h];rfl)
inductive kJY(vs:List V)(H:Hp)(Q:VK)(Y:XK):Prop
 | mk:∀(a r:au)(A:List au)(L:Rows),(vs=[.ref a,.ref r])->(PotAt H a)->(RowsAt H r A L)->(a≠r)->(a∉A)->(Some' L)->(∀(t:au)(p q:Nat)(H':Hp),SameBut a H H'->PotAt H' a->H t=none->H' t=some (.tup [vn p,vn q])->E L p q->Q (.ref t) H')->kJY vs H Q Y
def WebAt(H:Hp)(t:au)(W:Rows):Prop:=∃ b:List au,H t=some (.tup (b.map V.ref))/\b.length=W.length/\∀(j:Nat)(a:au)(row:List Nat),b[j]?=some a->W[j]?=some row->H a=some (.tup (row.map vn))
def WebAt.at{H:Hp}{t:au}{W:Rows}(h:WebAt H t W):∃ ts:List au,H t=some (.tup (ts.map V.ref))/\ts.length=W.length/\∀(q:Nat)(row:List Nat),W[q]?=some row->∃ b,atI (ts.map V.ref) (q:Int)=some (.ref b)/\H b=some (.tup (row.map vn)):=by
 obtain⟨ts,h1,a,d⟩:=h;refine⟨ts,h1,a,λ q row e=>?_⟩;have c:q<ts.length:=by rw[a];exact(aj.mp e).1
 exact⟨ts[q],qS (by rw[bg,aa c];rfl),d q _ row (aa c) e⟩
def kCR{H:Hp}{a b:au}{o:HO}(hp:PotAt H a)(e:H b=some o)(n:∀ xs,o≠.lst xs):b≠a:=λ z=>by
 obtain⟨x,y,h,_⟩:=hp;rw[z,h]at e;exact n _ (bh e).symm
def WebAt.pot{H H':Hp}{a t:au}{W:Rows}(h:WebAt H t W)(g:SameBut a H H')(hp:PotAt H a):WebAt H' t W:=by
 obtain⟨l,h1,i,c⟩:=h;exact⟨l,g _ _ (kCR hp h1 (by simp)) h1,i,λ j b row f d=>g _ _ (kCR hp (c j b row f d) (by simp)) (c j b row f d)⟩
def WebAt.kept{H H':Hp}{t:au}{W:Rows}(h:WebAt H t W)(g:Same H H'):WebAt H' t W:=by
 obtain⟨c,h1,b,d⟩:=h;exact⟨c,g _ _ h1,b,λ j a row i f=>g _ _ (d j a row i f)⟩
inductive kEK(vs:List V)(H:Hp)(Q:VK)(Y:XK):Prop
 | mk:∀(a r:au)(W:Rows),(vs=[.ref a,.ref r])->(PotAt H a)->(WebAt H r W)->(0<W.length)->(W.length<=150)->((∀(p:Nat)(row:List Nat),W[p]?=some row->row≠[]/\row.length<=1000))->(∀(t:au)(p q:Nat)(H':Hp),SameBut a H H'->PotAt H' a->H t=none->H' t=some (.tup [vn p,vn q])->E W p q->Q (.ref t) H')->kEK vs H Q Y
def kNP:Sp:=λ a H Q E=>kJY a H Q E\/kEK a H Q E
def uI(B:Fx):Hs "_law_step" ["_law_pot_here","_law_rows"] 2 (kNP):=by
 refine qP B.X B.d28 tS λ f a5 A a0 s H vs Q E nN O h=>?_;rcases h with h | h
 ·obtain⟨a,r,A1,L,rfl,M,X,I,l,S,k⟩:=h
  refine⟨_,(kE (pst 2 nN (pf (qR B) O (p2 (pv 0) (kR kP rfl (B.z B.y0) fq (p1 (pv 1))))))
   (kL (kX (qT (p2 (pv 2) (pix kW (pix kW (pv 1) (pv 2)) (pf (qR B) O (p2 (pv 0) (kR kP rfl (B.z B.y0) fq (p1 (pix kW (pv 1) (pv 2)))))))))))),?_⟩
  try dsimp only[qY]
  have lA:((A1.map V.ref).length:Int)=L.length:=by rw[ai,X.len]
  have sp:=S.pos;have sl:=S.le;refine⟨_,rfl,_,rfl,r,_,rfl,.inl (SqL.of X.top),a,_,rfl,M,(by omega),fA (by rw[lA];exact jj (m:=150) (by omega) (by decide)),λ d H1 d0 Z n p1=>?_⟩;rw[lA]at Z;obtain⟨p,rfl⟩:=si d0;have hp:p<L.length:=by omega
  have N:=X.but I l n;have b:=aa hp;obtain⟨Y,e1,e2,e3⟩:=N.at b;obtain⟨q,a2⟩:=S.ne p _ b;have D:0<L[p].length:=wd.mpr q;have G:((L[p].map vn).length:Int)=L[p].length:=by rw[ai]
  refine⟨_,rfl,_,rfl,_,rfl,r,_,_,_,rfl,rfl,SqL.of N.top,e3,_,rfl,_,rfl,_,rfl,r,_,_,_,rfl,rfl,SqL.of N.top,e3,Y,_,rfl,.inl (SqL.of e2),a,_,rfl,p1,(by omega),fA (by rw[G];exact jj (m:=1000) (by omega) (by decide)),λ d' H2 c0 c1 i p2=>?_⟩;rw[G]at c1;obtain⟨j,rfl⟩:=si c0;have C:j<L[p].length:=by omega
  have X2:=N.but I l i;have a3:Y≠a:=λ z=>l (z ▸ cv e1);refine⟨Y,_,_,_,rfl,rfl,SqL.of (i _ _ a3 e2),kDY C,yS2,λ t g=>?_⟩;have J:=kC g (.tup [vn p,vn L[p][j]])
  have u:H t=none:=by
   cases e:H t with
   | none=>rfl
   | some o =>
    have ta:t≠a:=λ z=>by
     obtain⟨x,y,w,_⟩:=p2;rw[z,w]at g;cases g
    rw[(n.trans i) t o ta e]at g;cases g
  exact k t p L[p][j] _ (n.trans (i.trans (.of J))) (p2.kept J) u kA ⟨_,b,iY C⟩
 ·obtain⟨a,r,W,rfl,M,hW,w0,w1,wl,k⟩:=h
  refine⟨_,(kE (pst 2 nN (pf (qR B) O (p2 (pv 0) (kR kP rfl (B.z B.y0) fq (p1 (pv 1))))))
   (kL (kX (qT (p2 (pv 2) (pix qC (pix qC (pv 1) (pv 2)) (pf (qR B) O (p2 (pv 0) (kR kP rfl (B.z B.y0) fq (p1 (pix qC (pv 1) (pv 2)))))))))))),?_⟩
  try dsimp only[qY]
  obtain⟨ts,h1,T,h3⟩:=hW.at;have eL:((ts.map V.ref).length:Int)=(W.length:Int):=by rw[ai,T]
  refine⟨_,rfl,_,rfl,r,_,rfl,.inr (SqT.of h1),a,_,rfl,M,(by omega),fA (by rw[eL];exact jj (m:=150) (by omega) (by decide)),λ d H1 d0 Z n p1=>?_⟩;rw[eL]at Z;obtain⟨p,rfl⟩:=si d0;have hp:p<W.length:=by omega
  have W1:=hW.pot n M;obtain⟨a6,v,a4,a1⟩:=W1.at;have b:=aa hp;obtain⟨b1,f1,f2⟩:=a1 p W[p] b;obtain⟨q,a2⟩:=wl p _ b;have D:0<W[p].length:=wd.mpr q;have G:((W[p].map vn).length:Int)=W[p].length:=by rw[ai]
  refine⟨_,rfl,_,rfl,_,rfl,r,_,_,_,rfl,rfl,SqT.of v,f1,_,rfl,_,rfl,_,rfl,r,_,_,_,rfl,rfl,SqT.of v,f1,b1,_,rfl,.inr (SqT.of f2),a,_,rfl,p1,(by omega),fA (by rw[G];exact jj (m:=1000) (by omega) (by decide)),λ c H2 c0 c1 i p2=>?_⟩;rw[G]at c1;obtain⟨j,rfl⟩:=si c0;have C:j<W[p].length:=by omega
  have U:=i _ _ (kCR p1 f2 (by simp)) f2;refine⟨b1,_,_,_,rfl,rfl,SqT.of U,kDY C,yS2,λ t g=>?_⟩;have J:=kC g (.tup [vn p,vn W[p][j]])
  have u:H t=none:=by
   cases e:H t with
   | none=>rfl
   | some o =>
    have ta:t≠a:=λ z=>by
     obtain⟨x,y,w,_⟩:=p2;rw[z,w]at g;cases g
    rw[(n.trans i) t o ta e]at g;cases g
  exact k t p W[p][j] _ (n.trans (i.trans (.of J))) (p2.kept J) u kA ⟨_,b,iY C⟩
def cN{L:Rows}(G:Good L)(h:L.length<=150):Some' L :=
 ⟨by have:=G.three;omega,h,λ p row e=>⟨G.ne p row e,by have:=cD G e;omega⟩⟩
structure New(H:Hp)(a r:au)(A:List au):Prop where
 top:H r=none
 all:∀ x∈A,H x=none
 pot:a≠r/\a∉A
def New.but{H d f:Hp}{a r:au}{A:List au}(n:New H a r A)(s:SameBut a H d)(b:ButRows r A d f):SameBut a H f:=λ c o g e =>
 b c o (kJ e n.top) (λ z=>by rw[n.all c z]at e;cases e) (s c o g e)
def PotAt.rows{H H':Hp}{a r:au}{A:List au}(h:PotAt H a)(h1:a≠r)(c:a∉A)(b:ButRows r A H H'):PotAt H' a:=by
 obtain⟨x,y,e,z⟩:=h;exact⟨x,y,b _ _ h1 c e,z⟩
inductive fU(vs:List V)(H:Hp)(Q:VK)(Y:XK):Prop
 | mk:∀(a:au)(n:Nat),(vs=[.ref a,vn n])->(PotAt H a)->(3<=n)->(n<=40)->(∀(r:au)(A:List au)(L:Rows)(H':Hp),SameBut a H H'->PotAt H' a->RowsAt H' r A L->Good L->L.length=n->New H a r A->Q (.ref r) H')->fU vs H Q Y
def kDL{H:Hp}{c d f r:au}(D:H c=none)(A:upd H c (.lst [vn 1,vn 2]) d=none)(y:upd (upd H c (.lst [vn 1,vn 2])) d (.lst [vn 2,vn 0]) f=none)
  (j:upd (upd (upd H c (.lst [vn 1,vn 2])) d (.lst [vn 2,vn 0])) f (.lst [vn 0,vn 1]) r=none) :
  RowsAt (upd (upd (upd (upd H c (.lst [vn 1,vn 2])) d (.lst [vn 2,vn 0])) f (.lst [vn 0,vn 1])) r (.lst [.ref c,.ref d,.ref f])) r [c,d,f] [[1,2],[2,0],[0,1]]/\Same H (upd (upd (upd (upd H c (.lst [vn 1,vn 2])) d (.lst [vn 2,vn 0])) f (.lst [vn 0,vn 1])) r (.lst [.ref c,.ref d,.ref f])):=by
 have B:=kC D (.lst [vn 1,vn 2]);have m:=kC A (.lst [vn 2,vn 0]);have g:=kC y (.lst [vn 0,vn 1]);have h:=kC j (.lst [.ref c,.ref d,.ref f]);have h1:=h _ _ (g _ _ (m _ _ (kA (H:=H) (a:=c) (o:=.lst [vn 1,vn 2]))));have G:=h _ _ (g _ _ (kA (H:=upd H c (.lst [vn 1,vn 2])) (a:=d) (o:=.lst [vn 2,vn 0])));have C:=h _ _ (kA (H:=upd (upd H c (.lst [vn 1,vn 2])) d (.lst [vn 2,vn 0])) (a:=f) (o:=.lst [vn 0,vn 1]));have x:c≠d:=kJ (kA (H:=H) (a:=c) (o:=.lst [vn 1,vn 2])) A;have q:c≠f:=kJ (m _ _ (kA (H:=H) (a:=c) (o:=.lst [vn 1,vn 2]))) y;have u:d≠f:=kJ (kA (H:=upd H c (.lst [vn 1,vn 2])) (a:=d) (o:=.lst [vn 2,vn 0])) y;have v:c≠r:=kJ (g _ _ (m _ _ (kA (H:=H) (a:=c) (o:=.lst [vn 1,vn 2])))) j;have n:d≠r:=kJ (g _ _ (kA (H:=upd H c (.lst [vn 1,vn 2])) (a:=d) (o:=.lst [vn 2,vn 0]))) j;have s:f≠r:=kJ (kA (H:=upd (upd H c (.lst [vn 1,vn 2])) d (.lst [vn 2,vn 0])) (a:=f) (o:=.lst [vn 0,vn 1])) j;refine⟨⟨kA,rfl,?_,?_,λ i b I l p=>?_⟩,B.trans (m.trans (g.trans h))⟩
 ·simp[x,q,u]
 ·simp[v.symm,n.symm,s.symm]
 ·match i with
  | 0=>cases l;cases p;exact h1
  | 1=>cases l;cases p;exact G
  | 2=>cases l;cases p;exact C
  | i+3=>simp at l
def dZ(B:Fx):Hs "_law_cornered" ["_law_pot_here","_law_n"] 3 (fU):=by
 refine qP B.X B.d29 dS λ f a6 A a4 s H vs Q E C hr h=>?_;obtain⟨a,n,rfl,ha,n3,a7,k⟩:=h
 refine⟨_,(kE (pst 2 C (qO (kH (qO (p2 kI kI)) (kH (qO (p2 kI kI)) (kH (qO (p2 kI kI)) kY)))))
   (kE (dU (jY rfl (B.z B.y3) (p1 (kT xW (pv 1) kI))) (pgn 3 C) (kE (xV (pf (uI B) hr (p2 (pv 0) (pv 2))) (jR (n:=2) rfl (kS (pgn 4 C) (kS (pgn 5 C) qV))))
   (kL (qL (pf (kCZ B) hr (kH (pv 2) (kH (pv 4) (kH (pv 5) kY))))))))
   (kE (dU (jY rfl (B.z B.y3) (p1 (pf (qR B) hr (p2 (pv 0) (kT Own.op_mulW kI (pv 1)))))) (pgn 3 C) (kE (xV (pf (uI B) hr (p2 (pv 0) (pv 2))) (jR (n:=2) rfl (kS (pgn 4 C) (kS (pgn 5 C) qV))))
   (kL (qL (pf (kAI B) hr (kH (pv 2) (kH (pv 4) (kH (pv 5) kY))))))))
   (kL (kX (pv 2)))))),?_⟩
 try dsimp only[qY]
 refine⟨yS2,λ O m1=>⟨yS2,λ N m2=>⟨yS2,λ T m3=>⟨yS3,λ r m4=>?_⟩⟩⟩⟩;obtain⟨X0,g0⟩:=kDL m1 m2 m3 m4;have p0:=ha.kept g0
 have a1:New H a r [O,N,T]:=by
  obtain⟨x,y,j,_⟩:=ha;have g1:=kC m1 (.lst [vn 1,vn 2]);have g2:=kC m2 (.lst [vn 2,vn 0]);have g3:=kC m3 (.lst [vn 0,vn 1]);have f2:=g1.free m2;have f3:=(g1.trans g2).free m3;have f4:=(g1.trans (g2.trans g3)).free m4;refine⟨f4,λ x l=>?_,kJ j f4,λ z=>?_⟩
  ·simp at l
   rcases l with rfl | rfl | rfl
   ·exact m1
   ·exact f2
   ·exact f3
  ·simp at z
   rcases z with rfl | rfl | rfl
   ·rw[m1]at j;cases j
   ·rw[f2]at j;cases j
   ·rw[f3]at j;cases j
 generalize a3:upd (upd (upd (upd H O (.lst [vn 1,vn 2])) N (.lst [vn 2,vn 0])) T (.lst [vn 0,vn 1])) r (.lst [.ref O,.ref N,.ref T])=H1 at *;have a0:upd (upd (upd (upd H O (.lst [.int 1,.int 2])) N (.lst [.int 2,.int 0])) T (.lst [.int 0,.int 1])) r (.lst [.ref O,.ref N,.ref T])=H1:=a3;rw[a0]
 refine⟨_,rfl,_,_,rfl,rfl,_,rfl,by omega,by omega,xZ (lo:=0) (n:=((n:Int)-3).toNat) (λ i I Z=>∃(x y z:Option V)(A:List au)(L:Rows),I=[some (.ref a),some (vn n),some (.ref r),x,y,z]/\RowsAt Z r A L/\Good L/\L.length=3+i/\SameBut a H Z/\PotAt Z a/\New H a r A)
  ⟨none,none,none,_,_,rfl,X0,kDM,rfl,.of g0,p0,a1⟩ ?_ ?_⟩
 ·rintro i I Z hi ⟨x,y,z,u,L,rfl,X,G,hl,s2,p2,c⟩
  have g:L.length<=150:=by omega
  refine⟨_,rfl,_,rfl,.inl ⟨a,r,u,L,rfl,p2,X,c.pot.1,c.pot.2,cN G g,λ t p q H3 M p3 nt ht hE=>?_⟩⟩;have X3:=X.but c.pot.1 c.pot.2 M;refine⟨t,_,rfl,SqT.of ht,rfl,_,_,rfl,_,_,rfl,rfl,?_⟩;refine⟨_,rfl,_,rfl,_,rfl,r,u,L,p,q,rfl,X3,G,g,hE,λ nx L' D l b4 J G' a2=>?_⟩;have s4:=c.but (s2.trans M) b4;have U:=p3.rows c.pot.1 c.pot.2 b4
  have a5:H nx=none:=by
   cases e:H nx with
   | none=>rfl
   | some o =>
    have na:nx≠a:=λ z=>by
     obtain⟨v,w,j,_⟩:=p3;rw[z,j]at l;cases l
    rw[(s2.trans M) nx o na e]at l;cases l
  refine⟨_,_,_,u++[nx],L',rfl,J,G',by omega,s4,U,c.top,λ b hb=>?_,c.pot.1,λ z=>?_⟩
  ·rcases cf.mp hb with w | w
   ·exact c.all b w
   ·rw[bu.mp w];exact a5
  ·rcases cf.mp z with w | w
   ·exact c.pot.2 w
   ·have e:=bu.mp w
    obtain⟨v,w',j,_⟩:=p3;rw[<-e,j]at l;cases l
 ·rintro I Z ⟨x,y,z,u,L,rfl,X,G,hl,s2,p2,c⟩
  have hn:L.length=n:=by omega
  refine⟨_,rfl,_,rfl,_,_,rfl,rfl,⟨fA (by decide),fA (jj (m:=40) (by show((n:Int)).natAbs<=40;omega) (by decide))⟩,a,_,rfl,p2,(by show(0:Int)<2*(n:Int);omega),fA (jj (m:=80) (by show(2*(n:Int)).natAbs<=80;omega) (by decide)),λ d H3 d0 d1 M p3=>?_⟩;have a8:d<2*(n:Int):=d1
  refine⟨d,rfl,by omega,by omega,xZ (lo:=0) (n:=d.toNat) (λ i I D=>∃(x y z:Option V)(L:Rows),I=[some (.ref a),some (vn n),some (.ref r),x,y,z]/\RowsAt D r u L/\Good L/\L.length=n/\SameBut a H D/\PotAt D a)
   ⟨_,_,_,L,rfl,X.but c.pot.1 c.pot.2 M,G,hn,s2.trans M,p3⟩ ?_ ?_⟩
  ·rintro i I D hi ⟨x,y,z,Y,rfl,J,G4,S,s4,U⟩
   have g:Y.length<=150:=by omega
   refine⟨_,rfl,_,rfl,.inl ⟨a,r,u,Y,rfl,U,J,c.pot.1,c.pot.2,cN G4 g,λ t p q H5 s5 p5 nt ht hE=>?_⟩⟩;have X5:=J.but c.pot.1 c.pot.2 s5;refine⟨t,_,rfl,SqT.of ht,rfl,_,_,rfl,_,_,rfl,rfl,?_⟩;refine⟨_,rfl,_,rfl,_,rfl,r,u,Y,p,q,rfl,X5,G4,g,hE,λ L' H6 b6 X6 G' a2=>?_⟩;exact⟨_,_,_,L',rfl,X6,G',by omega,c.but (s4.trans s5) b6,p5.rows c.pot.1 c.pot.2 b6⟩
  ·rintro I D ⟨x,y,z,Y,rfl,J,G4,S,s4,U⟩
   exact⟨_,rfl,k r u Y D s4 U J G4 S c⟩
inductive kEM(vs:List V)(H:Hp)(Q:VK)(Y:XK):Prop
 | mk:∀(a:au)(n:Nat),(vs=[.ref a,vn n])->(PotAt H a)->(n<=150)->(∀(l:au)(ns:List Nat)(H':Hp),SameBut a H H'->PotAt H' a->H l=none->l≠a->H' l=some (.lst (ns.map vn))->ns.Perm (cw n)->Q (.ref l) H')->kEM vs H Q Y
def kLD{b:List Nat}{i d:Nat}(h:b.Perm (cw i)):(b.take d++i::b.drop d).Perm (cw (i+1)):=by
 rw[Ba]
 have e:(b.take d++i::b.drop d).Perm (i::b):=by
  have:=CI (a:=i) (l₁:=b.take d) (l₂:=b.drop d);rw[iB]at this;exact this
 exact e.trans ((List.Perm.cons i h).trans (List.perm_append_singleton i _).symm)
def rJ(B:Fx):Hs "_law_names" ["_law_pot_here","_law_n"] 2 (kEM):=by
 refine qP B.X B.d30 pO λ f M A u s H U Q E J O h=>?_;obtain⟨a,n,rfl,I,T,k⟩:=h
 refine⟨_,(kE (pst 2 J (qO kY))
   (kE (dU (jY rfl (B.z B.y3) (p1 (pv 1))) (pgn 3 J) (kL (qL (jD Bz CA oA (pv 2) (p2 (pf (qR B) O (p2 (pv 0) (kT qF (pv 3) kI))) (pv 3))))))
   (kL (kX (pv 2))))),?_⟩
 try dsimp only[qY]
 refine⟨yS0,λ l nl=>?_⟩
 have r:l≠a:=by
  obtain⟨x,y,z,_⟩:=I;exact(kJ z nl).symm
 have G:=kC nl (.lst [])
 refine⟨_,rfl,(n:Int),rfl,by omega,by omega,xZ (lo:=0) (n:=(n:Int).toNat) (λ i p g=>∃(x:Option V)(c:List Nat),p=[some (.ref a),some (vn n),some (.ref l),x]/\g l=some (.lst (c.map vn))/\c.Perm (cw i)/\SameBut a H g/\PotAt g a)
  ⟨none,[],rfl,kA,.nil,.of G,I.kept G⟩ ?_ ?_⟩
 ·rintro i p g Z ⟨x,c,rfl,j,hp,q,p2⟩
  have L:c.length=i:=by rw[hp.length_eq,iI]
  refine⟨_,rfl,.inl ⟨rfl,_,SqL.of j⟩,_,rfl,_,rfl,_,_,rfl,rfl,a,_,rfl,p2,(by omega),fA (jj (m:=151) (by omega) (by decide)),λ d H3 S Y C N=>?_⟩;have v:=C _ _ r j;refine⟨_,rfl,l,_,_,_,rfl,rfl,v,S,(by omega),(by rw[ai,L];exact kQ (by omega)),?_⟩;refine⟨_,c.take d.toNat++i::c.drop d.toNat,rfl,?_,kLD hp,(λ b o D e=>?_),N.other r.symm⟩
  ·rw[eE,ug,gv,wq,show vn i=V.int (0+(i:Int)) by rw[vh];rfl]
   exact kA
  ·rw[kM (kJ e nl)]
   exact C b o D (q b o D e)
 ·rintro p g ⟨x,c,rfl,j,hp,q,p2⟩
  exact⟨_,rfl,k l c g q p2 nl r j hp⟩
def yI(xs:List V){k:Nat}(h:k<=xs.length):jV xs (some (k:Int)) none=xs.drop k:=by
 unfold jV;rw[HT.sIx_none,HT.sIx_nat,jw h,jh];rw[iR];exact be _
def wE(xs:List V){k:Nat}(h:k<=xs.length):jV xs none (some (k:Int))=xs.take k:=by
 unfold jV;rw[HT.sIx_none,HT.sIx_nat,jw h,Cw,Dx]
def kNG(L:Rows)(a:List Nat)(W:Rows)(p:Nat):Prop:=∀ row,L[p]?=some row->∃ n M,a[p]?=some n/\M∈row.map (λ q=>a.getD q 0)/\(∀ i∈row.map (λ q=>a.getD q 0),M<=i)/\W[n]?=some (rot (row.map λ q=>a.getD q 0) M)
inductive kPS(vs:List V)(H:Hp)(Q:VK)(Y:XK):Prop
 | mk:∀(r l:au)(A:List au)(L:Rows)(ns:List Nat),(vs=[.ref r,.ref l])->(RowsAt H r A L)->(H l=some (.lst (ns.map vn)))->(ns.Perm (cw L.length))->(Some' L)->((∀(p:Nat)(row:List Nat),L[p]?=some row->∀ x∈row,x<L.length))->(∀(t:au)(W:Rows)(H':Hp),Same H H'->WebAt H' t W->W.length=L.length->(∀ p,p<L.length->kNG L ns W p)->Q (.ref t) H')->kPS vs H Q Y
def rP{n j:Nat}(h:j<n):ixN n (j:Int)=some j:=by
 unfold ixN;rw[if_pos (by omega),if_pos (by omega),iL]
def qJ{H a:Hp}{D:au}{o:HO}(n:H D=none)(g:Same H a):Same H (upd a D o):=λ b u e=>by
 rw[kM (kJ e n)];exact g b u e
def kKS(n:Nat)(e:au):(iD n [V.ref e]).flatten=(iD n e).map V.ref:=by
 induction n with
 | zero=>rfl
 | succ n ih=>rw[wk,wk,yf,ih];rfl
end
section
def kKM{n k:Nat}(h:k<=n):HT.sIx n n (some (k:Int))=k:=by rw[HT.sIx_nat,jw h]
end
section
def zX(s:Nat)(row:List Nat):inV (vn s) (row.map vn)=decide (s∈row):=by
 unfold inV;rw[iV,EM,decide_eq_true_iff];constructor
 ·rintro⟨y,b,e⟩
  obtain⟨n,a,rfl⟩:=iP.mp b;have:(n:Int)=s:=by simpa[eqV,vn] using e
  rw[show s=n by omega];exact a
 ·intro h
  exact⟨vn s,iP.mpr ⟨s,h,rfl⟩,by simp[eqV,vn]⟩
def yS(row:List Nat):(row.map vn).all aB=true:=by
 rw[wz];intro y a;obtain⟨n,b,rfl⟩:=iP.mp a
 rfl
inductive nI(vs:List V)(H:Hp)(Q:VK)(Y:XK):Prop
 | mk:∀(t z:au)(W:Rows)(p q:Nat),(vs=[.ref t,.ref z])->(WebAt H t W)->(H z=some (.tup [vn p,vn q]))->(Nb W)->(E W p q)->(∀(y:au)(H':Hp),Same H H'->H y=none->H' y=some (.tup [vn (nxt W (p,q)).1,vn (nxt W (p,q)).2])->Q (.ref y) H')->nI vs H Q Y
def kOA{W:Rows}(S:Nb W){q v p:Nat}(h:R W q v p):∃ row,W[q]?=some row/\p∈row/\xK row p=some v:=by
 obtain⟨row,e,n⟩:=h;exact⟨row,e,(kU n).2,pX (S.nd _ _ e) n⟩
def nY(B:Fx):Hs "behind" ["web","step"] 1 (nI):=by
 refine qP B.X B.d4 kHJ λ f m A c s H I Q E a J h=>?_;obtain⟨t,z,W,p,q,rfl,i,j,S,x,k⟩:=h
 refine⟨_,(kE (xV (pv 1) (jR (n:=2) rfl (kS (pgn 2 a) (kS (pgn 3 a) qV))))
   (kE (pst 4 a (pix qC (pv 0) (pv 3)))
   (kL (kX (qT (p2 (pv 3) (pix qC (pv 4) (kT xW (kAE zm zo zq cI (pv 4) (p1 (pv 2))) kI)))))))),?_⟩
 try dsimp only[qY]
 obtain⟨v,o,r,_⟩:=vT S x;obtain⟨row,C,hp,u⟩:=kOA S o;obtain⟨G,h1,_,l⟩:=i.at;obtain⟨b,D,d⟩:=l q row C;rw[r]at k;refine⟨_,rfl,z,_,rfl,SqT.of j,rfl,_,_,rfl,_,_,rfl,rfl,?_⟩;refine⟨_,rfl,_,rfl,t,_,_,_,rfl,rfl,SqT.of h1,D,?_⟩;refine⟨_,rfl,_,rfl,_,rfl,.inr (.inl ⟨rfl,.inr ⟨_,d⟩⟩),_,rfl,b,row.map ci,p,row.idxOf p,rfl,rfl,SqT.of (by rw[d,xB]),qG hp,_,_,rfl,rfl,b,_,_,_,rfl,rfl,SqT.of d,sP hp u,yS2,λ y g=>?_⟩;exact k y _ (kC g _) g kA
def prD(x y:Nat):Cs:=.tuple [.int (x:Int),.int (y:Int)]
def gW(x y:Nat):mh (prD x y)=true:=by
 first | rfl | simp[prD,mh,ou,ky,qz,ow]
def kFD(x y u v:Nat):jl (prD x y) (prD u v)=decide (x=u/\y=v):=by
 have e:∀ i j:Nat,((i:Int) == (j:Int))=decide (i=j):=λ i j=>by
  rw[iV,beq_iff_eq,decide_eq_true_iff];omega
 simp[prD,jl,ie,e]
def kMR{K:ay}{H:Hp}{z:au}{x y:Nat}(h:H z=some (.tup [vn x,vn y])):Dt K H (prD x y) (.ref z):=by
 unfold prD Dt;exact⟨z,_,rfl,SqT.of h,by simp only[DtAll,Dt];exact⟨_,_,rfl,rfl,_,_,rfl,rfl,rfl⟩⟩
def PairsAt(H:Hp)(s:au)(T:List (Nat×Nat)):Prop:=∃ a:List au,H s=some (.lst (a.map V.ref))/\a.length=T.length/\∀(i:Nat)(b:au)(t:Nat×Nat),a[i]?=some b->T[i]?=some t->H b=some (.tup [vn t.1,vn t.2])
def PairsAt.kept{H H':Hp}{s:au}{T:List (Nat×Nat)}(h:PairsAt H s T)(g:Same H H'):PairsAt H' s T:=by
 obtain⟨d,h1,a,f⟩:=h;exact⟨d,g _ _ h1,a,λ i b t c j=>g _ _ (f i b t c j)⟩
def PairsAt.app{H H':Hp}{s b:au}{a:List au}{T:List (Nat×Nat)}{t:Nat×Nat}(h1:H s=some (.lst (a.map V.ref)))(g:a.length=T.length)(l:∀(i:Nat)(b:au)(t:Nat×Nat),a[i]?=some b->T[i]?=some t->H b=some (.tup [vn t.1,vn t.2]))(j:H b=some (.tup [vn t.1,vn t.2])) :
  PairsAt (upd H s (.lst (a.map V.ref++[.ref b]))) s (T++[t]):=by
 refine⟨a++[b],by rw[eE];exact kA,by simp[g],λ i c u d f=>?_⟩;have h:c≠s->upd H s (.lst (a.map V.ref++[.ref b])) c=H c:=λ z=>kM z;by_cases m:i<a.length
 ·rw[az m]at d
  rw[az (by omega)]at f;have:=l i c u d f;rw[h (wM this h1 (by simp))];exact this
 ·have:i=a.length:=by
   have:=(aj.mp d).1;simp at this;omega
  subst this;rw[di]at d;rw[g,di]at f;cases d
  cases f
  rw[h (wM j h1 (by simp))];exact j
def orb(W:Rows)(p q k:Nat):List (Nat×Nat):=(cw k).map λ i=>it (nxt W) i (p,q)
def kLH(W:Rows)(p q k:Nat):orb W p q (k+1)=orb W p q k++[it (nxt W) k (p,q)]:=by
 unfold orb;rw[Ba,eE]
 rfl
def rC(W:Rows)(p q k:Nat):(orb W p q k).length=k:=by simp[orb]
structure Turns(W:Rows)(p q k:Nat):Prop where
 pos:0<k
 back:it (nxt W) k (p,q)=(p,q)
 first:∀ j,0<j->j<k->it (nxt W) j (p,q)≠(p,q)
 few:k<=(kN W).length
def kJD{W:Rows}(S:Nb W){p q:Nat}(h:E W p q):∃ k,Turns W p q k:=by
 obtain⟨k,h1,b,c,a⟩:=(hX S.nd S.sym).comes (mem_steps.mpr h);exact⟨k,h1,c,a,b⟩
def aQ{W:Rows}(S:Nb W)(h:W.length<=42):(kN W).length<=1764:=by
 rw[yN]
 have:∀(L:List (List Nat))(n:Nat),(∀ r∈L,r.length<=n)->(L.map jr).sum<=L.length*n:=λ L n b=>by
  induction L with
  | nil=>simp
  | cons r L ih =>
   have h1:=b r (by simp);have c:=ih λ r a=>b r (by simp[a]);simp only[gv,AO,gn,Nat.add_mul,Nat.one_mul];omega
 have h1:=this W W.length λ r a=>by
  obtain⟨i,d,rfl⟩:=eY.mp a;exact S.len (aa d)
 have c:W.length*W.length<=42*42:=Nat.mul_le_mul h h;omega
inductive tM(vs:List V)(H:Hp)(Q:VK)(Y:XK):Prop
 | mk:∀(w z:au)(W:Rows)(p q:Nat),(vs=[.ref w,.ref z])->(WebAt H w W)->(Nb W)->(W.length<=42)->(H z=some (.tup [vn p,vn q]))->(E W p q)->(∀(s:au)(k:Nat)(H':Hp),Same H H'->Turns W p q k->PairsAt H' s (orb W p q k)->Q (.ref s) H')->tM vs H Q Y
def lO:Option HO->Nat
 | some (.lst xs)=>xs.length
 | some (.dK kvs)=>kvs.length
 | _=>0
def kTU(a:Nat)(b:St)(H:Hp):Nat:=match b with
 | [_,_,some (.ref s),_]=>a-lO (H s)
 | _=>0
def uG(B:Fx):Hs "steps_round" ["web","step"] 2 (tM):=by
 refine qP B.X B.d5 fX λ f a5 A Z s0 H vs Q E Y hr h=>?_;obtain⟨w,z,W,p,q,rfl,hW,S,a0,U,hE,k⟩:=h
 refine⟨_,(kE (pst 2 Y (qO (p1 (pv 1))))
   (kE (pst 3 Y (pf (nY B) hr (p2 (pv 0) (pv 1))))
   (kE (kKZ EZ (qK (rD hr.units) (pv 3) (pv 1) (jC _)) (kE (qL (jD ir iu jZ (pv 2) (p1 (pv 3))))
   (kL (pst 3 Y (pf (nY B) hr (p2 (pv 0) (pv 3)))))))
   (kL (kX (pv 2)))))),?_⟩
 try dsimp only[qY]
 obtain⟨n,T⟩:=kJD S hE;have D:=aQ S a0;have n9:=T.few;refine⟨_,rfl,yS1,λ s ns=>?_⟩;have gs:=kC ns (.lst [.ref z]);refine⟨_,rfl,_,rfl,w,z,W,p,q,rfl,hW.kept gs,gs _ _ U,S,hE,λ y H1 g1 ny C=>?_⟩;have N:=g1 _ _ (kA (H:=H) (a:=s) (o:=.lst [.ref z]));have I:=gs.trans g1
 refine kJB (λ M g=>∃(y:au)(i:Nat)(r:List au),M=[some (.ref w),some (.ref z),some (.ref s),some (.ref y)]/\Same H g/\0<i/\i<=n /\
   g s=some (.lst (r.map V.ref))/\r.length=i/\(∀(j:Nat)(b:au)(t:Nat×Nat),r[j]?=some b->(orb W p q i)[j]?=some t->g b=some (.tup [vn t.1,vn t.2]))/\g y=some (.tup [vn (it (nxt W) i (p,q)).1,vn (it (nxt W) i (p,q)).2])) (kTU (n+1))
  ⟨y,1,[z],rfl,I,by omega,T.pos,N,rfl,(λ j b t J L=>?_),C⟩ ?_ ?_
 ·match j,J with
  | 0,J =>
   cases J
   have:t=(p,q):=by
    have:(orb W p q 1)[0]?=some (p,q):=rfl;rw[this]at L;exact(bh L).symm
   rw[this];exact I _ _ U
 ·rintro M g ⟨y,i,r,rfl,g2,i0,i1,x,ls,u,C⟩
  have a3:=g2 _ _ U;refine⟨_,rfl,_,rfl,_,prD p q,kMR C,kMR a3,gW _ _,gW _ _,_,rfl,?_⟩;rw[kFD];by_cases c:it (nxt W) i (p,q)=(p,q)
  ·rw[decide_eq_true (by rw[c];exact⟨rfl,rfl⟩)]
   have:i=n:=by
    rcases iH i n with l | l
    ·exact absurd c (T.first i i0 l)
    ·omega
   subst this;exact⟨_,rfl,k s i g g2 T ⟨r,x,by rw[rC];exact ls,u⟩⟩
  ·rw[decide_eq_false (λ z=>c (wj z.1 z.2))]
   have lt:i<n:=by
    rcases iH i n with l | l
    ·exact l
    ·exact absurd (by rw[show i=n by omega];exact T.back) c
   refine⟨_,rfl,.inl ⟨rfl,_,SqL.of x⟩,_,rfl,s,_,_,rfl,rfl,x,(by rw[ai];exact xL (by omega)),?_⟩;have A1:=PairsAt.app (H':=g) x (by rw[rC];exact ls) u (t:=it (nxt W) i (p,q)) C;rw[<-kLH]at A1;have gu:Same H (upd g s (.lst (r.map V.ref++[V.ref y]))):=qJ ns g2;have sy:y≠s:=wM C x (by simp);have a2:upd g s (.lst (r.map V.ref++[V.ref y])) y=some (.tup [vn (it (nxt W) i (p,q)).1,vn (it (nxt W) i (p,q)).2]):=by rw[kM sy];exact C
   generalize upd g s (.lst (r.map V.ref++[V.ref y]))=H3 at *;refine⟨_,rfl,_,rfl,w,y,W,_,_,rfl,hW.kept gu,a2,S,kFN S hE i,λ y' H4 g4 a4 a1=>?_⟩;obtain⟨G,b1,O,b3⟩:=A1.kept g4;rw[rC]at O;refine⟨⟨y',i+1,G,rfl,gu.trans g4,by omega,lt,b1,O,b3,a1⟩,?_⟩;show n+1-lO (H4 s)<n+1-lO (g s);rw[b1,x];show n+1-(G.map V.ref).length<n+1-(r.map V.ref).length;rw[ai,ai,O,ls];clear u b3 D;omega
 ·rintro M H1 Q1 Q2 m ⟨v,J,v2,L,d,e,h1,h2,h3,h4,kk,e5,q1⟩
  exact⟨v,J,v2,L,d,e,h1,h2,h3,h4,kk,e5,m _ _ q1⟩
end
section
end
section
theorem kBG{H:Hp}:∀{a:List au}{T:List (Nat×Nat)},a.length=T.length->(∀(i:Nat)(b:au)(t:Nat×Nat),a[i]?=some b->T[i]?=some t->H b=some (.tup [vn t.1,vn t.2]))->DtAll K H (T.map λ t=>prD t.1 t.2) (a.map V.ref)
 | [],[],_,_=>by unfold DtAll;rfl
 | s::a,t::T,hl,h=>by
  rw[gv,gv];unfold DtAll;exact⟨_,_,rfl,kMR (h 0 s t rfl rfl),kBG (by simpa using hl) λ i b u d c=>h (i+1) b u (by simpa using d) (by simpa using c)⟩
 | [],_::_,hl,_=>by simp at hl
 | _::_,[],hl,_=>by simp at hl
end
section
end
section
end
section
def kLX(l:List Nat):ie (l.map λ n:Nat=>kb (n:Int)) (l.map λ n:Nat=>kb (n:Int))=true:=by
 induction l with
 | nil=>rfl
 | cons x l ih=>simp[ie,jl,ih]
def kFY{H:Hp}(row:List Nat):DtAll K H (row.map λ n:Nat=>kb (n:Int)) (row.map vn):=by
 induction row with
 | nil=>unfold DtAll;rfl
 | cons x r ih =>
  rw[gv,gv];unfold DtAll;exact⟨_,_,rfl,(by unfold Dt;rfl),ih⟩
end
section
end
section
end
section
end
section
end
section
def kCX(B:Fx):Hs "_law_web" ["_law_rows","_law_names_here"] 1 (kPS):=by
 refine qP B.X B.d31 kCI λ f b8 A b3 s H vs Q E nN hr h=>?_;obtain⟨r,l,A1,L,d,rfl,X,hl,hp,S,as,k⟩:=h
 refine⟨_,(kE (pst 2 nN (kT kRN (qO (p1 (qT kY))) (kR kP rfl (B.z B.y0) fq (p1 (pv 0)))))
   (kE (dU (kFE true rfl (B.z B.y4) (p1 (pv 0))) (jR (n:=2) rfl (kS (pgn 3 nN) (kS (pgn 4 nN) qV))) (kE (aU (i:=5) (Nc:=["_law_q","_law_names_here"]) (js:=[none,some 1]) rfl rfl nN rfl (zd rfl) (yD (pv 4)) (CS.of rfl rfl) rfl (λ C a9 a4 fp a6=>(pgc 0)) (λ C a9 a4 fp a6 D L=>(jG (xD (pix (show IxR _ (kRD K) from kW) (pv 1) (pv 0))))))
   (kE (pst 6 nN (jD je jf yG (pv 5) (p1 (kR (kIT rfl) rfl (B.z B.y5) GO (p1 (pv 5))))))
   (kL (xV (xI jK rfl (B.z B.y6) kg (p1 (kT wC (qB jE (pv 5) (kZ (pv 6)) qU) (qB jE (pv 5) qU (kZ (pv 6)))))) (gX (pv 2) (pix kW (pv 1) (pv 3)) vV))))))
   (kL (kX (xI jK rfl (B.z B.y6) kg (p1 (pv 2))))))),?_⟩
 try dsimp only[qY]
 have aq:d.length=L.length:=by rw[hp.length_eq,iI]
 have ap:∀{j:Nat}{n:Nat},d[j]?=some n->n<L.length:=λ{j n} e=>jo.mp (hp.mem_iff.mp (cv e));have b2:d.Nodup:=hp.nodup_iff.mpr uy;have lA:((A1.map V.ref).length:Int)=L.length:=by rw[ai,X.len]
 have b6:=S.le;refine⟨yS0,λ e ne=>⟨yS1,λ l1 n1=>?_⟩⟩;have g1:=(kC ne (.tup [])).trans (kC n1 (.lst [.ref e]));have he:=(kC n1 (.lst [.ref e])) _ _ (kA (H:=H) (a:=e) (o:=.tup []));have am:=kA (H:=upd H e (.tup [])) (a:=l1) (o:=.lst [.ref e]);generalize upd (upd H e (.tup [])) l1 (.lst [.ref e])=H1 at *;refine⟨_,rfl,r,_,rfl,.inl (SqL.of (g1 _ _ X.top)),l1,_,_,rfl,rfl,am,(by omega),(by omega),(by rw[lA];exact gh (kQ (by simp;omega))),λ f nf=>?_⟩;rw[lA,iL,kKS];have gf:=kC nf (.lst ((iD L.length e).map V.ref));have g2:=g1.trans gf;have ax:=gf _ _ he;have an:=kA (H:=H1) (a:=f) (o:=.lst ((iD L.length e).map V.ref));generalize upd H1 f (.lst ((iD L.length e).map V.ref))=H2 at *
 refine⟨_,rfl,r,rfl,⟨_,SqL.of (g2 _ _ X.top)⟩,kML (k:=true) (xs:=A1.map V.ref) (λ i J O=>∃(x3 x4 x5 x6:Option V)(u:List au)(W:Rows),J=[some (.ref r),some (.ref l),some (.ref f),x3,x4,x5,x6]/\O f=some (.lst (u.map V.ref))/\u.length=L.length/\W.length=L.length /\
   (∀(j:Nat)(a:au)(row:List Nat),u[j]?=some a->W[j]?=some row->O a=some (.tup (row.map vn)))/\(∀ p,p<i->kNG L d W p)/\Same H O/\H f=none)
  ⟨none,none,none,none,iD L.length e,iD L.length [],rfl,an,ya,ya,(λ j a row e1 e2=>?_),(λ p b1=>by omega),g2,g1.free nf⟩ ?_ ?_ ?_⟩
 ·have a1:=(DU.mp (cv e1)).2
  have a2:=(DU.mp (cv e2)).2;subst a1 a2;exact ax
 ·rintro i J O _ ⟨x3,x4,x5,x6,u,W,rfl,hf,lt,lW,I,hW,g3,v⟩
  exact SqL.of (g3 _ _ X.top)
 ·rintro i x T J O hx nT ⟨x3,x4,x5,x6,u,W,rfl,hf,lt,lW,I,hW,g3,v⟩
  rw[bg]at hx;obtain⟨a,ea,rfl⟩:=cu.mp hx;have hi:i<L.length:=by rw[<-X.len];exact(aj.mp ea).1
  have g:=aa hi;have a8:=X.row i a _ ea g;obtain⟨al,b7⟩:=S.ne i _ g;have rb:=as i _ g;have gT:=g3.trans (kC nT (.tup [.int i,.ref a]));have b5:=(kC nT (.tup [.int i,.ref a])) _ _ hf;have a5:∀(j:Nat)(b:au)(row:List Nat),u[j]?=some b->W[j]?=some row->upd O T (.tup [.int i,.ref a]) b=some (.tup (row.map vn)):=λ j b row w1 w2=>(kC nT (.tup [.int i,.ref a])) _ _ (I j b row w1 w2);refine⟨T,_,rfl,SqT.of kA,rfl,_,_,rfl,_,_,rfl,rfl,?_⟩;generalize upd O T (.tup [.int i,.ref a])=H4 at *
  generalize b9:L[i]=row at *
  refine⟨_,rfl,a,rfl,⟨_,SqL.of (gT _ _ a8)⟩,λ D nD=>?_⟩;refine jX (xs:=row.map vn) (λ j J Z=>∃ x:Option V,J=[x,some (.ref l)]/\Z D=some (.lst (((row.take j).map λ q=>d.getD q 0).map vn))/\Same H4 Z) ⟨none,rfl,kA,kC nD _⟩ ?_ ?_ ?_
  ·rintro j J Z _ ⟨x,rfl,G,N⟩
   exact SqL.of (N _ _ (gT _ _ a8))
  ·rintro j x J Z hx ⟨y,rfl,G,N⟩
   rw[bg]at hx;obtain⟨q,eq,rfl⟩:=cu.mp hx;have hj:j<row.length:=(aj.mp eq).1;have hq:q<d.length:=by rw[aq];exact rb q (cv eq)
   refine⟨_,rfl,_,rfl,l,_,_,_,rfl,rfl,SqL.of (N _ _ (gT _ _ hl)),kDY hq,_,G,(by rw[ai,ai,dc];exact kQ (by omega)),?_⟩;refine⟨_,rfl,?_,qJ nD N⟩;rw[iw,eq];simp only[qv,eE,gv,BK];rw[show d.getD q 0=d[q] by simp[ak,hq]];exact kA
  ·rintro J Z ⟨x,rfl,G,N⟩
   rw[ai,iG]at G;generalize hc:(row.map λ q=>d.getD q 0)=c at *;have b0:c.length=row.length:=by rw[<-hc,ai]
   have ab:0<c.length:=by rw[b0];exact wd.mpr al
   refine⟨_,rfl,.inl ⟨rfl,_,SqL.of G⟩,_,rfl,D,c.map ci,rfl,SqL.of (by rw[G,xB]),(by rw[ai];exact ab),λ M hM ah=>?_⟩;obtain⟨m,hm,rfl⟩:=iP.mp hM
   have ag:∀ j∈c,m<=j:=λ j hj=>by
    have:=ah (ci j) (iP.mpr ⟨j,hj,rfl⟩);simp only[ci]at this;omega
   have il:=gw hm
   refine⟨D,c.map ci,m,c.idxOf m,rfl,rfl,(by rw[G,xB]),qG hm,?_⟩
   have lv:(c.map vn).length=c.length:=ai _;refine⟨_,rfl,_,rfl,_,rfl,D,_,rfl,SqL.of G,λ p1 m1=>?_⟩;rw[yI _ (by rw[lv];omega)];have h1:=kC m1 (.lst ((c.map vn).drop (c.idxOf m)));refine⟨_,rfl,_,rfl,_,rfl,D,_,rfl,SqL.of (h1 _ _ G),λ p2 m2=>?_⟩;rw[wE _ (by rw[lv];omega)];have h2:=kC m2 (.lst ((c.map vn).take (c.idxOf m)));refine⟨p1,p2,_,_,rfl,rfl,h2 _ _ kA,kA,(by rw[iR,dc,lv];exact gh (kQ (by omega))),λ p3 m3=>?_⟩;have h3:=kC m3 (.lst ((c.map vn).drop (c.idxOf m)++(c.map vn).take (c.idxOf m)));refine⟨p3,_,rfl,.inl ⟨SqL.of kA,λ t m4=>?_⟩⟩;have h4:=kC m4 (.tup ((c.map vn).drop (c.idxOf m)++(c.map vn).take (c.idxOf m)));have er:(c.map vn).drop (c.idxOf m)++(c.map vn).take (c.idxOf m)=(rot c m).map vn:=by unfold rot;rw[eE,wq,ug]
   have hh:=h1.trans (h2.trans (h3.trans h4));have ht:upd (upd (upd (upd Z p1 (.lst ((c.map vn).drop (c.idxOf m)))) p2 (.lst ((c.map vn).take (c.idxOf m)))) p3 (.lst ((c.map vn).drop (c.idxOf m)++(c.map vn).take (c.idxOf m)))) t (.tup ((c.map vn).drop (c.idxOf m)++(c.map vn).take (c.idxOf m))) t=some (.tup ((rot c m).map vn)):=by rw[<-er];exact kA
   generalize upd (upd (upd (upd Z p1 (.lst ((c.map vn).drop (c.idxOf m)))) p2 (.lst ((c.map vn).take (c.idxOf m)))) p3 (.lst ((c.map vn).drop (c.idxOf m)++(c.map vn).take (c.idxOf m)))) t (.tup ((c.map vn).drop (c.idxOf m)++(c.map vn).take (c.idxOf m)))=H6 at *;have g6:=gT.trans (N.trans hh);have Y:=hh _ _ (N _ _ b5);have a3:i<d.length:=by omega
   have U:=aa a3;have af:=ap U;refine⟨_,rfl,_,rfl,_,rfl,l,_,_,_,rfl,rfl,SqL.of (g6 _ _ hl),kDY a3,f,_,_,d[i],rfl,rfl,Y,rP (by rw[ai,lt];exact af),?_⟩;refine⟨_,_,_,_,u.set d[i] t,W.set d[i] (rot c m),rfl,(by rw[EA];exact kA),(by rw[AB];exact lt),(by rw[AB];exact lW),(λ j b b4 e1 e2=>?_),(λ p b1=>?_),qJ v g6,v⟩
   ·have bt:b≠f->upd H6 f (.lst ((u.map V.ref).set d[i] (.ref t))) b=H6 b:=λ z=>kM z
    by_cases ej:d[i]=j
    ·subst ej
     rw[kh (by omega)]at e1;rw[kh (by omega)]at e2;cases e1
     cases e2
     rw[bt (wM ht Y (by intro z;cases z))];exact ht
    ·rw[fe ej]at e1 e2
     have hb:=hh _ _ (N _ _ (a5 j b b4 e1 e2));rw[bt (wM hb Y (by intro z;cases z))];exact hb
   ·intro a7 ac
    by_cases a0:p=i
    ·subst a0
     have e0:=g.symm.trans ac;cases e0
     refine⟨d[p],m,U,(by rw[hc];exact hm),(λ j hj=>ag j (by rw[hc]at hj;exact hj)),?_⟩;rw[hc,kh (by omega)]
    ·obtain⟨n',M',w1,w2,w3,w4⟩:=hW p (by omega) a7 ac
     refine⟨n',M',w1,w2,w3,?_⟩
     have:d[i]≠n':=λ z=>by
      have aw:=(aj.mp w1).1;have:=(yh aw b2).mp (w1.trans (by rw[<-z];exact U.symm));exact a0 this
     rw[fe this];exact w4
 ·rintro J O ⟨x3,x4,x5,x6,u,W,rfl,hf,lt,lW,I,hW,g3,v⟩
  rw[ai,X.len]at hW;refine⟨_,rfl,f,_,rfl,.inl ⟨SqL.of hf,λ t nt=>?_⟩⟩;have gt:=kC nt (.tup (u.map V.ref));exact k t W _ (g3.trans gt) ⟨u,kA,by omega,λ j b row w1 w2=>gt _ _ (I j b row w1 w2)⟩ lW hW
def kHU{L W:Rows}{a:List Nat}(hp:a.Perm (cw L.length))(c:W.length=L.length)(h:∀ p,p<L.length->kNG L a W p):Ren L W a:=⟨hp,c,λ p row e=>by
 obtain⟨n,M,h1,_,_,b⟩:=h p (aj.mp e).1 row e;exact⟨n,(row.map λ q=>a.getD q 0).take ((row.map λ q=>a.getD q 0).idxOf M),(row.map λ q=>a.getD q 0).drop ((row.map λ q=>a.getD q 0).idxOf M),h1,(iB _ _).symm,b⟩⟩
end
section
def prZ(t:Nat×Nat):List Int:=[(t.1:Int),(t.2:Int)]
def kCG{H:Hp}{s:au}{T:List (Nat×Nat)}(h:PairsAt H s T):∃ ps:List (au×List Int),H s=some (.lst (ps.map λ q=>V.ref q.1))/\kSS H ps /\
  ∀(l:au)(c:List (au×List Int)),H l=none->c.Perm ps->c.Pairwise (λ a b=>Srt.lexLt b.2 a.2=false)->PairsAt (upd H l (.lst (c.map λ q=>V.ref q.1))) l (Fc.sortP T):=by
 obtain⟨j,h1,Q,I⟩:=h
 have f:(j.zip (T.map prZ)).map (λ q=>V.ref q.1)=j.map V.ref:=by
  rw[show(λ q:au×List Int=>V.ref q.1)=V.ref∘Dm from rfl,<-AW,EN (by rw[ai];omega)]
 have mem:∀ q∈j.zip (T.map prZ),∃ t:Nat×Nat,q.2=prZ t/\H q.1=some (.tup [vn t.1,vn t.2]):=λ q v=>by
  obtain⟨i,x,rfl⟩:=eY.mp v;rw[Bh,ai]at x;refine⟨T[i]'(by omega),by simp,?_⟩;have:=I i (j[i]'(by omega)) (T[i]'(by omega)) (aa _) (aa _);simpa using this
 refine⟨j.zip (T.map prZ),by rw[f];exact h1,λ q v=>?_,λ l c nl y M=>?_⟩
 ·obtain⟨t,e,n⟩:=mem q v
  rw[e];exact⟨n,by simp[prZ]⟩
 ·have back:∃ g:List (Nat×Nat),c.map (·.2)=g.map prZ/\g.Perm T:=by
   have D:(c.map (·.2)).Perm (T.map prZ):=by
    have:=y.map (λ q:au×List Int=>q.2);rwa[CK (by rw[ai];omega)]at this
   obtain⟨m,a,b⟩:=Srt.perm_back D rfl;exact⟨m,b,a⟩
  obtain⟨g,o,G⟩:=back
  have p:g.Pairwise (λ a b=>Fc.leP a b=true):=by
   have B:(c.map (·.2)).Pairwise (λ a b=>Srt.lexLt b a=false):=qe.mpr M;rw[o]at B;refine(qe.mp B).imp λ{a b} O=>?_;rw[<-Fc.leP_leL,Fc.leL_iff];exact O
  have A:=Fc.sortP_is G p
  have C:c.length=g.length:=by
   have:=congrArg jr o;simpa using this
  refine⟨c.map (·.1),by rw[AW];exact kA,by rw[<-A,ai,C],λ i b t f u=>?_⟩;rw[<-A]at u;have x:=(aj.mp u).1;have d:i<c.length:=by omega
  rw[bg,aa d]at f;have f:c[i].1=b:=bh f
  have r:c[i].2=prZ t:=by
   have:=congrArg (λ l=>l[i]?) o;rw[bg,bg,u,aa d]at this;exact bh this
  obtain⟨L,J,n⟩:=mem c[i] (y.mem_iff.mp (iY d))
  have N:L=t:=by
   rw[J]at r;unfold prZ at r;injection r with z1 z2
   injection z2 with z2 _
   exact wj (by omega) (by omega)
  rw[<-f,kM (kJ n nl),n,N]
inductive kEJ(vs:List V)(H:Hp)(Q:VK)(Y:XK):Prop
 | mk:∀(t:au)(W:Rows),(vs=[.ref t])->(WebAt H t W)->(Nb W)->(W.length<=42)->(∀(s:au)(H':Hp),Same H H'->H s=none->PairsAt H' s (Fc.stepsS W)->Q (.ref s) H')->kEJ vs H Q Y
def kCE(W:Rows)(i:Nat)(hi:i<W.length):kN (W.take (i+1))=kN (W.take i)++(W[i].map λ q=>(i,q)):=by
 unfold kN;rw[dc,dc,jw (by omega),jw (by omega),Ba,ue]
 congr 1
 ·rw[EO,EO]
  congr 1
  refine we λ p hp=>?_;have:=jo.mp hp;simp only[ak];rw[qw (by omega),qw (by omega)]
 ·rw[xk]
  simp only[ak];rw[qw (by omega),aa hi]
  rfl
def Nb.take_len{W:Rows}(S:Nb W)(h:W.length<=42)(i:Nat):(kN (W.take i)).length<=1764:=by
 have a:=aQ S h
 have:(kN (W.take i)).length<=(kN W).length:=by
  rw[yN,yN]
  conv=>rhs;rw[<-iB i W]
  rw[eE,AD];omega
 omega
def dF(B:Fx):Hs "steps_of" ["web"] 1 (kEJ):=by
 refine qP B.X B.d2 tQ λ f a3 A a1 s0 H vs Q E nN hr h=>?_;obtain⟨t,W,rfl,hW,S,Y,k⟩:=h;refine⟨_,(kL (kX (kR mI rfl (B.z B.y7) zr (p1 (rA (Nc:=["p","row","q"]) (js:=[none,none,none]) rfl rfl (kFE false rfl (B.z B.y4) (p1 (pv 0))) (CS.of rfl rfl) rfl (λ C g c fp d=>(show PG _ _ (kBA K 2 _) from jR rfl (kS (pgc 0) (kS (pgc 1) qV)))) (λ C g c fp d=>(show PI _ _ _ (kUB K _) from(aH (pv 1)))) (λ C g c fp d=>(pgc 2)) (λ C g c fp d D L=>(jG (xD (qT (p2 (pv 0) (pv 2))))))))))),?_⟩
 try dsimp only[qY]
 obtain⟨ts,h1,J,h3⟩:=id hW;refine⟨_,rfl,t,rfl,⟨_,SqT.of h1⟩,λ D nD=>?_⟩
 refine kGU (k:=false) (xs:=ts.map V.ref) (λ i p s=>∃(M N m:Option V),p=[M,N,m]/\Same H s/\PairsAt s D (kN (W.take i)))
  ⟨none,none,none,rfl,kC nD _,⟨[],kA,rfl,λ i b t e=>by simp at e⟩⟩ ?_ ?_ ?_
 ·rintro i p s _ ⟨M,N,m,rfl,u,_⟩
  exact SqT.of (u _ _ h1)
 ·rintro i x T p s hx nT ⟨M,N,m,rfl,u,O⟩
  rw[bg]at hx;obtain⟨a,ea,rfl⟩:=cu.mp hx;have Z:i<W.length:=by rw[<-J];exact(aj.mp ea).1
  have I:=h3 i a _ ea (aa Z);have rl:=S.len (aa Z);have gT:=kC nT (.tup [.int i,.ref a]);refine⟨T,_,rfl,SqT.of kA,rfl,_,_,rfl,_,_,rfl,rfl,?_⟩;have g3:=u.trans gT;have a0:=O.kept gT;generalize upd s T (.tup [.int i,.ref a])=H3 at *;refine⟨_,rfl,a,rfl,⟨_,SqT.of (g3 _ _ I)⟩,?_⟩;refine zH (xs:=W[i].map vn) (λ j p r=>∃(m:Option V),p=[some (vn i),some (.ref a),m]/\Same H r/\PairsAt r D (kN (W.take i)++((W[i].take j).map λ q=>(i,q)))) ⟨m,rfl,g3,by simpa using a0⟩ ?_ ?_ ?_
  ·rintro j p r _ ⟨m,rfl,y,_⟩
   exact SqT.of (y _ _ I)
  ·rintro j v p r hv ⟨m,rfl,y,n⟩
   rw[bg]at hv;obtain⟨q,G,rfl⟩:=cu.mp hv;have hj:=(aj.mp G).1;refine⟨_,rfl,_,rfl,yS2,λ b nb=>?_⟩;have gb:=kC nb (.tup [vn i,vn q]);have hb:=kA (H:=r) (a:=b) (o:=.tup [vn i,vn q]);have a2:=n.kept gb;have g5:=y.trans gb;refine(λ(z:upd r b (.tup [vn i,vn q]) b=some (.tup [vn i,vn q]))=>?_) hb;generalize upd r b (.tup [vn i,vn q])=H5 at *;obtain⟨ss,c1,c2,c3⟩:=id a2;have l1:=Nb.take_len S Y i
   have l2:ss.length<=1764+42:=by
    rw[c2,bq,ai,dc];omega
   refine⟨_,c1,(by rw[ai];exact xL (by omega)),?_⟩;have A1:=PairsAt.app (H':=H5) c1 c2 c3 (t:=(i,q)) z;refine⟨_,rfl,qJ nD g5,?_⟩;have tk:(W[i].take (j+1)).map (λ q=>(i,q))=(W[i].take j).map (λ q=>(i,q))++[(i,q)]:=by rw[iw,G,eE];rfl
   rw[tk,<-cx];exact A1
  ·rintro p r ⟨m,rfl,y,n⟩
   rw[ai,iG]at n;exact⟨_,_,_,rfl,y,by rw[kCE W i Z];exact n⟩
 ·rintro p s ⟨M,N,m,rfl,u,O⟩
  rw[ai,J,iG]at O;obtain⟨ps,e1,e2,e3⟩:=kCG O;refine⟨D,ps,rfl,.inl (SqL.of e1),e2,λ l U nl pm sr=>?_⟩;exact k l _ (u.trans (kC nl _)) (u.free nl) (e3 l U nl pm sr)
end
section
def RowsT(H:Hp)(s:au)(T:List (List Nat)):Prop:=∃ a:List au,H s=some (.lst (a.map V.ref))/\a.length=T.length/\∀(i:Nat)(b:au)(t:List Nat),a[i]?=some b->T[i]?=some t->H b=some (.tup (t.map vn))
def RowsT.app{H:Hp}{s b:au}{a:List au}{T:List (List Nat)}{t:List Nat}(h1:H s=some (.lst (a.map V.ref)))(g:a.length=T.length)(m:∀(i:Nat)(b:au)(t:List Nat),a[i]?=some b->T[i]?=some t->H b=some (.tup (t.map vn)))(j:H b=some (.tup (t.map vn))) :
  RowsT (upd H s (.lst (a.map V.ref++[.ref b]))) s (T++[t]):=by
 refine⟨a++[b],by rw[eE];exact kA,by simp[g],λ i c u d f=>?_⟩;have h:c≠s->upd H s (.lst (a.map V.ref++[.ref b])) c=H c:=λ z=>kM z;rcases iH i a.length with l | l
 ·rw[az l]at d
  rw[az (by omega)]at f;have:=m i c u d f;rw[h (wM this h1 (by simp))];exact this
 ·obtain rfl:i=a.length:=by
   have:=(aj.mp d).1;simp at this;omega
  rw[di]at d;rw[g,di]at f;cases d
  cases f
  rw[h (wM j h1 (by simp))];exact j
def kHD{H:Hp}{s:au}{T:List (List Nat)}(h:RowsT H s T)(u:∀ t∈T,t≠[]):∃ ps:List (au×List Int),H s=some (.lst (ps.map λ q=>V.ref q.1))/\kSS H ps /\
  ∀(l:au)(c:List (au×List Int)),H l=none->c.Perm ps->c.Pairwise (λ a b=>Srt.lexLt b.2 a.2=false)->RowsT (upd H l (.lst (c.map λ q=>V.ref q.1))) l (Fc.sortL T):=by
 obtain⟨j,h1,U,J⟩:=h
 have f:(j.zip (T.map Fc.zl)).map (λ q=>V.ref q.1)=j.map V.ref:=by
  rw[show(λ q:au×List Int=>V.ref q.1)=V.ref∘Dm from rfl,<-AW,EN (by rw[ai];omega)]
 have O:∀ t:List Nat,(Fc.zl t).map V.int=t.map vn:=λ t=>by unfold Fc.zl;rw[AW];rfl
 have mem:∀ q∈j.zip (T.map Fc.zl),∃ t:List Nat,t∈T/\q.2=Fc.zl t/\H q.1=some (.tup (t.map vn)):=λ q v=>by
  obtain⟨i,y,rfl⟩:=eY.mp v;rw[Bh,ai]at y;refine⟨T[i]'(by omega),iY _,by simp,?_⟩;have:=J i (j[i]'(by omega)) (T[i]'(by omega)) (aa _) (aa _);simpa using this
 refine⟨j.zip (T.map Fc.zl),by rw[f];exact h1,λ q v=>?_,λ l c nl A N=>?_⟩
 ·obtain⟨t,m,e,n⟩:=mem q v
  rw[e,O];refine⟨n,λ z=>u t m ?_⟩;unfold Fc.zl at z;exact DF.mp z
 ·have back:∃ g:List (List Nat),c.map (·.2)=g.map Fc.zl/\g.Perm T:=by
   have G:(c.map (·.2)).Perm (T.map Fc.zl):=by
    have:=A.map (λ q:au×List Int=>q.2);rwa[CK (by rw[ai];omega)]at this
   obtain⟨m,a,b⟩:=Srt.perm_back G rfl;exact⟨m,b,a⟩
  obtain⟨g,o,I⟩:=back
  have p:g.Pairwise (λ a b=>Fc.leL a b=true):=by
   have C:(c.map (·.2)).Pairwise (λ a b=>Srt.lexLt b a=false):=qe.mpr N;rw[o]at C;refine(qe.mp C).imp λ{a b} S=>?_;rw[Fc.leL_iff];exact S
  have B:=Fc.sortL_is I p
  have D:c.length=g.length:=by
   have:=congrArg jr o;simpa using this
  refine⟨c.map (·.1),by rw[AW];exact kA,by rw[<-B,ai,D],λ i b t f r=>?_⟩;rw[<-B]at r;have y:=(aj.mp r).1;have d:i<c.length:=by omega
  rw[bg,aa d]at f;have f:c[i].1=b:=bh f
  have x:c[i].2=Fc.zl t:=by
   have:=congrArg (λ l=>l[i]?) o;rw[bg,bg,r,aa d]at this;exact bh this
  obtain⟨M,m,L,n⟩:=mem c[i] (A.mem_iff.mp (iY d))
  have Q:M=t:=by
   rw[L]at x;exact Fc.zl_inj x
  rw[<-f,kM (kJ n nl),n,Q]
inductive kJX(vs:List V)(H:Hp)(Q:VK)(Y:XK):Prop
 | mk:∀(t:au)(W:Rows),(vs=[.ref t])->(WebAt H t W)->(Nb W)->(W.length<=42)->(∀(s:au)(H':Hp),Same H H'->H s=none->PairsAt H' s (Fc.tiesS W)->Q (.ref s) H')->kJX vs H Q Y
def fQ{W:Rows}(S:Nb W)(h:W.length<=42):(Fc.stepsS W).length<=1764:=by
 have:=aQ S h;rw[show(Fc.stepsS W).length=(kN W).length from(Fc.sortP_perm _).length_eq];exact this
def kOM(B:Fx):Hs "ties" ["web"] 2 (kJX):=by
 refine qP B.X B.d3 kNT λ f a0 A J s0 H vs Q E nN hr h=>?_;obtain⟨t,W,rfl,hW,S,m,k⟩:=h;refine⟨_,(kL (kX (zB (Nc:=["p","q"]) (js:=[none,none]) rfl rfl (yD (pf (dF B) hr (p1 (pv 0)))) (CS.of rfl rfl) rfl (λ C p l fp n=>(show PG _ _ (kBA K 2 _) from jR rfl (kS (pgc 0) (kS (pgc 1) qV)))) (λ C p l fp n D L=>(zL (qK kLI (pv 0) (pv 1) (jC _)) (xD (qT (p2 (pv 0) (pv 1))))))))),?_⟩
 try dsimp only[qY]
 have l1:=fQ S m;refine⟨_,rfl,t,W,rfl,hW,S,m,λ s H1 N ns pr=>?_⟩;obtain⟨ss,h1,T,h3⟩:=id pr;refine⟨s,rfl,⟨_,SqL.of h1⟩,λ D G=>?_⟩
 refine jX (xs:=ss.map V.ref) (λ i r g=>∃(u v:Option V),r=[u,v]/\Same H1 g/\PairsAt g D (((Fc.stepsS W).take i).filter λ t=>decide (t.1<t.2)))
  ⟨none,none,rfl,kC G _,⟨[],kA,rfl,λ i b t e=>by simp at e⟩⟩ ?_ ?_ ?_
 ·rintro i r g _ ⟨u,v,rfl,j,_⟩
  exact SqL.of (j _ _ h1)
 ·rintro i x r g Z ⟨u,v,rfl,j,d⟩
  rw[bg]at Z;obtain⟨b,M,rfl⟩:=cu.mp Z;have hi:i<(Fc.stepsS W).length:=by rw[<-T];exact(aj.mp M).1
  have U:=aa hi;have hb:=h3 i b _ M U;have tk:(Fc.stepsS W).take (i+1)=(Fc.stepsS W).take i++[(Fc.stepsS W)[i]]:=by rw[iw,U];rfl
  generalize(Fc.stepsS W)[i]=t at *;refine⟨b,_,rfl,SqT.of (j _ _ hb),rfl,_,_,rfl,_,_,rfl,rfl,?_⟩;refine⟨_,rfl,_,rfl,_,_,rfl,rfl,_,rfl,?_⟩;rw[tk];refine kIE (λ z=>?_) (λ z=>?_)
  ·have z:=of_decide_eq_true z
   refine⟨_,rfl,_,rfl,yS2,λ c nc=>?_⟩;have gc:=kC nc (.tup [vn t.1,vn t.2]);have hc:=kA (H:=g) (a:=c) (o:=.tup [vn t.1,vn t.2]);have I:=d.kept gc;have g3:=j.trans gc;refine(λ(y:upd g c (.tup [vn t.1,vn t.2]) c=some (.tup [vn t.1,vn t.2]))=>?_) hc;generalize upd g c (.tup [vn t.1,vn t.2])=H3 at *;obtain⟨cs,Y,O,c3⟩:=id I
   have lc:cs.length<=1764:=by
    rw[O];have:=mj (λ t:Nat×Nat=>decide (t.1<t.2)) ((Fc.stepsS W).take i);rw[dc]at this;omega
   refine⟨_,Y,(by rw[ai];exact xL (by omega)),?_⟩;refine⟨_,_,rfl,qJ G g3,?_⟩;rw[so,vf,if_pos (by exact decide_eq_true (by omega))];exact PairsAt.app (H':=H3) Y O c3 y
  ·have z:¬ (t.1:Int)<(t.2:Int):=λ q=>z (decide_eq_true q)
   refine⟨_,_,rfl,j,?_⟩;rw[so,vf,if_neg (by intro q;have:=of_decide_eq_true q;omega)];simpa using d
 ·rintro r g ⟨u,v,rfl,j,d⟩
  rw[ai,T,iG]at d;exact k D g (N.trans j) (N.free G) d
end
section
def pk(t:Nat×Nat):List Key:=[ed (t.1:Int),ed (t.2:Int)]
def kRI{a b:Nat×Nat}(h:pk a=pk b):a=b:=by
 unfold pk at h;injection h with h1 h2
 injection h2 with h2 _
 have:=wy h1;have:=wy h2;exact wj (by omega) (by omega)
def SeenAt(H:Hp)(d:au)(X:List (Nat×Nat)):Prop:=∃ a:List (List Key×V),H d=some (.dT a)/\(∀ t:Nat×Nat,(jO a (pk t)).isSome=decide (t∈X))/\a.length<=X.length/\∀ y∈a,∃ t∈X,y.1=pk t
def SeenAt.kept{H H':Hp}{d:au}{X:List (Nat×Nat)}(h:SeenAt H d X)(g:Same H H'):SeenAt H' d X:=by
 obtain⟨c,a,b⟩:=h;exact⟨c,g _ _ a,b⟩
def tP{H:Hp}{d:au}:SeenAt (upd H d (.dT [])) d []:=⟨[],kA,λ t=>by simp[jO],be _,λ y a=>nomatch a⟩
def kAT{kvs:List (List Key×V)}{k:List Key}{v:V}{y:List Key×V}(h:y∈jF kvs k v):y.1=k\/∃ z∈kvs,z.1=y.1:=by
 unfold jF at h
 split at h
 ·obtain⟨z,a,rfl⟩:=iP.mp h
  split
  ·exact .inr ⟨z,a,rfl⟩
  ·exact .inr ⟨z,a,rfl⟩
 ·rcases cf.mp h with z | z
  ·exact .inr ⟨y,z,rfl⟩
  ·exact .inl (by rw[bu.mp z])
def kHH{kvs:List (List Key×V)}{X:List (Nat×Nat)}{t:Nat×Nat}{v:V}(h1:∀ t:Nat×Nat,(jO kvs (pk t)).isSome=decide (t∈X))(g:kvs.length<=X.length)(c:∀ y∈kvs,∃ t∈X,y.1=pk t) :
  (∀ u:Nat×Nat,(jO (jF kvs (pk t) v) (pk u)).isSome=decide (u∈X++[t]))/\(jF kvs (pk t) v).length<=(X++[t]).length/\∀ y∈jF kvs (pk t) v,∃ u∈X++[t],y.1=pk u:=by
 refine⟨λ u=>?_,?_,λ y d=>?_⟩
 ·rw[wH]
  by_cases e:pk u=pk t
  ·rw[if_pos e,kRI e]
   simp
  ·rw[if_neg e,h1 u]
   have:u≠t:=λ z=>e (by rw[z]);simp[this]
 ·have:=xE kvs (pk t) v
  rw[bq,fk];omega
 ·rcases kAT d with e | ⟨z,b,e⟩
  ·exact⟨t,by simp,e⟩
  ·obtain⟨u,f,a⟩:=c z b
   exact⟨u,cq _ f,by rw[<-e,a]⟩
theorem oQ:∀(more kvs:List (List Key×V))(k:List Key),(jO (yH kvs more) k).isSome=((jO kvs k).isSome || (jO more k).isSome)
 | [],kvs,k=>by simp[yH,jO]
 | m::more,kvs,k=>by
  have:=oQ more (jF kvs m.1 m.2) k;unfold yH at this ⊢;rw[vy,this,wH];by_cases e:m.1=k
  ·rw[if_pos e.symm,jM e]
   simp
  ·rw[if_neg (λ z=>e z.symm),jN e]
theorem oR:∀(more kvs:List (List Key×V)),(yH kvs more).length<=kvs.length+more.length
 | [],kvs=>be _
 | m::more,kvs=>by
  have:=oR more (jF kvs m.1 m.2);have:=xE kvs m.1 m.2;unfold yH at *;rw[vy,gn];omega
theorem lZ:∀(more kvs:List (List Key×V))(y:List Key×V),y∈yH kvs more->(∃ z∈kvs,z.1=y.1)\/∃ z∈more,z.1=y.1
 | [],kvs,y,h=>.inl ⟨y,h,rfl⟩
 | m::more,kvs,y,h=>by
  have h:y∈yH (jF kvs m.1 m.2) more:=h;rcases lZ more _ y h with⟨z,a,e⟩ | ⟨z,a,e⟩
  ·rcases kAT a with b | ⟨d,c,b⟩
   ·exact .inr ⟨m,eZ ..,by rw[<-e,b]⟩
   ·exact .inl ⟨d,c,by rw[b,e]⟩
  ·exact .inr ⟨z,eC _ a,e⟩
theorem SeenAt.upd{H:Hp}{d:au}{X Y:List (Nat×Nat)}{kvs more:List (List Key×V)}(h1:∀ t:Nat×Nat,(jO kvs (pk t)).isSome=decide (t∈X))(j:kvs.length<=X.length)(h:∀ y∈kvs,∃ t∈X,y.1=pk t)
  (g:∀ t:Nat×Nat,(jO more (pk t)).isSome=decide (t∈Y)) (l:more.length<=Y.length) (f:∀ y∈more,∃ t∈Y,y.1=pk t):SeenAt (L2.upd H d (.dT (yH kvs more))) d (X++Y):=by
 refine⟨_,kA,λ t=>?_,?_,λ y i=>?_⟩
 ·rw[oQ,h1,g,iV,Cg,decide_eq_true_iff,decide_eq_true_iff,decide_eq_true_iff,cf]
 ·have:=oR more kvs
  rw[bq];omega
 ·rcases lZ more kvs y i with⟨z,b,e⟩ | ⟨z,b,e⟩
  ·obtain⟨u,c,a⟩:=h z b
   exact⟨u,cq _ c,by rw[<-e,a]⟩
  ·obtain⟨u,c,a⟩:=f z b
   exact⟨u,ck _ c,by rw[<-e,a]⟩
def mX{W:Rows}{p q k:Nat}(T:Turns W p q k):Fc.per W (p,q)=k:=Fc.per_is T.pos T.back T.first
def kGW{W:Rows}{p q k:Nat}(T:Turns W p q k):orb W p q k=Fc.rnd W (p,q):=by
 unfold orb Fc.rnd;rw[mX T]
end
section
inductive kEQ(vs:List V)(H:Hp)(Q:VK)(Y:XK):Prop
 | mk:∀(t:au)(W:Rows),(vs=[.ref t])->(WebAt H t W)->(Nb W)->(W.length<=42)->(∀(s:au)(H':Hp),Same H H'->H s=none->RowsT H' s (Fc.facesS W)->Q (.ref s) H')->kEQ vs H Q Y
def kRA{W:Rows}(S:Nb W){t:Nat×Nat}(h:t∈kN W):(Fc.rnd W t).map (·.1)≠[]:=λ z=>by
 have:=Fc.rnd_self S h;rw[DF.mp z]at this;cases this
def kMN{W:Rows}(S:Nb W){T:List (Nat×Nat)}(b:∀ t∈T,t∈kN W):∀ f∈(Fc.fgo W T).1,f≠[]:=λ f a=>by
 obtain⟨R,c,g,_⟩:=(Fc.fgo_ok S T b).reps;rw[g]at a;obtain⟨r,d,rfl⟩:=iP.mp a;exact kRA S (b r (c r d))
def aF{W:Rows}:∀ t∈Fc.stepsS W,t∈kN W:=λ t h=>(Fc.sortP_perm _).mem_iff.mp h
def kNQ{W:Rows}(S:Nb W)(h:W.length<=42){t:Nat×Nat}(a:t∈kN W):t.1<42/\t.2<42:=by
 have:=S.e (mem_steps.mp (show(t.1,t.2)∈kN W from a));omega
def kAN(B:Fx):Hs "faces" ["web"] 3 (kEQ):=by
 refine qP B.X B.d6 kKI λ f bc A b4 s0 H vs Q E nN hr h=>?_;obtain⟨t,W,rfl,hW,S,M,k⟩:=h
 refine⟨_,(kE (pst 1 nN (qO kY))
   (kE (pst 2 nN kLE)
   (kE (dU (yD (pf (dF B) hr (p1 (pv 0)))) (pgn 3 nN) (kL (yW (kRF (kHR (xG hr) (pv 3) (pv 2))) (kE (pst 4 nN (pf (uG B) hr (p2 (pv 0) (pv 3))))
   (kE (qL (kAE PySem.F.plainAttrs_dict Bx PySem.F.type_dict_update (kOR (xG hr)) (pv 2) (p1 (kOI (Nc:=["one"]) (js:=[none]) rfl rfl (yD (pv 4)) (CS.of rfl rfl) rfl (λ C O J fp N=>(pgc 0)) (λ C O J fp N D L=>(jG (fJ (xG hr) (pv 0) kFG)))))))
   (kL (qL (jD ir iu jZ (pv 1) (p1 (xI jK rfl (B.z B.y6) kg (p1 (zB (Nc:=["p","q"]) (js:=[none,none]) rfl rfl (yD (pv 4)) (CS.of rfl rfl) rfl (λ C O J fp N=>(show PG _ _ (kBA K 2 _) from jR rfl (kS (pgc 0) (kS (pgc 1) qV)))) (λ C O J fp N D L=>(jG (xD (pv 0))))))))))))) jL)))
   (kL (kX (kR mI rfl (B.z B.y7) zr (p1 (pv 1)))))))),?_⟩
 try dsimp only[qY]
 have l1:=fQ S M;have l0:=aQ S M;refine⟨yS0,λ l nl=>?_⟩;have gl:=kC nl (.lst []);have hl:=kA (H:=H) (a:=l) (o:=.lst []);refine λ d nd=>?_;have gd:=kC nd (.dT []);have hd:=tP (H:=upd H l (.lst [])) (d:=d);have am:l≠d:=λ z=>by rw[<-z,hl]at nd;cases nd
 have a4:=gd _ _ hl;have g1:=gl.trans gd;have b9:H d=none:=gl.free nd;refine(λ(a0:SeenAt (upd (upd H l (.lst [])) d (.dT [])) d [])=>?_) hd;generalize upd (upd H l (.lst [])) d (.dT [])=H1 at *;refine⟨_,rfl,t,W,rfl,hW.kept g1,S,M,λ s H2 g2 ns pr=>?_⟩;obtain⟨ss,h1,h2,h3⟩:=id pr;have al:=g1.trans g2;have b2:s≠l:=λ z=>by rw[z,a4]at ns;cases ns
 have b3:s≠d:=λ z=>by obtain⟨g,a,_⟩:=a0;rw[z,a]at ns;cases ns
 refine⟨s,rfl,⟨_,SqL.of h1⟩,?_⟩
 refine kMK (xs:=ss.map V.ref) (λ i G Y=>∃(x3 x4:Option V),G=[some (.ref t),some (.ref l),some (.ref d),x3,x4]/\(∀ b o,b≠l->b≠d->H2 b=some o->Y b=some o)/\RowsT Y l (Fc.fgo W ((Fc.stepsS W).take i)).1/\SeenAt Y d (Fc.fgo W ((Fc.stepsS W).take i)).2)
  ⟨none,none,rfl,(λ b o _ _ e=>e),⟨[],g2 _ _ a4,rfl,λ i b t e=>by simp at e⟩,a0.kept g2⟩ ?_ ?_ ?_
 ·rintro i G Y _ ⟨x3,x4,rfl,f3,_⟩
  exact SqL.of (f3 _ _ b2 b3 h1)
 ·rintro i x G Y hx ⟨x3,x4,rfl,f3,rt,sn⟩
  rw[bg]at hx;obtain⟨b,eb,rfl⟩:=cu.mp hx;have hi:i<(Fc.stepsS W).length:=by rw[<-h2];exact(aj.mp eb).1
  have et:=aa hi;have hb:=h3 i b _ eb et;have tk:(Fc.stepsS W).take (i+1)=(Fc.stepsS W).take i++[(Fc.stepsS W)[i]]:=by rw[iw,et];rfl
  have mt:=aF _ (iY hi);have fi:=Fc.fgo_ok S ((Fc.stepsS W).take i) λ t h=>aF t (qh h);have lX:=fi.len;rw[tk,Fc.fgo_snoc]
  have lF:(Fc.fgo W ((Fc.stepsS W).take i)).1.length<=1764:=by
   have:∀ T:List (Nat×Nat),(Fc.fgo W T).1.length<=T.length:=λ T=>by
    have:∀ n,n<=T.length->(Fc.fgo W (T.take n)).1.length<=n:=λ n=>by
     induction n with
     | zero=>intro _;rw[CJ];exact be _
     | succ n ih =>
      intro hn;rw[show T.take (n+1)=T.take n++[T[n]] by rw[iw,aa (by omega)];rfl,Fc.fgo_snoc];have:=ih (by omega);unfold Fc.fstep
      split
      ·omega
      ·rw[bq]
       show _+1<=_;omega
    have:=this T.length (be _);rwa[iG]at this
   have:=this ((Fc.stepsS W).take i);rw[dc]at this;omega
  generalize(Fc.stepsS W)[i]=u at *;generalize Fc.fgo W ((Fc.stepsS W).take i)=st at *
  have b0:b≠l:=λ z=>by
   have a:=g2 _ _ a4;rw[z,a]at hb;cases hb
  have b5:b≠d:=λ z=>by
   obtain⟨g,a,_⟩:=a0.kept g2;rw[z,a]at hb;cases hb
  have a9:=f3 _ _ b0 b5 hb;obtain⟨g,k1,k2,k3,k4⟩:=id sn;refine⟨_,rfl,_,rfl,d,_,rfl,DGet.t (k:=pk u) k1 a9,_,rfl,?_⟩;rw[k2 u];unfold Fc.fstep;by_cases c:u∈st.2
  ·rw[decide_eq_true c,if_pos c]
   exact yK ⟨_,_,rfl,f3,rt,sn⟩
  rw[decide_eq_false c,if_neg c];obtain⟨p,r⟩:=u;have hE:Tri.E W p r:=mem_steps.mp mt
  have a6:WebAt Y t W:=by
   obtain⟨ts,q1,q2,q3⟩:=hW.kept al;have ok:∀(b:au)(xs:List V),H2 b=some (.tup xs)->Y b=some (.tup xs):=λ b xs e=>f3 b _ (λ z=>by rw[z,g2 _ _ a4]at e;cases e) (λ z=>by obtain⟨g,a,_⟩:=a0.kept g2;rw[z,a]at e;cases e) e;exact⟨ts,ok _ _ q1,q2,λ j a row e1 e2=>ok _ _ (q3 j a row e1 e2)⟩
  refine wN ⟨_,rfl,_,rfl,t,b,W,p,r,rfl,a6,S,M,a9,hE,λ q m H4 g4 T ag=>?_⟩;rw[kGW T]at ag;have b6:=T.few;have lm:=mX T;obtain⟨qs,q1,q2,q3⟩:=id ag
  have lq:(Fc.rnd W (p,r)).length=m:=by rw[Fc.rnd_len,lm]
  refine⟨_,rfl,.inr (.inr (.inl ⟨rfl,.inr ⟨_,g4 _ _ k1⟩⟩)),_,rfl,q,rfl,⟨_,SqL.of q1⟩,λ D nD=>?_⟩;refine jX (xs:=qs.map V.ref) (λ j G I=>∃(x0:Option V),G=[x0]/\Same H4 I/\SeenAt I D ((Fc.rnd W (p,r)).take j)) ⟨none,rfl,kC nD _,tP⟩ ?_ ?_ ?_
  ·rintro j G I _ ⟨x0,rfl,g5,_⟩
   exact SqL.of (g5 _ _ q1)
  ·rintro j v G I hv ⟨x0,rfl,g5,sD⟩
   rw[bg]at hv;obtain⟨c',ec,rfl⟩:=cu.mp hv;have hj:j<(Fc.rnd W (p,r)).length:=by rw[<-q2];exact(aj.mp ec).1
   have ej:=aa hj;have hc:=g5 _ _ (q3 j c' _ ec ej);have a8:(Fc.rnd W (p,r)).take (j+1)=(Fc.rnd W (p,r)).take j++[(Fc.rnd W (p,r))[j]]:=by rw[iw,ej];rfl
   rw[a8];generalize(Fc.rnd W (p,r))[j]=y at *;obtain⟨U,d1,d2,d3,d4⟩:=sD;have ld:U.length<=1764:=by rw[dc]at d3;omega
   refine⟨_,rfl,_,DPut.t (k:=pk y) d1 hc (xL (by omega)),?_⟩;obtain⟨a1,a2,a3⟩:=kHH (t:=y) (v:=.bl true) d2 d3 d4;exact⟨_,rfl,qJ nD g5,⟨_,kA,a1,a2,a3⟩⟩
  ·rintro G I ⟨x0,rfl,g5,sD⟩
   rw[ai,q2,iG]at sD;obtain⟨U,d1,d2,d3,d4⟩:=sD;have ac:=g4.trans g5;have a5:=ac _ _ k1;have ax:d≠D:=λ z=>by rw[<-z,g4 _ _ k1]at nD;cases nD
   refine⟨d,D,g,U,rfl,rfl,ax,a5,d1,(λ y hy=>?_),?_,?_⟩
   ·obtain⟨v,hv,e⟩:=d4 y hy
    have:=kNQ S M (Fc.rnd_sub S mt hv);exact⟨v.1,v.2,e,this.1,this.2⟩
   ·have:g.length+U.length<=20000:=by omega
    exact gh (xL this)
   have aw:=SeenAt.upd (H:=I) (d:=d) k2 k3 k4 d2 d3 d4;have f6:∀ b o,b≠d->Y b=some o->upd I d (.dT (yH g U)) b=some o:=λ b o nb e=>by rw[kM nb];exact ac _ _ e
   have ap:upd I d (.dT (yH g U)) q=some (.lst (qs.map V.ref)):=by
    rw[kM (wM (g5 _ _ q1) a5 (by simp))];exact g5 _ _ q1
   have b1:∀(i:Nat)(b:au)(t:Nat×Nat),qs[i]?=some b->(Fc.rnd W (p,r))[i]?=some t->upd I d (.dT (yH g U)) b=some (.tup [vn t.1,vn t.2]):=λ i b t e1 e2=>by
    have:=g5 _ _ (q3 i b t e1 e2);rw[kM (wM this a5 (by simp))];exact this
   obtain⟨ls,r1,r2,r3⟩:=id rt;have an:upd I d (.dT (yH g U)) l=some (.lst (ls.map V.ref)):=f6 l _ am r1
   have b7:∀(i:Nat)(b:au)(t:List Nat),ls[i]?=some b->st.1[i]?=some t->upd I d (.dT (yH g U)) b=some (.tup (t.map vn)):=λ i b t e1 e2=>by
    have:=r3 i b t e1 e2;exact f6 b _ (wM this k1 (by simp)) this
   have aq:∀ b o,b≠l->b≠d->H2 b=some o->upd I d (.dT (yH g U)) b=some o:=λ b o n1 n2 e=>f6 b o n2 (f3 b o n1 n2 e)
   generalize upd I d (.dT (yH g U))=H6 at *
   refine⟨_,rfl,.inl ⟨rfl,_,SqL.of an⟩,_,rfl,q,rfl,⟨_,SqL.of ap⟩,λ D2 ah=>?_⟩;refine jX (xs:=qs.map V.ref) (λ j G H7=>∃(x0 x1:Option V),G=[x0,x1]/\Same H6 H7/\H7 D2=some (.lst ((((Fc.rnd W (p,r)).take j).map (·.1)).map vn))) ⟨none,none,rfl,kC ah _,kA⟩ ?_ ?_ ?_
   ·rintro j G H7 _ ⟨x0,x1,rfl,g7,_⟩
    exact SqL.of (g7 _ _ ap)
   ·rintro j v G H7 hv ⟨x0,x1,rfl,g7,Z⟩
    rw[bg]at hv;obtain⟨c',ec,rfl⟩:=cu.mp hv;have hj:j<(Fc.rnd W (p,r)).length:=by rw[<-q2];exact(aj.mp ec).1
    have ej:=aa hj;have hc:=g7 _ _ (b1 j c' _ ec ej);have a8:(Fc.rnd W (p,r)).take (j+1)=(Fc.rnd W (p,r)).take j++[(Fc.rnd W (p,r))[j]]:=by rw[iw,ej];rfl
    rw[a8];generalize(Fc.rnd W (p,r))[j]=y at *;refine⟨c',_,rfl,SqT.of hc,rfl,_,_,rfl,_,_,rfl,rfl,?_⟩;refine⟨_,rfl,_,Z,(by rw[ai,ai,dc];exact xL (by omega)),?_⟩;refine⟨_,_,rfl,qJ ah g7,?_⟩;rw[eE,eE];exact kA
   ·rintro G H7 ⟨x0,x1,rfl,g7,Z⟩
    rw[ai,q2,iG]at Z;refine⟨D2,_,rfl,.inl ⟨SqL.of Z,λ f nf=>?_⟩⟩;have gf:=kC nf (.tup (((Fc.rnd W (p,r)).map (·.1)).map vn));have g8:=g7.trans gf;have hf:=kA (H:=H7) (a:=f) (o:=.tup (((Fc.rnd W (p,r)).map (·.1)).map vn));generalize bb:upd H7 f (.tup (((Fc.rnd W (p,r)).map (·.1)).map vn))=H8 at *;have af:=g8 _ _ an;have b8:∀(i:Nat)(b:au)(t:List Nat),ls[i]?=some b->st.1[i]?=some t->H8 b=some (.tup (t.map vn)):=λ i b t e1 e2=>g8 _ _ (b7 i b t e1 e2);refine⟨l,_,_,rfl,rfl,af,(by rw[ai,r2];exact xL (by omega)),?_⟩;refine⟨_,_,rfl,(λ b o n1 n2 e=>by rw[kM n1];exact g8 _ _ (aq b o n1 n2 e)),RowsT.app af r2 b8 hf,?_⟩;obtain⟨ba,z1,z2⟩:=aw.kept g8;exact⟨ba,by rw[kM am.symm];exact z1,z2⟩
 ·rintro G Y ⟨x3,x4,rfl,f3,rt,sn⟩
  rw[ai,h2,iG]at rt;obtain⟨ps,e1,e2,e3⟩:=kHD rt (kMN S aF);have ab:Same H Y:=λ b o e=>f3 b o (kJ e nl) (kJ e b9) (al b o e);refine⟨_,rfl,l,ps,rfl,.inl (SqL.of e1),e2,λ l' as a7 pm sr=>?_⟩;exact k l' _ (ab.trans (kC a7 _)) (ab.free a7) (e3 l' as a7 pm sr)
inductive kKD(vs:List V)(H:Hp)(Q:VK)(Y:XK):Prop
 | mk:∀(t:au)(W:Rows),(vs=[.ref t])->(WebAt H t W)->(Nb W)->(W.length<=42)->(∀(H':Hp),Same H H'->Q (.bl (decide (W.length+(Fc.facesS W).length=(Fc.tiesS W).length+2))) H')->kKD vs H Q Y
def kDA(B:Fx):Hs "is_flat" ["web"] 4 (kKD):=by
 refine qP B.X B.d7 kCM λ f o A d L H C Q E I i h=>?_;obtain⟨t,W,rfl,c,S,a,k⟩:=h;refine⟨_,(kL (kX (vB kLK (kT qF (kR kP rfl (B.z B.y0) fq (p1 (pv 0))) (kR kP rfl (B.z B.y0) fq (p1 (pf (kAN B) i (p1 (pv 0)))))) (kT qF (kR kP rfl (B.z B.y0) fq (p1 (pf (kOM B) i (p1 (pv 0))))) kI) (jC _)))),?_⟩
 try dsimp only[qY]
 obtain⟨m,h1,b,G⟩:=id c;refine⟨_,rfl,t,_,rfl,.inr (SqT.of h1),_,rfl,t,W,rfl,c,S,a,λ s y g J j=>?_⟩;obtain⟨q,p,n,_⟩:=j;refine⟨s,_,rfl,.inl (SqL.of p),_,_,rfl,rfl,_,rfl,t,W,rfl,c.kept g,S,a,λ u l x D v=>?_⟩;obtain⟨r,p1,p2,_⟩:=v;refine⟨u,_,rfl,.inl (SqL.of p1),_,_,rfl,rfl,rfl,?_⟩
 have e:decide (V.int (((m.map V.ref).length:Int)+((q.map V.ref).length:Int))=V.int (((r.map V.ref).length:Int)+2))=decide (W.length+(Fc.facesS W).length=(Fc.tiesS W).length+2):=by
  rw[iV,decide_eq_true_iff,decide_eq_true_iff,ai,ai,ai,b,n,p2];constructor
  ·intro z
   have:=V.int.inj z;omega
  ·intro z
   congr 1
   omega
 rw[e];exact k l (g.trans x)
end
section
inductive tK(vs:List V)(H:Hp)(Q:VK)(Y:XK):Prop
 | mk:∀(n:Nat),(vs=[vn n])->(Q (.bl true) H)->tK vs H Q Y
def kAK(B:Fx):Hs "is_whole" ["thing"] 1 (tK):=by
 refine qP B.X B.d0 tV λ f b A a d H c Q E i g h=>?_;obtain⟨n,rfl,q⟩:=h;refine⟨_,(kL (kX (gY (kR Own.call_isi rfl (B.z B.y8) xt (p2 (pv 0) (rB (v:=.ty "int") rfl (B.z B.y10) Cp rfl))) (kCU (kRL (kR Own.call_isi rfl (B.z B.y8) xt (p2 (pv 0) (rB (v:=.ty "bool") rfl (B.z B.y9) GF rfl)))))))),?_⟩
 try dsimp only[qY]
 exact⟨_,rfl,_,_,_,_,rfl,.int _,rfl,_,rfl,wN ⟨_,rfl,_,_,_,_,rfl,.int _,rfl,_,rfl,q⟩⟩
inductive kKF(vs:List V)(H:Hp)(Q:VK)(Y:XK):Prop
 | mk:∀(a:au)(ns:List Nat),(vs=[.ref a,vn ns.length])->(H a=some (.tup (ns.map vn)))->(ns.length<=1000)->(∀ H',Same H H'->Q (.bl true) H')->kKF vs H Q Y
def aZ(B:Fx):Hs "are_whole" ["thing","many"] 2 (kKF):=by
 refine qP B.X B.d1 pR λ f y A p O H M Q E N J h=>?_;obtain⟨a,o,rfl,e,l,k⟩:=h;refine⟨_,(kL (kX (gY (kR Own.call_isi rfl (B.z B.y8) xt (p2 (pv 0) (rB (v:=.ty "tuple") rfl (B.z B.y6) kg rfl))) (gY (vB kLK (kR kP rfl (B.z B.y0) fq (p1 (pv 0))) (pv 1) (jC _)) (kCU (kR (oV rfl) rfl (B.z B.y11) Cq (p1 (zB (Nc:=["one"]) (js:=[none]) rfl rfl (aH (pv 0)) (CS.of rfl rfl) rfl (λ C i c G d=>(pgc 0)) (λ C i c G d D L=>(jG (xD (pf (kAK B) J (p1 (pv 0)))))))))))))),?_⟩
 try dsimp only[qY]
 refine⟨_,rfl,_,_,_,_,rfl,.tup e,rfl,_,rfl,wN ⟨_,rfl,a,_,rfl,.inr (SqT.of e),_,rfl,rfl,_,rfl,?_⟩⟩;rw[decide_eq_true (show V.int (((o.map vn).length:Nat):Int)=vn o.length by rw[ai];rfl)];refine wN ⟨_,rfl,a,rfl,⟨_,SqT.of e⟩,λ D r=>?_⟩;refine zH (xs:=o.map vn) (λ n m b=>∃(u:Option V),m=[u]/\b D=some (.lst ((iD n true).map V.bl))/\Same H b) ⟨none,rfl,kA,kC r _⟩ ?_ ?_ ?_
 ·rintro n m b _ ⟨u,rfl,j,g⟩
  exact SqT.of (g _ _ e)
 ·rintro n v m b q ⟨u,rfl,j,g⟩
  have s:=(aj.mp q).1;rw[ai]at s;rw[bg]at q;obtain⟨x,_,rfl⟩:=cu.mp q;refine⟨_,rfl,x,rfl,_,j,(by rw[ai,ya];exact kQ (by omega)),?_⟩;exact⟨_,rfl,(by rw[List.replicate_succ',eE];exact kA),qJ r g⟩
 ·rintro m b ⟨u,rfl,j,g⟩
  refine⟨D,_,rfl,SqL.of j,?_⟩
  have:(iD (o.map vn).length true).all id=true:=by
   rw[wz];intro x I;rw[List.eq_of_mem_replicate I]
   rfl
  rw[this];exact k b g
structure Tr(W:Rows):Prop where
 nb:Nb W
 le:W.length<=42
 three:∀ t∈kN W,(nxt W (nxt W t)).2=t.1
 cnt:(kN W).length+12=6*W.length
def Tr.flat{W:Rows}(T:Tr W):W.length+(Fc.facesS W).length=(Fc.tiesS W).length+2:=((Fc.three_cornered T.nb).mpr ⟨T.three,T.cnt⟩).1
def Tr.faces{W:Rows}(T:Tr W):∀ f∈Fc.facesS W,f.length=3:=((Fc.three_cornered T.nb).mpr ⟨T.three,T.cnt⟩).2
def Tr.turns{W:Rows}(T:Tr W){p q k:Nat}(a:Tri.E W p q)(Y:Turns W p q k):orb W p q k=[(p,q),(q,(nxt W (p,q)).2),((nxt W (p,q)).2,p)]:=by
 have j:(p,q)∈kN W:=mem_steps.mpr a;have d:p≠q:=λ z=>(T.nb.e a).2.2 z.symm;have c:=T.three _ j;have l:=T.three _ (mem_steps.mpr (kFN T.nb a 1):((nxt W (p,q)).1,(nxt W (p,q)).2)∈kN W);have m:nxt W (p,q)=(q,(nxt W (p,q)).2):=rfl;have f:nxt W (nxt W (p,q))=((nxt W (p,q)).2,p):=wj rfl c;have i:nxt W (nxt W (nxt W (p,q)))=(p,q):=wj c l
 have g:k=3:=by
  rcases yg k 3 with h | h | h
  ·exfalso
   have b:=Y.back;have:=Y.pos;have:k=1\/k=2:=by omega
   rcases this with rfl | rfl
   ·have b:nxt W (p,q)=(p,q):=b
    have:=congrArg Dm b;exact d this.symm
   ·have b:nxt W (nxt W (p,q))=(p,q):=b
    rw[f]at b;exact d (congrArg Av b)
  ·exact h
  ·exact absurd i (Y.first 3 (by decide) h)
 subst g;show[(p,q),nxt W (p,q),nxt W (nxt W (p,q))]=_;rw[f]
 rfl
def aI(T:List (Nat×Nat)):Cs:=.list (T.map λ t=>prD t.1 t.2)
def kHS(T:List (Nat×Nat)):ky (T.map λ t=>prD t.1 t.2)=true/\ow (T.map λ t=>prD t.1 t.2)<=1:=by
 induction T with
 | nil=>exact⟨rfl,by decide⟩
 | cons t T ih =>
  have h1:ou (prD t.1 t.2)=true:=by simp[prD,ou,ky]
  have a:qz (prD t.1 t.2)<=1:=by simp[prD,qz,ow]
  simp only[gv,ky,ow,h1,ih.1];have:=ih.2;refine⟨rfl,?_⟩;omega
def nX(T:List (Nat×Nat)):mh (aI T)=true:=by
 obtain⟨h1,a⟩:=kHS T;unfold aI mh;simp only[ou,qz,h1]
 first | (simp;omega) | (rw[iQ];exact⟨rfl,decide_eq_true (by omega)⟩) | simp_all
def PairsAt.dt{H:Hp}{s:au}{T:List (Nat×Nat)}(h:PairsAt H s T):Dt K H (aI T) (.ref s):=by
 obtain⟨c,h1,b,a⟩:=h;unfold aI Dt;exact⟨s,_,rfl,SqL.of h1,kBG b a⟩
def kCV:∀(T U:List (Nat×Nat)),jl (aI T) (aI U)=decide (T=U):=by
 have b:∀(T U:List (Nat×Nat)),ie (T.map λ t=>prD t.1 t.2) (U.map λ t=>prD t.1 t.2)=decide (T=U):=λ T=>by
  induction T with
  | nil=>intro U;cases U<;>simp[ie]
  | cons t T ih =>
   intro U
   cases U with
   | nil=>simp[ie]
   | cons u U =>
    rw[gv,gv,ie,kFD,ih U,iV,iQ,decide_eq_true_iff,decide_eq_true_iff,decide_eq_true_iff];constructor
    ·rintro⟨⟨h1,a⟩,rfl⟩
     rw[show t=u from wj h1 a]
    ·intro h
     injection h with h1 a
     exact⟨⟨congrArg _ h1,congrArg _ h1⟩,a⟩
 intro T U;unfold aI;rw[jl];exact b T U
inductive kKG(vs:List V)(H:Hp)(Q:VK)(Y:XK):Prop
 | mk:∀(w:au)(W:Rows)(a c b:Nat),(vs=[.ref w,vn a,vn c,vn b])->(WebAt H w W)->(Tr W)->(Tri.E W a c)->(∀ H',Same H H'->Q (.bl (decide ((nxt W (a,c)).2=b))) H')->kKG vs H Q Y
def bA(B:Fx):Hs "are_round" ["web","p","q","r"] 3 (kKG):=by
 refine qP B.X B.d10 pS λ f a0 A v s0 H vs Q E nN L h=>?_;obtain⟨w,W,a,c,b,rfl,N,T,J,k⟩:=h;refine⟨_,(kL (kX (vB (kCW L.units) (pf (uG B) L (p2 (pv 0) (qT (p2 (pv 1) (pv 2))))) (qO (kH (qT (p2 (pv 1) (pv 2))) (kH (qT (p2 (pv 2) (pv 3))) (kH (qT (p2 (pv 3) (pv 1))) kY)))) (jC _)))),?_⟩
 try dsimp only[qY]
 refine⟨_,rfl,_,rfl,_,rfl,yS2,λ z nz=>?_⟩;have I:=kC nz (.tup [vn a,vn c]);have U:=kA (H:=H) (a:=z) (o:=.tup [vn a,vn c]);refine⟨w,z,W,a,c,rfl,N.kept I,T.nb,T.le,U,J,λ s m n O Y G=>?_⟩;rw[T.turns J Y]at G;have y:=I.trans O;refine⟨_,rfl,_,rfl,yS2,λ g n1=>⟨_,rfl,_,rfl,yS2,λ j n2=>⟨_,rfl,_,rfl,yS2,λ l n3=>⟨yS3,λ u M=>?_⟩⟩⟩⟩;have k1:=kC n1 (.tup [vn a,vn c]);have C:=kC n2 (.tup [vn c,vn b]);have r:=kC n3 (.tup [vn b,vn a]);have q:=kC M (.lst [.ref g,.ref j,.ref l]);have q1:=q _ _ (r _ _ (C _ _ (kA (H:=n) (a:=g) (o:=.tup [vn a,vn c]))));have Z:=q _ _ (r _ _ (kA (H:=upd n g (.tup [vn a,vn c])) (a:=j) (o:=.tup [vn c,vn b])));have q3:=q _ _ (kA (H:=upd (upd n g (.tup [vn a,vn c])) j (.tup [vn c,vn b])) (a:=l) (o:=.tup [vn b,vn a]));have q4:=kA (H:=upd (upd (upd n g (.tup [vn a,vn c])) j (.tup [vn c,vn b])) l (.tup [vn b,vn a])) (a:=u) (o:=.lst [.ref g,.ref j,.ref l]);have D:=k1.trans (C.trans (r.trans q))
 have S:PairsAt (upd (upd (upd (upd n g (.tup [vn a,vn c])) j (.tup [vn c,vn b])) l (.tup [vn b,vn a])) u (.lst [.ref g,.ref j,.ref l])) u [(a,c),(c,b),(b,a)] :=
  ⟨[g,j,l],q4,rfl,λ i d t p x=>by
   match i with
   | 0=>cases p;cases x;exact q1
   | 1=>cases p;cases x;exact Z
   | 2=>cases p;cases x;exact q3
   | i+3=>simp at p⟩
 refine⟨_,_,(G.kept D).dt,S.dt,nX _,nX _,?_⟩;rw[if_neg (by decide),kCV]
 have e:decide ([(a,c),(c,(nxt W (a,c)).2),((nxt W (a,c)).2,a)]=[(a,c),(c,b),(b,a)])=decide ((nxt W (a,c)).2=b):=by
  rw[iV,decide_eq_true_iff,decide_eq_true_iff];constructor
  ·intro h
   injection h with _ h
   injection h with h _
   exact congrArg Av h
  ·intro h
   rw[h]
 rw[e];exact k _ (y.trans D)
inductive fR(vs:List V)(H:Hp)(Q:VK)(Y:XK):Prop
 | mk:∀(t:au)(W:Rows),(vs=[.ref t])->(WebAt H t W)->(Tr W)->(∀ H',Same H H'->Q .non H')->fR vs H Q Y
def dX(B:Fx):Hs "must_be_flat" ["web"] 5 (fR):=by
 refine qP B.X B.d8 dQ λ f b A a l H j Q E m i h=>?_;obtain⟨t,W,rfl,d,T,k⟩:=h;refine⟨_,(kL (yW (cF (cE (pf (kDA B) i (p1 (pv 0))))) (kL fH) jL)),?_⟩
 try dsimp only[qY]
 refine⟨_,rfl,t,W,rfl,d,T.nb,T.le,λ c g=>⟨_,rfl,?_⟩⟩;rw[decide_eq_true T.flat];exact yK (k c g)
inductive tL(vs:List V)(H:Hp)(Q:VK)(Y:XK):Prop
 | mk:∀(t:au)(W:Rows),(vs=[.ref t])->(WebAt H t W)->(Tr W)->(∀ H',Same H H'->Q .non H')->tL vs H Q Y
def aJ(B:Fx):Hs "uncornered_face" ["web"] 4 (tL):=by
 refine qP B.X B.d9 aG λ f S A o s0 H vs Q E N hr h=>?_;obtain⟨t,W,rfl,y,T,k⟩:=h
 refine⟨_,(kE (aU (i:=1) (Nc:=["face"]) (js:=[none]) rfl rfl N rfl (zd rfl) (yD (pf (kAN B) hr (p1 (pv 0)))) (CS.of rfl rfl) rfl (λ C j d Y g=>(pgc 0)) (λ C j d Y g D L=>(zL (qK kAG (kR (show yX _ _ (yO K) from kP) rfl (B.z B.y0) fq (p1 (pv 0))) kI (jC _)) (xD (pv 0)))))
   (kL (kX (kAD (kKX (pv 1) (λ _=>rfl)) (pix kW (pv 1) kI) wZ)))),?_⟩
 try dsimp only[qY]
 refine⟨_,rfl,t,W,rfl,y,T.nb,T.le,λ s u G ns v=>?_⟩;obtain⟨Z,h1,O,M⟩:=id v;refine⟨s,rfl,⟨_,SqL.of h1⟩,λ D J=>?_⟩
 refine jX (xs:=Z.map V.ref) (λ i l a=>∃(m:Option V),l=[m]/\Same u a/\a D=some (.lst []))
  ⟨none,rfl,kC J _,kA⟩ ?_ ?_ ?_
 ·rintro i l a _ ⟨m,rfl,c,_⟩
  exact SqL.of (c _ _ h1)
 ·rintro i x l a r ⟨m,rfl,c,n⟩
  rw[bg]at r;obtain⟨b,p,rfl⟩:=cu.mp r;have q:i<(Fc.facesS W).length:=by rw[<-O];exact(aj.mp p).1
  have et:=aa q;have U:=M i b _ p et;have I:=T.faces _ (iY q);refine⟨_,rfl,b,_,rfl,.inr (SqT.of (c _ _ U)),rfl,_,rfl,?_⟩;rw[ai,I];exact yK ⟨_,rfl,c,n⟩
 ·rintro l a ⟨m,rfl,c,n⟩
  exact⟨_,rfl,false,.inl ⟨_,SqL.of n,rfl⟩,k a (G.trans c)⟩
inductive kES(vs:List V)(H:Hp)(Q:VK)(Y:XK):Prop
 | mk:∀(w z:au)(W:Rows)(a b c:Nat),(vs=[.ref w,.ref z])->(WebAt H w W)->(Tr W)->(H z=some (.tup [vn a,vn b,vn c]))->(Tri.E W a c)->((nxt W (a,c)).2=b)->(∀ H',Same H H'->Q (.bl true) H')->kES vs H Q Y
def kDB(B:Fx):Hs "is_base" ["web","thing"] 4 (kES):=by
 refine qP B.X B.d11 kCN λ f D A l O H N Q E j r h=>?_;obtain⟨w,z,W,a,b,c,rfl,x,T,p,o,v,k⟩:=h
 refine⟨_,(kE (yW (cF (cE (pf (aZ B) r (p2 (pv 1) kI)))) (kL (kX kFG)) jL)
   (kE (xV (pv 1) (jR (n:=3) rfl (kS (pgn 2 j) (kS (pgn 3 j) (kS (pgn 4 j) qV)))))
   (kL (kX (gY (kLG kTS kLI kI (pv 2) (kR kP rfl (B.z B.y0) fq (p1 (pv 0)))) (gY (vB zF (pv 4) (pix qC (pv 0) (pv 2)) rfl) (kCU (pf (bA B) r (kH (pv 0) (kH (pv 2) (kH (pv 4) (kH (pv 3) kY)))))))))))),?_⟩
 try dsimp only[qY]
 refine⟨_,rfl,z,[a,b,c],rfl,p,(by show 3<=1000;decide),λ L g=>⟨_,rfl,yK ?_⟩⟩;have i:=g _ _ p;have q:=x.kept g;obtain⟨y,h1,d,C⟩:=q.at;obtain⟨row,s,m⟩:=id o;obtain⟨J,u,G⟩:=C a row s;have S:=(T.nb.e o).1;refine⟨_,rfl,z,_,rfl,SqT.of i,rfl,_,_,rfl,_,_,rfl,_,_,rfl,rfl,?_⟩;refine⟨_,rfl,_,_,rfl,rfl,_,rfl,?_⟩;rw[decide_eq_true (show(0:Int)<=(a:Int) by omega)];refine wN ⟨_,rfl,w,_,rfl,.inr (SqT.of h1),_,_,rfl,rfl,_,rfl,?_⟩;rw[decide_eq_true (show(a:Int)<(((y.map V.ref).length:Nat):Int) by rw[ai,d];omega)];refine wN ⟨_,rfl,_,rfl,_,rfl,w,_,_,_,rfl,rfl,SqT.of h1,u,J,_,rfl,.inr (SqT.of G),rfl,yS _,_,rfl,?_⟩;rw[zX,decide_eq_true m];refine wN ⟨_,rfl,_,rfl,_,rfl,_,rfl,w,W,a,c,b,rfl,q,T,o,λ M I=>?_⟩;rw[decide_eq_true v];exact k _ (g.trans I)
inductive fS(vs:List V)(H:Hp)(Q:VK)(Y:XK):Prop
 | mk:∀(w z:au)(W:Rows)(a b c:Nat),(vs=[.ref w,.ref z])->(WebAt H w W)->(Tr W)->(H z=some (.tup [vn a,vn b,vn c]))->(Tri.E W a c)->((nxt W (a,c)).2=b)->(∀ H',Same H H'->Q .non H')->fS vs H Q Y
def aW(B:Fx):Hs "must_have_base" ["web","base"] 6 (fS):=by
 refine qP B.X B.d12 aR λ f p A i y H x Q E o l h=>?_;obtain⟨w,z,W,a,b,c,rfl,g,T,n,s,m,k⟩:=h
 refine⟨_,(kE (qL (pf (dX B) l (p1 (pv 0))))
   (kE (pst 2 o (pf (aJ B) l (p1 (pv 0))))
   (kE (yW (qK kOK (pv 2) wZ (jC _)) (kL fH) jL)
   (kL (yW (cF (cE (pf (kDB B) l (p2 (pv 0) (pv 1))))) (kL fH) jL))))),?_⟩
 try dsimp only[qY]
 refine⟨_,rfl,w,W,rfl,g,T,λ u d=>?_⟩;refine⟨_,rfl,w,W,rfl,g.kept d,T,λ v j=>?_⟩;refine⟨_,rfl,rfl,_,rfl,yK ?_⟩;refine⟨_,rfl,_,rfl,w,z,W,a,b,c,rfl,(g.kept d).kept j,T,j _ _ (d _ _ n),s,m,λ r q=>⟨_,rfl,yK ?_⟩⟩;exact k r (d.trans (j.trans q))
end
section
def kGT{r l:Bool}{K:ay}{a b:au}{xs ys:List V}{g:TG}{bd:TB}{o:St->Hp->Prop}{c:St}{H:Hp}(Pv:Nat->St->Hp->Prop)(d:ys.length<xs.length)(h0:Pv 0 c H)
  (A:∀ i c H,i<=ys.length->Pv i c H->SqX K r H a xs/\SqX K l H b ys)
  (v:∀ i x y T c H,xs[i]?=some x->ys[i]?=some y->H T=none->Pv i c H->g (.ref T) c (upd H T (.tup [x,y])) λ σ2 H2=>bd (Pv (i+1)) σ2 H2) (u:∀ c H,Pv ys.length c H->o c H):vS (kSV r l K a b) g bd o c H:=by
 refine⟨λ i m c H=>m=ys.length-i/\i<=ys.length/\Pv i c H,⟨ys.length,by simp,gy _,h0⟩,?_⟩;rintro i m c H ⟨rfl,j,p⟩;obtain⟨h,f⟩:=A i c H j p;rcases iH i ys.length with n | n
 ·refine .inr ⟨⟨xs,ys,xs[i]'(by omega),ys[i],h,f,by simp[show i<xs.length by omega],by simp[n]⟩,Pv (i+1),λ s I q=>⟨ys.length-(i+1),by omega,rfl,by omega,q⟩,λ x I G=>?_⟩
  obtain⟨T,C,J,B,rfl,L,D,rfl⟩:=G;exact v i C J T c H (L xs h) (D ys f) B p
 ·obtain rfl:i=ys.length:=by omega
  exact .inl ⟨⟨xs,ys,xs[ys.length]'(by omega),h,f,by simp[d],rfl⟩,u c H p⟩
def zW(a:List Nat):Cs:=.list (a.map λ n:Nat=>kb (n:Int))
def pH(a:List Nat):Cs:=.tuple (a.map λ n:Nat=>kb (n:Int))
def oK(T:List Nat):ky (T.map λ n:Nat=>kb (n:Int))=true/\ow (T.map λ n:Nat=>kb (n:Int))<=1:=by
 induction T with
 | nil=>exact⟨rfl,by decide⟩
 | cons t T ih =>
  simp only[gv,ky,ow,ou,qz,ih.1];have:=ih.2;refine⟨rfl,?_⟩;omega
def bF(T:List Nat):mh (zW T)=true:=by
 obtain⟨h1,a⟩:=oK T;unfold zW mh;simp only[ou,qz,h1]
 first | (simp;omega) | (rw[iQ];exact⟨rfl,decide_eq_true (by omega)⟩) | simp_all
def kEC(T:List Nat):mh (pH T)=true:=by
 obtain⟨h1,a⟩:=oK T;unfold pH mh;simp only[ou,qz,h1]
 first | (simp;omega) | (rw[iQ];exact⟨rfl,decide_eq_true (by omega)⟩) | simp_all
def kHZ(T:List Nat):jl (zW T) (zW T)=true:=by
 unfold zW;rw[jl];exact kLX T
def fO{H:Hp}{s:au}{T:List Nat}(h:H s=some (.lst (T.map vn))):Dt K H (zW T) (.ref s):=by
 unfold zW Dt;exact⟨s,_,rfl,SqL.of h,kFY T⟩
def kMQ{H:Hp}{s:au}{T:List Nat}(h:H s=some (.tup (T.map vn))):Dt K H (pH T) (.ref s):=by
 unfold pH Dt;exact⟨s,_,rfl,SqT.of h,kFY T⟩
def pI{ms:List Nat}{n:Nat}(h:ms.Perm (cw n)){c:List Int}(p:c.Perm (ms.map ci))(s:c.Pairwise (·<=·)):c=(cw n).map ci:=by
 have p2:c.Perm ((cw n).map ci):=p.trans (h.map ci)
 have f:((cw n).map ci).Pairwise (·<=·):=by
  rw[qe];refine CZ.imp λ{a b} h=>?_;show(a:Int)<=b;omega
 exact p2.eq_of_pairwise (λ a b _ _ h1 d=>Int.le_antisymm h1 d) s f
def kDF(T U:List Nat):jl (zW T) (zW U)=decide (T=U):=by
 have b:∀(T U:List Nat),ie (T.map λ n:Nat=>kb (n:Int)) (U.map λ n:Nat=>kb (n:Int))=decide (T=U):=λ T=>by
  induction T with
  | nil=>intro U;cases U<;>simp[ie]
  | cons t T ih =>
   intro U
   cases U with
   | nil=>simp[ie]
   | cons u U =>
    rw[gv,gv,ie,ih U,iV,iQ,decide_eq_true_iff,decide_eq_true_iff]
    have e:jl (kb (t:Int)) (kb (u:Int))=true↔t=u:=by
     simp only[jl,beq_iff_eq];omega
    rw[e];constructor
    ·rintro⟨h1,a⟩
     rw[h1,a]
    ·intro h
     injection h with h1 a
     exact⟨h1,a⟩
 unfold zW;rw[jl];exact b T U
def kHC(T U:List Nat):jl (pH T) (pH U)=decide (T=U):=by
 have b:∀(T U:List Nat),ie (T.map λ n:Nat=>kb (n:Int)) (U.map λ n:Nat=>kb (n:Int))=decide (T=U):=λ T=>by
  induction T with
  | nil=>intro U;cases U<;>simp[ie]
  | cons t T ih =>
   intro U
   cases U with
   | nil=>simp[ie]
   | cons u U =>
    rw[gv,gv,ie,ih U,iV,iQ,decide_eq_true_iff,decide_eq_true_iff]
    have e:jl (kb (t:Int)) (kb (u:Int))=true↔t=u:=by
     simp only[jl,beq_iff_eq];omega
    rw[e];constructor
    ·rintro⟨h1,a⟩
     rw[h1,a]
    ·intro h
     injection h with h1 a
     exact⟨h1,a⟩
 unfold pH;rw[jl];exact b T U
inductive nH(vs:List V)(H:Hp)(Q:VK)(Y:XK):Prop
 | mk:∀(w z o:au)(W:Rows)(a b c:Nat)(ms:List Nat),(vs=[.ref w,.ref z,.ref o])->(WebAt H w W)->(W.length<=42)->(H z=some (.tup [vn a,vn b,vn c]))->(H o=some (.tup (ms.map vn)))->(ms.Perm (cw W.length))->(3<=W.length)->(∀ H',Same H H'->Q (.bl (decide (ms[0]?=some a/\ms[1]?=some b/\ms.getLast?=some c))) H')->nH vs H Q Y
def kAL(B:Fx):Hs "has_ends" ["web","base","thing"] 3 (nH):=by
 refine qP B.X B.d13 tW λ f a1 A G s0 H vs Q E C L h=>?_;obtain⟨w,z,o,W,a,b,c,d,rfl,Z,a0,hz,I,hp,l3,k⟩:=h
 refine⟨_,(kE (yW (PW.pt (kQB (cF (cE (pf (aZ B) L (p2 (pv 2) (kR kP rfl (B.z B.y0) fq (p1 (pv 0))))))) (kKW (qK (rD L.units) (kR kDR rfl (B.z B.y7) zr (p1 (pv 2))) (kOG rfl rfl (B.z B.y12) rfl (B.z B.y3) (p1 (kR kP rfl (B.z B.y0) fq (p1 (pv 0))))) (jC _))))) (kL (kX kFG)) jL)
   (kE (xV (pv 1) (jR (n:=3) rfl (kS (pgn 3 C) (kS (pgn 4 C) (kS (pgn 5 C) qV)))))
   (kL (kX (vB (kCW L.units) (qT (kH (pix qC (pv 2) kI) (kH (pix qC (pv 2) kI) (kH (pix qC (pv 2) (uE zJ kI)) kY)))) (qT (kH (pv 3) (kH (pv 4) (kH (pv 5) kY)))) (jC _)))))),?_⟩
 try dsimp only[qY]
 have p:d.length=W.length:=by rw[hp.length_eq,iI]
 obtain⟨ts,h1,i,h3⟩:=id Z;refine⟨_,rfl,_,rfl,w,_,rfl,.inr (SqT.of h1),o,d,(by rw[ai,i,p];rfl),I,(by omega),λ q r=>⟨_,rfl,yK ?_⟩⟩;refine⟨_,rfl,o,d.map ci,rfl,.inr (SqT.of (by rw[r _ _ I,xB])),λ l a2 nl pm sr=>?_⟩;rw[pI hp pm sr];have T:=kC nl (.lst (((cw W.length).map ci).map V.int));have hl:=kA (H:=q) (a:=l) (o:=.lst (((cw W.length).map ci).map V.int));refine⟨_,rfl,w,_,rfl,.inr (SqT.of (T _ _ (r _ _ h1))),W.length,(by rw[ai,i]),(by omega),λ M n2=>?_⟩;rw[if_neg eK];have U:=kC n2 (.lst (aA W.length));have s:=kA (H:=upd q l (.lst (((cw W.length).map ci).map V.int))) (a:=M) (o:=.lst (aA W.length));have D:=r.trans (T.trans U);refine⟨zW (cw W.length),zW (cw W.length),fO (by rw[xB];exact U _ _ hl),fO s,bF _,bF _,_,rfl,?_⟩;rw[kHZ];refine yK ?_;have J:=D _ _ hz;have g:=D _ _ I;generalize upd (upd q l (.lst (((cw W.length).map ci).map V.int))) M (.lst (aA W.length))=H2 at *;refine⟨_,rfl,z,_,rfl,SqT.of J,rfl,_,_,rfl,_,_,rfl,_,_,rfl,rfl,?_⟩;obtain⟨x,S⟩ : ∃ x,d[0]?=some x:=⟨_,aa (by omega)⟩;obtain⟨y,O⟩ : ∃ y,d[1]?=some y:=⟨_,aa (by omega)⟩;have u:d≠[]:=λ z=>by rw[z]at p;simp at p;omega
 obtain⟨v,m⟩ : ∃ v,d.getLast?=some v:=⟨_,eW u⟩;have e0:atI (d.map vn) 0=some (vn x):=qS (j:=0) (by rw[bg,S];rfl);have e1:atI (d.map vn) 1=some (vn y):=qS (j:=1) (by rw[bg,O];rfl)
 have e2:atI (d.map vn) (-1)=some (vn v):=by
  have em:d=d.dropLast++[v]:=by
   have m:=m;rw[eW u]at m;rw[<-bh m];exact(eO u).symm
  rw[em,eE];exact yJ _ _
 refine⟨_,rfl,o,_,_,_,rfl,rfl,SqT.of g,e0,_,rfl,o,_,_,_,rfl,rfl,SqT.of g,e1,_,rfl,_,rfl,o,_,_,_,rfl,rfl,SqT.of g,e2,yS3,λ u1 Y=>?_⟩;have j1:=kC Y (.tup [vn x,vn y,vn v]);refine⟨_,rfl,_,rfl,_,rfl,yS3,λ u2 m2=>?_⟩;have N:=kC m2 (.tup [vn a,vn b,vn c]);refine⟨pH [x,y,v],pH [a,b,c],kMQ (N _ _ kA),kMQ kA,kEC _,kEC _,?_⟩;rw[if_neg (by decide),kHC]
 have ee:decide ([x,y,v]=[a,b,c])=decide (d[0]?=some a/\d[1]?=some b/\d.getLast?=some c):=by
  rw[iV,decide_eq_true_iff,decide_eq_true_iff,S,O,m];simp
 rw[ee];exact k _ (D.trans (j1.trans N))
theorem kBS{l r:List Nat}{x y:Nat}(h:Adj l x y):Adj (l++r) x y:=by
 match l,h with
 | a::b::l,h =>
  rcases h with z | z
  ·exact .inl z
  ·exact .inr (kBS (l:=b::l) z)
def kIW{l r:List Nat}{x y:Nat}(h:Adj r x y):Adj (l++r) x y:=by
 induction l with
 | nil=>exact h
 | cons a l ih =>
  cases e:l++r with
  | nil=>rw[e]at ih;exact absurd ih id
  | cons b s =>
   rw[iq,e];rw[e]at ih;exact EI ih
def kPK(xs:List V)(b c:Nat)(h:b<=xs.length):jV xs (some (b:Int)) (some (c:Int))=(xs.drop b).take (c-b):=by
 unfold jV;rw[HT.sIx_nat,HT.sIx_nat,jw h,List.take_eq_take_iff,iR];omega
inductive nA(vs:List V)(H:Hp)(Q:VK)(Y:XK):Prop
 | mk:∀(w tp ah:au)(W:Rows)(top ahead:List Nat)(pl:Nat),(vs=[.ref w,.ref tp,.ref ah,vn pl])->(WebAt H w W)->(Tr W)->(H tp=some (.lst (top.map vn)))->(H ah=some (.tup (ahead.map vn)))->(top.length<=42)->(ahead.length<=42)->(pl<W.length)->(top.Nodup)->((∀ x y,Adj top x y->Tri.E W x y))->((stF W top ahead pl=none->∀ H',Same H H'->Q .non H'))->(∀(st:List Nat),stF W top ahead pl=some st->∀(s:au)(H':Hp),Same H H'->H s=none->H' s=some (.lst (st.map vn))->Q (.ref s) H')->nA vs H Q Y
def cG(B:Fx):Hs "stretch_under" ["web","top","ahead","place"] 4 (nA):=by
 refine qP B.X B.d14 cC λ f b3 A b0 s0 H vs Q E nN hr h=>?_;obtain⟨w,tp,ah,W,top,g,m,rfl,hW,T,an,am,l1,l2,lp,b4,hA,U,k⟩:=h
 refine⟨_,(kE (pst 4 nN (zB (Nc:=["q","web","place"]) (js:=[none,some 0,some 3]) rfl rfl (aH (pv 2)) (CS.of rfl rfl) rfl (λ C u n fp s=>(pgc 0)) (λ C u n fp s D L=>(zL (qK (show OpR _ _ (rIn K false) from zF) (pv 0) (pix (show IxR _ (kCQ K) from qC) (pv 1) (pv 2)) rfl) (xD (pv 0))))))
   (kE (aU (i:=5) (Nc:=["q","below"]) (js:=[none,some 4]) rfl rfl nN rfl (zd rfl) (yD (pv 1)) (CS.of rfl rfl) rfl (λ C u n fp s=>(pgc 0)) (λ C u n fp s D L=>(zL (qK (show OpR _ _ (rIn K false) from zF) (pv 0) (pv 1) rfl) (xD (pv 0)))))
   (kE (yW (PW.pt (kQB (qK kLI (kR kP rfl (B.z B.y0) fq (p1 (pv 5))) kI (jC _)) (kKW (qK kAG (kR kP rfl (B.z B.y0) fq (p1 (pv 5))) (kR kP rfl (B.z B.y0) fq (p1 (pv 4))) (jC _))))) (kL (kX wZ)) jL)
   (kE (pst 6 nN (jD je jf yG (pv 1) (p1 (pix kW (pv 5) kI))))
   (kE (yW (qK (rD hr.units) (qB jE (pv 1) (kZ (pv 6)) (kZ (kT qF (pv 6) (kR kP rfl (B.z B.y0) fq (p1 (pv 5)))))) (pv 5) (jC _)) (kL (kX wZ)) jL)
   (kE (yW (cF (cE (kR (oV rfl) rfl (B.z B.y11) Cq (p1 (zB (Nc:=["x","y","web","place"]) (js:=[none,none,some 0,some 3]) rfl rfl (kOF true true rfl (B.z B.y13) (p2 (pv 5) (qB jE (pv 5) (kZ kI) qU))) (CS.of rfl rfl) rfl (λ C u n fp s=>(show PG _ _ (kBA K 2 _) from jR rfl (kS (zS (i:=0) (show Bi (α:=Str) ["x","y","web","place"] by decide +kernel) rfl (zd rfl)) (kS (zS (i:=1) (show Bi (α:=Str) ["x","y","web","place"] by decide +kernel) rfl (zd rfl)) qV)))) (λ C u n fp s D L=>(jG (xD (pf (bA B) hr (kH (pv 2) (kH (pv 0) (kH (pv 1) (kH (pv 3) kY))))))))))))) (kL (kX wZ)) jL)
   (kL (kX (pv 5))))))))),?_⟩
 try dsimp only[qY]
 have a9:W.getD m []=W[m]:=by rw[ak,aa lp];rfl
 unfold stF at U k;dsimp only at U k;rw[a9]at U k;obtain⟨ts,h1,b5,h3⟩:=hW.at;obtain⟨b',e1,e2⟩:=h3 m W[m] (aa lp);refine⟨_,rfl,ah,rfl,⟨_,SqT.of am⟩,λ D nD=>?_⟩
 refine zH (xs:=g.map vn) (λ i I H2=>∃(G:Option V),I=[G,some (.ref w),some (vn m)]/\Same H H2/\H2 D=some (.lst (((g.take i).filter λ q=>decide (q∈W[m])).map vn)))
  ⟨none,rfl,kC nD _,kA⟩ ?_ ?_ ?_
 ·rintro i I H2 _ ⟨G,rfl,S,_⟩
  exact SqT.of (S _ _ am)
 ·rintro i x I H2 hx ⟨G,rfl,S,hD⟩
  rw[bg]at hx;obtain⟨q,a5,rfl⟩:=cu.mp hx;have tk:g.take (i+1)=g.take i++[q]:=by rw[iw,a5];rfl
  refine⟨_,rfl,_,rfl,_,rfl,w,_,_,_,rfl,rfl,SqT.of (S _ _ h1),e1,b',_,rfl,.inr (SqT.of (S _ _ e2)),rfl,yS _,_,rfl,?_⟩;rw[zX,tk,so];have lf:=mj (λ q=>decide (q∈W[m])) (g.take i);rw[dc]at lf;refine kIE (λ c=>?_) (λ c=>?_)
  ·refine⟨_,rfl,_,hD,(by rw[ai];exact kQ (by omega)),?_⟩
   refine⟨_,rfl,qJ nD S,?_⟩;rw[wu (p:=λ q=>decide (q∈W[m])) (show decide (q∈W[m])=true from c),eE];exact kA
  ·rw[wx (p:=λ q=>decide (q∈W[m])) (show ¬ decide (q∈W[m])=true from c),Bj,iW]
   exact⟨_,rfl,S,hD⟩
 rintro I H2 ⟨G,rfl,S,hD⟩;rw[ai,iG]at hD;have N:=S _ _ an;have lb:=mj (λ q=>decide (q∈W[m])) g;generalize g.filter (λ q=>decide (q∈W[m]))=v at *;refine⟨_,rfl,tp,rfl,⟨_,SqL.of N⟩,λ Y a6=>?_⟩
 refine jX (xs:=top.map vn) (λ i I H3=>∃(G:Option V),I=[G,some (.ref D)]/\Same H2 H3/\H3 Y=some (.lst (((top.take i).filter λ q=>decide (q∈v)).map vn)))
  ⟨none,rfl,kC a6 _,kA⟩ ?_ ?_ ?_
 ·rintro i I H3 _ ⟨G,rfl,g3,_⟩
  exact SqL.of (g3 _ _ N)
 ·rintro i x I H3 hx ⟨G,rfl,g3,l⟩
  rw[bg]at hx;obtain⟨q,a5,rfl⟩:=cu.mp hx;have tk:top.take (i+1)=top.take i++[q]:=by rw[iw,a5];rfl
  refine⟨_,rfl,_,rfl,D,_,rfl,.inl (SqL.of (g3 _ _ hD)),rfl,yS _,_,rfl,?_⟩;rw[zX,tk,so];have lf:=mj (λ q=>decide (q∈v)) (top.take i);rw[dc]at lf;refine kIE (λ c=>?_) (λ c=>?_)
  ·refine⟨_,rfl,_,l,(by rw[ai];exact kQ (by omega)),?_⟩
   refine⟨_,rfl,qJ a6 g3,?_⟩;rw[wu (p:=λ q=>decide (q∈v)) (show decide (q∈v)=true from c),eE];exact kA
  ·rw[wx (p:=λ q=>decide (q∈v)) (show ¬ decide (q∈v)=true from c),Bj,iW]
   exact⟨_,rfl,g3,l⟩
 rintro I H3 ⟨G,rfl,g3,l⟩;rw[ai,iG]at l;have b2:=mj (λ q=>decide (q∈v)) top;have a7:∀ q∈top.filter (λ q=>decide (q∈v)),q∈top:=λ q hq=>(ig.mp hq).1;generalize top.filter (λ q=>decide (q∈v))=st at *;have J:=S.trans g3;have aq:=g3 _ _ hD;have M:=g3 _ _ N;have W3:=hW.kept J;have lst:((st.map vn).length:Int)=st.length:=by rw[ai]
 have aw:((v.map vn).length:Int)=v.length:=by rw[ai]
 have ls:st.length<=42:=by omega
 refine⟨_,rfl,Y,_,rfl,.inl (SqL.of l),_,_,rfl,rfl,_,rfl,?_⟩;rw[lst];by_cases c1:st.length<2
 ·rw[decide_eq_true (show((st.length:Int)<2) by omega)]
  exact wN (U (by rw[if_pos (.inl c1)]) _ J)
 rw[decide_eq_false (show ¬ ((st.length:Int)<2) by omega)];refine yK ⟨_,rfl,Y,_,rfl,.inl (SqL.of l),_,rfl,D,_,rfl,.inl (SqL.of aq),rfl,_,rfl,?_⟩;rw[lst,aw];by_cases c2:st.length=v.length
 case neg =>
  rw[decide_eq_false (show ¬ (V.int (st.length:Int)=V.int (v.length:Int)) from λ z=>c2 (by have:=V.int.inj z;omega))];exact wN (U (by rw[if_pos (.inr c2)]) _ J)
 rw[c2,decide_eq_true (rfl:V.int ((v.length:Nat):Int)=V.int ((v.length:Nat):Int))];refine yK ?_;rw[if_neg (by omega)]at U k
 obtain⟨d,rest,a3⟩ : ∃ a r,st=a::r:=by
  match st,c1 with
  | a::r,_=>exact⟨a,r,rfl⟩
  | [],c1=>exact absurd (show([]:List Nat).length<2 by decide) c1
 have b1:st.headD 0=d:=by rw[a3];rfl
 have ag:atI (st.map vn) 0=some (vn d):=by rw[a3];exact qS (j:=0) rfl
 have m0:d∈top:=a7 d (by rw[a3];exact eZ ..);have il:=gw m0;refine⟨_,rfl,.inl ⟨rfl,_,SqL.of M⟩,_,rfl,Y,_,_,_,rfl,rfl,SqL.of l,ag,tp,top.map ci,d,top.idxOf d,rfl,rfl,(by rw[M,xB]),qG m0,?_⟩;refine⟨_,rfl,_,rfl,_,rfl,_,rfl,_,rfl,Y,_,rfl,.inl (SqL.of l),_,_,rfl,rfl,_,rfl,tp,_,rfl,SqL.of M,λ p np=>?_⟩;rw[b1]at U k
 have ac:jV (top.map vn) (some ((top.idxOf d:Nat):Int)) (some (((top.idxOf d:Nat):Int)+(((st.map vn).length:Nat):Int)))=((top.drop (top.idxOf d)).take st.length).map vn:=by
  rw[lst,show(((top.idxOf d:Nat):Int)+(st.length:Int))=((top.idxOf d+st.length:Nat):Int) by omega,kPK _ _ _ (by rw[ai];omega),ug,wq,show top.idxOf d+st.length-top.idxOf d=st.length by omega]
 rw[ac];have gp:=kC np (.lst (((top.drop (top.idxOf d)).take st.length).map vn));have hp:=kA (H:=H3) (a:=p) (o:=.lst (((top.drop (top.idxOf d)).take st.length).map vn));refine⟨_,rfl,zW ((top.drop (top.idxOf d)).take st.length),zW st,fO hp,fO (gp _ _ l),bF _,bF _,_,rfl,?_⟩;rw[kDF];by_cases c3:(top.drop (top.idxOf d)).take st.length=st
 case neg =>
  rw[decide_eq_false c3];exact wN (U (by rw[if_pos c3]) _ (J.trans gp))
 rw[decide_eq_true c3];rw[if_neg (λ z=>z c3)]at U k;refine yK ?_;have a0:=gp _ _ l;have W4:=W3.kept gp;have ax:=J.trans gp;have a8:H Y=none:=S.free a6;generalize upd H3 p (.lst (((top.drop (top.idxOf d)).take st.length).map vn))=H4 at *
 have hE:∀ t∈st.zip st.tail,Tri.E W t.1 t.2:=λ t ht=>by
  obtain⟨x,y⟩:=t;have ad:=aN ht
  have et:top=top.take (top.idxOf d)++(st++(top.drop (top.idxOf d)).drop st.length):=by
   have e2:top.drop (top.idxOf d)=st++(top.drop (top.idxOf d)).drop st.length:=by
    conv=>lhs;rw[<-iB st.length (top.drop (top.idxOf d)),c3]
   rw[<-e2,iB]
  refine hA x y ?_;rw[et];have a1:Adj (st++(top.drop (top.idxOf d)).drop st.length) x y:=kBS ad;exact kIW a1
 have tl:(st.map vn).tail=st.tail.map vn:=by rw[List.map_tail]
 have c1:jV (st.map vn) (some 1) none=st.tail.map vn:=by
  rw[show(1:Int)=((1:Nat):Int) from rfl,yI _ (by rw[ai];omega),List.drop_one,tl]
 refine⟨_,rfl,_,rfl,_,rfl,Y,_,rfl,SqL.of a0,λ D3 as=>?_⟩;rw[c1];have g5:=kC as (.lst (st.tail.map vn));have a2:=kA (H:=H4) (a:=D3) (o:=.lst (st.tail.map vn));have O:=g5 _ _ a0;have W5:=W4.kept g5;have af:=ax.trans g5;generalize upd H4 D3 (.lst (st.tail.map vn))=H5 at *;refine⟨Y,D3,rfl,⟨_,SqL.of O⟩,⟨_,SqL.of a2⟩,λ D4 ab=>?_⟩
 refine kGT (xs:=st.map vn) (ys:=st.tail.map vn) (λ i I H6=>∃(G x1:Option V),I=[G,x1,some (.ref w),some (vn m)]/\Same H5 H6/\H6 D4=some (.lst ((((st.zip st.tail).take i).map λ t=>decide ((nxt W t).2=m)).map V.bl))) (by rw[ai,ai,List.length_tail];omega)
  ⟨none,none,rfl,kC ab _,kA⟩ ?_ ?_ ?_
 ·rintro i I H6 _ ⟨G,x1,rfl,Z,_⟩
  exact⟨SqL.of (Z _ _ O),SqL.of (Z _ _ a2)⟩
 ·rintro i x y T' I H6 hx hy nT ⟨G,x1,rfl,Z,a4⟩
  rw[bg]at hx hy;obtain⟨a,ea,rfl⟩:=cu.mp hx;obtain⟨b,eb,rfl⟩:=cu.mp hy
  have mz:(a,b)∈st.zip st.tail:=by
   refine cv (i:=i) ?_;rw[uj];exact⟨ea,eb⟩
  have li:=(aj.mp ea).1;have gT:=kC nT (.tup [vn a,vn b]);have hT:=kA (H:=H6) (a:=T') (o:=.tup [vn a,vn b]);have W7:=(W5.kept Z).kept gT;have g7:=Z.trans gT;have al:=gT _ _ a4;generalize upd H6 T' (.tup [vn a,vn b])=H7 at *;refine⟨T',_,rfl,SqT.of hT,rfl,_,_,rfl,_,_,rfl,rfl,?_⟩;refine⟨_,rfl,_,rfl,_,rfl,_,rfl,w,W,a,b,m,rfl,W7,T,hE _ mz,λ H8 g8=>?_⟩
  have ap:(st.zip st.tail).take (i+1)=(st.zip st.tail).take i++[(a,b)]:=by
   have:(st.zip st.tail)[i]?=some (a,b):=by rw[uj];exact⟨ea,eb⟩
   rw[iw,this]
   rfl
  refine⟨_,g8 _ _ al,(by rw[ai,ai,dc];exact kQ (by omega)),?_⟩;refine⟨_,_,rfl,qJ ab (g7.trans g8),?_⟩;rw[ap,eE,eE];exact kA
 ·rintro I H6 ⟨G,x1,rfl,Z,a4⟩
  refine⟨D4,_,rfl,SqL.of a4,?_⟩
  have ez:(st.zip st.tail).take (st.tail.map vn).length=st.zip st.tail:=by
   refine jh ?_;rw[Bh,ai];omega
  rw[ez]
  have ea:((st.zip st.tail).map λ t=>decide ((nxt W t).2=m)).all id=(st.zip st.tail).all λ t=>decide ((nxt W t).2=m):=by
   rw[GE]
   rfl
  rw[ea]
  cases cb:(st.zip st.tail).all λ t=>decide ((nxt W t).2=m) with
  | false=>exact⟨_,rfl,wN (U (by rw[cb];rfl) _ (af.trans Z))⟩
  | true =>
   refine⟨_,rfl,yK ⟨_,rfl,?_⟩⟩;exact k st (by rw[cb];rfl) Y H6 (af.trans Z) a8 (Z _ _ O)
end
section
structure LsAt(H:Hp)(t:au)(ta:List au)(Os:List (List Nat)):Prop where
 top:H t=some (.lst (ta.map V.ref))
 len:ta.length=Os.length
 row:∀(i:Nat)(a:au)(Z:List Nat),ta[i]?=some a->Os[i]?=some Z->H a=some (.lst (Z.map vn))
def LsAt.but{H H':Hp}{t:au}{c:List au}{Os:List (List Nat)}(x:LsAt H t c Os)(g:∀ b o,b=t\/b∈c->H b=some o->H' b=some o):LsAt H' t c Os :=
 ⟨g _ _ (.inl rfl) x.top,x.len,λ i a Z d f=>g _ _ (.inr (cv d)) (x.row i a Z d f)⟩
def LsAt.kept{H H':Hp}{t:au}{a:List au}{Os:List (List Nat)}(x:LsAt H t a Os)(g:Same H H'):LsAt H' t a Os:=x.but λ b o _=>g b o
def LsAt.app{H:Hp}{t a:au}{d:List au}{Os:List (List Nat)}{Z:List Nat}(x:LsAt H t d Os)(h:H a=some (.lst (Z.map vn)))(j:t∉d)(m:a≠t):LsAt (upd H t (.lst (d.map V.ref++[.ref a]))) t (d++[a]) (Os++[Z]):=by
 refine⟨by rw[eE];exact kA,by simp[x.len],λ i b Y c f=>?_⟩
 have l:b≠t:=λ z=>by
  have:=cv c;rw[z]at this;rcases cf.mp this with q | q
  ·exact j q
  ·exact m (bu.mp q).symm
 rw[kM l];rcases iH i d.length with g | g
 ·rw[az g]at c
  rw[az (by have:=x.len;omega)]at f;exact x.row i b Y c f
 ·obtain rfl:i=d.length:=by
   have:=(aj.mp c).1;simp at this;omega
  rw[di]at c;rw[x.len,di]at f;cases c
  cases f
  exact h
inductive kEL(vs:List V)(H:Hp)(Q:VK)(Y:XK):Prop
 | mk:∀(tp sp:au)(top st:List Nat)(pl:Nat),(vs=[.ref tp,.ref sp,vn pl])->(H tp=some (.lst (top.map vn)))->(H sp=some (.lst (st.map vn)))->(st≠[])->((∀ x∈st,x∈top))->(top.length<=42)->(∀(s:au)(H':Hp),Same H H'->H s=none->H' s=some (.lst ((poF top st pl).map vn))->Q (.ref s) H')->kEL vs H Q Y
def kAH(B:Fx):Hs "put_over" ["top","stretch","place"] 1 (kEL):=by
 refine qP B.X B.d15 tR λ f a0 A s s0 H vs Q E M hr h=>?_;obtain⟨l,L,top,st,m,rfl,c,g,p,sub,a1,k⟩:=h
 refine⟨_,(kE (pst 3 M (jD je jf yG (pv 0) (p1 (pix kW (pv 1) kI))))
   (kE (pst 4 M (jD je jf yG (pv 0) (p1 (pix kW (pv 1) (uE zJ kI)))))
   (kL (kX (kT wC (kT wC (qB jE (pv 0) qU (kZ (kT qF (pv 3) kI))) (qO (p1 (pv 2)))) (qB jE (pv 0) (kZ (pv 4)) qU)))))),?_⟩
 try dsimp only[qY]
 obtain⟨a,r,q⟩ : ∃ a r,st=a::r:=by
  match st,p with
  | a::r,_=>exact⟨a,r,rfl⟩
 obtain⟨D,b,n⟩ : ∃ D b,st=D++[b]:=⟨st.dropLast,st.getLast p,(eO p).symm⟩;have x:st.headD 0=a:=by rw[q];rfl
 have u:st.getLastD 0=b:=by rw[n,ji,iZ];rfl
 have y:a∈top:=sub a (by rw[q];exact eZ ..);have O:b∈top:=sub b (by rw[n];simp);have i:atI (st.map vn) 0=some (vn a):=by rw[q];exact qS (j:=0) rfl
 have d:atI (st.map vn) (-1)=some (vn b):=by rw[n,eE];exact yJ _ _
 have ia:=gw y;have ib:=gw O;refine⟨_,rfl,.inl ⟨rfl,_,SqL.of c⟩,_,rfl,L,_,_,_,rfl,rfl,SqL.of g,i,l,top.map ci,a,top.idxOf a,rfl,rfl,(by rw[c,xB]),qG y,?_⟩;refine⟨_,rfl,.inl ⟨rfl,_,SqL.of c⟩,_,rfl,_,rfl,L,_,_,_,rfl,rfl,SqL.of g,d,l,top.map ci,b,top.idxOf b,rfl,rfl,(by rw[c,xB]),qG O,?_⟩
 have c1:jV (top.map vn) none (some (((top.idxOf a:Nat):Int)+1))=(top.take (top.idxOf a+1)).map vn:=by
  rw[show(((top.idxOf a:Nat):Int)+1)=((top.idxOf a+1:Nat):Int) by omega,wE _ (by rw[ai];omega),<-ug]
 have c2:jV (top.map vn) (some ((top.idxOf b:Nat):Int)) none=(top.drop (top.idxOf b)).map vn:=by
  rw[yI _ (by rw[ai];omega),<-wq]
 refine⟨_,rfl,_,rfl,_,_,rfl,rfl,_,rfl,l,_,rfl,SqL.of c,λ p1 U=>?_⟩;rw[c1];have C:=kC U (.lst ((top.take (top.idxOf a+1)).map vn));refine⟨_,rfl,yS1,λ p2 m2=>?_⟩;have v:=kC m2 (.lst [vn m]);refine⟨p1,p2,_,_,rfl,rfl,v _ _ kA,kA,(by simp only[ai,bq,gn,qm,dc];exact gh (kQ (by omega))),λ p3 S=>?_⟩;have I:=kC S (.lst ((top.take (top.idxOf a+1)).map vn++[vn m]));have o:=I _ _ (v _ _ (C _ _ c));refine⟨_,rfl,_,rfl,_,rfl,l,_,rfl,SqL.of o,λ p4 Y=>?_⟩;rw[c2];have G:=kC Y (.lst ((top.drop (top.idxOf b)).map vn));refine⟨p3,p4,_,_,rfl,rfl,G _ _ kA,kA,(by simp only[ai,bq,gn,qm,dc,iR];exact gh (kQ (by omega))),λ Z J=>?_⟩;have T:=kC J (.lst ((top.take (top.idxOf a+1)).map vn++[vn m]++(top.drop (top.idxOf b)).map vn));have N:=C.trans (v.trans (I.trans G));refine k Z _ (N.trans T) (N.free J) ?_;rw[kA];unfold poF;rw[x,u];simp
def LsAt.tail{H:Hp}{t:au}{b:List au}{Os:List (List Nat)}{Z:List Nat}(x:LsAt H t b (Os++[Z])):∃ ta' a,b=ta'++[a]/\H a=some (.lst (Z.map vn)):=by
 have l:=x.len;rw[bq,fk]at l;have c:b≠[]:=λ z=>by rw[z]at l;cases l
 refine⟨b.dropLast,b.getLast c,(eO c).symm,x.row Os.length _ Z ?_ ?_⟩
 ·rw[show Os.length=b.length-1 by omega,<-ml,eW c]
 ·rw[di]
structure Gw(H:Hp)(w z o:au)(W:Rows)(ms:List Nat)(a b c:Nat):Prop where
 web:WebAt H w W
 tr:Tr W
 base:H z=some (.tup [vn a,vn b,vn c])
 ord:H o=some (.tup (ms.map vn))
 perm:ms.Perm (cw W.length)
 three:3<=W.length
 ab:Tri.E W a b
theorem Gw.kept{H H':Hp}{w z o:au}{W:Rows}{ms:List Nat}{a b c:Nat}(h:Gw H w z o W ms a b c)(g:Same H H'):Gw H' w z o W ms a b c :=
 {h with web:=h.web.kept g,base:=g _ _ h.base,ord:=g _ _ h.ord}
inductive kEO(vs:List V)(H:Hp)(Q:VK)(Y:XK):Prop
 | mk:∀(w z o:au)(W:Rows)(ms:List Nat)(a b c:Nat),(vs=[.ref w,.ref z,.ref o])->(Gw H w z o W ms a b c)->((zN W a b c ms=none->∀ H',Same H H'->Q .non H'))->(∀(Fs Ts:List (List Nat)),zN W a b c ms=some (Fs,Ts)->∀(t f g:au)(fa ga:List au)(H':Hp),Same H H'->H' t=some (.tup [.ref f,.ref g])->LsAt H' f fa Fs->LsAt H' g ga Ts->Q (.ref t) H')->kEO vs H Q Y
def kON(B:Fx):Hs "laid" ["web","base","thing"] 5 (kEO):=by
 refine qP B.X B.d16 kNU λ f c1 A bc s0 H vs Q E nN hr h=>?_;obtain⟨w,z,o,W,d,a,b,c,rfl,G,kn,k⟩:=h
 refine⟨_,(kE (yW (cF (cE (pf (kAL B) hr (kH (pv 0) (kH (pv 1) (kH (pv 2) kY)))))) (kL (kX wZ)) jL)
   (kE (pst 3 nN (qO kY))
   (kE (pst 4 nN (qO (p1 (xI sN rfl (B.z B.y12) GH (p1 (qB sl_tup (pv 2) qU (kZ kI)))))))
   (kE (dU (nW rfl (B.z B.y3) (p2 kI (kR kP rfl (B.z B.y0) fq (p1 (pv 2))))) (pgn 5 nN) (kE (pst 6 nN (pf (cG B) hr (kH (pv 0) (kH (pix kW (pv 4) (uE zJ kI)) (kH (qB sl_tup (pv 2) qU (kZ (pv 5))) (kH (pix qC (pv 2) (pv 5)) kY))))))
   (kE (yW (qK kLJ (pv 6) wZ (jC _)) (kL (kX wZ)) jL)
   (kE (qL (jD ir iu jZ (pv 3) (p1 (pv 6))))
   (kL (qL (jD ir iu jZ (pv 4) (p1 (pf (kAH B) hr (kH (pix kW (pv 4) (uE zJ kI)) (kH (pv 6) (kH (pix qC (pv 2) (pv 5)) kY))))))))))))
   (kL (kX (qT (p2 (pv 3) (pv 4))))))))),?_⟩
 try dsimp only[qY]
 have lm:d.length=W.length:=by rw[G.perm.length_eq,iI]
 have ax:d.Nodup:=G.perm.nodup_iff.mpr uy;have bx:=G.tr.le;have l3:=G.three;refine⟨_,rfl,_,rfl,_,rfl,w,z,o,W,a,b,c,d,rfl,G.web,G.tr.le,G.base,G.ord,G.perm,G.three,λ H1 g1=>⟨_,rfl,?_⟩⟩;by_cases l:d[0]?=some a/\d[1]?=some b/\d.getLast?=some c
 case neg =>
  rw[decide_eq_false l];exact wN (kn (by unfold zN;rw[if_neg l]) _ g1)
 rw[decide_eq_true l];refine yK ?_;have el:zN W a b c d=goF W d (d.length-2):=by unfold zN;rw[if_pos l]
 rw[el]at kn k;have G1:=G.kept g1;refine⟨yS0,λ f nf=>?_⟩;have gf:=kC nf (.lst []);have hf:=kA (H:=H1) (a:=f) (o:=.lst []);have G2:=G1.kept gf;have g2:=g1.trans gf;have b5:H f=none:=g1.free nf;generalize upd H1 f (.lst [])=H2 at *;refine⟨_,rfl,_,rfl,o,_,rfl,SqT.of G2.ord,?_,λ p1 n1=>?_⟩
 ·rintro⟨_,z⟩
  rw[show(2:Int)=((2:Nat):Int) from rfl,kKM (by rw[ai];omega),ai]at z;omega
 have c2:jV (d.map vn) none (some 2)=(d.take 2).map vn:=by rw[show(2:Int)=((2:Nat):Int) from rfl,wE _ (by rw[ai];omega),<-ug]
 rw[c2];have h1:=kA (H:=H2) (a:=p1) (o:=.tup ((d.take 2).map vn));have D:=kC n1 (.tup ((d.take 2).map vn));refine⟨p1,_,rfl,.inr (SqT.of h1),λ I m1=>⟨yS1,λ g ng=>?_⟩⟩;have gq:=kC m1 (.lst ((d.take 2).map vn));have gg:=kC ng (.lst [.ref I]);have hq:=gg _ _ (kA (H:=upd H2 p1 (.tup ((d.take 2).map vn))) (a:=I) (o:=.lst ((d.take 2).map vn)));have hg:=kA (H:=upd (upd H2 p1 (.tup ((d.take 2).map vn))) I (.lst ((d.take 2).map vn))) (a:=g) (o:=.lst [.ref I]);have Y:=D.trans (gq.trans gg);have nq:H2 I=none:=D.free m1;have a7:H2 g=none:=(D.trans gq).free ng;have bb:=Y _ _ hf;have G3:=G2.kept Y;have g3:=g2.trans Y;have bo:H g=none:=g2.free a7;have fg:f≠g:=kJ hf a7;have qf:I≠f:=(kJ hf nq).symm
 have qg:I≠g:=λ z=>by
  rw[<-z]at ng;rw[kA]at ng;cases ng
 generalize upd (upd (upd H2 p1 (.tup ((d.take 2).map vn))) I (.lst ((d.take 2).map vn))) g (.lst [.ref I])=H3 at *
 have t2:d.take 2=[a,b]:=by
  obtain⟨q0,b6,_⟩:=l
  match d,q0,b6 with
  | x::y::d,e1,e2 =>
   have e1:x=a:=by simpa using e1
   have e2:y=b:=by simpa using e2
   rw[e1,e2]
   rfl
 have am:Top W (d.take 2) (d.take 2):=by
  rw[t2];refine⟨?_,λ x J=>J,λ x y ad=>?_⟩
  ·have:=(G.tr.nb.e G.ab).2.2
   simp[this.symm]
  ·rcases ad with⟨rfl,rfl⟩ | z
   ·exact G.ab
   ·exact absurd z id
 refine⟨_,rfl,o,_,rfl,.inr (SqT.of G3.ord),2,_,rfl,⟨by omega,by omega,(by rw[ai];omega),(by rw[ai];omega)⟩,?_⟩
 refine xZ (lo:=2) (n:=((((d.map vn).length:Nat):Int)-2).toNat) (λ i σ S=>∃(x5 x6:Option V)(C L:List au)(fs m:List (List Nat)),σ=[some (.ref w),some (.ref z),some (.ref o),some (.ref f),some (.ref g),x5,x6]/\Same H S/\goF W d i=some (fs,m)/\fs.length=i/\m.length=i+1/\Top W (d.take (i+2)) (m.getLastD [])/\LsAt S f C fs/\LsAt S g L m/\(∀ x∈C,x≠f/\x≠g)/\∀ x∈L,x≠f/\x≠g)
  ⟨none,none,[],[I],[],[d.take 2],rfl,g3,rfl,rfl,rfl,am,⟨bb,rfl,λ i b Z e=>by simp at e⟩,(by
   exact⟨hg,rfl,λ i b Z e1 e2=>by
    match i with
    | 0=>cases e1;cases e2;exact hq
    | i+1=>simp at e1⟩),(λ x J=>by cases J),(λ x J=>by rw[bu.mp J];exact⟨qf,qg⟩)⟩ ?_ ?_
 ·rintro i σ S hi ⟨x5,x6,C,L,fs,m,rfl,g4,go,a1,v,tp,lf,lg,af,ag⟩
  rw[ai]at hi;have hi:i+2<W.length:=by omega
  have G4:=G.kept g4;have aq:m≠[]:=λ z=>by rw[z]at v;cases v
  have b7:m=m.dropLast++[m.getLastD []]:=by
   rw[ji,eW aq];exact(eO aq).symm
  obtain⟨bv,gl,ah,bw⟩:=LsAt.tail (by rw[<-b7];exact lg);have N:S g=some (.lst (bv.map V.ref++[.ref gl])):=by rw[lg.top,ah,eE];rfl
  have aw:d.getD (i+2) 0∉d.take (i+2):=by
   rw[ak,aa (by omega)];intro h;obtain⟨j,hj,e⟩:=eY.mp h;rw[dc]at hj;rw[AV]at e;have:=(Ao ax).mp e;omega
  have bl:d.take (i+1+2)=d.take (i+2)++[d.getD (i+2) 0]:=by
   rw[show i+1+2=i+2+1 by omega,iw,ak,aa (show i+2<d.length by omega)]
   rfl
  have M:(m.getLastD []).length<=42:=by
   have:=tp.len;rw[dc]at this;omega
  have bt:d.getD (i+2) 0<W.length:=by
   rw[ak,aa (by omega)];exact jo.mp (G.perm.mem_iff.mp (iY _))
  have a2:(2+(i:Int))=((i+2:Nat):Int):=by omega
  have cA:jV (d.map vn) none (some (2+(i:Int)))=(d.take (i+2)).map vn:=by rw[a2,wE _ (by rw[ai];omega),<-ug]
  have a8:atI (d.map vn) (2+(i:Int))=some (vn (d.getD (i+2) 0)):=by
   rw[a2];refine qS ?_;rw[bg,ak,aa (by omega)]
   rfl
  refine⟨_,rfl,_,rfl,_,rfl,g,_,_,_,rfl,rfl,SqL.of N,yJ _ _,_,rfl,_,rfl,_,rfl,o,_,rfl,SqT.of G4.ord,?_,λ p np=>?_⟩
  ·rintro⟨_,z⟩
   rw[a2,kKM (by rw[ai];omega),ai]at z;omega
  rw[cA];have D:=kC np (.tup ((d.take (i+2)).map vn));have hp:=kA (H:=S) (a:=p) (o:=.tup ((d.take (i+2)).map vn));have G5:=G4.kept D;have O:=D _ _ bw;have as:=lf.kept D;have an:=lg.kept D;have a0:=D _ _ N;have g5:=g4.trans D;generalize upd S p (.tup ((d.take (i+2)).map vn))=H5 at *;refine⟨_,rfl,_,rfl,o,_,_,_,rfl,rfl,SqT.of G5.ord,a8,w,gl,p,W,m.getLastD [],d.take (i+2),d.getD (i+2) 0,rfl,G5.web,G.tr,O,hp,M,(by rw[dc];omega),bt,tp.nd,tp.path,(λ no H6 U=>?_),λ st ap s H6 U ns hs=>?_⟩
  ·refine⟨_,rfl,rfl,_,rfl,wN (kn ?_ _ (g5.trans U))⟩
   have:=bM (lQ go no) (d.length-2-(i+1));rwa[show i+1+(d.length-2-(i+1))=d.length-2 by omega]at this
  obtain⟨b1,sub,ne,_⟩:=tp.step G.tr.nb.sym aw ap;have br:=lU go ap;have b9:=g5.trans U;have T:=as.kept U;have bi:=an.kept U;have sf:s≠f:=(kJ as.top ns).symm;have sg:s≠g:=(kJ an.top ns).symm;have b3:C.length=i:=by rw[lf.len,a1]
  have b8:L.length=i+1:=by rw[lg.len,v]
  refine⟨_,rfl,rfl,_,rfl,yK ?_⟩;refine⟨_,rfl,.inl ⟨rfl,_,SqL.of T.top⟩,_,rfl,f,_,_,rfl,rfl,T.top,(by rw[ai,b3];exact kQ (by omega)),?_⟩;have al:=T.app hs (λ z=>(af f z).1 rfl) sf;have other:∀ b u,b≠f->H6 b=some u->upd H6 f (.lst (C.map V.ref++[.ref s])) b=some u:=λ b u n e=>by rw[kM n];exact e
  have a5:LsAt (upd H6 f (.lst (C.map V.ref++[.ref s]))) g L m:=bi.but λ b u hb e=>other b u (by
   rcases hb with rfl | hb
   ·exact fg.symm
   ·exact(ag b hb).1) e
  have b2:=other s _ sf hs;have a6:Same H (upd H6 f (.lst (C.map V.ref++[.ref s]))):=qJ b5 b9;have bm:gl≠f:=(ag gl (by rw[ah];simp)).1;have ac:=other gl _ bm (U _ _ O);have r:=other g _ fg.symm (U _ _ a0);generalize upd H6 f (.lst (C.map V.ref++[.ref s]))=H7 at *;have G7:=G.kept a6;refine⟨_,rfl,.inl ⟨rfl,_,SqL.of r⟩,_,rfl,_,rfl,g,_,_,_,rfl,rfl,SqL.of r,yJ _ _,_,rfl,_,rfl,_,rfl,o,_,_,_,rfl,rfl,SqT.of G7.ord,a8,gl,s,m.getLastD [],st,d.getD (i+2) 0,rfl,ac,b2,ne,sub,M,λ s' H8 g8 a9 ba=>?_⟩;have b4:=al.kept g8;have a4:=a5.kept g8;have b0:s'≠f:=(kJ al.top a9).symm;have a3:s'≠g:=(kJ a5.top a9).symm;refine⟨g,_,_,rfl,rfl,a4.top,(by rw[ai,b8];exact kQ (by omega)),?_⟩;have bn:=a4.app ba (λ z=>(ag g z).2 rfl) a3;refine⟨_,_,C++[s],L++[s'],_,_,rfl,qJ bo (a6.trans g8),br,(by simp[a1]),(by simp[v]),(by rw[bH,bl];exact b1),b4.but λ b u hb e=>?_,bn,λ x J=>?_,λ x J=>?_⟩
  ·have:b≠g:=by
    rcases hb with rfl | hb
    ·exact fg
    ·rcases cf.mp hb with q | q
     ·exact(af b q).2
     ·rw[bu.mp q];exact sg
   rw[kM this];exact e
  ·rcases cf.mp J with q | q
   ·exact af x q
   ·rw[bu.mp q];exact⟨sf,sg⟩
  ·rcases cf.mp J with q | q
   ·exact ag x q
   ·rw[bu.mp q];exact⟨b0,a3⟩
 ·rintro σ S ⟨x5,x6,C,L,fs,m,rfl,g4,go,a1,v,tp,lf,lg,af,ag⟩
  have en:((((d.map vn).length:Nat):Int)-2).toNat=d.length-2:=by rw[ai];omega
  rw[en]at go;refine⟨_,rfl,_,rfl,yS2,λ t nt=>?_⟩;have gt:=kC nt (.tup [.ref f,.ref g]);exact k fs m go t f g C L _ (g4.trans gt) kA (lf.kept gt) (lg.kept gt)
end
section
inductive kEP(vs:List V)(H:Hp)(Q:VK)(Y:XK):Prop
 | mk:∀(w z o:au)(W:Rows)(ms:List Nat)(a b c:Nat)(Fs Ts:List (List Nat)),(vs=[.ref w,.ref z,.ref o])->(Gw H w z o W ms a b c)->((Tri.E W a c/\(nxt W (a,c)).2=b))->(zN W a b c ms=some (Fs,Ts))->(∀(t f g:au)(fa ga:List au)(H':Hp),Same H H'->H' t=some (.tup [.ref f,.ref g])->LsAt H' f fa Fs->LsAt H' g ga Ts->Q (.ref t) H')->kEP vs H Q Y
def dW(B:Fx):Hs "must_be_laid" ["web","base","order"] 7 (kEP):=by
 refine qP B.X B.d17 dP λ f J A i S H O Q E D q h=>?_;obtain⟨w,z,o,W,u,a,b,c,C,v,rfl,G,d,n,k⟩:=h
 refine⟨_,(kE (qL (pf (aW B) q (p2 (pv 0) (pv 1))))
   (kE (pst 3 D (pf (kON B) q (kH (pv 0) (kH (pv 1) (kH (pv 2) kY)))))
   (kE (yW (qK kLJ (pv 3) wZ (jC _)) (kL fH) jL)
   (kL (kX (pv 3)))))),?_⟩
 try dsimp only[qY]
 refine⟨_,rfl,_,rfl,w,z,W,a,b,c,rfl,G.web,G.tr,G.base,d.1,d.2,λ N m=>?_⟩;refine⟨_,rfl,_,rfl,_,rfl,w,z,o,W,u,a,b,c,rfl,G.kept m,(λ p=>by rw[n]at p;cases p),λ l j e t f g M x r L I y s=>?_⟩;rw[n]at e;obtain⟨rfl,rfl⟩ : C=l/\v=j:=by injection e with e;injection e with e1 e2;exact⟨e1,e2⟩
 refine⟨_,rfl,rfl,_,rfl,yK ?_⟩;exact⟨_,rfl,k t f g M x r (m.trans L) I y s⟩
end
section
def SpK(S:List (Nat×Int×Int))(ts:List au):List (Key×V):=(S.zip ts).map λ q=>(ed (q.1.1:Int),V.ref q.2)
structure SpAt(H:Hp)(d:au)(S:List (Nat×Int×Int))(ts:List au):Prop where
 len:ts.length=S.length
 row:∀(i:Nat)(t:au)(s:Nat×Int×Int),ts[i]?=some t->S[i]?=some s->H t=some (.tup [.int s.2.1,.int s.2.2])
def kUQ(H:Hp)(d:au)(U:Nat->Option (List Nat)):Prop:=∃ a,H d=some (.dK a)/\∀ p l,U p=some l->∃ b,jO a (ed (p:Int))=some (.ref b)/\H b=some (.lst (l.map vn))
theorem sum_le{c:Nat}:∀{l:List Nat},(∀ x∈l,x<=c)->l.sum<=c*l.length
 | [],_=>gy _
 | x::l,h=>by
  have h1:=h x (eZ ..);have b:=sum_le (l:=l) λ y a=>h y (eC _ a);rw[AO,gn,Nat.mul_add];omega
inductive kEN(vs:List V)(H:Hp)(Q:VK)(Y:XK):Prop
 | mk:∀(d h q:au)(S:List (Nat×Int×Int))(ts:List au)(U:Nat->Option (List Nat))(ps:List Nat)(by':Int),(vs=[.ref d,.ref h,.ref q,.int by'])->(H d=some (.dK (SpK S ts)))->(SpAt H d S ts)->(kUQ H h U)->(H q=some (.lst (ps.map vn)))->((∀ p∈ps,(U p).isSome))->(ps.length<=42)->((∀ p l,U p=some l->l.length<=42))->(S.length<=42)->((S.map (·.1)).Nodup)->(∀(d':au)(ts':List au)(H':Hp),(∀ b o,b≠d->H b=some o->H' b=some o)->(∃ o,H' d=some (.frz o (.dK (SpK S ts))))->H d'=none->H' d'=some (.dK (SpK (mvS S (ps.flatMap λ p=>(U p).getD []) by') ts'))->SpAt H' d' (mvS S (ps.flatMap λ p=>(U p).getD []) by') ts'->Q (.ref d') H')->kEN vs H Q Y
def uH(B:Fx):Hs "moved_right" ["spots","hung","places","by"] 1 (kEN):=by
 refine qP B.X B.d18 fY λ f b0 A aq s0 H vs Q E nN hr h=>?_;obtain⟨d,h,q,S,O,U,ps,m,rfl,hd,sp,hu,hq,g,ax,ul,b1,nd,k⟩:=h
 refine⟨_,(kE (pst 4 nN (rA (Nc:=["p","q","hung"]) (js:=[none,none,some 1]) rfl rfl (yD (pv 2)) (CS.of rfl rfl) rfl (λ C I n fp r=>(pgc 0)) (λ C I n fp r=>(show PI _ _ _ (kMD K _) from(yD (xU (xG hr) (pv 2) (pv 0) (λ _ _=>rfl))))) (λ C I n fp r=>(pgc 1)) (λ C I n fp r D L=>(jG (xD (pv 1))))))
   (kL (kX (kFF (Nc:=["p","x","y","gone","by"]) (js:=[none,none,none,some 4,some 3]) rfl rfl (kLC (pv 0)) (CS.of rfl rfl) rfl (λ C I n fp r=>(show PG _ _ (kBA K 2 _) from jR rfl (kS (zS (i:=0) (show Bi (α:=Str) ["p","x","y","gone","by"] by decide +kernel) rfl (zd rfl)) (kS (show PG _ _ (kBA K 2 _) from jR rfl (kS (zS (i:=1) (show Bi (α:=Str) ["p","x","y","gone","by"] by decide +kernel) rfl (zd rfl)) (kS (zS (i:=2) (show Bi (α:=Str) ["p","x","y","gone","by"] by decide +kernel) rfl (zd rfl)) qV))) qV)))) (λ C I n fp r D L=>(jG (fJ (xG hr) (pv 0) (kAD (qK (show OpR _ _ (rIn K false) from zF) (pv 0) (pv 3) rfl) (qT (p2 (kT qF (pv 1) (pv 4)) (pv 2))) (qT (p2 (pv 1) (pv 2))))))))))),?_⟩
 try dsimp only[qY]
 obtain⟨hk,h1,h2⟩:=id hu;refine⟨_,rfl,q,rfl,⟨_,SqL.of hq⟩,λ D nD=>?_⟩;refine jX (xs:=ps.map vn) (λ i N Y=>∃(x0 M:Option V),N=[x0,M,some (.ref h)]/\Same H Y/\Y D=some (.lst (((ps.take i).flatMap λ p=>(U p).getD []).map vn))) ⟨none,none,rfl,kC nD _,kA⟩ ?_ ?_ ?_
 ·rintro i N Y _ ⟨x0,M,rfl,g2,_⟩
  exact SqL.of (g2 _ _ hq)
 ·rintro i v N Y hv ⟨x0,M,rfl,g2,hD⟩
  rw[bg]at hv;obtain⟨p,ep,rfl⟩:=cu.mp hv;obtain⟨l,el⟩:=zg.mp (g p (cv ep));obtain⟨b,vb,hb⟩:=h2 p l el;have hi:=(aj.mp ep).1
  have pl:((ps.take i).flatMap λ p=>(U p).getD []).length<=42*i:=by
   rw[wc];refine jt (sum_le (c:=42) λ x hx=>?_) (by rw[ai,dc];exact DG 42 (Nat.min_le_left _ _));obtain⟨y,_,rfl⟩:=iP.mp hx
   cases e:U y with
   | none=>simp
   | some l'=>exact ul y l' e
  have ll:=ul p l el
  have dg:DGet Y h (vn p) (some (.ref b)):=by
   have:=DGet.k (k:=ed (p:Int)) (g2 _ _ h1);rw[vb]at this;exact this
  refine⟨_,rfl,_,rfl,h,_,rfl,dg,b,rfl,⟨_,SqL.of (g2 _ _ hb)⟩,?_⟩
  have tk:((ps.take (i+1)).flatMap λ p=>(U p).getD [])=((ps.take i).flatMap λ p=>(U p).getD [])++l:=by
   rw[iw,ep,qv,ue,xk,el]
   rfl
  rw[tk];generalize((ps.take i).flatMap λ p=>(U p).getD [])=G0 at *;refine jX (xs:=l.map vn) (λ j N H3=>∃(M:Option V),N=[some (vn p),M,some (.ref h)]/\Same H H3/\H3 D=some (.lst ((G0++l.take j).map vn))) ⟨_,rfl,g2,by rw[CJ,iW];exact hD⟩ ?_ ?_ ?_
  ·rintro j N H3 _ ⟨M,rfl,g3,_⟩
   exact SqL.of (g3 _ _ hb)
  ·rintro j v N H3 hv ⟨M,rfl,g3,a3⟩
   rw[bg]at hv;obtain⟨y,ey,rfl⟩:=cu.mp hv;have hj:=(aj.mp ey).1;refine⟨_,rfl,_,a3,(by rw[ai,bq,dc];exact xL (by omega)),?_⟩;refine⟨_,rfl,qJ nD g3,?_⟩;rw[iw,ey,qv,<-cx,eE (l₂:=[y])];exact kA
  ·rintro N H3 ⟨M,rfl,g3,a3⟩
   rw[ai,iG]at a3;exact⟨_,_,rfl,g3,a3⟩
 rintro N Y ⟨x0,M,rfl,g2,hD⟩;rw[ai,iG]at hD;generalize(ps.flatMap λ p=>(U p).getD [])=G at *;have ab:=g2 _ _ hd;have Dd:D≠d:=λ z=>by rw[z,ab]at hD;cases hD
 refine⟨_,rfl,d,_,rfl,.inl ⟨ab,λ o=>?_⟩⟩;have ag:upd Y d (.frz o (.dK (SpK S O))) D=some (.lst (G.map vn)):=by rw[kM Dd];exact hD
 have f2:∀ b u,b≠d->H b=some u->upd Y d (.frz o (.dK (SpK S O))) b=some u:=λ b u nb e=>by rw[kM nb];exact g2 _ _ e
 have fz:=kA (H:=Y) (a:=d) (o:=.frz o (.dK (SpK S O)))
 have free:∀ b,upd Y d (.frz o (.dK (SpK S O))) b=none->H b=none:=λ b hb=>by
  cases e:H b with
  | none=>rfl
  | some u =>
   by_cases z:b=d
   ·rw[z,fz]at hb
    cases hb
   ·rw[f2 b u z e]at hb
    cases hb
 generalize upd Y d (.frz o (.dK (SpK S O)))=H3 at *;refine λ J a9=>?_;have lS:=sp.len;have lK:(SpK S O).length=S.length:=by unfold SpK;rw[ai,Bh];omega
 refine kBY (kvs:=SpK S O) (λ i N H4=>∃(x0 M x2:Option V)(g:List au),N=[x0,M,x2,some (.ref D),some (.int m)]/\Same H3 H4/\H4 J=some (.dK (SpK (mvS (S.take i) G m) g))/\SpAt H4 J (mvS (S.take i) G m) g) ⟨none,none,none,[],rfl,kC a9 _,kA,⟨rfl,λ i t s e=>by simp at e⟩⟩ ?_ ?_ ?_
 ·rintro i N H4 _ ⟨x0,M,x2,g,rfl,g4,_⟩
  exact g4 _ _ fz
 ·rintro i kv T N H4 a5 nT ⟨x0,M,x2,g,rfl,g4,hE,se⟩
  obtain⟨i1,i2,i3⟩ : ∃(i1:i<S.length)(i2:i<O.length),kv=(ed (S[i].1:Int),V.ref O[i]):=by
   have hi:=(aj.mp a5).1;rw[lK]at hi;refine⟨hi,by omega,?_⟩;unfold SpK at a5;rw[bg,uj (z:=(S[i],O[i]'(by omega))) |>.mpr ⟨aa _,aa _⟩]at a5;exact(bh a5).symm
  subst i3;have eS:=aa i1;have a8:=sp.row i _ _ (aa i2) eS;have td:O[i]≠d:=λ z=>by rw[z,hd]at a8;cases a8
  have aw:=g4 _ _ (f2 _ _ td a8)
  have a6:∀ kv∈SpK (mvS (S.take i) G m) g,kv.1≠ed (S[i].1:Int):=λ kv hk z=>by
   obtain⟨⟨a1,a2⟩,hz,rfl⟩:=iP.mp hk;have hm:=(zt hz).1;obtain⟨Z,ap,e'⟩:=iP.mp hm;have e1:a1.1=Z.1:=by rw[<-e'];split<;>rfl
   have z':(ed (a1.1:Int):Key)=ed (S[i].1:Int):=z
   have e2:Z.1=S[i].1:=by
    have:=wy z';rw[<-e1];exact Int.ofNat.inj this
   obtain⟨j,hj,rfl⟩:=eY.mp ap
   have as:j<i:=by
    have:=hj;rw[dc]at this;omega
   rw[AV]at e2;have:=lj.mp nd j i (by rw[ai];omega) (by rw[ai];exact i1) as;rw[yw,yw]at this;exact this e2
  have a4:mvS (S.take (i+1)) G m=mvS (S.take i) G m++[if S[i].1∈G then(S[i].1,S[i].2.1+m,S[i].2.2) else S[i]]:=by
   unfold mvS;rw[iw,eS,qv,eE]
   rfl
  have lm:(mvS (S.take i) G m).length=i:=by unfold mvS;rw[ai,dc];omega
  generalize S[i]=sv at *;obtain⟨p,x,y⟩:=sv;generalize O[i]=t at *;have gT:=kC nT (.tup [kV (ed (p:Int)),V.ref t]);have hT:=kA (H:=H4) (a:=T) (o:=.tup [kV (ed (p:Int)),V.ref t]);have al:=gT _ _ aw;have an:=gT _ _ hE;have g5:=g4.trans gT;have a0:SpAt (upd H4 T (.tup [kV (ed (p:Int)),V.ref t])) J (mvS (S.take i) G m) g:=⟨se.len,λ j t' Z e1 e2=>gT _ _ (se.row j t' Z e1 e2)⟩;refine⟨T,_,rfl,SqT.of hT,rfl,_,_,rfl,_,_,rfl,t,_,rfl,SqT.of al,rfl,_,_,rfl,_,_,rfl,rfl,?_⟩;generalize upd H4 T (.tup [kV (ed (p:Int)),V.ref t])=H5 at *;have ah:=g5 _ _ ag;have d2:∀ b u,b≠J->∀ z,H5 b=some u->upd H5 J z b=some u:=λ b u nb z e=>by rw[kM nb];exact e
  have put:∀(q:au)(H6:Hp)(Z:Nat×Int×Int),Same H5 H6->Z.1=p->H6 q=some (.tup [.int Z.2.1,.int Z.2.2])->mvS (S.take (i+1)) G m=mvS (S.take i) G m++[Z] ->
    DPut H6 J (kV (ed (p:Int))) (.ref q) (upd H6 J (.dK (jF (SpK (mvS (S.take i) G m) g) (ed (p:Int)) (.ref q))))/\Same H3 (upd H6 J (.dK (jF (SpK (mvS (S.take i) G m) g) (ed (p:Int)) (.ref q)))) /\
    upd H6 J (.dK (jF (SpK (mvS (S.take i) G m) g) (ed (p:Int)) (.ref q))) J=some (.dK (SpK (mvS (S.take (i+1)) G m) (g++[q])))/\SpAt (upd H6 J (.dK (jF (SpK (mvS (S.take i) G m) g) (ed (p:Int)) (.ref q)))) J (mvS (S.take (i+1)) G m) (g++[q]):=by
   intro q H6 Z g6 e1 am ek;have ac:=g6 _ _ an;have lu:g.length=i:=by rw[a0.len,lm]
   have lz:(SpK (mvS (S.take i) G m) g).length=i:=by unfold SpK;rw[ai,Bh,lm,lu];omega
   have a7:jO (SpK (mvS (S.take i) G m) g) (ed (p:Int))=none:=by
    unfold jO;rw[Cb,DV];intro kv hk;have:=a6 kv hk;simpa using this
   have ke:SpK (mvS (S.take (i+1)) G m) (g++[q])=jF (SpK (mvS (S.take i) G m) g) (ed (p:Int)) (.ref q):=by
    rw[kAB _ a7,ek];unfold SpK;rw[Eb (by rw[lm,lu]),eE,<-e1]
    rfl
   refine⟨DPut.k (k:=ed (p:Int)) ac (by rw[lz];exact kQ (by omega)),qJ a9 (g5.trans g6),by rw[kA,ke],⟨by rw[ek,bq,bq,a0.len];rfl,λ j t' af e2 e3=>?_⟩⟩
   have st:∀(b:au)(xs:List V),H6 b=some (.tup xs)->upd H6 J (.dK (jF (SpK (mvS (S.take i) G m) g) (ed (p:Int)) (.ref q))) b=some (.tup xs):=λ b xs e=>by
    rw[kM λ z=>by rw[z,ac]at e;cases e];exact e
   rw[ek]at e3;by_cases hj:j<g.length
   ·rw[az hj]at e2
    rw[az (by rw[lm];omega)]at e3;exact st _ _ (g6 _ _ (a0.row j t' af e2 e3))
   ·have ej:j=g.length:=by
     have:=(aj.mp e2).1;rw[bq,fk]at this;omega
    rw[ej,di]at e2;rw[ej,a0.len,di]at e3;cases e2
    cases e3
    exact st _ _ am
  refine⟨rfl,_,rfl,_,rfl,_,rfl,D,_,rfl,.inl (SqL.of ah),rfl,yS _,_,rfl,?_⟩;rw[show kV (ed (p:Int))=vn p from rfl,zX];by_cases c:p∈G
  ·rw[decide_eq_true c]
   rw[if_pos c]at a4;refine wN ⟨_,rfl,_,rfl,_,_,rfl,rfl,_,rfl,yS2,λ q nq=>?_⟩;obtain⟨p1,p2,p3,p4⟩:=put q _ (p,x+m,y) (kC nq _) rfl kA a4;exact⟨_,p1,_,_,_,_,rfl,p2,p3,p4⟩
  ·rw[decide_eq_false c]
   rw[if_neg c]at a4;refine yK ⟨_,rfl,_,rfl,yS2,λ q nq=>?_⟩;obtain⟨p1,p2,p3,p4⟩:=put q _ (p,x,y) (kC nq _) rfl kA a4;exact⟨_,p1,_,_,_,_,rfl,p2,p3,p4⟩
 ·rintro N H4 ⟨x0,M,x2,g,rfl,g4,hE,se⟩
  rw[lK,iG]at hE se;exact k J g H4 (λ b u nb e=>g4 _ _ (f2 b u nb e)) ⟨o,g4 _ _ fz⟩ (free J a9) hE se
end
section
def SpAt.get{H:Hp}{d:au}{p:Nat}:∀{S:List (Nat×Int×Int)}{ts:List au},SpAt H d S ts->p∈S.map (·.1)->∃ t,jO (SpK S ts) (ed (p:Int))=some (.ref t)/\H t=some (.tup [.int (atS S p).1,.int (atS S p).2]):=by
 intro S
 induction S with
 | nil=>intro ts _ h;cases h
 | cons s S ih =>
  intro ts a h
  match ts,a with
  | [],a=>exact absurd a.len (by simp)
  | t::ts,a =>
   have f:SpK (s::S) (t::ts)=(ed (s.1:Int),V.ref t)::SpK S ts:=rfl;by_cases c:s.1=p
   ·refine⟨t,?_,?_⟩
    ·rw[f]
     exact jM (by show(ed (s.1:Int):Key)=_;rw[c])
    ·have b:atS (s::S) p=s.2:=by
      unfold atS;rw[List.find?_cons_of_pos (by simpa using c)]
      rfl
     rw[b];exact a.row 0 t s rfl rfl
   ·have j:p∈S.map (·.1):=by
     rcases dr.mp h with q | q
     ·exact absurd q.symm c
     ·exact q
    obtain⟨n,h1,g⟩:=ih (ts:=ts) ⟨by have:=a.len;simpa using this,λ i t s l m=>a.row (i+1) t s (by simpa using l) (by simpa using m)⟩ j;refine⟨n,?_,?_⟩
    ·rw[f,jN (by
      show ¬ (ed (s.1:Int):Key)=ed (p:Int);intro q;have:=wy q;exact c (by omega))]
     exact h1
    ·have b:atS (s::S) p=atS S p:=by
      unfold atS;rw[List.find?_cons_of_neg (by simpa using c)]
     rw[b];exact g
inductive kJZ(vs:List V)(H:Hp)(Q:VK)(Y:XK):Prop
 | mk:∀(a b:au)(l r:Int×Int),(vs=[.ref a,.ref b])->(H a=some (.tup [.int l.1,.int l.2]))->(H b=some (.tup [.int r.1,.int r.2]))->(∀(t:au)(H':Hp),Same H H'->H t=none->H' t=some (.tup [.int (ovr l r).1,.int (ovr l r).2])->Q (.ref t) H')->kJZ vs H Q Y
def rG(B:Fx):Hs "spot_over" ["left","right"] 1 (kJZ):=by
 refine qP B.X B.d19 pL λ f i A d p H o Q E c q h=>?_;obtain⟨a,b,l,r,rfl,m,j,k⟩:=h
 refine⟨_,(kE (xV (pv 0) (jR (n:=2) rfl (kS (pgn 2 c) (kS (pgn 3 c) qV))))
   (kE (xV (pv 1) (jR (n:=2) rfl (kS (pgn 4 c) (kS (pgn 5 c) qV))))
   (kE (pst 6 c (kT fK (kT xW (kT qF (kT xW (pv 4) (pv 2)) (pv 5)) (pv 3)) kI))
   (kL (kX (qT (p2 (kT qF (pv 2) (pv 6)) (kT qF (pv 3) (pv 6))))))))),?_⟩
 try dsimp only[qY]
 refine⟨_,rfl,a,_,rfl,SqT.of m,rfl,_,_,rfl,_,_,rfl,rfl,?_⟩;refine⟨_,rfl,b,_,rfl,SqT.of j,rfl,_,_,rfl,_,_,rfl,rfl,?_⟩;refine⟨_,rfl,_,rfl,_,_,rfl,rfl,_,rfl,_,_,rfl,rfl,_,rfl,_,_,rfl,rfl,_,_,rfl,rfl,⟨by decide,by decide⟩,?_⟩;refine⟨_,rfl,_,rfl,_,_,rfl,rfl,_,rfl,_,rfl,_,_,rfl,rfl,yS2,λ t g=>?_⟩;exact k t _ (kC g _) g kA
end
section
def RdS(H:Hp)(d:au)(S:List (Nat×Int×Int)):Prop:=∃ a,Rd H d (.dK (SpK S a))/\SpAt H d S a
def SpAt.to{H H':Hp}{d d':au}{S:List (Nat×Int×Int)}{ts:List au}(x:SpAt H d S ts)(g:∀ b xs,H b=some (.tup xs)->H' b=some (.tup xs)):SpAt H' d' S ts:=⟨x.len,λ i t s a c=>g _ _ (x.row i t s a c)⟩
def RdS.but{H H':Hp}{d x:au}{S:List (Nat×Int×Int)}(r:RdS H d S)(g:∀ b o,b≠x->H b=some o->H' b=some o)(nx:d≠x)(a:∀ xs,H x≠some (.tup xs)):RdS H' d S:=by
 obtain⟨c,f,h⟩:=r;refine⟨c,?_,h.to λ b xs e=>g _ _ (λ z=>a xs (z ▸ e)) e⟩;rcases f with e | ⟨o,e⟩
 ·exact .inl (g _ _ nx e)
 ·exact .inr ⟨o,g _ _ nx e⟩
def RdS.kept{H H':Hp}{d:au}{S:List (Nat×Int×Int)}(r:RdS H d S)(g:Same H H'):RdS H' d S:=by
 obtain⟨a,c,f⟩:=r;refine⟨a,?_,f.to λ b h e=>g _ _ e⟩;rcases c with e | ⟨o,e⟩
 ·exact .inl (g _ _ e)
 ·exact .inr ⟨o,g _ _ e⟩
theorem RdS.frz{H H':Hp}{d x:au}{S:List (Nat×Int×Int)}{kvs:List (Key×V)}(r:RdS H d S)(a:H x=some (.dK kvs))(g:∀ b o,b≠x->H b=some o->H' b=some o)(f:∃ o,H' x=some (.frz o (.dK kvs))):RdS H' d S:=by
 by_cases c:d=x
 ·subst c
  obtain⟨h,j,m⟩:=r
  have i:kvs=SpK S h:=by
   rcases j with e | ⟨o,e⟩
   ·rw[a]at e
    injection e with e
    injection e
   ·rw[a]at e
    cases e
  obtain⟨o,f⟩:=f;refine⟨h,.inr ⟨o,by rw[f,i]⟩,m.to λ b l e=>g _ _ (λ z=>by rw[z,a]at e;cases e) e⟩
 ·exact r.but g c λ l e=>by rw[a]at e;cases e
def SpAt.put{H:Hp}{D q:au}{S:List (Nat×Int×Int)}{ts:List au}{p:Nat}{x y:Int}(h:H D=some (.dK (SpK S ts)))(sp:SpAt H D S ts)(n:p∉S.map (·.1))(l:S.length<=42)(C:H q=some (.tup [.int x,.int y])) :
  DPut H D (vn p) (.ref q) (upd H D (.dK (SpK (S++[(p,x,y)]) (ts++[q]))))/\SpAt (upd H D (.dK (SpK (S++[(p,x,y)]) (ts++[q])))) D (S++[(p,x,y)]) (ts++[q]):=by
 have B:(SpK S ts).length=S.length:=by unfold SpK;rw[ai,Bh,sp.len];omega
 have a:jO (SpK S ts) (ed (p:Int))=none:=by
  unfold jO;rw[Cb,DV];intro G r;obtain⟨⟨g,I⟩,u,rfl⟩:=iP.mp r;have A:=(zt u).1;have v:g.1≠p:=λ z=>n (z ▸ iP.mpr ⟨g,A,rfl⟩);have:(ed (g.1:Int):Key)≠ed (p:Int):=λ z=>v (by have:=wy z;omega);simpa using this
 have o:SpK (S++[(p,x,y)]) (ts++[q])=jF (SpK S ts) (ed (p:Int)) (.ref q):=by
  rw[kAB _ a];unfold SpK;rw[Eb sp.len.symm,eE]
  rfl
 refine⟨?_,⟨by rw[bq,bq,sp.len];rfl,λ j t s c d=>?_⟩⟩
 ·rw[o]
  exact DPut.k (k:=ed (p:Int)) h (by rw[B];exact kQ (by omega))
 ·have st:∀(b:au)(f:List V),H b=some (.tup f)->upd H D (.dK (SpK (S++[(p,x,y)]) (ts++[q]))) b=some (.tup f):=λ b f e=>by
   rw[kM λ z=>by rw[z,h]at e;cases e];exact e
  by_cases i:j<ts.length
  ·rw[az i]at c
   rw[az (by rw[<-sp.len];exact i)]at d;exact st _ _ (sp.row j t s c d)
  ·have m:j=ts.length:=by
    have:=(aj.mp c).1;rw[bq,fk]at this;omega
   rw[m,di]at c;rw[m,sp.len,di]at d;cases c
   cases d
   exact st _ _ C
def fG(kvs:List (Key×V))(k:Key)(v:V):(jF kvs k v).length<=kvs.length+1:=by
 unfold jF
 split<;>simp
def HuN(H:Hp)(d:au)(U:Nat->Option (List Nat))(n:Nat):Prop:=∃ a,H d=some (.dK a)/\a.length<=n/\∀ p l,U p=some l->∃ b,jO a (ed (p:Int))=some (.ref b)/\H b=some (.lst (l.map vn))
def HuN.at{H:Hp}{d:au}{U:Nat->Option (List Nat)}{n:Nat}(h:HuN H d U n):kUQ H d U:=by
 obtain⟨a,e,_,k⟩:=h;exact⟨a,e,k⟩
def HuN.but{H H':Hp}{h x:au}{U:Nat->Option (List Nat)}{n:Nat}(r:HuN H h U n)(g:∀ b o,b≠x->H b=some o->H' b=some o)(nx:h≠x)(nl:∀ l:List Nat,H x≠some (.lst (l.map vn))):HuN H' h U n:=by
 obtain⟨a,e,le,k⟩:=r;refine⟨a,g _ _ nx e,le,λ p l q=>?_⟩;obtain⟨b,h1,c⟩:=k p l q;exact⟨b,h1,g _ _ (λ z=>nl l (z ▸ c)) c⟩
def HuN.kept{H H':Hp}{h:au}{U:Nat->Option (List Nat)}{n:Nat}(r:HuN H h U n)(g:Same H H'):HuN H' h U n:=by
 obtain⟨a,e,le,k⟩:=r;refine⟨a,g _ _ e,le,λ p l q=>?_⟩;obtain⟨b,h1,c⟩:=k p l q;exact⟨b,h1,g _ _ c⟩
def HuN.put{H:Hp}{h b:au}{U U':Nat->Option (List Nat)}{n v:Nat}{l:List Nat}(r:HuN H h U n)(y:n<=42)(u:H b=some (.lst (l.map vn)))(i:∀ p l',U' p=some l'->(p=v/\l'=l)\/(p≠v/\U p=some l')):∃ H',DPut H h (vn v) (.ref b) H'/\(∀ c o,c≠h->H c=some o->H' c=some o)/\(∀ c,c≠h->H' c=H c)/\HuN H' h U' (n+1):=by
 obtain⟨a,e,le,k⟩:=r
 have st:∀(x:au)(d:List V),H x=some (.lst d)->upd H h (.dK (jF a (ed (v:Int)) (.ref b))) x=some (.lst d):=λ x d g=>by
  rw[kM λ z=>by rw[z,e]at g;cases g];exact g
 refine⟨_,DPut.k (k:=ed (v:Int)) e (kQ (by omega)),λ c o f m=>by rw[kM f];exact m,λ c f=>kM f,_,kA,?_,λ p l' q=>?_⟩
 ·have:=fG a (ed (v:Int)) (V.ref b)
  omega
 rw[wH];by_cases c:p=v
 ·rw[if_pos (by rw[c])]
  rcases i p l' q with⟨_,rfl⟩ | q
  ·exact⟨b,rfl,st _ _ u⟩
  ·exact absurd c q.1
 ·rw[if_neg (λ q=>c (by have:=wy q;omega))]
  rcases i p l' q with⟨z,_⟩ | q
  ·exact absurd z c
  ·obtain⟨s,h1,j⟩:=k p l' q.2
   exact⟨s,h1,st _ _ j⟩
def uK(ms:List Nat)(i:Nat)(V:Nat->List Nat):Nat->Option (List Nat):=λ p=>if p∈ms.take (i+2) then some (V p) else none
def xN{H X X':Hp}{x:au}(s:Same H X)(g:∀ b o,b≠x->X b=some o->X' b=some o)(f:H x=none):Same H X':=λ b o e=>g b o (λ z=>by rw[z,f]at e;cases e) (s b o e)
def kMW{f l:Nat}{M:List Nat}:jV ((f::M++[l]).map vn) (some 1) (some (-1))=M.map vn:=by
 unfold jV
 have b:HT.sIx ((f::M++[l]).map vn).length 0 (some 1)=1:=by
  rw[show(1:Int)=((1:Nat):Int) from rfl,HT.sIx_nat];simp
 have a:HT.sIx ((f::M++[l]).map vn).length ((f::M++[l]).map vn).length (some (-1))=M.length+1:=by
  show(if(-1:Int)<0 then((-1:Int)+((((f::M++[l]).map vn).length:Nat):Int)).toNat else min (-1:Int).toNat (((f::M++[l]).map vn).length))=_;rw[if_pos (by decide)];simp only[ai,bq,gn,qm];omega
 rw[b,a];simp
def xY{ms:List Nat}{i:Nat}{V:Nat->List Nat}{p:Nat}(h:p∈ms.take (i+2)):uK ms i V p=some (V p):=by
 unfold uK;rw[if_pos h]
def dG{ms:List Nat}{i:Nat}{V:Nat->List Nat}{M:List Nat}(h:∀ p∈M,p∈ms.take (i+2)):(M.flatMap λ p=>(uK ms i V p).getD [])=M.flatMap V:=by
 show(M.map _).flatten=(M.map _).flatten
 congr 1
 refine we λ p hp=>?_;rw[xY (h p hp)]
 rfl
structure GOk(ms:List Nat)(Fs Ts:List (List Nat)):Prop where
 lm:ms.length=Fs.length+2
 lt:Ts.length=Fs.length+1
 le:ms.length<=42
 nd:ms.Nodup
 step:∀ i F T,Fs[i]?=some F->Ts[i]?=some T->∃ f M l,F=f::M++[l]/\F.length<=42/\(∀ x∈F,x∈T)/\(∀ x∈T,x∈ms.take (i+2))/\T.Nodup
 inv:∀ i,i<=Fs.length->GI ms Ts i (gF ms Fs Ts i).1 (gF ms Fs Ts i).2
structure GrI(H0 H:Hp)(sp hu td:au)(ds:List au)(ms:List Nat)(Fs Ts:List (List Nat))(i:Nat):Prop where
 same:Same H0 H
 fs:H0 sp=none
 fh:H0 hu=none
 ft:H0 td=none
 told:H td=some (.lst (ds.map V.ref))
 len:ds.length=i+1
 last:ds[i]?=some sp
 cur:∃ ts,H sp=some (.dK (SpK (gF ms Fs Ts i).1 ts))/\SpAt H sp (gF ms Fs Ts i).1 ts
 old:∀ j d,ds[j]?=some d->RdS H d (gF ms Fs Ts j).1
 hung:HuN H hu (uK ms i (gF ms Fs Ts i).2) (i+2)
 hn:hu∉ds
 fd:∀ d∈ds,H0 d=none
theorem GrI.kept{f H H':Hp}{sp c a:au}{h:List au}{ms:List Nat}{Fs Ts:List (List Nat)}{i:Nat}(J:GrI f H sp c a h ms Fs Ts i)(g:Same H H'):GrI f H' sp c a h ms Fs Ts i:=by
 obtain⟨l,e,m⟩:=J.cur;exact⟨J.same.trans g,J.fs,J.fh,J.ft,g _ _ J.told,J.len,J.last,⟨l,g _ _ e,m.to λ b n e=>g _ _ e⟩,λ j d e=>(J.old j d e).kept g,J.hung.kept g,J.hn,J.fd⟩
inductive tN(vs:List V)(H:Hp)(Q:VK)(Y:XK):Prop
 | mk:∀(o f g:au)(fa ga:List au)(ms:List Nat)(Fs Ts:List (List Nat)),(vs=[.ref o,.ref f,.ref g])->(H o=some (.tup (ms.map vn)))->(LsAt H f fa Fs)->(LsAt H g ga Ts)->(GOk ms Fs Ts)->(∀(td:au)(ds:List au)(H':Hp),Same H H'->H' td=some (.lst (ds.map V.ref))->ds.length=Fs.length+1->(∀ j d,ds[j]?=some d->RdS H' d (gF ms Fs Ts j).1)->(∀ d∈ds,H d=none)->Q (.ref td) H')->tN vs H Q Y
def kAM(B:Fx):Hs "grids_by" ["order","found","tops"] 3 (tN):=by
 refine qP B.X B.d20 tX λ f en A e6 s0 H vs Q E nN hr h=>?_;obtain⟨o,f,g,fa,ga,m,Fs,Ts,rfl,ho,hf,hg,ok,k⟩:=h
 refine⟨_,(kE (kOB (i:=3) (Nc:=["p"]) (js:=[none]) rfl rfl nN rfl (zd rfl) (aH (qB wX (pv 0) qU (kZ kI))) (CS.of rfl rfl) rfl (λ C a1 a0 fp U=>(pgc 0)) (λ C a1 a0 fp U D L=>(jG (fJ (xG hr) (pv 0) (qT (p2 kI kI))))))
   (kE (pst 4 nN (kFF (Nc:=["p"]) (js:=[none]) rfl rfl (aH (qB wX (pv 0) qU (kZ kI))) (CS.of rfl rfl) rfl (λ C a1 a0 fp U=>(pgc 0)) (λ C a1 a0 fp U D L=>(jG (fJ (xG hr) (pv 0) (qO (p1 (pv 0))))))))
   (kE (pst 5 nN (qO (p1 (pv 3))))
   (kE (dU (kOE false true true rfl (B.z B.y13) (kH (qB wX (pv 0) (kZ kI) qU) (kH (pv 1) (kH (pv 2) kY)))) (jR (n:=3) rfl (kS (pgn 6 nN) (kS (pgn 7 nN) (kS (pgn 8 nN) qV)))) (kE (pst 9 nN (pix kW (pv 7) (uE zJ kI)))
   (kE (pst 3 nN (pf (uH B) hr (kH (pv 3) (kH (pv 4) (kH (qB jE (pv 7) (kZ kI) (kZ (uE zJ kI))) (kH kI kY))))))
   (kE (pst 3 nN (pf (uH B) hr (kH (pv 3) (kH (pv 4) (kH (qB jE (pv 8) (kZ (jD je jf yG (pv 8) (p1 (pv 9)))) qU) (kH kI kY))))))
   (kE (aV (xG hr) (pv 3) (pv 6) (pf (rG B) hr (p2 (xU (xG hr) (pv 3) (pix kW (pv 7) kI) (λ _ _=>rfl)) (xU (xG hr) (pv 3) (pv 9) (λ _ _=>rfl)))) rfl)
   (kE (aV (xG hr) (pv 4) (pv 6) (kT wC (qO (p1 (pv 6))) (rA (Nc:=["p","q","hung"]) (js:=[none,none,some 4]) rfl rfl (yD (qB jE (pv 7) (kZ kI) (kZ (uE zJ kI)))) (CS.of rfl rfl) rfl (λ C a1 a0 fp U=>(pgc 0)) (λ C a1 a0 fp U=>(show PI _ _ _ (kMD K _) from(yD (xU (xG hr) (pv 2) (pv 0) (λ _ _=>rfl))))) (λ C a1 a0 fp U=>(pgc 1)) (λ C a1 a0 fp U D L=>(jG (xD (pv 1)))))) rfl)
   (kL (qL (jD ir iu jZ (pv 5) (p1 (pv 3)))))))))))
   (kL (kX (pv 5))))))),?_⟩
 try dsimp only[qY]
 have l2:2<=(m.map vn).length:=by rw[ai];have:=ok.lm;omega
 have e0:(m.take 2).length=2:=by rw[dc];have:=ok.lm;omega
 have nd2:(m.take 2).Nodup:=ok.nd.sublist (ye _ _)
 have c2:jV (m.map vn) none (some 2)=(m.take 2).map vn:=by rw[show(2:Int)=((2:Nat):Int) from rfl,wE _ l2,<-ug]
 refine⟨_,rfl,2,rfl,o,_,rfl,ho,λ p1 H1 g1 ag=>?_⟩;rw[c2]at ag;have g1:Same H H1:=g1;refine⟨p1,rfl,⟨_,SqT.of ag⟩,λ sp al=>?_⟩;refine zH (xs:=(m.take 2).map vn) (λ i O H2=>∃(x0:Option V)(ts:List au),O=[x0]/\Same H1 H2/\H2 sp=some (.dK (SpK (((m.take 2).take i).map λ p=>(p,0,0)) ts))/\SpAt H2 sp (((m.take 2).take i).map λ p=>(p,0,0)) ts) ⟨none,[],rfl,kC al _,kA,⟨rfl,λ i t s e=>by simp at e⟩⟩ ?_ ?_ ?_
 ·rintro i O H2 _ ⟨x0,ts,rfl,g2,_⟩
  exact SqT.of (g2 _ _ ag)
 ·rintro i v O H2 hv ⟨x0,ts,rfl,g2,hD,se⟩
  rw[bg]at hv;obtain⟨p,ep,rfl⟩:=cu.mp hv;have hi:=(aj.mp ep).1;refine⟨_,rfl,yS2,λ t nt=>?_⟩;have gt:=kC nt (.tup [.int 0,.int 0]);have tk:(m.take 2).take (i+1)=(m.take 2).take i++[p]:=by rw[iw,ep];rfl
  have np:p∉(((m.take 2).take i).map λ p=>(p,(0:Int),(0:Int))).map (·.1):=λ z=>by
   rw[AW]at z;obtain⟨p',dk,e'⟩:=iP.mp z;have e':p'=p:=e';have:((m.take 2).take i++[p]).Nodup:=by rw[<-tk];exact nd2.sublist (ye _ _)
   exact(de.mp this).2.2 p' dk p (by simp) e'
  obtain⟨d1,G⟩:=SpAt.put (q:=t) (p:=p) (x:=0) (y:=0) (gt _ _ hD) (se.to (d':=sp) λ b xs e=>gt _ _ e) np (by rw[ai,dc];omega) kA;refine⟨_,d1,_,ts++[t],rfl,?_,?_,?_⟩
  ·exact qJ al (g2.trans gt)
  ·rw[tk,eE]
   exact kA
  ·rw[tk,eE]
   exact G
 rintro O H2 ⟨x0,ts,rfl,g2,hS,sS⟩;rw[ai,iG]at hS sS;have dx:(m.take 2).map (λ p=>(p,(0:Int),(0:Int)))=(gF m Fs Ts 0).1:=rfl;rw[dx]at hS sS;have gS:=g1.trans g2;have br:H sp=none:=g1.free al
 have ct:=gS _ _ ho
 refine⟨_,rfl,2,rfl,o,_,rfl,ct,λ p2 H3 g3 aq=>?_⟩;rw[c2]at aq;have g3:Same H2 H3:=g3;refine⟨p2,rfl,⟨_,SqT.of aq⟩,λ hu am=>?_⟩;refine zH (xs:=(m.take 2).map vn) (λ i O H4=>∃(x0:Option V),O=[x0]/\Same H3 H4/\HuN H4 hu (λ p=>if p∈(m.take 2).take i then some [p] else none) i) ⟨none,rfl,kC am _,⟨_,kA,be _,λ p l z=>by have z:(if p∈(m.take 2).take 0 then some [p] else none)=some l:=z;rw[CJ,if_neg (by simp)]at z;cases z⟩⟩ ?_ ?_ ?_
 ·rintro i O H4 _ ⟨x0,rfl,g4,_⟩
  exact SqT.of (g4 _ _ aq)
 ·rintro i v O H4 hv ⟨x0,rfl,g4,hh⟩
  rw[bg]at hv;obtain⟨p,ep,rfl⟩:=cu.mp hv;have hi:=(aj.mp ep).1;refine⟨_,rfl,_,rfl,yS1,λ t nt=>?_⟩;have gt:=kC nt (.lst [vn p]);have tk:(m.take 2).take (i+1)=(m.take 2).take i++[p]:=by rw[iw,ep];rfl
  obtain⟨H5,d1,G,d3,d4⟩:=(hh.kept gt).put (b:=t) (v:=p) (l:=[p]) (U':=λ q=>if q∈(m.take 2).take (i+1) then some [q] else none) (by omega) kA (λ q l' e=>by
   by_cases c:q=p
   ·left
    rw[c,if_pos (by rw[tk];simp)]at e;exact⟨c,(bh e).symm⟩
   ·right
    refine⟨c,?_⟩;rw[tk]at e;simpa[c] using e)
  refine⟨H5,d1,_,rfl,λ b ob e=>?_,d4⟩;have:=gt _ _ (g4 _ _ e);exact G _ _ (λ z=>by rw[z,am]at e;cases e) this
 rintro O H4 ⟨ek,rfl,g4,hh⟩;rw[ai,iG,e0]at hh;have b6:=g3.trans g4;have ap:H2 hu=none:=g3.free am;refine⟨_,rfl,yS1,λ Z b7=>?_⟩;have gt:=kC b7 (.lst [V.ref sp]);have a7:=b6.trans gt;have bv:=a7 _ _ hS
 have bt:GrI H (upd H4 Z (.lst [V.ref sp])) sp hu Z [sp] m Fs Ts 0:=by
  refine⟨gS.trans a7,br,gS.free ap,(gS.trans b6).free b7,kA,rfl,rfl,⟨ts,bv,sS.to λ b xs e=>a7 _ _ e⟩,λ j d e=>?_,?_,λ z=>?_,λ d hd=>by rw[bu.mp hd];exact br⟩
  ·cases j with
   | zero =>
    cases e
    exact⟨ts,.inl bv,sS.to λ b xs e=>a7 _ _ e⟩
   | succ j=>simp at e
  ·obtain⟨d5,e1,e2,e3⟩:=hh.kept gt
   exact⟨d5,e1,e2,λ p l z=>e3 p l z⟩
  ·rw[bu.mp z,hS]at ap
   cases ap
 clear hh hS sS bv ap;have gH:=bt.same;generalize upd H4 Z (.lst [V.ref sp])=H6 at *;have c3:jV (m.map vn) (some 2) none=(m.drop 2).map vn:=by rw[show(2:Int)=((2:Nat):Int) from rfl,yI _ l2,<-wq]
 refine⟨_,rfl,2,rfl,o,_,rfl,gH _ _ ho,λ p3 H7 g7 ah=>?_⟩;rw[c3]at ah;have g7:Same H6 H7:=g7;have ba:=(hf.kept gH).kept g7;have b8:=(hg.kept gH).kept g7;refine⟨_,rfl,_,rfl,p3,f,g,rfl,⟨_,SqT.of ah⟩,⟨_,SqL.of ba.top⟩,⟨_,SqL.of b8.top⟩,?_⟩;have ld:((m.drop 2).map vn).length=Fs.length:=by rw[ai,iR];have:=ok.lm;omega
 refine kMJ (xs:=(m.drop 2).map vn) (ys:=fa.map V.ref) (zs:=ga.map V.ref) (λ i O H8=>∃(sp hu Z:au)(ds:List au)(x6 x7 x8 x9:Option V),O=[some (.ref o),some (.ref f),some (.ref g),some (.ref sp),some (.ref hu),some (.ref Z),x6,x7,x8,x9]/\GrI H H8 sp hu Z ds m Fs Ts i/\H8 p3=some (.tup ((m.drop 2).map vn))) (by rw[ld,ai,ba.len];exact be _) (by rw[ld,ai,b8.len,ok.lt];omega) ⟨sp,hu,Z,[sp],_,_,_,_,rfl,bt.kept g7,ah⟩ ?_ ?_ ?_
 ·rintro i O H8 _ ⟨sp,hu,Z,ds,x6,x7,x8,x9,rfl,J,hp⟩
  exact⟨SqT.of hp,SqL.of (J.same _ _ hf.top),SqL.of (J.same _ _ hg.top)⟩
 ·clear bt gH a7 b6 g4 g3 g2 ag aq ah g7 ba b8 gt ct br gS g1 al am b7
  clear sp hu Z;rintro i x y z T O H8 ex ey ez nT ⟨sp,hu,Z,ds,x6,x7,x8,x9,rfl,J,hp⟩;rw[bg]at ex ey ez;obtain⟨v,ev,rfl⟩:=cu.mp ex;obtain⟨fi,ef,rfl⟩:=cu.mp ey;obtain⟨gi,eg,rfl⟩:=cu.mp ez;clear ex ey ez;have iF:i<Fs.length:=by rw[<-hf.len];exact(aj.mp ef).1
  have iT:i<Ts.length:=by rw[ok.lt];omega
  have eF:=aa iF;have eT:=aa iT;have hF:=hf.row i fi _ ef eF;have hT:=hg.row i gi _ eg eT;have ee:=ok.le;have ei:=ok.lm;rw[AE]at ev;obtain⟨f0,M,r,cl,b4,FT,TM,du⟩:=ok.step i _ _ eF eT
  have gd:gF m Fs Ts (i+1)=gst (gF m Fs Ts i).1 (gF m Fs Ts i).2 v (f0::M++[r]) Ts[i]:=by
   show gst _ _ (m.getD (i+2) 0) (Fs.getD i []) (Ts.getD i [])=_;rw[ak,ak,ak,AM i 2,ev,eF,eT,CN,CN,CN,cl]
  have I:=ok.inv i (by omega);rw[cl]at hF FT b4;have h1:=J.old;generalize Ts[i]=Y at *;generalize hS:(gF m Fs Ts i).1=S at *;generalize hV:(gF m Fs Ts i).2=V at *;have fT:=FT f0 (by simp);have lT:=FT r (by simp);have MT:∀ p∈M,p∈m.take (i+2):=λ p hp=>TM p (FT p (by simp[hp]));have d6:atI ((f0::M++[r]).map vn) 0=some (vn f0):=qS (j:=0) rfl;have cz:atI ((f0::M++[r]).map vn) (-1)=some (vn r):=by rw[eE];exact yJ _ _
  have lS:S.length<=42:=by
   have:=congrArg jr I.fst;rw[ai,dc]at this;omega
  have eb:Y.length<=42:=by
   have:=fc du TM;rw[dc]at this;omega
  have bc:∀ p l,uK m i V p=some l->l.length<=42:=λ p l e=>by
   unfold uK at e
   split at e
   ·rename_i hp
    cases e
    have:=I.few p hp;omega
   ·cases e
  have gA:=kC nT (.tup [vn v,.ref fi,.ref gi]);have e9:=kA (H:=H8) (a:=T) (o:=.tup [vn v,.ref fi,.ref gi]);have JA:=J.kept gA;have cd:=gA _ _ hp;refine⟨T,_,rfl,SqT.of e9,rfl,_,_,rfl,_,_,rfl,_,_,rfl,rfl,?_⟩;generalize upd H8 T (.tup [vn v,.ref fi,.ref gi])=H9 at *;clear J hp;refine⟨_,rfl,_,rfl,fi,_,_,_,rfl,rfl,SqL.of (JA.same _ _ hF),cz,?_⟩;refine⟨_,rfl,_,rfl,_,rfl,1,rfl,_,rfl,_,rfl,fi,_,rfl,SqL.of (JA.same _ _ hF),λ q1 n1=>?_⟩;rw[kMW];have gB:=kC n1 (.lst (M.map vn));have cb:=kA (H:=H9) (a:=q1) (o:=.lst (M.map vn));have JB:=JA.kept gB;have bo:=gB _ _ cd;generalize upd H9 q1 (.lst (M.map vn))=Ha at *;obtain⟨ts,a4,bm⟩:=JB.cur;rw[hS]at a4 bm;have a2:=JB.hung;rw[hV]at a2;refine⟨sp,hu,q1,S,ts,_,M,1,rfl,a4,bm,a2.at,cb,(λ p hp=>by rw[xY (MT p hp)];rfl),(by simp at b4;omega),bc,lS,(by rw[I.fst];exact ok.nd.sublist (ye _ _)),λ d1 e5 Hb kB fB nd1 bi c1=>?_⟩;rw[dG MT]at bi c1;have c6:sp∈ds:=cv JB.last;have ca:hu≠sp:=λ z=>JB.hn (z ▸ c6);have sB:Same H Hb:=xN JB.same kB JB.fs;have tB:=kB Z _ (λ z=>by rw[<-z,JB.told]at a4;cases a4) JB.told;have ax:=kB p3 _ (λ z=>by rw[<-z,bo]at a4;cases a4) bo;have oB:∀ j d,ds[j]?=some d->RdS Hb d (gF m Fs Ts j).1:=λ j d e=>(JB.old j d e).frz a4 kB fB;have hB:=a2.but kB ca (λ l e=>by rw[a4]at e;cases e);have dp:H d1=none:=JB.same.free nd1;have cp:hu≠d1:=λ z=>by obtain⟨kv,e,_⟩:=a2;rw[z,nd1]at e;cases e
  have b2:(mvS S (M.flatMap V) 1).map (·.1)=m.take (i+2):=by rw[qZ,I.fst]
  have cs:(mvS S (M.flatMap V) 1).length<=42:=by rw[kFK];exact lS
  generalize e4:mvS S (M.flatMap V) 1=S1 at *;have J4:=JB.ft;have J5:=JB.fh;have Jn:=JB.hn;have Jl:=JB.len;have dd:=JB.fd
  clear JB a2 a4 bm kB fB bo JA cd gB gA cb n1
  have bb:=sB _ _ hT;refine⟨_,rfl,_,rfl,_,rfl,_,rfl,.inl ⟨rfl,_,SqL.of bb⟩,_,rfl,gi,Y.map ci,r,Y.idxOf r,rfl,rfl,(by rw[bb,xB]),qG lT,_,rfl,gi,_,rfl,SqL.of bb,λ q2 n2=>?_⟩
  have c4:jV (Y.map vn) (some ((Y.idxOf r:Nat):Int)) none=(Y.drop (Y.idxOf r)).map vn:=by
   rw[yI _ (by rw[ai];exact gh (gw lT)),<-wq]
  rw[c4];have gC:=kC n2 (.lst ((Y.drop (Y.idxOf r)).map vn));have c8:=kA (H:=Hb) (a:=q2) (o:=.lst ((Y.drop (Y.idxOf r)).map vn));have sC:=sB.trans gC;have tC:=gC _ _ tB;have b3:=gC _ _ ax;have oC:∀ j d,ds[j]?=some d->RdS _ d (gF m Fs Ts j).1:=λ j d e=>(oB j d e).kept gC;have hC:=hB.kept gC;have N:=gC _ _ bi;have b1:=c1.to (d':=d1) λ b xs e=>gC _ _ e;generalize upd Hb q2 (.lst ((Y.drop (Y.idxOf r)).map vn))=Hc at *;clear hB oB tB ax bi c1 gC sB;have DT:∀ p∈Y.drop (Y.idxOf r),p∈m.take (i+2):=λ p hp=>TM p (ym hp);refine⟨d1,hu,q2,S1,e5,_,Y.drop (Y.idxOf r),2,rfl,N,b1,hC.at,c8,(λ p hp=>by rw[xY (DT p hp)];rfl),(by rw[iR];omega),bc,cs,(by rw[b2];exact ok.nd.sublist (ye _ _)),λ G c5 Hd kD fD a6 ab ac=>?_⟩;rw[dG DT]at ab ac;have sD:Same H Hd:=xN sC kD dp;have tD:=kD Z _ (λ z=>by rw[<-z,tC]at N;cases N) tC;have b9:=kD p3 _ (λ z=>by rw[<-z,b3]at N;cases N) b3
  have oD:∀ j d,ds[j]?=some d->RdS Hd d (gF m Fs Ts j).1/\d≠G:=λ j d e=>⟨(oC j d e).frz N kD fD,λ z=>by
   obtain⟨e8,rd,_⟩:=oC j d e;rw[z]at rd;rcases rd with q | ⟨ob,q⟩
   ·rw[a6]at q;cases q
   ·rw[a6]at q;cases q⟩
  have hD:=hC.but kD cp (λ l e=>by rw[N]at e;cases e);have a9:hu≠G:=λ z=>by obtain⟨kv,e,_⟩:=hC;rw[z,a6]at e;cases e
  have bn:H G=none:=sC.free a6;have a5:(mvS S1 ((Y.drop (Y.idxOf r)).flatMap V) 2).map (·.1)=m.take (i+2):=by rw[qZ,b2]
  have co:(mvS S1 ((Y.drop (Y.idxOf r)).flatMap V) 2).length<=42:=by rw[kFK];exact cs
  generalize dz:mvS S1 ((Y.drop (Y.idxOf r)).flatMap V) 2=S2 at *
  clear hC oC tC b3 N b1 kD fD sC c8 n2
  obtain⟨t1,v1,e7⟩:=ac.get (p:=f0) (by rw[a5];exact TM _ fT);obtain⟨t2,v2,dy⟩:=ac.get (p:=r) (by rw[a5];exact TM _ lT)
  have cr:DGet Hd G (vn f0) (some (.ref t1)):=by
   have:=DGet.k (k:=ed (f0:Int)) ab;rw[v1]at this;exact this
  have ce:DGet Hd G (vn r) (some (.ref t2)):=by
   have:=DGet.k (k:=ed (r:Int)) ab;rw[v2]at this;exact this
  refine⟨_,rfl,_,rfl,fi,_,_,_,rfl,rfl,SqL.of (sD _ _ hF),d6,G,_,rfl,cr,_,rfl,_,rfl,G,_,rfl,ce,t1,t2,atS S2 f0,atS S2 r,rfl,e7,dy,λ t3 He gE n3 h3=>?_⟩
  have cn:v∉m.take (i+2):=by
   have:=zG ok.nd (k:=i+2) (j:=i+2) (be _) (by omega);rw[ak,AM i 2,ev,AM 2 i]at this;exact this
  have d7:(gF m Fs Ts (i+1)).1=S2++[(v,(ovr (atS S2 f0) (atS S2 r)).1,(ovr (atS S2 f0) (atS S2 r)).2)]:=by
   rw[gd];unfold gst;have x1:(f0::M++[r]).tail.dropLast=M:=by simp
   have x2:(f0::M++[r]).getLastD 0=r:=by rw[ji,iZ];rfl
   have x3:(f0::M++[r]).headD 0=f0:=rfl;rw[x1,x2,x3,e4,dz]
  have dm:(gF m Fs Ts (i+1)).2=λ p=>if p=v then v::M.flatMap V else V p:=by
   rw[gd];unfold gst;have x1:(f0::M++[r]).tail.dropLast=M:=by simp
   rw[x1]
  have sE:=sD.trans gE;have a3:=gE _ _ ab;obtain⟨p1,p2⟩:=SpAt.put (q:=t3) (p:=v) a3 (ac.to (d':=G) λ b xs e=>gE _ _ e) (by rw[a5];exact cn) co h3;refine⟨_,rfl,_,rfl,G,_,rfl,p1,?_⟩;have kF:∀ b ob,b≠G->He b=some ob->upd He G (.dK (SpK (S2++[(v,(ovr (atS S2 f0) (atS S2 r)).1,(ovr (atS S2 f0) (atS S2 r)).2)]) (c5++[t3]))) b=some ob:=λ b ob nb e=>by rw[kM nb];exact e
  have a8:=kA (H:=He) (a:=G) (o:=.dK (SpK (S2++[(v,(ovr (atS S2 f0) (atS S2 r)).1,(ovr (atS S2 f0) (atS S2 r)).2)]) (c5++[t3])));rw[<-d7]at p2 kF a8;rw[<-d7];have sF:=xN sE kF bn;have tF:=kF Z _ (λ z=>by have:=gE _ _ tD;rw[z,a3]at this;cases this) (gE _ _ tD);have d8:=kF p3 _ (λ z=>by have:=gE _ _ b9;rw[z,a3]at this;cases this) (gE _ _ b9);have oF:∀ j d,ds[j]?=some d->RdS _ d (gF m Fs Ts j).1:=λ j d e=>((oD j d e).1.kept gE).but kF (oD j d e).2 λ xs e=>by rw[a3]at e;cases e
  have bl:=(hD.kept gE).but kF a9 (λ l e=>by rw[a3]at e;cases e)
  have eh:G∉ds:=λ z=>by
   obtain⟨j,hj⟩:=Ac.mp z;exact(oD j G hj).2 rfl
  generalize upd He G (.dK (SpK (gF m Fs Ts (i+1)).1 (c5++[t3])))=Hf at *
  clear oD hD b9 tD ab ac a3 p1 kF gE sE sD cr ce h3
  refine⟨_,rfl,yS1,λ l1 m1=>?_⟩;have g1:=kC m1 (.lst [vn v]);have d0:=kA (H:=Hf) (a:=l1) (o:=.lst [vn v]);have sG:=sF.trans g1;generalize upd Hf l1 (.lst [vn v])=Hg at *;refine⟨_,rfl,1,rfl,_,rfl,_,rfl,fi,_,rfl,SqL.of (sG _ _ hF),λ q3 m3=>?_⟩;rw[kMW];have g3:=kC m3 (.lst (M.map vn));have bw:=kA (H:=Hg) (a:=q3) (o:=.lst (M.map vn));refine⟨q3,rfl,⟨_,SqL.of bw⟩,λ D nD=>?_⟩;have hh:=(bl.kept g1).kept g3;have b0:=g3 _ _ d0;generalize upd Hg q3 (.lst (M.map vn))=Hh at *;obtain⟨d5,c9,dn,cc⟩:=id hh;have el:M.length<=42:=by simp at b4;omega
  have VL:∀ p∈M,(V p).length<=42:=λ p hp=>bc p _ (xY (MT p hp))
  have ea:(M.flatMap V).length<=42*M.length:=by
   rw[wc];refine jt (sum_le (c:=42) λ x hx=>?_) (by rw[ai];exact be _);obtain⟨y,hy,rfl⟩:=iP.mp hx;exact VL y hy
  refine jX (xs:=M.map vn) (λ j O H2=>∃(x0 x1:Option L2.V),O=[x0,x1,some (.ref hu)]/\Same Hh H2/\H2 D=some (.lst (((M.take j).flatMap V).map vn))) ⟨none,none,rfl,kC nD _,kA⟩ ?_ ?_ ?_
  ·rintro j O H2 _ ⟨x0,x1,rfl,g2,_⟩
   exact SqL.of (g2 _ _ bw)
  ·rintro j u O H2 hv ⟨x0,x1,rfl,g2,hD⟩
   rw[bg]at hv;obtain⟨p,ep,rfl⟩:=cu.mp hv;have pM:=cv ep;obtain⟨b,vb,hb⟩:=cc p _ (xY (MT p pM));have hj:=(aj.mp ep).1
   have pl:((M.take j).flatMap V).length<=42*42:=by
    rw[wc];refine jt (sum_le (c:=42) λ x hx=>?_) (by rw[ai,dc];exact DG 42 (by omega));obtain⟨y,hy,rfl⟩:=iP.mp hx;exact VL y (qh hy)
   have ll:=VL p pM
   have dg:DGet H2 hu (vn p) (some (.ref b)):=by
    have:=DGet.k (k:=ed (p:Int)) (g2 _ _ c9);rw[vb]at this;exact this
   refine⟨_,rfl,_,rfl,hu,_,rfl,dg,b,rfl,⟨_,SqL.of (g2 _ _ hb)⟩,?_⟩
   have tk:(M.take (j+1)).flatMap V=(M.take j).flatMap V++V p:=by
    rw[iw,ep,qv,ue,xk]
   rw[tk];generalize(M.take j).flatMap V=G0 at *;generalize V p=l at *;refine jX (xs:=l.map vn) (λ j O H3=>∃(x1:Option L2.V),O=[some (vn p),x1,some (.ref hu)]/\Same Hh H3/\H3 D=some (.lst ((G0++l.take j).map vn))) ⟨_,rfl,g2,by rw[CJ,iW];exact hD⟩ ?_ ?_ ?_
   ·rintro j O H3 _ ⟨x1,rfl,g3,_⟩
    exact SqL.of (g3 _ _ hb)
   ·rintro j u O H3 hv ⟨x1,rfl,g3,an⟩
    rw[bg]at hv;obtain⟨y,ey,rfl⟩:=cu.mp hv;have hj:=(aj.mp ey).1;refine⟨_,rfl,_,an,(by rw[ai,bq,dc];exact xL (by omega)),?_⟩;refine⟨_,rfl,qJ nD g3,?_⟩;rw[iw,ey,qv,<-cx,eE (l₂:=[y])];exact kA
   ·rintro O H3 ⟨x1,rfl,g3,an⟩
    rw[ai,iG]at an;exact⟨_,_,rfl,g3,an⟩
  rintro O H2 ⟨x0,x1,rfl,g2,hD⟩;rw[ai,iG]at hD;refine⟨l1,D,_,_,rfl,rfl,g2 _ _ b0,hD,(by rw[ai];exact gh (xL (by rw[fk];omega))),λ as m2=>?_⟩;have g4:=kC m2 (.lst ([vn v]++(M.flatMap V).map vn));have gg:=g1.trans (g3.trans (g2.trans g4));have dv:upd H2 as (.lst ([vn v]++(M.flatMap V).map vn)) as=some (.lst ((v::M.flatMap V).map vn)):=kA;have sI:=sF.trans gg;have tI:=gg _ _ tF;have aw:=gg _ _ d8;have oI:∀ j d,ds[j]?=some d->RdS _ d (gF m Fs Ts j).1:=λ j d e=>(oF j d e).kept gg;have hI:=bl.kept gg;have c7:=gg _ _ a8;have da:=p2.to (d':=G) λ b xs e=>gg _ _ e;generalize upd H2 as (.lst ([vn v]++(M.flatMap V).map vn))=Hi at *;clear oF bl d8 tF a8 p2 gg g4 g3 g2 g1 hD b0 bw hh c9 dn cc d0 sG sF
  obtain⟨Hj,w1,w2,w3,w4⟩:=hI.put (b:=as) (v:=v) (l:=v::M.flatMap V) (U':=uK m (i+1) (gF m Fs Ts (i+1)).2) (by omega) dv (λ p l' e=>by
   rw[dm]at e;unfold uK at e;by_cases c:p=v
   ·left
    refine⟨c,?_⟩;rw[c]at e
    split at e
    ·have this:(if v=v then v::M.flatMap V else V v)=l':=bh e
     rw[if_pos rfl]at this;exact this.symm
    ·cases e
   ·right
    refine⟨c,?_⟩
    split at e
    ·rename_i hm
     have e:some (if p=v then v::M.flatMap V else V p)=some l':=e;rw[if_neg c]at e;rw[<-e];refine xY ?_;have tk:m.take (i+1+2)=m.take (i+2)++[v]:=by rw[iw,AM i 2,ev];rfl
     rw[tk]at hm;rcases cf.mp hm with q | q
     ·exact q
     ·exact absurd (bu.mp q) c
    ·cases e)
  refine⟨_,rfl,_,rfl,hu,_,rfl,w1,?_⟩;obtain⟨ec,af,_⟩:=hI;have sJ:=xN sI w2 J5;have tJ:=w2 Z _ (λ z=>by rw[z,af]at tI;cases tI) tI;have bx:=w2 p3 _ (λ z=>by rw[z,af]at aw;cases aw) aw;have oJ:∀ j d,ds[j]?=some d->RdS Hj d (gF m Fs Ts j).1:=λ j d e=>(oI j d e).but w2 (λ z=>Jn (z ▸ cv e)) λ xs e=>by rw[af]at e;cases e
  have b5:=w2 G _ (pe a9) c7;have db:=da.to (d':=G) (H':=Hj) λ b xs e=>w2 _ _ (λ z=>by rw[z,af]at e;cases e) e;clear oI tI aw c7 da w1 w2 w3 sI;refine⟨_,rfl,.inl ⟨rfl,_,SqL.of tJ⟩,_,rfl,Z,_,_,rfl,rfl,tJ,(by rw[ai,Jl];exact kQ (by omega)),?_⟩;have kK:∀ b ob,b≠Z->Hj b=some ob->upd Hj Z (.lst (ds.map L2.V.ref++[.ref G])) b=some ob:=λ b ob nb e=>by rw[kM nb];exact e
  have ch:G≠Z:=λ z=>by rw[z,tJ]at b5;cases b5
  have tt:∀ xs,Hj Z≠some (.tup xs):=λ xs e=>by rw[tJ]at e;cases e
  have cm:=db.to (d':=G) (H':=upd Hj Z (.lst (ds.map L2.V.ref++[.ref G]))) λ b xs e=>kK _ _ (λ z=>tt xs (z ▸ e)) e;have d9:=kK G _ ch b5;refine⟨G,hu,Z,ds++[G],_,_,_,_,rfl,⟨xN sJ kK J4,bn,J5,J4,by rw[kA,eE];rfl,by rw[bq,Jl];rfl,by rw[<-Jl,di],⟨_,d9,cm⟩,λ j d e=>?_,?_,λ z=>?_,λ d hd=>?_⟩,kK p3 _ (λ z=>by rw[z,tJ]at bx;cases bx) bx⟩
  ·rcases snoc e with⟨c,e⟩ | ⟨ej,e⟩
   ·refine(oJ j d e).but kK (λ z=>?_) tt
    obtain⟨e8,rd,_⟩:=oJ j d e;rw[z]at rd;rcases rd with q | ⟨ob,q⟩
    ·rw[tJ]at q;cases q
    ·rw[tJ]at q;cases q
   ·cases e
    rw[ej,Jl];exact⟨_,.inl d9,cm⟩
  ·refine w4.but kK (λ z=>?_) (λ l e=>?_)
   ·obtain⟨kv,e,_⟩:=w4
    rw[z,tJ]at e;cases e
   ·rw[tJ]at e
    have e:ds.map L2.V.ref=l.map vn:=by injection e with e;injection e
    match ds,l,Jl,e with
    | d::ds,[],_,e=>cases e
    | d::ds,n::l,_,e=>cases e
  ·rcases cf.mp z with q | q
   ·exact Jn q
   ·exact a9 (bu.mp q)
  ·rcases cf.mp hd with q | q
   ·exact dd d q
   ·rw[bu.mp q];exact bn
 ·rintro O H8 ⟨sp,hu,Z,ds,x6,x7,x8,x9,rfl,J,hp⟩
  rw[ld]at J;exact⟨_,rfl,k Z ds H8 J.same J.told J.len J.old J.fd⟩
end
section
def kMH{W:Rows}{ms:List Nat}{a b c:Nat}{Fs Ts:List (List Nat)}(T:Tr W)(h:Tri.E W a b)(D:ms.Perm (cw W.length))(O:3<=W.length)(g:zN W a b c ms=some (Fs,Ts)):GOk ms Fs Ts:=by
 have S:=T.nb;have N:ms.length=W.length:=by rw[D.length_eq,iI]
 have d:ms.Nodup:=D.nodup_iff.mpr uy;have L:=T.le;unfold zN at g
 split at g
 case isFalse=>cases g
 rename_i ends
 have v:ms.take 2=[a,b]:=by
  obtain⟨q,j,_⟩:=ends
  match ms,q,j with
  | x::y::r,q,j =>
   cases q
   cases j
   rfl
 obtain⟨Q,lt⟩:=xH g;have h0:Top W (ms.take 2) (ms.take 2):=by rw[v];exact vR S h
 refine⟨by omega,by omega,by omega,d,λ i F A u H=>?_,λ i J=>kDJ S T.three d v h (by omega) g i (by omega)⟩;have J:=(aj.mp u).1;have n:i+1<Ts.length:=by omega
 obtain⟨p,B,f,M,l,C,m,G,U⟩:=bN S.sym d h0 (by omega) g i F A _ u H (aa n);have s:∀ x∈F,x∈A:=λ x o=>by rw[G,<-m];simp[o]
 have nd:=p.nd;refine⟨f,M,l,m,?_,s,p.sub,nd⟩
 have I:F.Nodup:=by
  rw[G,<-m]at nd;exact(de.mp (de.mp nd).1).2.1
 have:=fc I λ x o=>p.sub x (s x o);rw[dc]at this;omega
inductive kKB(vs:List V)(H:Hp)(Q:VK)(Y:XK):Prop
 | mk:∀(w z o:au)(W:Rows)(ms:List Nat)(a b c:Nat)(Fs Ts:List (List Nat)),(vs=[.ref w,.ref z,.ref o])->(Gw H w z o W ms a b c)->((Tri.E W a c/\(nxt W (a,c)).2=b))->(zN W a b c ms=some (Fs,Ts))->(∀(t:au)(ta:List au)(H':Hp),Same H H'->H' t=some (.tup (ta.map V.ref))->ta.length=W.length->(∀(p:Nat)(a:au),ta[p]?=some a->H' a=some (.tup [.int (atS (gF ms Fs Ts Fs.length).1 p).1,.int (atS (gF ms Fs Ts Fs.length).1 p).2]))->Q (.ref t) H')->kKB vs H Q Y
def kOO(B:Fx):Hs "grid" ["web","base","order"] 9 (kKB):=by
 refine qP B.X B.d21 kNV λ f ag A a5 s0 H vs Q E nN hr h=>?_;obtain⟨w,z,o,W,u,a,b,c,i,Y,rfl,G,a4,hl,k⟩:=h
 refine⟨_,(kE (xV (pf (dW B) hr (kH (pv 0) (kH (pv 1) (kH (pv 2) kY)))) (jR (n:=2) rfl (kS (pgn 3 nN) (kS (pgn 4 nN) qV))))
   (kE (pst 5 nN (pix kW (pf (kAM B) hr (kH (pv 2) (kH (pv 3) (kH (pv 4) kY)))) (uE zJ kI)))
   (kL (kX (xI jK rfl (B.z B.y6) kg (p1 (zB (Nc:=["p","spots"]) (js:=[none,some 5]) rfl rfl (jY rfl (B.z B.y3) (p1 (kR kP rfl (B.z B.y0) fq (p1 (pv 0))))) (CS.of rfl rfl) rfl (λ C T I fp J=>(pgc 0)) (λ C T I fp J D L=>(jG (xD (xU (xG hr) (pv 1) (pv 0) (λ _ _=>rfl)))))))))))),?_⟩
 try dsimp only[qY]
 have ok:=kMH G.tr G.ab G.perm G.three hl;have af:=G.tr.le;refine⟨_,rfl,_,rfl,_,rfl,w,z,o,W,u,a,b,c,i,Y,rfl,G,a4,hl,λ t f g fa ga H1 g1 ht lf lg=>?_⟩;refine⟨t,_,rfl,SqT.of ht,rfl,_,_,rfl,_,_,rfl,rfl,?_⟩;refine⟨_,rfl,_,rfl,_,rfl,o,f,g,fa,ga,u,i,Y,rfl,g1 _ _ G.ord,lf,lg,ok,λ td N H2 g2 a3 len rd _=>?_⟩;have v:=g1.trans g2;obtain⟨wt,a7,d,_⟩:=id (G.web.kept v)
 obtain⟨dl,a0,r⟩ : ∃ dl ac,N=ac++[dl]:=by
  have ne:N≠[]:=λ z=>by rw[z]at len;cases len
  exact⟨N.getLast ne,N.dropLast,(eO ne).symm⟩
 have at1:atI (N.map V.ref) (-1)=some (.ref dl):=by rw[r,eE];exact yJ _ _
 have a1:=rd i.length dl (by
  have:a0.length=i.length:=by rw[r,bq,fk]at len;omega
  rw[r,<-this,di])
 have O:=ok.inv i.length (be _);have ah:u.length=W.length:=by rw[G.perm.length_eq,iI]
 have y:(gF u i Y i.length).1.map (·.1)=u:=by
  rw[O.fst,<-ok.lm,iG]
 generalize(gF u i Y i.length).1=S at *;obtain⟨ts,a8,a2⟩:=a1;refine⟨_,rfl,td,_,_,_,rfl,rfl,SqL.of a3,at1,?_⟩;refine⟨_,rfl,w,_,rfl,.inr (SqT.of a7),_,rfl,(by rw[ai,d];omega),(by rw[ai,d];omega),λ D nD=>?_⟩;refine wU (lo:=0) (n:=((((wt.map V.ref).length:Nat):Int)).toNat) (λ j σ l=>∃(x0:Option V)(m:List au),σ=[x0,some (.ref dl)]/\Same H2 l/\l D=some (.lst (m.map V.ref))/\m.length=j/\∀(p:Nat)(a:au),m[p]?=some a->l a=some (.tup [.int (atS S p).1,.int (atS S p).2])) ⟨none,[],rfl,kC nD _,kA,rfl,λ p a e=>by simp at e⟩ ?_ ?_
 ·rintro j σ l hj ⟨x0,m,rfl,s,U,M,hu⟩
  have a6:j<W.length:=by rw[ai,iL,d]at hj;exact hj
  have jm:j∈S.map (·.1):=by rw[y];exact G.perm.mem_iff.mpr (jo.mpr a6)
  obtain⟨x,v',a9⟩:=(a2.to (d':=dl) (H':=l) λ b Z e=>s _ _ e).get jm
  have dg:DGet l dl (.int (0+(j:Int))) (some (.ref x)):=by
   refine .inl ⟨SpK S ts,ed (j:Int),?_,by rw[vh];rfl,v'.symm⟩;rcases a8 with e | ⟨ob,e⟩
   ·exact .inl (s _ _ e)
   ·exact .inr ⟨ob,s _ _ e⟩
  refine⟨_,rfl,_,rfl,dl,_,rfl,dg,_,U,(by rw[ai,M];exact kQ (by omega)),?_⟩
  have st:∀ b Z,l b=some (.tup Z)->upd l D (.lst (m.map V.ref++[.ref x])) b=some (.tup Z):=λ b Z e=>by
   rw[kM λ z=>by rw[z,U]at e;cases e];exact e
  refine⟨_,m++[x],rfl,qJ nD s,by rw[eE];exact kA,by rw[bq,M];rfl,λ p a e=>?_⟩;rcases snoc e with⟨q,e⟩ | ⟨ep,e⟩
  ·exact st _ _ (hu p a e)
  ·cases e
   rw[ep,M];exact st _ _ a9
 ·rintro σ l ⟨x0,m,rfl,s,U,M,hu⟩
  refine⟨D,_,rfl,.inl ⟨SqL.of U,λ x nt=>?_⟩⟩;have gt:=kC nt (.tup (m.map V.ref));exact k x m _ (v.trans (s.trans gt)) kA (by rw[M,ai,iL,d]) λ p a e=>gt _ _ (hu p a e)
end
section
inductive kKE(vs:List V)(H:Hp)(Q:VK)(Y:XK):Prop
 | mk:∀(a r:au)(W:Rows),(vs=[.ref a,.ref r])->(PotAt H a)->(WebAt H r W)->(Good W)->(W.length<=42)->(∀(t:au)(x y z:Nat)(H':Hp),SameBut a H H'->PotAt H' a->H t=none->H' t=some (.tup [vn x,vn y,vn z])->Tri.E W x z->(nxt W (x,z)).2=y->Q (.ref t) H')->kKE vs H Q Y
def kAJ(B:Fx):Hs "_law_base" ["_law_pot_here","_law_web_here"] 3 (kKE):=by
 refine qP B.X B.d32 tU λ f Z A i s0 H vs Q E C L h=>?_;obtain⟨a,r,W,rfl,o,m,G,a0,k⟩:=h
 refine⟨_,(kE (xV (pf (uI B) L (p2 (pv 0) (pv 1))) (jR (n:=2) rfl (kS (pgn 2 C) (kS (pgn 3 C) qV))))
   (kL (kX (qT (kH (pv 2) (kH (pf (zC B) L (kH (pv 1) (kH (pv 2) (kH (pv 3) kY)))) (kH (pv 3) kY))))))),?_⟩
 try dsimp only[qY]
 have S:=(Wb.of G).toNb;have l3:=G.three;refine⟨_,rfl,_,rfl,.inr ⟨a,r,W,rfl,o,m,by omega,by omega,λ p row e=>⟨G.ne p row e,by have:=S.len e;omega⟩,λ t p q H1 g p1 nt U d=>?_⟩⟩;refine⟨t,_,rfl,SqT.of U,rfl,_,_,rfl,_,_,rfl,rfl,?_⟩;have l:=m.pot g o;obtain⟨z,u,n2,n3,e1,e2⟩:=qQ S (jS G).1 d;obtain⟨row,M,nd,mem,pv⟩:=Fc.row_at S (S.e d).2.1;have D:p∈row:=(mem p).mpr (S.sym _ _ d)
 obtain⟨v,J⟩ : ∃ v,xK row p=some v:=by
  exact wY D
 have s:=pv p v J;rw[u]at s;obtain rfl:z=v:=congrArg Av s;obtain⟨ts,h1,h2,O⟩:=l.at;obtain⟨b,N,T⟩:=O q row M;refine⟨_,rfl,_,rfl,_,rfl,_,rfl,r,b,_,p,q,row,z,rfl,.inr ⟨h1,T⟩,N,D,J,_,rfl,yS3,λ j c=>?_⟩;have I:=kC c (.tup [vn p,vn z,vn q]);refine k j p z q _ ?_ ?_ ?_ kA d (by rw[u])
 ·exact g.trans (SameBut.of I)
 ·exact p1.kept I
 ·cases e:H j with
  | none=>rfl
  | some ob =>
   have Y:j≠a:=λ z=>by
    obtain⟨x,y,hx,_⟩:=p1;rw[z,hx]at c;cases c
   rw[g _ _ Y e]at c;cases c
def kBP{l:List Nat}{j:Nat}(h:j<l.length):atI (l.map vn) (j:Int)=some (vn (l.getD j 0)):=qS (by rw[bg,ak,aa h];rfl)
def gP(f:Nat->Bool)(j:Nat):(cw (j+1)).filter f=(cw j).filter f++if f j=true then[j] else[]:=by
 rw[Ba,so]
 congr 1
 by_cases c:f j=true
 ·rw[if_pos c,wu c,Bj]
 ·rw[if_neg c,wx c,Bj]
inductive kPT(vs:List V)(H:Hp)(Q:VK)(Y:XK):Prop
 | mk:∀(r o:au)(W:Rows)(O row:List Nat)(v:Nat),(vs=[.ref r,.ref o,vn v])->(WebAt H r W)->(H o=some (.lst (O.map vn)))->(W[v]?=some row)->(row.length<=42)->(O.length<=42)->(∀(t:au)(H':Hp),Same H H'->H' t=some (.tup ((vO row O).map vn))->Q (.ref t) H')->kPT vs H Q Y
def hG(B:Fx):Hs "_law_run" ["_law_web_here","_law_ahead_here","_law_v"] 1 (kPT):=by
 refine qP B.X B.d33 kCJ λ f a8 A a5 s0 H vs Q E nN hr h=>?_;obtain⟨r,o,W,O,row,v,rfl,hw,ho,er,a6,a7,k⟩:=h
 refine⟨_,(kE (pst 3 nN (pix qC (pv 0) (pv 2)))
   (kE (aU (i:=4) (Nc:=["_law_k","_law_ahead_here","_law_row"]) (js:=[none,some 1,some 3]) rfl rfl nN rfl (zd rfl) (jY rfl (B.z B.y3) (p1 (kR kP rfl (B.z B.y0) fq (p1 (pv 3))))) (CS.of rfl rfl) rfl (λ C s m fp p=>(pgc 0)) (λ C s m fp p D L=>(zL (PW.pt (pW (qK (show OpR _ _ (rIn K false) from zF) (pix (show IxR _ (kCQ K) from qC) (pv 2) (pv 0)) (pv 1) rfl) (pV (qK (show OpR _ _ (rIn K true) from vC) (pix (show IxR _ (kCQ K) from qC) (pv 2) (kT xW (pv 0) kI)) (pv 1) rfl)))) (xD (pv 0)))))
   (kE (yW (qK kAG (kR kP rfl (B.z B.y0) fq (p1 (pv 4))) kI (jC _)) (kL (kX (qT kY))) jL)
   (kL (kX (xI jK rfl (B.z B.y6) kg (p1 (zB (Nc:=["_law_q","_law_ahead_here"]) (js:=[none,some 1]) rfl rfl (aH (kT rF (qB wX (pv 3) (kZ (pix kW (pv 4) kI)) qU) (qB wX (pv 3) qU (kZ (pix kW (pv 4) kI))))) (CS.of rfl rfl) rfl (λ C s m fp p=>(pgc 0)) (λ C s m fp p D L=>(zL (qK (show OpR _ _ (rIn K false) from zF) (pv 0) (pv 1) rfl) (xD (pv 0)))))))))))),?_⟩
 try dsimp only[qY]
 obtain⟨ts,h1,h2,h3⟩:=hw.at;obtain⟨b,e3,e4⟩:=h3 v row er;refine⟨_,rfl,_,rfl,r,_,_,_,rfl,rfl,SqT.of h1,e3,?_⟩;refine⟨_,rfl,b,_,rfl,.inr (SqT.of e4),_,rfl,(by rw[ai];omega),(by rw[ai];omega),λ D nD=>?_⟩;refine wU (lo:=0) (n:=((((row.map vn).length:Nat):Int)).toNat) (λ j G N=>∃(y:Option V),G=[y,some (.ref o),some (.ref b)]/\Same H N/\N D=some (.lst (((cw j).filter λ k=>decide (row.getD k 0∈O) && !decide ((if k=0 then row.getLastD 0 else row.getD (k-1) 0)∈O)).map vn))) ⟨none,rfl,kC nD _,kA⟩ ?_ ?_
 ·rintro j G N hj ⟨y,rfl,x,l⟩
  have M:j<row.length:=by rw[ai,iL]at hj;exact hj
  have a1:atI (row.map vn) (0+(j:Int))=some (vn (row.getD j 0)):=by rw[vh];exact kBP M
  have a2:atI (row.map vn) (0+(j:Int)-1)=some (vn (if j=0 then row.getLastD 0 else row.getD (j-1) 0)):=by
   by_cases c:j=0
   ·rw[if_pos c,c]
    have ne:row≠[]:=λ z=>by rw[z]at M;simp at M
    rw[show row.getLastD 0=row.getLast ne by rw[ji,eW ne];rfl];have e5:row.map vn=(row.dropLast).map vn++[vn (row.getLast ne)]:=by rw[<-List.map_singleton (f:=vn),<-eE,eO]
    rw[e5];exact yJ _ _
   ·rw[if_neg c,show(0+(j:Int)-1)=((j-1:Nat):Int) by omega]
    exact kBP (by omega)
  have g:=x _ _ e4;have Y:=x _ _ ho
  have lz:(((cw j).filter λ k=>decide (row.getD k 0∈O) && !decide ((if k=0 then row.getLastD 0 else row.getD (k-1) 0)∈O)).map vn).length<sizeLine:=by
   rw[ai];have:=mj (λ k=>decide (row.getD k 0∈O) && !decide ((if k=0 then row.getLastD 0 else row.getD (k-1) 0)∈O)) (cw j);rw[iI]at this;exact kQ (by omega)
  have rf:=gP (λ k=>decide (row.getD k 0∈O) && !decide ((if k=0 then row.getLastD 0 else row.getD (k-1) 0)∈O)) j;rw[rf];dsimp only at rf ⊢;clear rf;generalize(cw j).filter (λ k=>decide (row.getD k 0∈O) && !decide ((if k=0 then row.getLastD 0 else row.getD (k-1) 0)∈O))=L at *;generalize row.getD j 0=u1 at *;generalize(if j=0 then row.getLastD 0 else row.getD (j-1) 0)=u2 at *;refine⟨_,rfl,_,rfl,b,_,_,_,rfl,rfl,SqT.of g,a1,_,rfl,o,_,rfl,.inl (SqL.of Y),rfl,yS _,_,rfl,?_⟩;rw[zX];by_cases c1:u1∈O
  ·rw[decide_eq_true c1]
   refine wN ⟨_,rfl,_,rfl,_,_,rfl,rfl,b,_,_,_,rfl,rfl,SqT.of g,a2,_,rfl,o,_,rfl,.inl (SqL.of Y),rfl,yS _,_,rfl,?_⟩;rw[zX];by_cases c2:u2∈O
   ·rw[decide_eq_true c2]
    exact yK ⟨_,rfl,x,by rw[if_neg (by decide),iW];exact l⟩
   ·rw[decide_eq_false c2]
    refine wN ⟨_,rfl,_,l,lz,⟨_,rfl,qJ nD x,?_⟩⟩;rw[if_pos (by decide),kA,eE,vh]
    rfl
  ·rw[decide_eq_false c1]
   exact yK (yK ⟨_,rfl,x,by rw[if_neg (by simp),iW];exact l⟩)
 ·rintro G N ⟨y,rfl,x,l⟩
  rw[ai,iL]at l;have l:N D=some (.lst ((zE row O).map vn)):=l;have g:=x _ _ e4
  have rl:(zE row O).length<=row.length:=by
   have:=mj (λ k=>decide (row.getD k 0∈O) && !decide ((if k=0 then row.getLastD 0 else row.getD (k-1) 0)∈O)) (cw row.length);rw[iI]at this;exact this
  refine⟨_,rfl,D,_,rfl,.inl (SqL.of l),rfl,_,rfl,?_⟩;by_cases c:(zE row O).length=1
  case neg =>
   have e0:vO row O=[]:=by unfold vO;rw[if_pos c]
   have ez:(!decide (V.int ((((zE row O).map vn).length:Nat):Int)=V.int 1))=true:=by
    rw[decide_eq_false]
    ·rfl
    ·intro z
     injection z with z
     rw[ai]at z;omega
   show if(!decide (V.int ((((zE row O).map vn).length:Nat):Int)=V.int 1))=true then _ else _;rw[if_pos ez];refine⟨yS0,λ t nt=>k t _ (x.trans (kC nt _)) ?_⟩;rw[e0];exact kA
  obtain⟨a,ek⟩ : ∃ a,zE row O=[a]:=Ca.mp c
  have ez:(!decide (V.int ((((zE row O).map vn).length:Nat):Int)=V.int 1))=false:=by
   rw[ek]
   rfl
  show if(!decide (V.int ((((zE row O).map vn).length:Nat):Int)=V.int 1))=true then _ else _;rw[ez];refine yK ?_;have k1:a<row.length:=(mem_begs.mp (by rw[ek];exact bu.mpr rfl:a∈zE row O)).1;have e1:vO row O=(row.drop a++row.take a).filter λ q=>decide (q∈O):=by unfold vO;rw[if_neg (by rw[c];simp),ek];rfl
  rw[ek]at l;have a0:atI ([a].map vn) 0=some (vn a):=rfl;refine⟨_,rfl,_,rfl,D,_,_,_,rfl,rfl,SqL.of l,a0,_,rfl,b,_,rfl,g,λ p1 H4 S T=>?_⟩;rw[yI _ (by rw[ai];omega),<-wq]at T;have S:Same N H4:=S;refine⟨_,rfl,_,rfl,D,_,_,_,rfl,rfl,SqL.of (S _ _ l),a0,_,rfl,b,_,rfl,S _ _ g,λ p2 H5 g5 a3=>?_⟩;rw[wE _ (by rw[ai];omega),<-ug]at a3;have g5:Same H4 H5:=g5;refine⟨p1,p2,_,_,rfl,rfl,g5 _ _ T,a3,(by simp only[ai,iR,dc];exact gh (kQ (by omega))),λ p3 H6 g6 I=>?_⟩;have g6:Same H5 H6:=g6;rw[<-eE]at I;have gg:=x.trans (S.trans (g5.trans g6));have a4:=gg _ _ ho;rw[e1]at k;have ll:(row.drop a++row.take a).length<=42:=by rw[bq,iR,dc];omega
  generalize row.drop a++row.take a=R at *;refine⟨p3,rfl,⟨_,SqT.of I⟩,λ D2 Z=>?_⟩;refine zH (xs:=R.map vn) (λ j G U=>∃(y:Option V),G=[y,some (.ref o)]/\Same H6 U/\U D2=some (.lst (((R.take j).filter λ q=>decide (q∈O)).map vn))) ⟨none,rfl,kC Z _,kA⟩ ?_ ?_ ?_
  ·rintro j G U _ ⟨y,rfl,J,_⟩
   exact SqT.of (J _ _ I)
  ·rintro j u G U hv ⟨y,rfl,J,d⟩
   rw[bg]at hv;obtain⟨q,eq,rfl⟩:=cu.mp hv;have hj:=(aj.mp eq).1
   have tk:(R.take (j+1)).filter (λ q=>decide (q∈O))=(R.take j).filter (λ q=>decide (q∈O))++if q∈O then[q] else[]:=by
    rw[iw,eq,qv,so]
    congr 1
    by_cases c:q∈O
    ·rw[if_pos c,wu (by simpa using c),Bj]
    ·rw[if_neg c,wx (by simpa using c),Bj]
   rw[tk]
   have lz:(((R.take j).filter λ q=>decide (q∈O)).map vn).length<sizeLine:=by
    rw[ai];have:=mj (λ q=>decide (q∈O)) (R.take j);rw[dc]at this;exact kQ (by omega)
   refine⟨_,rfl,_,rfl,o,_,rfl,.inl (SqL.of (J _ _ a4)),rfl,yS _,_,rfl,?_⟩;rw[zX];by_cases c:q∈O
   ·rw[decide_eq_true c,if_pos c]
    refine wN ⟨_,rfl,_,d,lz,⟨_,rfl,qJ Z J,?_⟩⟩;rw[kA,eE]
    rfl
   ·rw[decide_eq_false c,if_neg c,iW]
    exact yK ⟨_,rfl,J,d⟩
  ·rintro G U ⟨y,rfl,J,d⟩
   rw[ai,iG]at d;refine⟨D2,_,rfl,.inl ⟨SqL.of d,λ t nt=>?_⟩⟩;exact k t _ (gg.trans (J.trans (kC nt _))) kA
end
section
structure RnAt(H:Hp)(r:au)(ra:List au)(Fs:List (List Nat)):Prop where
 top:H r=some (.lst (ra.map V.ref))
 len:ra.length=Fs.length
 row:∀(i:Nat)(a:au)(F:List Nat),ra[i]?=some a->Fs[i]?=some F->H a=some (.tup (F.map vn))
def RnAt.but{H H':Hp}{r x:au}{c:List au}{Fs:List (List Nat)}(R:RnAt H r c Fs)(g:∀ b o,b≠x->H b=some o->H' b=some o)(nx:r≠x)(h:∀ xs,H x≠some (.tup xs)):RnAt H' r c Fs :=
 ⟨g _ _ nx R.top,R.len,λ i a F f d=>g _ _ (λ z=>h _ (z ▸ R.row i a F f d)) (R.row i a F f d)⟩
def RnAt.kept{H H':Hp}{r:au}{b:List au}{Fs:List (List Nat)}(R:RnAt H r b Fs)(g:Same H H'):RnAt H' r b Fs:=⟨g _ _ R.top,R.len,λ i a F d c=>g _ _ (R.row i a F d c)⟩
def kKR{H H':Hp}{r r' t:au}{f:List au}{Fs:List (List Nat)}{F:List Nat}(R:RnAt H r f Fs)(g:∀ b xs,H b=some (.tup xs)->H' b=some (.tup xs))(l:H t=some (.tup (F.map vn)))(h':H' r'=some (.lst (f.map V.ref++[.ref t]))):RnAt H' r' (f++[t]) (Fs++[F]):=by
 refine⟨by rw[h',eE];rfl,by rw[bq,bq,R.len];rfl,λ i a j c d=>?_⟩;rcases snoc c with⟨q,c⟩ | ⟨h,c⟩
 ·rw[az (by rw[<-R.len];exact q)]at d
  exact g _ _ (R.row i a j c d)
 ·rw[h,R.len,di]at d
  cases c
  cases d
  exact g _ _ l
def kNW{row T:List Nat}{a:Nat}(f:Ro row T)(nd:row.Nodup)(c:T.head?=some a):row.drop (row.idxOf a)++row.take (row.idxOf a)=T:=by
 obtain⟨A,B,d,b⟩:=f
 cases B with
 | nil =>
  rw[iW]at d;rw[kq]at b;rw[d,<-b];obtain⟨I,rfl⟩:=Fc.head_split c;rw[yq];simp
 | cons x B =>
  rw[b]at c;obtain rfl:x=a:=bh c;rw[d]at nd ⊢;have g:x∉A:=λ z=>(de.mp nd).2.2 x z x (by simp) rfl;have:(A++x::B).idxOf x=A.length:=by rw[yu,if_neg g];simp
  rw[this,b];simp
def uT(W:Rows)(O:List Nat)(c:Nat)(v:Nat):Bool:=!decide (v∈O) && (!decide (v=c) && decide (1<(vO (W.getD v []) O).length))
def kLR{W:Rows}(S:Nb W){O:List Nat}{c v:Nat}{row:List Nat}(a:W[v]?=some row)(h:uT W O c v=true):∃ Q,Nxt W O c v row (vO row O) Q:=by
 unfold uT at h;have i:W.getD v []=row:=by rw[ak,a];rfl
 rw[i]at h;simp at h;obtain⟨h1,d,b⟩:=h;have nd:=S.nd _ _ a;obtain⟨Q,f,g,l,j⟩:=kCO (A:=O) nd b;exact⟨Q,(aj.mp a).1,h1,d,a,f,g,l,b,j⟩
def kLN{W:Rows}(S:Nb W){O:List Nat}{c v:Nat}{row R Q:List Nat}(N:Nxt W O c v row R Q):uT W O c v=true:=by
 have a:W.getD v []=row:=by rw[ak,N.er];rfl
 have two:=N.two;have:=kKQ (S.nd _ _ N.er) N.ro N.hR N.hQ (λ z=>by rw[z]at two;simp at two) N.ne;unfold uT;rw[a,decide_eq_false N.no,decide_eq_false N.nc,decide_eq_true (by omega)]
 rfl
inductive nB(vs:List V)(H:Hp)(Q:VK)(Y:XK):Prop
 | mk:∀(p r z:au)(W:Rows)(a b c:Nat),(vs=[.ref p,.ref r,.ref z])->(PotAt H p)->(WebAt H r W)->(Good W)->(W.length<=42)->(H z=some (.tup [vn a,vn b,vn c]))->(Tri.E W a c)->((nxt W (a,c)).2=b)->(∀(t o rl:au)(ra:List au)(ms:List Nat)(Fs Ts:List (List Nat))(H':Hp),SameBut p H H'->PotAt H' p->H' t=some (.tup [.ref o,.ref rl])->H' o=some (.tup (ms.map vn))->RnAt H' rl ra Fs->zN W a b c ms=some (Fs,Ts)->ms.Perm (cw W.length)->Q (.ref t) H')->nB vs H Q Y
def hJ(B:Fx):Hs "_law_ordered" ["_law_pot_here","_law_web_here","_law_base_here"] 3 (nB):=by
 refine qP B.X B.d34 fZ λ f da A cm s0 H vs Q E nN hr h=>?_;obtain⟨p,r,z,W,a,b,c,rfl,hp,hw,G,d6,hz,ag,aw,k⟩:=h
 refine⟨_,(kE (pst 3 nN (qO (p2 (pix qC (pv 2) kI) (pix qC (pv 2) kI))))
   (kE (pst 4 nN (qO kY))
   (kE (dU (jY rfl (B.z B.y3) (p1 (kT xW (kR kP rfl (B.z B.y0) fq (p1 (pv 1))) kI))) (pgn 5 nN) (kE (aU (i:=6) (Nc:=["_law_v","_law_order","_law_base_here","_law_web_here"]) (js:=[none,some 3,some 2,some 1]) rfl rfl nN rfl (zd rfl) (jY rfl (B.z B.y3) (p1 (kR kP rfl (B.z B.y0) fq (p1 (pv 1))))) (CS.of rfl rfl) rfl (λ C bl b2 fp b4=>(zS (i:=0) (show Bi (α:=Str) ["_law_v","_law_order","_law_base_here","_law_web_here"] by decide +kernel) rfl (zd rfl))) (λ C bl b2 fp b4 D L=>(zL (PW.pt (pW (qK (show OpR _ _ (rIn K true) from vC) (pv 0) (pv 1) rfl) (pW (qK kAG (pv 0) (pix (show IxR _ (kCQ K) from qC) (pv 2) kI) (jC _)) (pV (qK kQC (kR (show yX _ _ (yO K) from kP) rfl (B.z B.y0) fq (p1 (pf (hG B) hr (kH (pv 3) (kH (pv 1) (kH (pv 0) kY)))))) kI (jC _)))))) (xD (pv 0)))))
   (kE (pst 7 nN (pix kW (pv 6) (pf (qR B) hr (p2 (pv 0) (kR kP rfl (B.z B.y0) fq (p1 (pv 6)))))))
   (kE (qL (jD ir iu jZ (pv 4) (p1 (pf (hG B) hr (kH (pv 1) (kH (pv 3) (kH (pv 7) kY)))))))
   (kL (qL (jD ir iu jZ (pv 3) (p1 (pv 7)))))))))
   (kE (pst 8 nN (pix qC (pv 1) (pix qC (pv 2) kI)))
   (kE (pst 9 nN (kAE zm zo zq cI (pv 8) (p1 (pix qC (pv 2) kI))))
   (kL (kX (qT (p2 (kT rF (xI jK rfl (B.z B.y6) kg (p1 (pv 3))) (qT (p1 (pix qC (pv 2) kI)))) (kT wC (pv 4) (qO (p1 (kT rF (qB wX (pv 8) (kZ (pv 9)) qU) (qB wX (pv 8) qU (kZ (pv 9)))))))))))))))),?_⟩
 try dsimp only[qY]
 have S:=(Wb.of G).toNb;have J:=(jS G).1;have l3:=G.three;obtain⟨l,n1,n2,n3,e1,e2⟩:=qQ S J ag;rw[n1]at aw;obtain rfl:l=b:=aw;have a3:Tri.E W a l:=S.sym _ _ e2;have bc:(nxt W (l,a)).2=c:=by rw[n3]
 have ca:c≠a:=(S.e ag).2.2;have cb:c≠l:=λ q=>(S.e e1).2.2 q.symm;refine⟨_,rfl,z,_,_,_,rfl,rfl,SqT.of hz,(show atI [vn a,vn l,vn c] 0=_ from rfl),_,rfl,z,_,_,_,rfl,rfl,SqT.of hz,(show atI [vn a,vn l,vn c] 1=_ from rfl),yS2,λ s am=>?_⟩;have g1:=kC am (.lst [vn a,vn l]);have bn:=kA (H:=H) (a:=s) (o:=.lst [vn a,vn l]);refine⟨yS0,λ u ab=>?_⟩;have g2:=kC ab (.lst []);have cz:=kA (H:=upd H s (.lst [vn a,vn l])) (a:=u) (o:=.lst []);have bw:=g2 _ _ bn;have ac:=g1.trans g2;have ba:H u=none:=g1.free ab;have b3:s≠u:=kJ bn ab;obtain⟨px,py,a2,d9⟩:=id hp;have bo:s≠p:=(kJ a2 am).symm;have bb:u≠p:=(kJ a2 ba).symm;have cr:=hw.kept ac;have ct:=hp.kept ac;generalize upd (upd H s (.lst [vn a,vn l])) u (.lst [])=H0 at *;obtain⟨wt,co,a4,_⟩:=id cr;refine⟨_,rfl,r,_,rfl,.inr (SqT.of co),_,_,rfl,rfl,_,rfl,(by rw[ai,a4];omega),(by rw[ai,a4];omega),?_⟩;refine xZ (n:=(((((wt.map V.ref).length:Nat):Int))-3).toNat) (λ i σ H2=>∃(x5 x6 x7 x8 x9:Option V)(O:List Nat)(Fs Ts:List (List Nat))(U:List au),σ=[some (.ref p),some (.ref r),some (.ref z),some (.ref s),some (.ref u),x5,x6,x7,x8,x9]/\SameBut p H H2/\PotAt H2 p/\H2 s=some (.lst (O.map vn))/\RnAt H2 u U Fs/\OI W a l c O Fs Ts/\O.length=i+2) ⟨_,_,_,_,_,[a,l],[],[[a,l]],[],rfl,SameBut.of ac,ct,bw,⟨cz,rfl,λ i a F e=>by simp at e⟩,OI.start S a3 ca cb,rfl⟩ ?_ ?_
 ·rintro i σ H2 hi ⟨x5,x6,x7,x8,x9,O,Fs,Ts,U,rfl,sb,pt,hO,RN,I,lO⟩
  have cd:O.length+1<W.length:=by
   rw[ai,a4]at hi;omega
  have a1:=hw.pot sb hp;have Z:=sb z _ (λ q=>by rw[q,a2]at hz;cases hz) hz;obtain⟨b9,Y,g,_⟩:=id a1;refine⟨_,rfl,r,_,rfl,.inr (SqT.of Y),_,rfl,(by rw[ai,g];omega),(by rw[ai,g];omega),λ D nD=>?_⟩;refine wU (lo:=0) (n:=((((b9.map V.ref).length:Nat):Int)).toNat) (λ j σ H3=>∃(x0:Option V),σ=[x0,some (.ref s),some (.ref z),some (.ref r)]/\Same H2 H3/\H3 D=some (.lst (((cw j).filter (uT W O c)).map vn))) ⟨none,rfl,kC nD _,kA⟩ ?_ ?_
  ·rintro j σ H3 hj ⟨x0,rfl,M,hD⟩
   have cn:j<W.length:=by rw[ai,iL,g]at hj;exact hj
   have T:=aa cn;have eg:W.getD j []=W[j]:=by rw[ak,T];rfl
   have a6:=S.len T
   have lz:(((cw j).filter (uT W O c)).map vn).length<sizeLine:=by
    rw[ai];have:=mj (uT W O c) (cw j);rw[iI]at this;exact kQ (by omega)
   rw[gP];have em:uT W O c j=(!decide (j∈O) && (!decide (j=c) && decide (1<(vO W[j] O).length))):=by unfold uT;rw[eg]
   rw[em];generalize(cw j).filter (uT W O c)=L at *;refine⟨_,rfl,_,rfl,s,_,rfl,.inl (SqL.of (M _ _ hO)),rfl,yS _,_,rfl,?_⟩;have e0:V.int (0+(j:Int))=vn j:=by rw[vh];rfl
   rw[e0,zX];by_cases c1:j∈O
   ·rw[decide_eq_true c1]
    exact yK (yK ⟨_,rfl,M,by rw[if_neg (by simp),iW];exact hD⟩)
   rw[decide_eq_false c1];refine wN ⟨_,rfl,_,rfl,z,_,_,_,rfl,rfl,SqT.of (M _ _ Z),(show atI [vn a,vn l,vn c] 2=_ from rfl),rfl,_,rfl,?_⟩;by_cases c2:j=c
   ·have e2:(!decide (vn j=vn c))=false:=by rw[c2];simp
    rw[e2];exact yK (yK ⟨_,rfl,M,by rw[decide_eq_true c2,if_neg (by simp),iW];exact hD⟩)
   have e2:(!decide (vn j=vn c))=true:=by
    rw[decide_eq_false (λ q=>c2 (by have q:V.int (j:Int)=V.int (c:Int):=q;injection q with q;omega))]
    rfl
   rw[e2];refine wN ?_;refine⟨_,rfl,_,rfl,_,rfl,r,s,W,O,_,j,rfl,a1.kept M,M _ _ hO,T,by omega,by omega,λ t H4 g4 ht=>?_⟩;have b5:=M.trans g4;refine⟨t,_,rfl,.inr (SqT.of ht),_,_,rfl,rfl,_,rfl,?_⟩;have e3:(1:Int)<(((vO W[j] O).map vn).length:Nat)↔1<(vO W[j] O).length:=by rw[ai];omega
   by_cases c3:1<(vO W[j] O).length
   ·rw[decide_eq_true (e3.mpr c3)]
    refine wN ⟨_,rfl,_,g4 _ _ hD,lz,⟨_,rfl,qJ nD b5,?_⟩⟩;rw[decide_eq_false c2,decide_eq_true c3,if_pos (by rfl),kA,eE]
    rfl
   ·rw[decide_eq_false (λ q=>c3 (e3.mp q))]
    refine yK ⟨_,rfl,b5,?_⟩;rw[decide_eq_false c2,decide_eq_false c3,if_neg (by decide),iW];exact g4 _ _ hD
  ·rintro σ H3 ⟨x0,rfl,M,hD⟩
   rw[ai,iL,g]at hD;obtain⟨v0,d5,R0,Q0,N0⟩:=I.next G a3 bc cd;have b0:v0∈(cw W.length).filter (uT W O c):=ig.mpr ⟨jo.mpr N0.lt,kLN S N0⟩
   have lL:((cw W.length).filter (uT W O c)).length<=42:=by
    have:=mj (uT W O c) (cw W.length);rw[iI]at this;omega
   have c5:∀ v∈(cw W.length).filter (uT W O c),v<W.length/\uT W O c v=true:=λ v hv=>⟨jo.mp (ig.mp hv).1,(ig.mp hv).2⟩;generalize(cw W.length).filter (uT W O c)=L at *;have d4:0<L.length:=List.length_pos_of_mem b0;obtain⟨qx,qy,bt,_⟩:=id pt;have Dp:D≠p:=(kJ bt nD).symm;refine⟨_,rfl,_,rfl,_,rfl,D,_,rfl,.inl (SqL.of hD),p,_,rfl,pt.kept M,(by rw[ai];omega),fA (by rw[ai];exact jj (m:=42) (by omega) (by decide)),λ d H4 d0 d1 s4 p4=>?_⟩;rw[ai]at d1;obtain⟨dn,rfl⟩:=si d0;have bm:dn<L.length:=by omega
   refine⟨D,_,_,_,rfl,rfl,SqL.of (s4 _ _ Dp hD),kBP bm,?_⟩;obtain⟨vl,vm⟩:=c5 (L.getD dn 0) (cv (jI bm));generalize L.getD dn 0=v at *;have T:=aa vl;have a6:=S.len T;obtain⟨Q,N⟩:=kLR S T vm;obtain⟨al,I'⟩:=I.more S J a3 bc N;have b7:SameBut p H H4:=sb.trans ((SameBut.of M).trans s4);have bi:=s4 _ _ bo (M _ _ hO);have ax:=(RN.kept M).but (λ b o nb e=>s4 b o nb e) bb (λ xs e=>by rw[M _ _ bt]at e;cases e);have d2:=hw.pot b7 hp;refine⟨_,rfl,.inl ⟨rfl,_,SqL.of ax.top⟩,_,rfl,_,rfl,_,rfl,r,s,W,O,_,v,rfl,d2,bi,T,by omega,by omega,λ t H5 g5 ht=>?_⟩;have a0:=ax.kept g5;have ch:=g5 _ _ bi;have lF:Fs.length<=42:=by have:=(xH I.go).1;omega
   refine⟨u,_,_,rfl,rfl,a0.top,(by rw[ai,a0.len];exact kQ (by omega)),?_⟩;have k6:∀ b o,b≠u->H5 b=some o->upd H5 u (.lst (U.map V.ref++[.ref t])) b=some o:=λ b o nb e=>by rw[kM nb];exact e
   have cc:=kKR (r':=u) a0 (λ b xs e=>k6 b _ (λ q=>by rw[q,a0.top]at e;cases e) e) ht kA;have as:=k6 s _ b3 ch;have ce:SameBut p H H5:=b7.trans (SameBut.of g5);have c4:SameBut p H (upd H5 u (.lst (U.map V.ref++[.ref t]))):=λ b o nb e=>k6 b o (λ q=>by rw[q,ba]at e;cases e) (ce b o nb e)
   have cs:PotAt (upd H5 u (.lst (U.map V.ref++[.ref t]))) p:=by
    obtain⟨x,y,hx,h0⟩:=p4.kept g5;exact⟨x,y,k6 p _ (pe bb) hx,h0⟩
   generalize upd H5 u (.lst (U.map V.ref++[.ref t]))=H6 at *;refine⟨_,rfl,.inl ⟨rfl,_,SqL.of as⟩,_,rfl,s,_,_,rfl,rfl,as,(by rw[ai];exact kQ (by omega)),?_⟩;have k7:∀ b o,b≠s->H6 b=some o->upd H6 s (.lst (O.map vn++[vn v])) b=some o:=λ b o nb e=>by rw[kM nb];exact e
   refine⟨_,_,_,_,_,O++[v],Fs++[vO W[v] O],al,U++[t],rfl,λ b o nb e=>k7 b o (λ q=>by rw[q,am]at e;cases e) (c4 b o nb e),?_,?_,cc.but k7 (pe b3) (λ xs e=>by rw[as]at e;cases e),I',by rw[bq,lO];rfl⟩
   ·obtain⟨x,y,hx,h0⟩:=cs
    exact⟨x,y,k7 p _ (pe bo) hx,h0⟩
   ·rw[kA,eE]
    rfl
 ·rintro σ H2 ⟨x5,x6,x7,x8,x9,O,Fs,Ts,U,rfl,sb,pt,hO,RN,I,lO⟩
  rw[ai,a4]at lO;have full:O.length+1=W.length:=by omega
  obtain⟨row,al,T,ro,hd,la,pm⟩:=I.last G a3 bc full;have nd:=S.nd _ _ T;have rf:=kNW ro nd hd;rw[<-rf]at la
  have ma:a∈row:=by
   obtain⟨d3,br,m⟩:=S.sym _ _ ag;rw[T]at br
   cases br
   exact m
  have ia:=gw ma;have a6:=S.len T;have a1:=hw.pot sb hp;have Z:=sb z _ (λ q=>by rw[q,a2]at hz;cases hz) hz;obtain⟨b9,Y,g,rows⟩:=a1.at;obtain⟨rb,cp,a9⟩:=rows c row T;refine⟨_,rfl,_,rfl,z,_,_,_,rfl,rfl,SqT.of Z,(show atI [vn a,vn l,vn c] 2=_ from rfl),r,_,_,_,rfl,rfl,SqT.of Y,cp,?_⟩;refine⟨_,rfl,.inr (.inl ⟨rfl,.inr ⟨_,a9⟩⟩),_,rfl,z,_,_,_,rfl,rfl,SqT.of Z,(show atI [vn a,vn l,vn c] 0=_ from rfl),rb,row.map ci,a,row.idxOf a,rfl,rfl,SqT.of (by rw[a9,xB]),qG ma,?_⟩;have d8:O.length<=42:=by omega
  have d7:Fs.length<=42:=by have:=(xH I.go).1;omega
  refine⟨_,rfl,s,_,rfl,.inl ⟨SqL.of hO,λ t1 m1=>?_⟩⟩;have q1:=kC m1 (.tup (O.map vn));have c6:=kA (H:=H2) (a:=t1) (o:=.tup (O.map vn));generalize upd H2 t1 (.tup (O.map vn))=H3 at *;refine⟨_,rfl,z,_,_,_,rfl,rfl,SqT.of (q1 _ _ Z),(show atI [vn a,vn l,vn c] 2=_ from rfl),yS1,λ t2 m2=>?_⟩;have q2:=kC m2 (.tup [vn c]);have c9:=kA (H:=H3) (a:=t2) (o:=.tup [vn c]);generalize upd H3 t2 (.tup [vn c])=H4 at *;refine⟨t1,t2,_,_,rfl,rfl,q2 _ _ c6,c9,(by rw[ai,fk];exact gh (kQ (by omega))),λ t3 H5 q3 cl=>?_⟩;have q3:Same H4 H5:=q3;have a8:=q1.trans (q2.trans q3);have a7:=a8 _ _ a9;refine⟨_,rfl,_,rfl,_,rfl,_,rfl,rb,_,rfl,a7,λ p1 H6 q6 b1=>?_⟩;rw[yI _ (by rw[ai];omega),<-wq]at b1;have q6:Same H5 H6:=q6;refine⟨_,rfl,_,rfl,_,rfl,rb,_,rfl,q6 _ _ a7,λ p2 H7 q7 a5=>?_⟩;rw[wE _ (by rw[ai];omega),<-ug]at a5;have q7:Same H6 H7:=q7;refine⟨p1,p2,_,_,rfl,rfl,q7 _ _ b1,a5,(by simp only[ai,iR,dc];exact gh (kQ (by omega))),λ t4 H8 q8 bv=>?_⟩;have q8:Same H7 H8:=q8;rw[<-eE]at bv;refine⟨yS1,λ l1 m9=>?_⟩;have q9:=kC m9 (.lst [V.ref t4]);have c7:=kA (H:=H8) (a:=l1) (o:=.lst [V.ref t4]);have an:=q6.trans (q7.trans (q8.trans q9));have ap:=(RN.kept a8).kept an;have b6:=q9 _ _ bv;have b8:=an _ _ cl;generalize upd H8 l1 (.lst [V.ref t4])=H9 at *;refine⟨u,l1,_,_,rfl,rfl,ap.top,c7,(by rw[ai,fk,ap.len];exact gh (kQ (by omega))),λ l2 c8=>?_⟩;have aq:=kC c8 (.lst (U.map V.ref++[V.ref t4]));have bx:=kKR (r':=l2) ap (λ b xs e=>aq _ _ e) b6 kA;have ah:=aq _ _ b8;generalize upd H9 l2 (.lst (U.map V.ref++[V.ref t4]))=db at *;refine⟨yS2,λ tt mt=>?_⟩;have af:=kC mt (.tup [V.ref t3,V.ref l2]);have qq:=a8.trans (an.trans (aq.trans af));refine k tt t3 l2 (U++[t4]) (O++[c]) _ al _ (sb.trans (SameBut.of qq)) (pt.kept qq) kA ?_ (bx.kept af) la pm;have:=af _ _ ah;rw[this,eE]
  rfl
end
section
inductive kEI(vs:List V)(H:Hp)(Q:VK)(Y:XK):Prop
 | mk:∀(g:au)(gs:List Int)(a b:Nat),(vs=[.ref g,.int (a:Int),.int (b:Int)])->(H g=some (.lst (gs.map V.int)))->(a<gs.length)->(b<gs.length)->(∀ H',(∀ c o,c≠g->H c=some o->H' c=some o)->H' g=some (.lst ((wdr gs a b).map V.int))->Q .non H')->kEI vs H Q Y
def kNB{l:List Int}{i:Nat}(h:i<l.length):atI (l.map V.int) (i:Int)=some (.int (l.getD i 0)):=qS (by rw[bg,ak,aa h];rfl)
def rH(B:Fx):Hs "_law_wider" ["_law_gaps","_law_first","_law_last"] 1 (kEI):=by
 refine qP B.X B.d35 pN λ f p A j v H s Q E u x h=>?_;obtain⟨g,d,a,b,rfl,n,l,q,k⟩:=h
 refine⟨_,(kE (xV (kT qF (pix kW (pv 0) (pv 1)) kI) (gX (pv 0) (pv 1) vV))
   (kL (xV (kT qF (pix kW (pv 0) (pv 2)) kI) (gX (pv 0) (pv 2) vV)))),?_⟩
 try dsimp only[qY]
 refine⟨_,rfl,_,rfl,g,_,_,_,rfl,rfl,SqL.of n,kNB l,_,_,rfl,rfl,?_⟩;refine⟨_,rfl,_,rfl,g,_,_,a,rfl,rfl,n,(by rw[ai];exact rP l),?_⟩;have r:(d.map V.int).set a (.int (d.getD a 0+1))=(d.set a (d.getD a 0+1)).map V.int:=EA.symm;rw[r];have i:b<(d.set a (d.getD a 0+1)).length:=by rw[AB];exact q
 refine⟨_,rfl,_,rfl,g,_,_,_,rfl,rfl,SqL.of kA,kNB i,_,_,rfl,rfl,?_⟩;refine⟨_,rfl,_,rfl,g,_,_,b,rfl,rfl,kA,(by rw[ai];exact rP i),?_⟩;refine k _ (λ c o m e=>by rw[kM m,kM m];exact e) ?_;rw[kA,<-EA]
 rfl
end
section
def HiN(H:Hp)(d:au)(X:Nat->Option Int)(n:Nat):Prop:=∃ a,H d=some (.dK a)/\a.length<=n/\∀ p y,X p=some y->jO a (ed (p:Int))=some (.int y)
def HiN.but{H H':Hp}{h x:au}{X:Nat->Option Int}{n:Nat}(r:HiN H h X n)(g:∀ b o,b≠x->H b=some o->H' b=some o)(nx:h≠x):HiN H' h X n:=by
 obtain⟨a,e,le,k⟩:=r;exact⟨a,g _ _ nx e,le,k⟩
def HiN.kept{H H':Hp}{h:au}{X:Nat->Option Int}{n:Nat}(r:HiN H h X n)(g:Same H H'):HiN H' h X n:=by
 obtain⟨a,e,le,k⟩:=r;exact⟨a,g _ _ e,le,k⟩
def HiN.get{H:Hp}{d:au}{X:Nat->Option Int}{n p:Nat}{y:Int}(r:HiN H d X n)(e:X p=some y):DGet H d (vn p) (some (.int y)):=by
 obtain⟨a,b,_,k⟩:=r;have:=DGet.k (k:=ed (p:Int)) b;rw[k p y e]at this;exact this
def HiN.nl{H:Hp}{d:au}{X:Nat->Option Int}{n:Nat}(r:HiN H d X n):(∀ xs,H d≠some (.lst xs))/\∀ xs,H d≠some (.tup xs):=by
 obtain⟨b,a,_,k⟩:=r;exact⟨λ xs z=>(by rw[a]at z;cases z),λ xs z=>(by rw[a]at z;cases z)⟩
def HiN.put{H:Hp}{d:au}{X X':Nat->Option Int}{n v:Nat}{y:Int}(r:HiN H d X n)(h:n<=200)(b:∀ p y',X' p=some y'->(p=v/\y'=y)\/(p≠v/\X p=some y')):∃ H',DPut H d (vn v) (.int y) H'/\(∀ c o,c≠d->H c=some o->H' c=some o)/\HiN H' d X' (n+1):=by
 obtain⟨a,e,le,k⟩:=r;refine⟨_,DPut.k (k:=ed (v:Int)) e (kQ (by omega)),λ c o g f=>by rw[kM g];exact f,⟨_,kA,?_,λ p y' q=>?_⟩⟩
 ·have:=fG a (ed (v:Int)) (V.int y)
  omega
 ·rw[wH]
  by_cases c:p=v
  ·rw[if_pos (by rw[c])]
   rcases b p y' q with⟨_,rfl⟩ | q
   ·rfl
   ·exact absurd c q.1
  ·rw[if_neg (λ q=>c (by have:=wy q;omega))]
   rcases b p y' q with⟨z,_⟩ | q
   ·exact absurd z c
   ·exact k p y' q.2
structure TkL(H:Hp)(t:au)(ta:List au)(L:List (Nat×Nat×Int)):Prop where
 top:H t=some (.lst (ta.map V.ref))
 len:ta.length=L.length
 row:∀(i:Nat)(a:au)(s:Nat×Nat×Int),ta[i]?=some a->L[i]?=some s->H a=some (.tup [vn s.1,vn s.2.1,.int s.2.2])
def TkL.but{H H':Hp}{t x:au}{d:List au}{S:List (Nat×Nat×Int)}(h:TkL H t d S)(g:∀ b o,b≠x->H b=some o->H' b=some o)(nx:t≠x)(j:∀ xs,H x≠some (.tup xs)):TkL H' t d S:=⟨g _ _ nx h.top,h.len,λ i a s f c=>g _ _ (λ z=>j _ (z ▸ h.row i a s f c)) (h.row i a s f c)⟩
def TkL.kept{H H':Hp}{t:au}{b:List au}{S:List (Nat×Nat×Int)}(h:TkL H t b S)(g:Same H H'):TkL H' t b S:=⟨g _ _ h.top,h.len,λ i a s d c=>g _ _ (h.row i a s d c)⟩
def kAV(ms:List Nat)(i:Nat)(S:List (Nat×Int×Int)):Nat->Option Int:=λ p=>if p∈ms.take (i+2) then some (atS S p).2 else none
def uR{ms:List Nat}{i:Nat}{S:List (Nat×Int×Int)}{p:Nat}(h:p∈ms.take (i+2)):kAV ms i S p=some (atS S p).2:=by unfold kAV;rw[if_pos h]
def kGE(xs:List V){b c:Nat}(a:b<=c)(h:c<=xs.length):jV xs (some (b:Int)) (some (c:Int))=(xs.drop b).take (c-b):=by
 unfold jV;rw[HT.sIx_nat,HT.sIx_nat,jw h,jw (show b<=xs.length by omega)]
def xOf(D:List Nat)(S:List (Nat×Int×Int)):Nat->Option Int:=λ p=>if p∈D then some (atS S p).1 else none
def sR{D:List Nat}{S:List (Nat×Int×Int)}{p:Nat}(h:p∈D):xOf D S p=some (atS S p).1:=by unfold xOf;rw[if_pos h]
def kDW{D b:List Nat}{S:List (Nat×Int×Int)}{v p:Nat}{y:Int}(h:∀ x,x∈b->x∈D\/x=v)(e:xOf b S p=some y):(p=v/\y=(atS S v).1)\/(p≠v/\xOf D S p=some y):=by
 unfold xOf at e ⊢;by_cases c:p∈b
 ·rw[if_pos c]at e
  by_cases a:p=v
  ·exact .inl ⟨a,by rw[<-a];exact(bh e).symm⟩
  ·rcases h p c with h | h
   ·exact .inr ⟨a,by rw[if_pos h];exact e⟩
   ·exact absurd h a
 ·rw[if_neg c]at e
  cases e
structure RkI(H0 H:Hp)(rg gp hd tk:au)(ta:List au)(g:List Int)(tl:List (Nat×Nat×Int))(ms:List Nat)(Fs Ts:List (List Nat))(a b i:Nat):Prop where
 same:Same H0 H
 ring:H rg=some (.lst ((Ts.getD i []).map vn))
 gaps:H gp=some (.lst (g.map V.int))
 high:HiN H hd (kAV ms i (gF ms Fs Ts i).1) (i+2)
 told:TkL H tk ta tl
 s:RkS (Ts.getD i []) (gF ms Fs Ts i).1 (gF ms Fs Ts i).2 a b i g tl
 fg:H0 gp=none
 n1:rg≠gp
 n2:rg≠tk
 n3:gp≠tk
structure GCt(ms:List Nat)(Fs Ts:List (List Nat))(a b:Nat):Prop where
 two:ms.take 2=[a,b]
 t0:Ts.getD 0 []=[a,b]
 cut:∀ i,i<Fs.length->(Ts.getD i []).Nodup/\∃ B f M l C,Fs.getD i []=f::M++[l]/\Ts.getD i []=B++(f::M++[l])++C/\Ts.getD (i+1) []=B++[f,ms.getD (i+2) 0,l]++C
inductive kKA(vs:List V)(H:Hp)(Q:VK)(Y:XK):Prop
 | mk:∀(o rl:au)(ra:List au)(ms:List Nat)(Fs Ts:List (List Nat))(a b:Nat),(vs=[.ref o,.ref rl])->(H o=some (.tup (ms.map vn)))->(RnAt H rl ra Fs)->(GOk ms Fs Ts)->(GCt ms Fs Ts a b)->(ms.Perm (cw ms.length))->(∀(t:au)(ta:List au)(H':Hp),Same H H'->H' t=some (.tup (ta.map V.ref))->ta.length=ms.length->(∀(p:Nat)(a:au),ta[p]?=some a->H' a=some (.tup [.int (atS (gF ms Fs Ts Fs.length).1 p).1,.int (atS (gF ms Fs Ts Fs.length).1 p).2]))->Q (.ref t) H')->kKA vs H Q Y
def dY(B:Fx):Hs "_law_reckoned" ["_law_order","_law_runs"] 2 (kKA):=by
 refine qP B.X B.d36 dR λ f ga A fr s0 H vs Q E nN hr h=>?_;obtain⟨o,rl,ra,m,Fs,Z,a,b,rfl,ho,RN,ok,ct,ex,k⟩:=h
 refine⟨_,(kE (pst 2 nN (qO (p2 (pix qC (pv 0) kI) (pix qC (pv 0) kI))))
   (kE (pst 3 nN (qO (p2 kI kI)))
   (kE (pst 4 nN (kOH (kAC (pix qC (pv 0) kI) kI (kAC (pix qC (pv 0) kI) kI kOD)) rfl rfl (λ z=>nomatch z) (by decide)))
   (kE (pst 5 nN (qO kY))
   (kE (dU (jY rfl (B.z B.y3) (p1 (kR kP rfl (B.z B.y0) fq (p1 (pv 1))))) (pgn 6 nN) (kE (kLA (i:=7) (j:=8) rfl nN rfl rfl (by decide) rfl rfl (p2 (pix qC (pv 0) (kT qF (pv 6) kI)) (pix kW (pv 1) (pv 6))) rfl)
   (kE (kLA (i:=9) (j:=10) rfl nN rfl rfl (by decide) rfl rfl (p2 (jD je jf yG (pv 2) (p1 (pix qC (pv 8) kI))) (jD je jf yG (pv 2) (p1 (pix qC (pv 8) (uE zJ kI))))) rfl)
   (kE (qL (pf (rH B) hr (kH (pv 3) (kH (kT qF (pv 9) kI) (kH (pv 10) kY)))))
   (kE (pst 11 nN (kR (cQ rfl) rfl (B.z B.y14) Ad (p1 (qB jE (pv 3) (kZ (kT qF (pv 9) kI)) (kZ (kT qF (pv 10) kI))))))
   (kE (pst 12 nN (kT fK (kT xW (kT qF (pv 11) (xU (xG hr) (pv 4) (pix qC (pv 8) (uE zJ kI)) (λ _ _=>rfl))) (xU (xG hr) (pv 4) (pix qC (pv 8) kI) (λ _ _=>rfl))) kI))
   (kE (aV (xG hr) (pv 4) (pv 7) (kT fK (kT qF (kT qF (pv 11) (xU (xG hr) (pv 4) (pix qC (pv 8) (uE zJ kI)) (λ _ _=>rfl))) (xU (xG hr) (pv 4) (pix qC (pv 8) kI) (λ _ _=>rfl))) kI) rfl)
   (kE (dU (nW rfl (B.z B.y3) (p2 (kT qF (pv 9) kI) (pv 10))) (pgn 13 nN) (kL (qL (jD ir iu jZ (pv 5) (p1 (qT (kH (pix kW (pv 2) (pv 13)) (kH (pv 7) (kH (kT xW (kR (cQ rfl) rfl (B.z B.y14) Ad (p1 (qB jE (pv 3) (kZ (kT qF (pv 9) kI)) (kZ (kT qF (pv 13) kI))))) (pv 12)) kY)))))))))
   (kE (pst 2 nN (kT wC (kT wC (qB jE (pv 2) qU (kZ (kT qF (pv 9) kI))) (qO (p1 (pv 7)))) (qB jE (pv 2) (kZ (pv 10)) qU)))
   (kL (pst 3 nN (kT wC (kT wC (qB jE (pv 3) qU (kZ (kT qF (pv 9) kI))) (qO (p2 (pv 12) (kT xW (pv 11) (pv 12))))) (qB jE (pv 3) (kZ (kT qF (pv 10) kI)) qU)))))))))))))
   (kE (pst 14 nN kLF)
   (kE (dU (jY rfl (B.z B.y3) (p1 (kR kP rfl (B.z B.y0) fq (p1 (pv 2))))) (pgn 13 nN) (kL (aV (xG hr) (pv 14) (pix kW (pv 2) (pv 13)) (kR (cQ rfl) rfl (B.z B.y14) Ad (p1 (qB jE (pv 3) qU (kZ (kT qF (pv 13) kI))))) rfl)))
   (kE (dU (kRJ rfl (B.z B.y15) (p1 (pv 5))) (jR (n:=3) rfl (kS (pgn 15 nN) (kS (pgn 7 nN) (kS (pgn 16 nN) qV)))) (kL (aV (xG hr) (pv 14) (pv 15) (kT qF (xU (xG hr) (pv 14) (pv 7) (λ _ _=>rfl)) (pv 16)) rfl)))
   (kL (kX (xI jK rfl (B.z B.y6) kg (p1 (zB (Nc:=["_law_p","_law_found","_law_high"]) (js:=[none,some 14,some 4]) rfl rfl (jY rfl (B.z B.y3) (p1 (kR kP rfl (B.z B.y0) fq (p1 (pv 0))))) (CS.of rfl rfl) rfl (λ C eu et fp ef=>(pgc 0)) (λ C eu et fp ef D L=>(jG (xD (qT (p2 (xU (xG hr) (pv 1) (pv 0) (λ _ _=>rfl)) (xU (xG hr) (pv 2) (pv 0) (λ _ _=>rfl)))))))))))))))))))),?_⟩
 try dsimp only[qY]
 have c9:∃ r,m=a::b::r:=by
  have h1:=ct.two
  match m,h1 with
  | x::y::r,h1 =>
   cases h1
   exact⟨r,rfl⟩
 have ab:a≠b:=λ z=>by
  obtain⟨r,e⟩:=c9;have:=ok.nd;rw[e,z,gk]at this;exact this.1 (by simp)
 have a0:atI (m.map vn) 0=some (vn a):=by obtain⟨r,e⟩:=c9;rw[e];exact qS (j:=0) rfl
 have a1:atI (m.map vn) 1=some (vn b):=by obtain⟨r,e⟩:=c9;rw[e];exact qS (j:=1) rfl
 refine⟨_,rfl,o,_,_,_,rfl,rfl,SqT.of ho,a0,_,rfl,o,_,_,_,rfl,rfl,SqT.of ho,a1,yS2,λ rg ds=>?_⟩;have d:=kC ds (.lst [vn a,vn b]);have cz:=kA (H:=H) (a:=rg) (o:=.lst [vn a,vn b]);generalize upd H rg (.lst [vn a,vn b])=G1 at *;refine⟨yS2,λ gp br=>?_⟩;have g2:=kC br (.lst [V.int 0,V.int 0]);have cd:=kA (H:=G1) (a:=gp) (o:=.lst [V.int 0,V.int 0]);have n1:rg≠gp:=kJ cz br;have fg:H gp=none:=d.free br;have b0:=g2 _ _ cz;have cr:=d.trans g2;generalize upd G1 gp (.lst [V.int 0,V.int 0])=G2 at *;refine λ O aw=>?_;have g3:=kC aw (.dK []);have e5:=kA (H:=G2) (a:=O) (o:=.dK []);have ea:H O=none:=cr.free aw;have bt:=g3 _ _ b0;have bx:=g3 _ _ cd;have b5:=cr.trans g3;refine⟨_,rfl,o,_,_,_,rfl,rfl,SqT.of (b5 _ _ ho),a0,_,rfl,o,_,_,_,rfl,rfl,SqT.of (b5 _ _ ho),a1,?_⟩;refine⟨e5,[(ed (a:Int),.int 0),(ed (b:Int),.int 0)],rfl,(by show 2<=15;decide),?_⟩
 have hH:HiN (upd (upd G2 O (.dK [])) O (.dK (wD [] [(ed (a:Int),.int 0),(ed (b:Int),.int 0)]))) O (kAV m 0 (gF m Fs Z 0).1) 2:=by
  refine⟨_,kA,?_,λ p y e=>?_⟩
  ·have l1:=fG (jF [] (ed (a:Int)) (.int 0)) (ed (b:Int)) (.int 0)
   have l2:=fG [] (ed (a:Int)) (V.int 0);have l3:([]:List (Key×V)).length=0:=rfl;show(jF (jF [] (ed (a:Int)) (.int 0)) (ed (b:Int)) (.int 0)).length<=2;omega
  ·unfold kAV at e
   rw[ct.two]at e;by_cases c:p∈[a,b]
   ·rw[if_pos c]at e
    have z:∀ x,atS [(a,0,0),(b,0,0)] x=(0,0):=λ x=>by
     rw[jW,jW]
     split
     ·rfl
     ·split<;>rfl
    have ez:y=0:=by
     have:(gF m Fs Z 0).1=[(a,0,0),(b,0,0)]:=by show(m.take 2).map _=_;rw[ct.two];rfl
     rw[this,z]at e;exact(bh e).symm
    subst ez;show jO (jF (jF [] (ed (a:Int)) (.int 0)) (ed (b:Int)) (.int 0)) (ed (p:Int))=_;rw[wH,wH];rcases dr.mp c with rfl | c
    ·rw[if_neg (λ q=>ab (by have:=wy q;omega)),if_pos rfl]
    ·rw[if_pos (by rw[bu.mp c])]
   ·rw[if_neg c]at e
    cases e
 have cs:Same H (upd (upd G2 O (.dK [])) O (.dK (wD [] [(ed (a:Int),.int 0),(ed (b:Int),.int 0)]))):=qJ ea b5;have ac:upd (upd G2 O (.dK [])) O (.dK (wD [] [(ed (a:Int),.int 0),(ed (b:Int),.int 0)])) rg=some (.lst [vn a,vn b]):=by rw[kM (kJ b0 aw)];exact bt
 have aq:upd (upd G2 O (.dK [])) O (.dK (wD [] [(ed (a:Int),.int 0),(ed (b:Int),.int 0)])) gp=some (.lst [V.int 0,V.int 0]):=by rw[kM (kJ cd aw)];exact bx
 generalize upd (upd G2 O (.dK [])) O (.dK (wD [] [(ed (a:Int),.int 0),(ed (b:Int),.int 0)]))=G4 at *;clear bt bx e5 b5 g3 b0 cd cz cr g2 d aw br ds a0 a1;refine⟨yS0,λ tk an=>?_⟩;have g5:=kC an (.lst [])
 have J0:RkI H (upd G4 tk (.lst [])) rg gp O tk [] [0,0] [] m Fs Z a b 0:=by
  refine⟨cs.trans g5,by rw[ct.t0];exact g5 _ _ ac,g5 _ _ aq,hH.kept g5,⟨kA,rfl,λ i a s e=>by simp at e⟩,?_,fg,n1,kJ ac an,kJ aq an⟩;show RkS _ ((m.take 2).map _) (λ p=>[p]) _ _ _ _ _;rw[ct.t0,ct.two];exact kNX (ab:=ab)
 have fw:H tk=none:=cs.free an;generalize upd G4 tk (.lst [])=H5 at *;clear g5 cs ac aq hH an n1 fg;refine⟨_,rfl,rl,_,rfl,.inl (SqL.of (J0.same _ _ RN.top)),_,rfl,(by rw[ai,RN.len];have:=ok.lm;have:=ok.le;omega),(by rw[ai,RN.len];have:=ok.lm;have:=ok.le;omega),?_⟩;refine xZ (n:=((((ra.map V.ref).length:Nat):Int)).toNat) (λ i σ H6=>∃(rg gp:au)(ta:List au)(g:List Int)(Y:List (Nat×Nat×Int))(x6 x7 x8 x9 b1 af b4 cm:Option V),σ=[some (.ref o),some (.ref rl),some (.ref rg),some (.ref gp),some (.ref O),some (.ref tk),x6,x7,x8,x9,b1,af,b4,cm,none,none,none]/\RkI H H6 rg gp O tk ta g Y m Fs Z a b i) ⟨rg,gp,[],[0,0],[],_,_,_,_,_,_,_,_,rfl,J0⟩ ?_ ?_
 ·clear J0 rg gp
  rintro i σ H6 hi ⟨rg,gp,ta,g,Y,x6,x7,x8,x9,b1,af,b4,cm,rfl,J⟩;rw[ai,RN.len,iL]at hi;have en:=ok.le;have b3:=ok.lm;have dn:i<ra.length:=by rw[RN.len];exact hi
  have ca:=RN.row i _ _ (aa dn) (aa hi);have f9:atI (ra.map V.ref) (0+(i:Int))=some (.ref ra[i]):=by rw[vh];exact qS (by rw[bg,aa dn];rfl)
  generalize ra[i]=fi at *;have g4:atI (m.map vn) (0+(i:Int)+2)=some (vn (m.getD (i+2) 0)):=by rw[show(0+(i:Int)+2)=((i+2:Nat):Int) by omega];exact kBP (by omega)
  have dx:m.getD (i+2) 0∉m.take (i+2):=zG ok.nd (be _) (by omega);have ev:m[i+2]?=some (m.getD (i+2) 0):=jI (by omega);have f1:m.take (i+1+2)=m.take (i+2)++[m.getD (i+2) 0]:=by rw[iw,ev];rfl
  obtain⟨ah,B,G,M,N,C,eF,eT,eg⟩:=ct.cut i hi;have ff:Fs[i]=G::M++[N]:=by rw[<-eF,ak,aa hi];rfl
  rw[ff]at ca;have I:=ok.inv i (by omega)
  have gd:gF m Fs Z (i+1)=gst (gF m Fs Z i).1 (gF m Fs Z i).2 (m.getD (i+2) 0) (G::M++[N]) (Z.getD i []):=by
   show gst _ _ (m.getD (i+2) 0) (Fs.getD i []) (Z.getD i [])=_;rw[eF]
  have bb:=rV (ms:=m) (Fs:=Fs) (Ts:=Z) i;have Js:=J.s;have Jh:=J.high;have Jr:=J.ring;generalize hv:m.getD (i+2) 0=v at *;have st:=λ d far wide (e1:d=_) e2 e3=>kNY (g1:=d) (far:=far) (wide:=wide) ah I.nd bb (λ z hz=>by rw[I.fst];exact I.sub z hz) (by rw[I.fst];exact dx) eT Js e1 e2 e3;rw[<-eg,<-gd]at st;have a8:=I.fst;have fM:G∈m.take (i+2):=I.sub G (xb.mpr ⟨G,by rw[eT];simp,bb G⟩);have lM:N∈m.take (i+2):=I.sub N (xb.mpr ⟨N,by rw[eT];simp,bb N⟩);have lT:(Z.getD i []).length=B.length+1+M.length+1+C.length:=by rw[eT];simp;omega
  have cl:=Js.num;have lg:g.length=(Z.getD i []).length:=Js.pre.len
  have i1:(Z.getD i []).idxOf G=B.length:=by
   have nf:G∉B:=λ z=>by
    rw[eT,cx]at ah;exact(de.mp ah).2.2 G z G (by simp) rfl
   rw[eT,show B++(G::M++[N])++C=B++G::(M++[N]++C) by simp,yu,if_neg nf,yq,AQ]
  have i2:(Z.getD i []).idxOf N=B.length+1+M.length:=by
   have nl:N∉B++(G::M):=λ z=>by
    rw[eT,show B++(G::M++[N])++C=(B++(G::M))++N::C by simp]at ah;exact(de.mp ah).2.2 N z N (by simp) rfl
   rw[eT,show B++(G::M++[N])++C=(B++(G::M))++N::C by simp,yu,if_neg nl,yq,AQ];simp;omega
  have fa:vL ((Z.getD i []).map ci) (G:Int) B.length:=by rw[<-i1];exact qG (by rw[eT];simp)
  have la:vL ((Z.getD i []).map ci) (N:Int) (B.length+1+M.length):=by rw[<-i2];exact qG (by rw[eT];simp)
  generalize hT:Z.getD i []=T at *;generalize hS:(gF m Fs Z i).1=S at *;generalize hU:(gF m Fs Z i).2=U at *;have b2:atI ((G::M++[N]).map vn) 0=some (vn G):=qS (j:=0) rfl
  have as:atI ((G::M++[N]).map vn) (-1)=some (vn N):=by rw[eE];exact yJ _ _
  refine⟨_,rfl,_,rfl,_,_,rfl,rfl,o,_,_,_,rfl,rfl,SqT.of (J.same _ _ ho),g4,_,rfl,_,rfl,rl,_,_,_,rfl,rfl,SqL.of (J.same _ _ RN.top),f9,_,_,rfl,?_⟩;have a3:=J.same _ _ ca;refine⟨_,rfl,.inl ⟨rfl,_,SqL.of Jr⟩,_,rfl,fi,_,_,_,rfl,rfl,SqT.of a3,b2,rg,T.map ci,G,B.length,rfl,rfl,(by rw[Jr,xB]),fa,_,rfl,.inl ⟨rfl,_,SqL.of Jr⟩,_,rfl,_,rfl,fi,_,_,_,rfl,rfl,SqT.of a3,as,rg,T.map ci,N,B.length+1+M.length,rfl,rfl,(by rw[Jr,xB]),la,_,_,rfl,?_⟩;refine⟨_,rfl,_,rfl,_,_,rfl,rfl,_,rfl,gp,g,B.length+1,B.length+1+M.length,rfl,J.gaps,(by omega),(by omega),λ H7 k7 h7=>?_⟩;have bw:O≠gp:=λ z=>Jh.nl.1 _ (z ▸ J.gaps);have bv:O≠tk:=λ z=>Jh.nl.1 _ (z ▸ J.told.top);have dd:rg≠O:=λ z=>Jh.nl.1 _ (z ▸ Jr);have dy:=Jh.but k7 bw;have dz:=k7 _ _ J.n1 Jr;have dv:=J.told.but k7 (pe J.n3) (λ xs e=>by rw[J.gaps]at e;cases e);have du:=k7 fi _ (λ z=>by rw[z,J.gaps]at a3;cases a3) a3;have s7:Same H H7:=xN J.same k7 J.fg;have g6:=J.n1;have d5:=J.n2;have ew:=J.n3;have gb:=J.fg;obtain⟨eb,g9,fx,f4,S1⟩:=st _ _ _ rfl rfl rfl;generalize wdr g (B.length+1) (B.length+1+M.length)=d at *
  have c1:jV (d.map V.int) (some ((B.length:Int)+1)) (some (((B.length+1+M.length:Nat):Int)+1))=((d.drop (B.length+1)).take (M.length+1)).map V.int:=by
   have:=kGE (d.map V.int) (b:=B.length+1) (c:=B.length+1+M.length+1) (by omega) (by rw[ai];omega);rw[show B.length+1+M.length+1-(B.length+1)=M.length+1 by omega,<-wq,<-ug]at this;exact this
  have bd:∀ x∈d,-(2 ^ 40)<=x/\x<=2 ^ 40:=λ x hx=>by have:=eb x hx;omega
  clear J Jh Jr Js st k7 a3 ca eb;refine⟨_,rfl,_,rfl,_,_,rfl,rfl,_,rfl,_,rfl,_,_,rfl,rfl,_,rfl,gp,_,rfl,SqL.of h7,λ q1 fd=>?_⟩;rw[c1];have g8:=kC fd (.lst (((d.drop (B.length+1)).take (M.length+1)).map V.int));refine⟨q1,(d.drop (B.length+1)).take (M.length+1),rfl,SqL.of kA,(by rw[dc];omega),(λ x hx=>bd x (ym (qh hx))),?_⟩;have hW:((d.drop (B.length+1)).take (M.length+1)).sum=kDX d B M:=rfl;rw[hW];generalize kDX d B M=wide at *;generalize upd H7 q1 (.lst (((d.drop (B.length+1)).take (M.length+1)).map V.int))=H8 at *;have ag:=dy.kept g8;have e7:=g8 _ _ dz;have e4:=dv.kept g8;have es:=g8 _ _ h7;have ax:=g8 _ _ du;have s8:=s7.trans g8;clear dy dz dv h7 du s7 g8 c1;have cn:=ag.get (uR lM);have ch:=ag.get (uR fM);refine⟨_,rfl,_,rfl,_,rfl,_,rfl,fi,_,_,_,rfl,rfl,SqT.of ax,as,O,_,rfl,cn,_,_,rfl,rfl,_,rfl,_,rfl,fi,_,_,_,rfl,rfl,SqT.of ax,b2,O,_,rfl,ch,_,_,rfl,rfl,_,_,rfl,rfl,⟨by decide,by decide⟩,?_⟩
  obtain⟨H9,pu,k9,dk⟩:=HiN.put (X':=kAV m (i+1) (gF m Fs Z (i+1)).1) (v:=v) (y:=(wide+(atS S N).2+(atS S G).2) / 2) ag (by omega) (λ p y' q=>by
   unfold kAV at q;rw[f1]at q;by_cases c:p=v
   ·left
    rw[if_pos (by simp[c]),c,fx]at q;exact⟨c,(bh q).symm⟩
   ·right
    by_cases c2:p∈m.take (i+2)
    ·rw[if_pos (by simp[c2]),f4 p (by rw[a8];exact c2)]at q
     exact⟨c,by rw[uR c2];exact q⟩
    ·rw[if_neg (by simp[c2,c])]at q
     cases q)
  refine⟨_,rfl,_,rfl,_,rfl,_,rfl,fi,_,_,_,rfl,rfl,SqT.of ax,as,O,_,rfl,cn,_,_,rfl,rfl,_,rfl,_,rfl,fi,_,_,_,rfl,rfl,SqT.of ax,b2,O,_,rfl,ch,_,_,rfl,rfl,_,_,rfl,rfl,⟨by decide,by decide⟩,_,rfl,_,rfl,O,_,rfl,pu,?_⟩;have da:=ag.nl;have cb:=k9 _ _ dd e7;have cp:=k9 _ _ (pe bw) es;have ej:=e4.but k9 (pe bv) da.2;have s9:Same H H9:=xN s8 k9 ea;clear ag e7 e4 es ax s8 k9 da cn ch pu;generalize(wide+(atS S N).2-(atS S G).2) / 2=far at *;refine⟨_,rfl,_,_,rfl,rfl,_,rfl,_,_,rfl,⟨by omega,by omega,by omega,by omega⟩,?_⟩;have nM:(((B.length+1+M.length:Nat):Int)-((B.length:Int)+1)).toNat=M.length:=by omega
  refine xZ (lo:=(B.length:Int)+1) (n:=(((B.length+1+M.length:Nat):Int)-((B.length:Int)+1)).toNat) (λ j σ Hj=>∃(a4:Option V)(a7:List au),σ=[some (.ref o),some (.ref rl),some (.ref rg),some (.ref gp),some (.ref O),some (.ref tk),some (.int (0+(i:Int))),some (vn v),some (.ref fi),some (.int (B.length:Int)),some (.int ((B.length+1+M.length:Nat):Int)),some (.int wide),some (.int far),a4,none,none,none]/\(∀ c u,c≠tk->H9 c=some u->Hj c=some u)/\TkL Hj tk a7 (Y++(cw j).map λ j=>(M.getD j 0,v,((d.drop (B.length+1)).take (j+1)).sum-far))) ⟨_,ta,rfl,λ _ _ _ e=>e,by simpa using ej⟩ ?_ ?_
  ·rintro j σ Hj hj ⟨a4,a7,rfl,kj,tj⟩
   rw[nM]at hj;have am:=kj _ _ d5 cb;have bm:=kj _ _ ew cp
   have atT:atI (T.map vn) ((B.length:Int)+1+(j:Int))=some (vn (M.getD j 0)):=by
    rw[show((B.length:Int)+1+(j:Int))=((B.length+1+j:Nat):Int) by omega];refine qS ?_;rw[bg,eT,show B++(G::M++[N])++C=(B++[G])++(M++N::C) by simp,bf (by simp only[bq,fk];omega),bq,fk,show B.length+1+j-(B.length+1)=j by omega,az hj,jI hj]
    rfl
   have c2:jV (d.map V.int) (some ((B.length:Int)+1)) (some ((B.length:Int)+1+(j:Int)+1))=((d.drop (B.length+1)).take (j+1)).map V.int:=by
    have:=kGE (d.map V.int) (b:=B.length+1) (c:=B.length+1+j+1) (by omega) (by rw[ai];omega);rw[show B.length+1+j+1-(B.length+1)=j+1 by omega,<-wq,<-ug]at this;rw[<-this]
    rfl
   refine⟨_,rfl,.inl ⟨rfl,_,SqL.of tj.top⟩,_,rfl,_,rfl,rg,_,_,_,rfl,rfl,SqL.of am,atT,_,rfl,_,rfl,_,rfl,_,_,rfl,rfl,_,rfl,_,rfl,_,_,rfl,rfl,_,rfl,gp,_,rfl,SqL.of bm,λ q2 fl=>?_⟩;rw[c2];have g2:=kC fl (.lst (((d.drop (B.length+1)).take (j+1)).map V.int));refine⟨q2,(d.drop (B.length+1)).take (j+1),rfl,SqL.of kA,(by rw[dc];omega),(λ x hx=>bd x (ym (qh hx))),_,rfl,_,_,rfl,rfl,yS3,λ t nt=>?_⟩;generalize upd Hj q2 (.lst (((d.drop (B.length+1)).take (j+1)).map V.int))=Hk at *;have g3:=kC nt (.tup [vn (M.getD j 0),vn v,.int (((d.drop (B.length+1)).take (j+1)).sum-far)]);have ht:=kA (H:=Hk) (a:=t) (o:=.tup [vn (M.getD j 0),vn v,.int (((d.drop (B.length+1)).take (j+1)).sum-far)]);have d3:=g2.trans g3;have ce:=tj.kept d3;generalize upd Hk t (.tup [vn (M.getD j 0),vn v,.int (((d.drop (B.length+1)).take (j+1)).sum-far)])=Hm at *;have b7:=tj.len;rw[bq,ai,iI]at b7;refine⟨tk,_,_,rfl,rfl,ce.top,(by rw[ai];exact kQ (by omega)),?_⟩;have k3:∀ c u,c≠tk->Hm c=some u->upd Hm tk (.lst (a7.map V.ref++[.ref t])) c=some u:=λ c u nc e=>by rw[kM nc];exact e
   have db:∀ c xs,Hm c=some (.tup xs)->upd Hm tk (.lst (a7.map V.ref++[.ref t])) c=some (.tup xs):=λ c xs e=>k3 c _ (λ z=>by rw[z,ce.top]at e;cases e) e;refine⟨_,a7++[t],rfl,λ c u nc e=>k3 c u nc (d3 _ _ (kj c u nc e)),?_⟩;have eL:Y++(cw (j+1)).map (λ j=>(M.getD j 0,v,((d.drop (B.length+1)).take (j+1)).sum-far))=(Y++(cw j).map (λ j=>(M.getD j 0,v,((d.drop (B.length+1)).take (j+1)).sum-far)))++[(M.getD j 0,v,((d.drop (B.length+1)).take (j+1)).sum-far)]:=by rw[Ba,eE,cx];rfl
   rw[eL];refine⟨by rw[eE];exact kA,by rw[bq,bq,tj.len];rfl,λ i' c s e1 e2=>?_⟩;rcases snoc e1 with⟨cc,e1⟩ | ⟨ei,e1⟩
   ·rw[az (by rw[<-tj.len];exact cc)]at e2
    exact db _ _ (ce.row i' c s e1 e2)
   ·rw[ei,tj.len,di]at e2
    cases e1
    cases e2
    exact db _ _ ht
  ·rintro σ Hj ⟨a4,a7,rfl,kj,tj⟩
   rw[nM]at tj;have am:=kj _ _ d5 cb;have bm:=kj _ _ ew cp;have eq:=dk.but kj bv;have sj:Same H Hj:=xN s9 kj fw;clear cb cp dk ej s9 kj
   have c3:jV (T.map vn) none (some ((B.length:Int)+1))=(B++[G]).map vn:=by
    have:=wE (T.map vn) (k:=B.length+1) (by rw[ai];omega);rw[<-ug,eT,show B++(G::M++[N])++C=(B++[G])++(M++N::C) by simp,xi (by simp)]at this;rw[eT,show B++(G::M++[N])++C=(B++[G])++(M++N::C) by simp];exact this
   have c4:jV (T.map vn) (some ((B.length+1+M.length:Nat):Int)) none=(N::C).map vn:=by
    have:=yI (T.map vn) (k:=B.length+1+M.length) (by rw[ai];omega);rw[this,<-wq,eT,show B++(G::M++[N])++C=(B++G::M)++(N::C) by simp,BB (by simp;omega)]
   have c5:jV (d.map V.int) none (some ((B.length:Int)+1))=(d.take (B.length+1)).map V.int:=by
    have:=wE (d.map V.int) (k:=B.length+1) (by rw[ai];omega);rw[<-ug]at this;exact this
   have c6:jV (d.map V.int) (some (((B.length+1+M.length:Nat):Int)+1)) none=(d.drop (B.length+1+M.length+1)).map V.int:=by
    have:=yI (d.map V.int) (k:=B.length+1+M.length+1) (by rw[ai];omega);rw[<-wq]at this;exact this
   refine⟨_,rfl,_,rfl,_,_,rfl,rfl,_,rfl,rg,_,rfl,SqL.of am,λ s1 ee=>?_⟩;rw[c3];have bn:=kC ee (.lst ((B++[G]).map vn));have b8:=kA (H:=Hj) (a:=s1) (o:=.lst ((B++[G]).map vn));generalize upd Hj s1 (.lst ((B++[G]).map vn))=K1 at *;refine⟨_,rfl,yS1,λ s2 d8=>?_⟩;have a9:=kC d8 (.lst [vn v]);have bc:=kA (H:=K1) (a:=s2) (o:=.lst [vn v]);generalize upd K1 s2 (.lst [vn v])=K2 at *;refine⟨s1,s2,_,_,rfl,rfl,a9 _ _ b8,bc,(by simp only[ai,bq,gn,qm];exact gh (kQ (by omega))),λ s3 d9=>?_⟩;have ba:=kC d9 (.lst ((B++[G]).map vn++[vn v]));have b9:=kA (H:=K2) (a:=s3) (o:=.lst ((B++[G]).map vn++[vn v]));generalize upd K2 s3 (.lst ((B++[G]).map vn++[vn v]))=K3 at *;have a2:=bn.trans (a9.trans ba);refine⟨_,rfl,_,rfl,_,rfl,rg,_,rfl,SqL.of (a2 _ _ am),λ s4 e0=>?_⟩;rw[c4];have a5:=kC e0 (.lst ((N::C).map vn));have bo:=kA (H:=K3) (a:=s4) (o:=.lst ((N::C).map vn));generalize upd K3 s4 (.lst ((N::C).map vn))=K4 at *;refine⟨s3,s4,_,_,rfl,rfl,a5 _ _ b9,bo,(by simp only[ai,bq,gn,qm,dc,iR];exact gh (kQ (by omega))),λ s5 c8=>?_⟩;have bl:=kC c8 (.lst ((B++[G]).map vn++[vn v]++(N::C).map vn));have co:=kA (H:=K4) (a:=s5) (o:=.lst ((B++[G]).map vn++[vn v]++(N::C).map vn));generalize upd K4 s5 (.lst ((B++[G]).map vn++[vn v]++(N::C).map vn))=K5 at *;have eR:(B++[G]).map vn++[vn v]++(N::C).map vn=(Z.getD (i+1) []).map vn:=by rw[eg];simp
   rw[eR]at co;have e6:s5≠tk:=(kJ ((a2.trans a5) _ _ tj.top) c8).symm;have gA:=a2.trans (a5.trans bl);clear b8 bc b9 bo bn a9 ba a5 bl a2 ee d8 d9 e0 c8 c3 c4 eR;have ek:=tj.kept gA;have ey:=eq.kept gA;have e9:=gA _ _ bm;have sA:=sj.trans gA;clear gA am bm eq sj;refine⟨_,rfl,_,rfl,_,_,rfl,rfl,_,rfl,gp,_,rfl,SqL.of e9,λ u1 ft=>?_⟩;rw[c5];have bn:=kC ft (.lst ((d.take (B.length+1)).map V.int));have b8:=kA (H:=K5) (a:=u1) (o:=.lst ((d.take (B.length+1)).map V.int));generalize upd K5 u1 (.lst ((d.take (B.length+1)).map V.int))=L1 at *;refine⟨_,rfl,_,rfl,_,rfl,_,_,rfl,rfl,yS2,λ u2 f6=>?_⟩;have a9:=kC f6 (.lst [V.int far,V.int (wide-far)]);have bc:=kA (H:=L1) (a:=u2) (o:=.lst [V.int far,V.int (wide-far)]);generalize upd L1 u2 (.lst [V.int far,V.int (wide-far)])=e8 at *;refine⟨u1,u2,_,_,rfl,rfl,a9 _ _ b8,bc,(by rw[ai,dc];exact gh (kQ (by show _+2<=1000;omega))),λ u3 fn=>?_⟩;have ba:=kC fn (.lst ((d.take (B.length+1)).map V.int++[V.int far,V.int (wide-far)]));have b9:=kA (H:=e8) (a:=u3) (o:=.lst ((d.take (B.length+1)).map V.int++[V.int far,V.int (wide-far)]));generalize upd e8 u3 (.lst ((d.take (B.length+1)).map V.int++[V.int far,V.int (wide-far)]))=d2 at *;have a2:=bn.trans (a9.trans ba);refine⟨_,rfl,_,rfl,_,_,rfl,rfl,_,rfl,gp,_,rfl,SqL.of (a2 _ _ e9),λ u4 f3=>?_⟩;rw[c6];have a5:=kC f3 (.lst ((d.drop (B.length+1+M.length+1)).map V.int));have bo:=kA (H:=d2) (a:=u4) (o:=.lst ((d.drop (B.length+1+M.length+1)).map V.int));generalize upd d2 u4 (.lst ((d.drop (B.length+1+M.length+1)).map V.int))=fm at *;refine⟨u3,u4,_,_,rfl,rfl,a5 _ _ b9,bo,(by simp only[ai,bq,gn,qm,dc,iR];exact gh (kQ (by omega))),λ u5 b6=>?_⟩;have bl:=kC b6 (.lst ((d.take (B.length+1)).map V.int++[V.int far,V.int (wide-far)]++(d.drop (B.length+1+M.length+1)).map V.int));have fv:=kA (H:=fm) (a:=u5) (o:=.lst ((d.take (B.length+1)).map V.int++[V.int far,V.int (wide-far)]++(d.drop (B.length+1+M.length+1)).map V.int));have gB:=a2.trans a5;have eh:=gB _ _ co;have gC:=gB.trans bl;have fu:H u5=none:=(sA.trans gB).free b6;refine⟨s5,u5,a7,_,_,_,_,_,_,_,_,_,_,rfl,sA.trans gC,gC _ _ co,?_,ey.kept gC,ek.kept gC,S1,fu,kJ eh b6,e6,(kJ ((ek.kept gB).top) b6).symm⟩;rw[fv];simp
 ·clear J0 rg gp
  rintro σ H6 ⟨rg,gp,ta,g,Y,x6,x7,x8,x9,b1,af,b4,cm,rfl,J⟩;rw[ai,RN.len,iL]at J;have en:=ok.le;have b3:=ok.lm;have I:=ok.inv Fs.length (be _);have bb:=rV (ms:=m) (Fs:=Fs) (Ts:=Z) Fs.length;have a8:=I.fst;rw[<-b3,iG]at a8;obtain⟨J1,J2,J3,J4,J5,Js,J7,J8,J9,fh⟩:=J;have f8:∀ p,p∈m->kAV m Fs.length (gF m Fs Z Fs.length).1 p=some (atS (gF m Fs Z Fs.length).1 p).2:=λ p hp=>uR (by rw[<-b3,iG];exact hp);generalize Z.getD Fs.length []=T at *;generalize(gF m Fs Z Fs.length).1=S at *;generalize(gF m Fs Z Fs.length).2=U at *;have cl:=Js.num;have lg:g.length=T.length:=Js.pre.len;have bd:∀ x∈g,-(2 ^ 40)<=x/\x<=2 ^ 40:=λ x hx=>by have:=kFS Js.con Js.pre x hx;omega
  refine λ fo a6=>?_;have g7:=kC a6 (.dK []);have h7:HiN (upd H6 fo (.dK [])) fo (xOf [] S) 0:=⟨[],kA,be _,λ p y e=>by cases e⟩;have d6:H fo=none:=J1.free a6;have r7:=g7 _ _ J2;have p7:=g7 _ _ J3;have dp:=J4.kept g7;have t7:=J5.kept g7;have s7:=J1.trans g7;have g0:rg≠fo:=kJ J2 a6;have f7:gp≠fo:=kJ J3 a6;have er:tk≠fo:=kJ J5.top a6
  have d7:O≠fo:=by
   obtain⟨kv,e,_⟩:=J4;exact kJ e a6
  generalize upd H6 fo (.dK [])=H7 at *;clear J1 J2 J3 J4 J5 J7 J8 J9 fh g7 a6;refine⟨_,rfl,rg,_,rfl,.inl (SqL.of r7),_,rfl,(by rw[ai];omega),(by rw[ai];omega),?_⟩;refine xZ (n:=((((T.map vn).length:Nat):Int)).toNat) (λ j σ Hj=>∃ a4:Option V,σ=[some (.ref o),some (.ref rl),some (.ref rg),some (.ref gp),some (.ref O),some (.ref tk),x6,x7,x8,x9,b1,af,b4,a4,some (.ref fo),none,none]/\(∀ c u,c≠fo->H7 c=some u->Hj c=some u)/\HiN Hj fo (xOf (T.take j) S) j) ⟨_,rfl,λ _ _ _ e=>e,h7⟩ ?_ ?_
  ·rintro j σ Hj hj ⟨a4,rfl,kj,al⟩
   rw[ai,iL]at hj;have rj:=kj _ _ g0 r7;have pj:=kj _ _ f7 p7
   have c7:jV (g.map V.int) none (some (0+(j:Int)+1))=(g.take (j+1)).map V.int:=by
    rw[show(0+(j:Int)+1)=((j+1:Nat):Int) by omega,wE (g.map V.int) (k:=j+1) (by rw[ai];omega),<-ug]
   refine⟨_,rfl,_,rfl,_,_,rfl,rfl,_,rfl,gp,_,rfl,SqL.of pj,λ q nq=>?_⟩;rw[c7];have gq:=kC nq (.lst ((g.take (j+1)).map V.int));have sm:(g.take (j+1)).sum=(atS S (T.getD j 0)).1:=Js.pre.at' j _ (jI hj);refine⟨q,g.take (j+1),rfl,SqL.of kA,(by rw[dc];omega),(λ x hx=>bd x (qh hx)),?_⟩;rw[sm];generalize upd Hj q (.lst ((g.take (j+1)).map V.int))=Hq at *;have atT:atI (T.map vn) (0+(j:Int))=some (vn (T.getD j 0)):=by rw[vh];exact kBP hj
   obtain⟨Hr,pu,kr,d0⟩:=HiN.put (X':=xOf (T.take (j+1)) S) (v:=T.getD j 0) (y:=(atS S (T.getD j 0)).1) (al.kept gq) (by omega) (λ p y' q=>kDW (by rw[iw,jI hj];simp) q);refine⟨_,rfl,_,rfl,_,rfl,rg,_,_,_,rfl,rfl,SqL.of (gq _ _ rj),atT,fo,_,rfl,pu,?_⟩;exact⟨_,rfl,λ c u nc e=>kr c u nc (gq _ _ (kj c u nc e)),d0⟩
  ·rintro σ Hj ⟨a4,rfl,kj,al⟩
   rw[ai,iL,iG]at al;have t8:=t7.but kj er (λ xs e=>by obtain⟨kv,e',_⟩:=h7;rw[e']at e;cases e);have fy:=dp.but kj d7;have s8:Same H Hj:=xN s7 kj d6;clear r7 p7 t7 dp s7 kj h7;have b7:=t8.len;refine⟨_,rfl,tk,ta.map V.ref,rfl,SqL.of t8.top,?_⟩;refine kPE (xs:=ta.map V.ref) (λ j σ Hk=>∃ y7 ap bi:Option V,σ=[some (.ref o),some (.ref rl),some (.ref rg),some (.ref gp),some (.ref O),some (.ref tk),x6,y7,x8,x9,b1,af,b4,a4,some (.ref fo),ap,bi]/\(∀ c u,c≠fo->Hj c=some u->Hk c=some u)/\HiN Hk fo (xOf (T++(Y.drop (Y.length-j)).map (·.1)) S) (T.length+j)) ⟨_,_,_,rfl,λ _ _ _ e=>e,by simpa using al⟩ ?_ ?_ ?_
   ·rintro j σ Hk _ ⟨y7,ap,bi,rfl,kk,hk⟩
    exact SqL.of (kk _ _ er t8.top)
   ·rintro j u σ Hk hu hj ⟨y7,ap,bi,rfl,kk,hk⟩
    rw[ai]at hu hj;rw[bg]at hu;obtain⟨c,ec,rfl⟩:=cu.mp hu;rw[b7]at ec hj;have el:=aa (l:=Y) (i:=Y.length-1-j) (by omega);generalize hE:Y[Y.length-1-j]=e at *;have em:e∈Y:=cv el;have d1:=Js.tkn.off e em
    have there:e.2.1∈T++(Y.drop (Y.length-j)).map (·.1):=by
     rcases Js.tkn.ord _ e el with h | ⟨i',e',h1,h2,h3⟩
     ·exact cq _ h
     ·refine ck _ (iP.mpr ⟨e',?_,h3⟩)
      refine Ac.mpr ⟨i'-(Y.length-j),?_⟩;rw[AE,show Y.length-j+(i'-(Y.length-j))=i' by omega];exact h2
    have eD:Y.drop (Y.length-(j+1))=e::Y.drop (Y.length-j):=by
     rw[show Y.length-(j+1)=Y.length-1-j by omega,yz (by omega),hE,show Y.length-1-j+1=Y.length-j by omega]
    have dm:=kk c _ (λ z=>by have:=t8.row _ _ _ ec el;obtain⟨kv,e',_⟩:=al;rw[z,e']at this;cases this) (t8.row _ _ _ ec el);refine⟨c,_,rfl,SqT.of dm,rfl,_,_,rfl,_,_,rfl,_,_,rfl,rfl,?_⟩;have dg:=hk.get (sR there)
    obtain⟨Hr,pu,kr,d0⟩:=HiN.put (X':=xOf (T++(Y.drop (Y.length-(j+1))).map (·.1)) S) (v:=e.1) (y:=(atS S e.2.1).1+e.2.2) hk (by omega) (λ p y' q=>by
     rw[<-d1];exact kDW (by rw[eD];simp;intro x;grind) q)
    refine⟨_,rfl,_,rfl,fo,_,rfl,dg,_,rfl,_,_,rfl,rfl,_,rfl,_,rfl,fo,_,rfl,pu,?_⟩;exact⟨_,_,_,rfl,λ c u nc e=>kr c u nc (kk c u nc e),d0⟩
   ·rintro σ Hk ⟨y7,ap,bi,rfl,kk,hk⟩
    rw[ai,b7,CW,Cw]at hk;have f2:=fy.but kk d7;have s9:Same H Hk:=xN s8 kk d6;refine⟨_,rfl,o,_,rfl,.inr (SqT.of (s9 _ _ ho)),_,rfl,(by rw[ai];omega),(by rw[ai];omega),λ D nD=>?_⟩
    have all:∀ p,p∈m->p∈T++Y.map (·.1):=λ p hp=>by
     rcases Js.tkn.cov p (by rw[a8];exact hp) with h | ⟨e,he,q⟩
     ·exact cq _ h
     ·exact ck _ (iP.mpr ⟨e,he,q⟩)
    refine wU (lo:=0) (n:=((((m.map vn).length:Nat):Int)).toNat) (λ j σ H3=>∃(x0:Option V)(us:List au),σ=[x0,some (.ref fo),some (.ref O)]/\Same Hk H3/\H3 D=some (.lst (us.map V.ref))/\us.length=j/\∀(p:Nat)(a:au),us[p]?=some a->H3 a=some (.tup [.int (atS S p).1,.int (atS S p).2])) ⟨none,[],rfl,kC nD _,kA,rfl,λ p a e=>by simp at e⟩ ?_ ?_
    ·rintro j σ H3 hj ⟨x0,us,rfl,g3,hD,lu,hu⟩
     have fz:j<m.length:=by rw[ai,iL]at hj;exact hj
     have jm:j∈m:=ex.mem_iff.mpr (jo.mpr fz);have dg:DGet H3 fo (.int (0+(j:Int))) (some (.int (atS S j).1)):=by rw[vh];exact(hk.kept g3).get (sR (all j jm))
     have f5:DGet H3 O (.int (0+(j:Int))) (some (.int (atS S j).2)):=by rw[vh];exact(f2.kept g3).get (f8 j jm)
     refine⟨_,rfl,_,rfl,fo,_,rfl,dg,_,rfl,_,rfl,O,_,rfl,f5,yS2,λ t nt=>?_⟩;have gt:=kC nt (.tup [.int (atS S j).1,.int (atS S j).2]);have ht:=kA (H:=H3) (a:=t) (o:=.tup [.int (atS S j).1,.int (atS S j).2]);generalize upd H3 t (.tup [.int (atS S j).1,.int (atS S j).2])=H4 at *;have d4:=gt _ _ hD;refine⟨_,d4,(by rw[ai,lu];exact kQ (by omega)),?_⟩
     have st:∀ b xs,H4 b=some (.tup xs)->upd H4 D (.lst (us.map V.ref++[.ref t])) b=some (.tup xs):=λ b xs e=>by
      rw[kM λ z=>by rw[z,d4]at e;cases e];exact e
     refine⟨_,us++[t],rfl,qJ nD (g3.trans gt),by rw[eE];exact kA,by rw[bq,lu];rfl,λ p a e=>?_⟩;rcases snoc e with⟨q,e⟩ | ⟨ep,e⟩
     ·exact st _ _ (gt _ _ (hu p a e))
     ·cases e
      rw[ep,lu];exact st _ _ ht
    ·rintro σ H3 ⟨x0,us,rfl,g3,hD,lu,hu⟩
     refine⟨D,_,rfl,.inl ⟨SqL.of hD,λ t' nt=>?_⟩⟩;have gt:=kC nt (.tup (us.map V.ref));exact k t' us _ (s9.trans (g3.trans gt)) kA (by rw[lu,ai,iL]) λ p a e=>gt _ _ (hu p a e)
end
section
structure RwT(H:Hp)(t:au)(ta:List au)(L:List (List Int)):Prop where
 top:H t=some (.tup (ta.map V.ref))
 len:ta.length=L.length
 row:∀(i:Nat)(a:au)(r:List Int),ta[i]?=some a->L[i]?=some r->H a=some (.tup (r.map V.int))
structure RwL(H:Hp)(t:au)(ta:List au)(L:List (List Int)):Prop where
 top:H t=some (.lst (ta.map V.ref))
 len:ta.length=L.length
 row:∀(i:Nat)(a:au)(r:List Int),ta[i]?=some a->L[i]?=some r->H a=some (.tup (r.map V.int))
def RwL.kept{H H':Hp}{t:au}{b:List au}{L:List (List Int)}(h:RwL H t b L)(g:Same H H'):RwL H' t b L:=⟨g _ _ h.top,h.len,λ i a r d c=>g _ _ (h.row i a r d c)⟩
def uB(r:List Int):Cs:=.tuple (r.map kb)
def kMS{H:Hp}(r:List Int):DtAll K H (r.map kb) (r.map V.int):=by
 induction r with
 | nil=>unfold DtAll;rfl
 | cons x r ih =>
  rw[gv,gv];unfold DtAll;exact⟨_,_,rfl,(by unfold Dt;rfl),ih⟩
theorem sH{H:Hp}:∀{c:List au}{L:List (List Int)},c.length=L.length->(∀(i:Nat)(a:au)(r:List Int),c[i]?=some a->L[i]?=some r->H a=some (.tup (r.map V.int)))->DtAll K H (L.map uB) (c.map V.ref)
 | [],[],_,_=>by unfold DtAll;rfl
 | s::ss,t::T,hl,h=>by
  rw[gv,gv];unfold DtAll;refine⟨_,_,rfl,?_,sH (by simpa using hl) λ i b u f d=>h (i+1) b u (by simpa using f) (by simpa using d)⟩;unfold uB Dt;exact⟨s,_,rfl,SqT.of (h 0 s t rfl rfl),kMS t⟩
 | [],_::_,hl,_=>by simp at hl
 | _::_,[],hl,_=>by simp at hl
def RwT.dt{H:Hp}{t:au}{a:List au}{L:List (List Int)}(h:RwT H t a L):Dt K H (.tuple (L.map uB)) (.ref t):=by
 unfold Dt;exact⟨t,_,rfl,SqT.of h.top,sH h.len h.row⟩
def RwL.dt{H:Hp}{t:au}{a:List au}{L:List (List Int)}(h:RwL H t a L):Dt K H (.list (L.map uB)) (.ref t):=by
 unfold Dt;exact⟨t,_,rfl,SqL.of h.top,sH h.len h.row⟩
def kIH(r:List Int):ky (r.map kb)=true/\ow (r.map kb)=0:=by
 induction r with
 | nil=>exact⟨rfl,by decide⟩
 | cons x l ih=>simp[ky,ow,ou,qz,ih]
def nR(L:List (List Int)):ky (L.map uB)=true/\ow (L.map uB)<=1:=by
 induction L with
 | nil=>exact⟨rfl,by decide⟩
 | cons x l ih =>
  obtain⟨h1,a⟩:=kIH x;simp only[gv,ky,ow,uB,ou,qz,h1,a,ih.1];have:=ih.2;refine⟨rfl,?_⟩;unfold uB at this;omega
def kKP(L:List (List Int)):mh (.list (L.map uB))=true:=by
 obtain⟨h1,a⟩:=nR L;unfold mh;simp only[ou,qz,h1]
 first | (simp;omega) | (rw[iQ];exact⟨rfl,decide_eq_true (by omega)⟩) | simp_all
def kII(l:List Int):ie (l.map kb) (l.map kb)=true:=by
 induction l with
 | nil=>rfl
 | cons x l ih=>simp[ie,jl,ih]
def nS(L:List (List Int)):ie (L.map uB) (L.map uB)=true:=by
 induction L with
 | nil=>rfl
 | cons x l ih=>simp[ie,jl,ih,uB,kII]
def kHL(L:List (List Int)):jl (.list (L.map uB)) (.list (L.map uB))=true:=by simp[jl,nS]
structure PtT(H:Hp)(t:au)(ta:List au)(n:Nat)(X:Nat->Int×Int):Prop where
 top:H t=some (.tup (ta.map V.ref))
 len:ta.length=n
 row:∀(p:Nat)(a:au),ta[p]?=some a->H a=some (.tup [.int (X p).1,.int (X p).2])
theorem PtT.rw{H:Hp}{t:au}{d:List au}{n:Nat}{X:Nat->Int×Int}(h:PtT H t d n X):RwT H t d ((cw n).map λ p=>[(X p).1,(X p).2]) :=
 ⟨h.top,by rw[ai,iI,h.len],λ i a r b c=>by
  have f:i<n:=by rw[<-h.len];exact(aj.mp b).1
  rw[bg,DD f]at c;cases c
  exact h.row i a b⟩
def kKO(L:List (List Int)):mh (.tuple (L.map uB))=true:=by
 obtain⟨h1,a⟩:=nR L;unfold mh;simp only[ou,qz,h1]
 first | (simp;omega) | (rw[iQ];exact⟨rfl,decide_eq_true (by omega)⟩) | simp_all
def kHK(L:List (List Int)):jl (.tuple (L.map uB)) (.tuple (L.map uB))=true:=by simp[jl,nS]
def kSK{W:Rows}{ms:List Nat}{a b c:Nat}{Fs Ts:List (List Nat)}(T:Tr W)(j:Tri.E W a b)(A:ms.Perm (cw W.length))(Q:3<=W.length)(d:zN W a b c ms=some (Fs,Ts)):GCt ms Fs Ts a b/\(Tri.E W a c->Tri.E W b c->atS (gF ms Fs Ts Fs.length).1 a=(0,0)/\atS (gF ms Fs Ts Fs.length).1 b=(2*(Fs.length:Int),0)/\atS (gF ms Fs Ts Fs.length).1 c=((Fs.length:Int),(Fs.length:Int))):=by
 have S:=T.nb;have O:ms.length=W.length:=by rw[A.length_eq,iI]
 have g:ms.Nodup:=A.nodup_iff.mpr uy;unfold zN at d
 split at d
 case isFalse=>cases d
 rename_i ends
 obtain⟨s,q,u⟩:=ends
 have m:ms.take 2=[a,b]:=by
  match ms,s,q with
  | x::y::r,s,q =>
   cases s
   cases q
   rfl
 have h0:Top W (ms.take 2) (ms.take 2):=by rw[m];exact vR S j
 obtain⟨v,U⟩:=xH d;have get:∀(L:List (List Nat))(i:Nat),i<L.length->L[i]?=some (L.getD i []):=λ L i h=>by rw[ak,aa h];rfl
 refine⟨⟨m,by rw[ak,oN d,m];rfl,λ i G=>?_⟩,λ o p=>?_⟩
 ·obtain⟨N,B,f,M,l,C,H,J,I⟩:=bN S.sym g h0 (by omega) d i _ _ _ (get Fs i G) (get Ts i (by omega)) (get Ts (i+1) (by omega))
  exact⟨N.nd,B,f,M,l,C,H,J,I⟩
 ·have R:=kMI S T.three g m j (by omega) d Fs.length (by omega)
  refine⟨R.ca,R.cb,?_⟩;obtain⟨n,D⟩ : ∃ n,ms.length=n+3:=⟨ms.length-3,by omega⟩;rw[show ms.length-2=n+1 by omega]at d v;rw[v];refine kIA S T.three g m j D.symm d ?_ o p;rw[ml,show ms.length-1=n+2 by omega]at u;rw[ak,u]
  rfl
def kRQ(B:Fx){f:au}{fd:tw}(F:Fun K "law" "law" kEV f fd):FnOk P w K mg base CX0 11 f fd ["_law_script"] (nE K):=by
 refine F.ok sc_law (λ vs H Q E h=>?_) (λ c5 A bt s H vs Q E O h=>?_)
 ·obtain⟨a,ns,rfl,_⟩:=h
  rfl
 obtain⟨a,ns,rfl,hS,b8,q⟩:=h
 refine⟨_,(kE (pst 1 sc_law.nd (pf (kCY B) O (p2 (pv 0) kI)))
   (kE (pst 2 sc_law.nd (pix kW (qO (p2 (kT qF kI (pf (qR B) O (p2 (pv 1) kI))) (kT qF kI (pf (qR B) O (p2 (pv 1) kI))))) (xI kIV rfl (B.z B.y10) Cp (p1 (vB kLK (pf (qR B) O (p2 (pv 1) kI)) kI (jC _))))))
   (kE (pst 3 sc_law.nd (pf (kCX B) O (p2 (pf (dZ B) O (p2 (pv 1) (pv 2))) (pf (rJ B) O (p2 (pv 1) (pv 2))))))
   (kE (pst 4 sc_law.nd (pf (kAJ B) O (p2 (pv 1) (pv 3))))
   (kE (xV (pf (hJ B) O (kH (pv 1) (kH (pv 3) (kH (pv 4) kY)))) (jR (n:=2) rfl (kS (pgn 5 sc_law.nd) (kS (pgn 6 sc_law.nd) qV))))
   (kE (pst 7 sc_law.nd (pf (kOO B) O (kH (pv 3) (kH (pv 4) (kH (pv 5) kY)))))
   (kE (yW (qK (rD O.units) (pv 7) (pf (dY B) O (p2 (pv 5) (pv 6))) (jC _)) (kL (kX kFG)) jL)
   (kL (kX (vB (kCW O.units) (zB (Nc:=["_law_p","_law_found"]) (js:=[none,some 7]) rfl rfl (aH (pv 4)) (CS.of rfl rfl) rfl (λ C b2 am fp an=>(pgc 0)) (λ C b2 am fp an D L=>(jG (xD (pix (show IxR _ (kCQ K) from qC) (pv 1) (pv 0)))))) (qO (kH (qT (p2 kI kI)) (kH (qT (p2 (kT xW (kT rE kI (pv 2)) kI) kI)) (kH (qT (p2 (kT xW (pv 2) kI) (kT xW (pv 2) kI))) kY)))) (jC _))))))))))),?_⟩
 try dsimp only[qY]
 refine⟨_,rfl,a,ns,_,rfl,hS,b8,(by decide),(by decide),λ p x y H1 hx g1 np hp=>?_⟩;have pA:PotAt H1 p:=⟨x,y,hp,hx⟩;have np:H p=none:=np;refine⟨_,rfl,p,_,rfl,pA,(by show(0:Int)<12;decide),fA (by decide),λ d1 H2 c6 ca s2 p2=>⟨_,_,rfl,rfl,?_⟩⟩;refine⟨_,rfl,p,_,rfl,p2,(by show(0:Int)<38;decide),fA (by decide),λ d2 H3 c4 c8 s3 p3=>⟨_,_,rfl,rfl,yS2,λ ln b0=>?_⟩⟩;have gl:=kC b0 (.lst [V.int (3+d1),V.int (3+d2)]);obtain⟨px,py,ax,_⟩:=id p3;have lp:ln≠p:=(kJ ax b0).symm;refine⟨_,rfl,p,_,rfl,p3.kept gl,(by show(0:Int)<8;decide),fA (by decide),λ d3 H4 cb c2 s4 p4=>⟨rfl,.inr ⟨_,rfl,?_⟩⟩⟩;have b1:=s4 _ _ lp (kA (H:=H3) (a:=ln) (o:=.lst [V.int (3+d1),V.int (3+d2)]))
 obtain⟨d,n3,bv,aw⟩ : ∃ d:Nat,3<=d/\d<=40/\atI [V.int (3+d1),V.int (3+d2)] (if decide (V.int d3=V.int 7)=true then 1 else 0)=some (vn d):=by
  by_cases c:decide (V.int d3=V.int 7)=true
  ·rw[if_pos c]
   refine⟨(3+d2).toNat,by omega,by omega,?_⟩;have:((3+d2).toNat:Int)=3+d2:=by omega
   unfold vn;rw[this];exact qS (j:=1) rfl
  ·rw[if_neg c]
   refine⟨(3+d1).toNat,by omega,by omega,?_⟩;have:((3+d1).toNat:Int)=3+d1:=by omega
   unfold vn;rw[this];exact qS (j:=0) rfl
 refine⟨ln,_,_,_,rfl,rfl,SqL.of b1,aw,?_⟩;have k4:Same H H4:=keep (g1.trans (Same.refl _)) np (s2.trans (s3.trans ((SameBut.of gl).trans s4)));clear b1 aw ax lp gl;refine⟨_,rfl,_,rfl,p,d,rfl,p4,n3,bv,λ r A L H5 s5 p5 X GL lL NW=>?_⟩;refine⟨_,rfl,_,rfl,p,d,rfl,p5,by omega,λ l nm H6 s6 p6 nl la hl pm=>?_⟩;have X6:=X.but NW.pot.1 NW.pot.2 s6;rw[<-lL]at pm;refine⟨r,l,A,L,nm,rfl,X6,hl,pm,cN GL (by omega),(λ p row e x hx=>(GL.rng p row x e hx).1),λ t W H7 g7 hW lW b3=>?_⟩;have G:Good W:=kKT GL (kHU pm lW b3);have a8:W.length<=42:=by omega
 have k6:Same H H6:=keep k4 np (s5.trans s6);have k7:=k6.trans g7;have p7:=p6.kept g7;clear X X6 NW hl b3;refine⟨_,rfl,_,rfl,p,t,W,rfl,p7,hW,G,a8,λ z I y' N H8 s8 p8 nz hz M Y=>?_⟩;have a6:=hW.pot s8 p7;have k8:Same H H8:=keep k7 np s8;refine⟨_,rfl,_,rfl,_,rfl,p,t,z,W,I,y',N,rfl,p8,a6,G,a8,hz,M,Y,λ tt o rl ra ms U Ts H9 s9 p9 as ho RN ag Z=>?_⟩;have al:=a6.pot s9 p8;obtain⟨c3,c9,b5,_⟩:=id p8;have ab:=s9 z _ (λ q=>by rw[q,b5]at hz;cases hz) hz;have k9:Same H H9:=keep k8 np s9;refine⟨tt,_,rfl,SqT.of as,rfl,_,_,rfl,_,_,rfl,rfl,?_⟩;have S:=(Wb.of G).toNb;have T:Tr W:=⟨S,a8,(jS G).1,(jS G).2⟩;obtain⟨J,m1,m2,m3,g,m⟩:=qQ S T.three M;rw[m1]at Y;have Y:J=y':=Y;subst Y;have a3:Tri.E W I J:=S.sym _ _ m;have ok:=kMH T a3 Z G.three ag;obtain⟨ct,bs⟩:=kSK T a3 Z G.three ag;obtain⟨ba,bb,bc⟩:=bs M (S.sym _ _ g);have b4:ms.length=W.length:=by rw[Z.length_eq,iI]
 have bx:=ok.lm;have GG:Gw H9 t z o W ms I J N:=⟨al,T,ab,ho,Z,G.three,a3⟩;have bo:Tri.E W I N/\(nxt W (I,N)).2=J:=⟨M,by rw[m1]⟩
 have bi:∀ v∈[I,J,N],v<W.length:=λ v hv=>by
  rcases dr.mp hv with rfl | hv
  ·exact(S.e M).1
  ·rcases dr.mp hv with rfl | hv
   ·exact(S.e a3).2.1
   ·rw[bu.mp hv]
    exact(S.e M).2.1
 refine⟨_,rfl,_,rfl,_,rfl,t,z,o,W,ms,I,J,N,U,Ts,rfl,GG,bo,ag,λ t' ac bm af b6 a5 a0=>?_⟩;have du:PtT bm t' ac W.length (atS (gF ms U Ts U.length).1):=⟨b6,a5,a0⟩;refine⟨_,rfl,_,rfl,_,rfl,o,rl,ra,ms,U,Ts,I,J,rfl,af _ _ ho,RN.kept af,ok,ct,(by rw[b4];exact Z),λ t2 b7 a9 a7 a2 ah a1=>?_⟩;have d2:PtT a9 t2 b7 W.length (atS (gF ms U Ts U.length).1):=⟨a2,by rw[ah,b4],a1⟩;have d1:PtT a9 t' ac W.length (atS (gF ms U Ts U.length).1):=⟨a7 _ _ du.top,du.len,λ p a e=>a7 _ _ (du.row p a e)⟩;refine⟨_,_,d1.rw.dt,d2.rw.dt,kKO _,kKO _,_,rfl,?_⟩;rw[kHK];refine yK ?_;have a4:=a7 _ _ (af _ _ ab);generalize atS (gF ms U Ts U.length).1=X at *;clear d2 du hW a6 al hz ab ho RN ct as GG a1 a0 ah a2 b6 a5 bs;refine⟨_,rfl,z,rfl,⟨_,SqT.of a4⟩,λ D nD=>?_⟩;refine zH (xs:=[I,J,N].map vn) (λ j σ H3=>∃(x0:Option V)(da:List au),σ=[x0,some (.ref t')]/\Same a9 H3/\RwL H3 D da (([I,J,N].take j).map λ p=>[(X p).1,(X p).2])) ⟨none,[],rfl,kC nD _,⟨kA,rfl,λ i a r e=>by simp at e⟩⟩ ?_ ?_ ?_
 ·rintro j σ H3 _ ⟨x0,da,rfl,g3,_⟩
  exact SqT.of (g3 _ _ a4)
 ·rintro j u σ H3 hu ⟨x0,da,rfl,g3,hD⟩
  rw[bg]at hu;obtain⟨p',ep,rfl⟩:=cu.mp hu;have hj:=(aj.mp ep).1;have c7:j<3:=hj;have hp:=bi p' (cv ep);obtain⟨ap,ea⟩ : ∃ ap,ac[p']?=some ap:=⟨_,aa (by rw[d1.len];exact hp)⟩;have aq:=hD.len;rw[ai,dc]at aq;have l3:([I,J,N]:List Nat).length=3:=rfl;rw[l3]at aq;have bw:=g3 _ _ (d1.row p' _ ea);refine⟨_,rfl,_,rfl,t',_,_,_,rfl,rfl,SqT.of (g3 _ _ d1.top),qS (by rw[bg,ea];rfl),?_⟩;refine⟨_,hD.top,(by rw[ai];exact kQ (by omega)),?_⟩
  have st:∀ b xs,H3 b=some (.tup xs)->upd H3 D (.lst (da.map V.ref++[.ref ap])) b=some (.tup xs):=λ b xs e=>by
   rw[kM λ z=>by rw[z,hD.top]at e;cases e];exact e
  refine⟨_,da++[ap],rfl,qJ nD g3,?_⟩;rw[iw,ep,eE];refine⟨by rw[eE];exact kA,by rw[bq,bq,hD.len];rfl,λ i' b r g m=>?_⟩;rcases snoc g with⟨cc,g⟩ | ⟨ej,g⟩
  ·rw[az (by rw[<-hD.len];exact cc)]at m
   exact st _ _ (hD.row i' b r g m)
  ·rw[ej,hD.len]at m
   have m:some [(X p').1,(X p').2]=some r:=by
    rw[<-m];exact di.symm
   cases g
   cases m
   exact st _ _ bw
 ·rintro σ H3 ⟨x0,da,rfl,g3,hD⟩
  have c1:W.length=d:=by rw[lW,lL]
  have bl:([I,J,N].take ([I,J,N].map vn).length).map (λ p=>[(X p).1,(X p).2])=[[0,0],[2*(d:Int)-4,0],[(d:Int)-2,(d:Int)-2]]:=by
   show[[(X I).1,(X I).2],[(X J).1,(X J).2],[(X N).1,(X N).2]]=_;rw[ba,bb,bc,show(2*(U.length:Int))=2*(d:Int)-4 by omega,show(U.length:Int)=(d:Int)-2 by omega]
  rw[bl]at hD;refine⟨yS2,λ t1 n1=>?_⟩;have q1:=kC n1 (.tup [V.int 0,V.int 0]);have b9:=kA (H:=H3) (a:=t1) (o:=.tup [V.int 0,V.int 0]);generalize upd H3 t1 (.tup [V.int 0,V.int 0])=G1 at *;refine⟨_,rfl,_,_,rfl,rfl,.inl ⟨by decide,by decide⟩,_,_,rfl,rfl,yS2,λ t2 n2=>?_⟩;have q2:=kC n2 (.tup [V.int (2*(d:Int)-4),V.int 0]);have a2:=kA (H:=G1) (a:=t2) (o:=.tup [V.int (2*(d:Int)-4),V.int 0]);generalize upd G1 t2 (.tup [V.int (2*(d:Int)-4),V.int 0])=G2 at *;refine⟨_,rfl,_,_,rfl,rfl,_,rfl,_,_,rfl,rfl,yS2,λ t3 bn=>?_⟩;have q3:=kC bn (.tup [V.int ((d:Int)-2),V.int ((d:Int)-2)]);have br:=kA (H:=G2) (a:=t3) (o:=.tup [V.int ((d:Int)-2),V.int ((d:Int)-2)]);generalize upd G2 t3 (.tup [V.int ((d:Int)-2),V.int ((d:Int)-2)])=G3 at *;refine⟨yS3,λ l4 n4=>?_⟩;have q4:=kC n4 (.lst [V.ref t1,V.ref t2,V.ref t3])
  have hR:RwL (upd G3 l4 (.lst [V.ref t1,V.ref t2,V.ref t3])) l4 [t1,t2,t3] [[0,0],[2*(d:Int)-4,0],[(d:Int)-2,(d:Int)-2]]:=⟨kA,rfl,λ i a r g m=>by
   match i,g,m with
   | 0,g,m =>
    cases g
    cases m
    exact q4 _ _ (q3 _ _ (q2 _ _ b9))
   | 1,g,m =>
    cases g
    cases m
    exact q4 _ _ (q3 _ _ a2)
   | 2,g,m =>
    cases g
    cases m
    exact q4 _ _ br
   | i+3,g,m=>simp at g⟩
  refine⟨_,_,(hD.kept (q1.trans (q2.trans (q3.trans q4)))).dt,hR.dt,kKP _,kKP _,?_⟩;rw[kHL];exact q _
end
def all_mk{l:Cd}{w:iJ}{K:ay}{h:iS}{mg:Str->Option ar}{b:au}(X:K.In h)(G:h.Ns gm mg)(a:mg "law" = some (.ref b))(B:FxG K mg):∃ fd:tw,(∀(s:av)(v:ar),DZ s fd ⟨[v],[]⟩ [("_law_script",v)])/\∀ base:iS,K.In base->base.Ns gm mg->FnOk l.prog w K mg base CX0 11 b fd ["_law_script"] (nE K):=by
 obtain⟨f,fd,e,F⟩:=B.d37
 cases a.symm.trans (Fh X G e)
 refine⟨fd,λ s v=>?_,λ base _ _=>?_⟩
 ·obtain⟨r,x,kV,g,q,y,d,p,i,rfl,_⟩:=F.ex
  exact .of_eq rfl
 refine fb λ n=>?_;obtain⟨o,u,m,c,j⟩ : Bad c0:=Classical.epsilon_spec ⟨⟨l.prog,w,K,mg,base⟩,B,b,fd,F,n⟩;exact j (kRQ o c)
def walk{l:Cd}{q:eo}{b:List Str}{m:(Str->Option ar)->iS->Prop}{i:iJ->iS->Prop}{d:DefRec}{K:Gb->ay}(v:l.most=some 63)(c:d.params.defaults=[])
  (r:∀(w:iJ)(h:iS),i w h->(K w.params).In h)
  (F:∀(w:iJ)(mg:Str->Option ar)(g:au)(h:iS),(K w.params).In h->h.Ns gm mg->mg d.name=some (.ref g) ->
   ∃ fd:tw,(∀(s:av)(u:ar),DZ s fd ⟨[u],[]⟩ [("_law_script",u)])/\∀ base:iS,(K w.params).In base->base.Ns gm mg->FnOk l.prog w (K w.params) mg base CX0 11 g fd ["_law_script"] (nE (K w.params))) :
  Fg q b m i l.row.toRowW d [] (λ f vs=>Et f vs) :=
 L2.walk_of (n:=63) (k:=11) (x:="_law_script") (CX:=λ _=>CX0) (sp:=λ w=>nE (K w.params)) v (by decide) c ⟨rfl,by decide,by decide,rfl⟩ r F (λ _ _ a p o _ j=>⟨a,p,rfl,j,o,λ _=>rfl⟩) λ _ _ _ _ _ z=>z
end Prf
namespace PySem.W.Fast
def tw10900429524175019514:=0
def tw17459776590426240669:=0
def tw5518445321314404953:=0
def tw5199570420955261983:=0
def tw525602605855448977:=0
def tw17341270545390578413:=0
def tw6967846824246540798:=0
def tw4574110124651659316:=0
def tw10409291997972510569:=0
def tw5073043912182767405:=0
def tw7000455957427612138:=0
def tw15856036177351659500:=0
def tw4606864709576411802:=0
def tw6725285819421133296:=0
def tw10753700892780565940:=0
def tw5498349791525288679:=0
def tw17799231550061270388:=0
def tw13482501857369505040:=0
def tw6235750563952619711:=0
def tw17494984059221546880:=0
def tw13212006428469223654:=0
def tw13343652355292332266:=0
def tw1721606273836059117:=0
def tw16543076147965037933:=0
def tw17530404148427770695:=0
def tw12877431459934832177:=0
def tw6297238136361830501:=0
def tw10593312639579887716:=0
def tw2868880498479937174:=0
def tw3412374253442703616:=0
def tw6590194955347451783:=0
def tw13718496335894980457:=0
def tw5631359535885729172:=0
def tw15585697851802660596:=0
def tw9052452388573499653:=0
def tw6703515820153902373:=0
def tw12345130195685747949:=0
def tw5908056226937405882:=0
def tw7277451156441991657:=0
def tw16891785090403233964:=0
def tw3348374729753332982:=0
def tw7475638490251341774:=0
def tw2503580805592662843:=0
def tw8348479687814892868:=0
def tw10333385121641656563:=0
def tw12872284759845775167:=0
def tw8836798365297823862:=0
def tw4875177910776897853:=0
def tw18063429426855178009:=0
def tw17570146534342358245:=0
def tw16688176688782763000:=0
def tw14236619965368574941:=0
def tw9218188210480972706:=0
def tw1637380582019767989:=0
def tw10355416098102185492:=0
def tw17047325048629941557:=0
def tw7081743195557803947:=0
def tw2082455490480265708:=0
def tw2422544218743988839:=0
def tw14754768157839460755:=0
def tw14408324737037141136:=0
def tw18134016199987672211:=0
def tw16942042067032095110:=0
def tw10562992007474379028:=0
def tw501899242762335488:=0
def tw14510368736823448576:=0
def tw13204939522513980513:=0
def tw4903160051373213793:=0
def tw17019561820097020450:=0
def tw12326732045259995908:=0
def tw5725596170987888871:=0
def tw15902904548158126505:=0
def tw13608509893109118250:=0
def tw16711645074221897546:=0
def tw953239782692025138:=0
def tw16041382670987522995:=0
def tw17266560105468593909:=0
def tw5066675546152671707:=0
end PySem.W.Fast
open PySem PySem.W PyProof.Rows
set_option maxRecDepth 100000 in
set_option maxHeartbeats 0 in
theorem PySem.Challenge.cw_restdraw_k62_whole_by_gaps_holds : PySem.Challenge.rw_restdraw_k62_whole_by_gaps.Holds := by
 w_on;o_law;k_head;(case hw=>w_witness2)
 k_fill
 refine Prf.walk (l:=CD) rfl rfl (λ w h Y=>PySem.W.kIn_of Y) ?F
 case F =>
  intro w mg fa h KX G hmg;refine' Prf.all_mk KX G hmg ?_;apply Prf.FxG.mk ⟨_,KX,G⟩<;>first | (refine' L2.df_mk ?a ?l ?c ?k;(case a=>k_is);(case l=>k_is);(case c=>k_is);(case k=>k_is)) | k_is
