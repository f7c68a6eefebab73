import PyProof.Rows.All
import Wide.All
import OpenK.AllK
import Wide.FinOn
import PyProof.EqAt
import PyProof.EqKinds
import PyProof.TupleCall
import KE.BitLaws
import KE.KTryMore
import KE.KTryOn
import KE.OsGo
import KE.KLam
import KE.OsArgs
import PyProof.ListRange
import PyProof.Rows.SortShellAny
import KE.KSortKeyAny
import PyProof.NeKinds
import PyProof.TupleKey
import PyProof.Rows.SetFrom
import PyProof.MinMaxWalk
import PyProof.WalkInts
import PySx32
import PySem.Challenge.RW_tablegroups_s03_gw_count
open PySem renaming Addr->aa,Value->af,Str->ag,Shared->ah,wpAny_bind->aq,Obj->az,Heap->aA,World->aM,Program->aU,Expr->aV,wpAny_pure->aX,Stmt->a6,FuncData->bh,Around->bD,Pos->bN,Env->cg,Scope->dc,boot_len->dG,Sem->dY,wpAny_mono->fD,mem_of_lookup->fE,NameKind->fU,wpAny_holding->gy,Model->gX,ExceptHandler->gY,codeAny_mono->iR,DictEntry->iS,Builtin->iT,SetTable->iU,wpAny_standAt->jr,codeAny_builtin->js,wpAny_pyIter_list->kx,wpAny_Call_Name_kw->kA,PyData->kB,OsState->kC,Paired->lL,wpAny_passesOwn->lM,call_meets->lN,plainId_quiet->lO,wpAny_truthy_bool->nJ,wpAny_execs_nil->nK,BindsTo->nL,wpAny_call->nM,GenState->pF,Result->pG,Arguments->pH,wpAny_newObj_type->pI,wpAny_field->pJ,wpAny_setState_of->pK,sizeLine_eq->rf,Keyword->rg,pushCells_keeps->rh,wpAny_call_entry->rj,wpAny_typeNameOfWhole_keyiter->rk,wpAny_typeNameOf_keyiter->rm,wpAny_setField->rp,wpAny_handleBy_cons->rq,codeAny_handlers_test->rz,wpAny_seqItems->rA,wpAny_letGo->rB,Within->ur,wpAny_Name->uu,wpAny_execs_cons->uv,PassesOwn->uw,seqIndex_of->ux,typeIs_int->uz,PlainAttrs->uA,evalArgs_none->uB,tupleKind_room_in1->uC,wpAny_dictEntries->uD,wpAny_dictEpoch->uE,wpAny_of_eq->uF,wpAny_throw->uG,frameOf->uH,codeAny_call_builtin->uI,wpAny_tryCatch->uJ,wpAny_updateSeq->uK,wpAny_Constant_int->wV,wpAny_isTrue_Compare1->wW,wpAny_assign_Name->wX,slot_list_getitem->wY,wpAny_Dict_empty->wZ,wpAny_pyIter_revIter->w6,wpAny_pyIter_slot->w8,wpAny_callSpecial?_slot->w9,wpAny_isOneOf_keyiter->xa,wpAny_Call_method->xb,codeAny_handlers_suite->xc,wpAny_Try_except->xf,wpAny_loadPart_at->xg,weight_type_call_type->xh,wpAny_pyIter_enum->xi,wpAny_evalAll_cons->xj,wpAny_evalAll_nil->xk,wpAny_storeSet_of->xl
open PySem.W renaming Frag->ay,nsIn->aN,mg_of->aS,keepIn->bG,fnOf->bJ,exmOne->bK,codeIn->bW,findIn->fF,hideAll->ik,ns_none_of->ip,emptyDict->jt,excIn->ju,instObj->kF,hideAll_get->lP,envX->lQ,of_hideAll->nN,kla_obj->nO,plainGet->pL,hasDictIn->pM,hideAll_none->rC,plainOver->rD,makesIn->rE,funFrames_hide->rF,exm_one->rG,methodObj->uL,lookIn->uM,takerIn->uN,callWith_K->uO,isFn->uP,callWith_of->uQ,hideAll_size->xm,handedIn->xn,cellsFrom_some->xo,CodeHd->xp,WellAll->xq
open List renaming getElem?_eq_getElem->aH,mem_singleton->aO,length_map->aP,range->aT,mem_cons->aZ,mem_map->bc,getElem?_eq_some_iff->bj,mem_range->bt,getElem?_map->bH,getD_eq_getElem?_getD->bT,mem_cons_self->b9,mem_cons_of_mem->cb,length_append->cx,all_eq_true->cB,length_cons->cI,getElem_mem->cN,mem_append->cQ,mem_of_getElem?->cW,size_toArray->c4,map_cons->dB,not_mem_nil->dC,map_append->dD,getElem?_append_left->dQ,mem_append_left->dZ,getElem?_eq_none->d3,nodup_cons->eD,replicate->eI,take_add_one->eW,getElem?_append_right->e9,mem_flatMap->fk,getElem?_of_mem->fm,map_map->fG,length_range->fH,getElem?_range->fI,mem_append_right->fP,append_nil->fV,mem_filter->f7,range_succ->f9,take_length->gb,length_take->gG,pairwise_map->gZ,idxOf_lt_length_iff->iq,nodup_append->ir,ext_getElem?->iV,flatten_cons->jv,append_assoc->jw,nodup_range->jx,lookup->kG,length_drop->kI,any_cons->kJ,foldl_cons->kK,map_id->kL,length_eq_zero_iff->kM,takeWhile_cons->kN,getElem?_set_ne->lR,lookup_cons->lS,eq_of_mem_replicate->lT,take_of_length_le->lU,any_eq_true->lV,getElem?_set_self->nR,all_cons->nS,replicate_succ->nU,foldl->nV,nil_append->nW,find?_cons->nX,nodup_nil->nY,countP_append->nZ,length_filter_le->n6,foldl_append->n8,pairwise_flatMap->n9,getElem?_drop->og,filter_append->oh,filterMap_cons->pN,mem_filterMap->pO,length_set->pP,map_nil->pQ,map_congr_left->pR,perm_ext_iff_of_nodup->pS,flatMap_cons->rH,perm_middle->rJ,mem_of_mem_take->rK,idxOf_append->rL,head?_drop->rM,drop_drop->rN,filter_cons->rO,of_mem_zip->uR,any_map->uS,all_map->uT,forIn_nil->uU,cons_append->uV,getElem?_cons_zero->uW,getElem?_toArray->uX,mem_of_find?_eq_some->uY,replicate_succ'->uZ,append_of_mem->u0,mem_or_eq_of_mem_set->vb,countP_eq_zero->vc,pairwise_lt_range->vd,length_pos_iff->ve,eq_nil_or_concat->vf,pairwise_append->vg,mergeSort_perm->vh,map_take->vi,map_drop->vj,countP_cons->vk,nodup_range'->vm,reverse_cons->vn,length_reverse->vo,take_add->vp,getLast?_cons_cons->vq,all_append->vt,findSome?_eq_none_iff->vv,getElem_inj->xr,length->xt,length_replicate->xu,length_singleton->xw,range_succ_eq_map->xx,forIn_cons->xy,length_nil->xA,getElem?_cons_succ->xB,find?_some->xC,find?_eq_none->xD,flatten_append->xE,idxOf?_eq_none_iff->xF,contains_iff_mem->xG,getElem_idxOf->xH,sum_cons->xI,map_reverse->xJ,flatMap_append->xK,take_append_drop->xM,getElem_of_mem->xN,mem_range'_1->xO,drop_eq_getElem_cons->xP,drop_eq_nil_of_le->xQ,findIdx?_cons->xR,getElem?_eq_none_iff->xS,all_nil->xT,map_set->xU,sum_append->xV,filter->xW
open Nat renaming le_refl->aI,le_trans->cZ,zero_le->de,lt_of_lt_of_le->du,ne_of_lt->dR,zero_add->fW,pow_succ->gz,lt_or_ge->gA,le_of_lt->gH,mul_comm->gI,le_of_not_lt->gJ,mod_lt->gK,lt_irrefl->hG,mul_le_mul_left->hJ,lt_of_le_of_lt->iu,div_lt_of_lt_mul->kO,mul_succ->lW,ne_of_gt->oj,le_of_eq->om,lt_succ_of_lt->oo,mul_assoc->oq,mul_le_mul->ot,add_mul->ou,lt_succ_self->pT,lt_trans->pU,not_lt->pV,one_mul->pW,lt_trichotomy->pX,succ_mul->rP,le_of_succ_le->rQ,add_zero->rR,pow_le_pow_right->rS,add_assoc->rT,mul_add->rV,mul_one->rW,sub_self->rX,min_eq_left->rY,le_succ->vw,add_comm->vx,le_add_right->vy,div_add_mod->vz,mod_eq_of_lt->vA,mul_lt_mul_of_pos_left->vB,div_mul_le_self->vC,mul_mod->vD,le_of_lt_succ->vE,succ_pos->vF,not_lt_zero->vG,add_sub_cancel->xX,div_eq_of_lt->xY,lt_of_not_le->xZ,lt_succ_of_le->x5,succ_le_succ->x6
open Or renaming inl->aQ,inr->lX
open Sum renaming inl->a8,inr->lY
open Sa54 renaming digit->bx,Word->b8,MOST->d4,inverse->eE,small->eJ,Got->gc,groupOf->gd,isTable->hU,Table->iw,close_->iW,within->iX,Group->jy,normal->jz,Letter->kP,sameFrom->kR,move->lZ,still->l0,most->l4,great->ox,power->pY,ok->rZ,classes->x8,codeOf->x9
open PySem.Value renaming ref->bO,none->dv,bool->hV,type->l5,int->pZ,str->r4,isInt->ya,isStrOf->yb,isInt_shape->yc,bytes->yd,float->ye
open PySem.Heap renaming lt_size->cy,get?_push_of_some->cD,get?_push_size->df,size_push->gg,get?_update_other->iy,SameBut->iY,get?_update_self->iZ,FlyingW->p6,MadeExcOf->r8,get?_none_of_le->yf
open Option.some renaming inj->cC,injEq->vH
open Bool renaming false_ne_true->dw,false_eq_true->dH,and_eq_true->gh,eq_iff_iff->i4,and_eq_true_iff->oy,not_true->p7,and_false->vI,not_false->vJ,and_true->vK,false_and->yg,or_eq_true->yh,noConfusion->yi,and_self->yj,true_and->yk
open PySem.SetTable renaming runEnd->dS,leap->iz,bits->kS,Probe->l6,insertAt->l7,sizeAbove->l9,turns->oA,grown->r9,has->vL,fill->vM,slot->yl,layClean->ym,fits->yn
open False renaming elim->eS
open PySem.F renaming plainAttrs_list->fJ,called_set->kT,slot_list_append->kU,type_list_append->kW,slot_dict_keyiterator_next->oB,plain_min_loop->oC,excBase_Exception->sf,slot_list_extend->sh,type_list_extend->sj,slot_list_index->vN,called_enumerate->vO,slot_list_pop->vP,type_list_pop->vQ,slot_int_rmul->yo,slot_dict_iter->yp,entry_dict_keyiterator_next->yq,args_dict_keyiterator_next_1->yr,slot_dict_keyiterator_iter->yt,plainAttrs_dict->yu,slot_dict_values->yw,slot_dict_items->yx,entry_type_call->yy,entry_min_loop->yz,slot_list_count->yA,type_list_index->yB
open Classical renaming byContradiction->fX,axiomOfChoice->vR,propDecidable->yC
open Int renaming toNat_natCast->gi,toNat->kX,zero_add->oE,emod_nonneg->p8,emod_lt_of_pos->sk,natCast_mul->vS,emod_add_mul_ediv->yD,mul_le_mul_of_nonneg_left->yE,emod_emod->yF
open PySem.Obj renaming mapFields->gj,putSet->ma,mapSeq->p9,data_mapFields->so,isFreed_of_fields->vT
open PySem.Paired renaming length->gL,snoc->yG
open PyProof.Rows renaming IntsAre->gM,AllBare->kY,step_dedup->oF,callWith_type1->sr,Subscript_->vU,subscriptTail_builtinR->yH
open Ne renaming symm->hW
open List.cons renaming inj->iA
open Array renaming length_toList->i5,getElem?_toList->qa,getD->su,getD_eq_getD_getElem?->sv,toList->vV,getElem?_eq_some_iff->vW,replicate->vX,toList_extract->yI,forIn_toList->yJ
open Option renaming map_some->i6,map_eq_some_iff->qb,none->sx,toList_some->vY,isSome_iff_exists->yK,getD_none->yL,isSome_some->yM,isSome_map->yN,bind_eq_bind->yO,bind_some->yP
open Prod renaming ext->i7
open PySem.Sem renaming wp->jA
open List.Pairwise renaming imp_of_mem->jB,filter->oG,take->zH,drop->zI,filterMap->zJ,nil->zK
open PySem.Heap.SameBut renaming update->me
open PySem.SetTable.sizeAbove renaming go->mh
open True renaming intro->oH
open PySem.NameKind renaming free->oI,cell->vZ
open PySem.Around renaming under_plainId->oJ,under->v9,frames_deeper->yQ,under_plain->yR
open Prod.mk renaming inj->oK,injEq->sy
open PySem.PyData renaming int->oM,eqvAll->qc,eqv->sA,canLayAll0->yS,depthAll->yT
open Sx32 renaming does->oN
open Sum.inl renaming inj->qd
open PySem.W.WData renaming int->qe,list->zL
open PySem.W.Codec renaming inInt->qf,inLen->wa,inNat->zM
open PySem.Builtin.List renaming listTooLong->sC
open PySem.SeqAt renaming shaped->sD,EqAt->yU
open ForInStep renaming yield->sE
open PySem.SetTable.below renaming go->sF
open PySem.SetTable.probe renaming go->sG
open PySem.SetTable.layClean renaming free->sH
open PySem.Str renaming empty->wb,ofString->wc
open PySem.Code renaming isFrame->wg,frames->yV,quiet_builtin->yW
open PySem.Walks renaming list->wj
open Except renaming bind->wm,ok->yX
open PyProof.Rows.F renaming plain_set_update_loop->wo,entry_set_update_loop->yY
open Sx32Neutral renaming small->wu,whole32->wx,factorial->yZ
open PySem.SeqAt.EqAt renaming int_str->y0,str_int->y6
open PySem.Calls renaming Name_function_global->y8,spliced_nil->y9,spliced_cons->za,callWith_builtin->zb
open PySem.Builtin.Dict renaming showsAll->zc
open PySem.Builtin.Dict_items renaming ownsTuple->zd
open PySem.EntryCells renaming newEntry->zf
open PySem.W.Looks renaming ld->zg,of_pure->zh,here->zN
open PySem.Draws renaming list->zi
open Function renaming comp->zj
open Nat.Coprime renaming pow_left->zk
open PySem.IsTupleKey renaming typeIs->zm
open PySem.Builtin.Builtins renaming bindParams->zo
open List.Nodup renaming mem_erase_iff->zp
open PySx32 renaming gw_count->zq
open PySem.Builtin.Range renaming rangeSize->zO
open PySem.EqMixed renaming eq_bool_str->zP,eq_int_str->zQ,eq_str_bool->zR,eq_str_int->zS,ne_bool_str->zT,ne_int_str->zU,ne_str_bool->zV,ne_str_int->zW
open PySem.Heap.IsSliceOf renaming new->zX
open PySem.W.ReadsAllW renaming cons->zY
open PySem.W.CodeHd renaming of->zZ
open PySem.Builtin.Frozenset renaming updateFrom->z0
set_option Elab.async false
set_option linter.all false
set_option maxRecDepth 100000
set_option maxHeartbeats 8000000
namespace L2
open PySem PySem.Spec PyProof.Rows
abbrev Key:=Sum Int ag
def keyIs:Key->af->Bool
 |.inl k,v=>ya k v
 |.inr x,v=>yb x v
def keyH(w:aM):Key->Int
 |.inl k=>hashInt k
 |.inr x=>hashStr w x
theorem iE:∀{k:Key} {v:af},keyIs k v=true->(∃i t,k=a8 i/\v=pZ i t)\/(∃x t,k=lY x/\v=r4 x t)
 |.inl i,v,h=>by
  obtain⟨t,e⟩:=yc (k:=i) (v:=v) h
  exact .inl ⟨i,t,rfl,e⟩
 |.inr x,v,h=>by
  obtain⟨t,e⟩:=Value.isStrOf_shape (x:=x) (v:=v) h
  exact .inr ⟨x,t,rfl,e⟩
theorem keyIs_int(i:Int)(t:Tok):keyIs (.inl i) (.int i t)=true:=by simp[keyIs,ya]
theorem keyIs_str(x:ag)(t:Tok):keyIs (.inr x) (.str x t)=true:=by simp[keyIs,yb]
theorem key_ll(a b:Int):decide ((a8 a:Key)=a8 b)=(a==b):=by
 by_cases e:a=b
 ·subst e;simp
 ·have h:¬(a8 a:Key)=a8 b:=fun q=>e (qd q)
  rw[decide_eq_false h]
  exact(beq_eq_false_iff_ne.mpr e).symm
theorem key_rr(a b:ag):decide ((lY a:Key)=lY b)=decide (a=b):=by
 by_cases e:a=b
 ·subst e;simp
 ·have h:¬(lY a:Key)=lY b:=fun q=>e (Sum.inr.inj q)
  rw[decide_eq_false h,decide_eq_false e]
theorem key_lr(a:Int)(b:ag):decide ((a8 a:Key)=lY b)=false:=decide_eq_false (fun q=>nomatch q)
theorem key_rl(a:ag)(b:Int):decide ((lY a:Key)=a8 b)=false:=decide_eq_false (fun q=>nomatch q)
def fj(prog:aU)(w:aM):PySem.KeyKind prog w Key where
 is:=keyIs
 hash:=keyH w
 inj:=fun v a b ha hb=>by
  rcases iE ha with⟨i,t,rfl,rfl⟩|⟨x,t,rfl,rfl⟩
  ·rcases iE hb with⟨j,u,rfl,e⟩|⟨y,u,rfl,e⟩
   ·injection e with e1 _;rw[e1]
   ·exact nomatch e
  ·rcases iE hb with⟨j,u,rfl,e⟩|⟨y,u,rfl,e⟩
   ·exact nomatch e
   ·injection e with e1 _;rw[e1]
 byValue:=fun k v h=>by
  rcases iE h with⟨i,t,rfl,rfl⟩|⟨x,t,rfl,rfl⟩<;>rfl
 pyHash:=fun hv h=>by
  rcases iE hv with⟨i,t,rfl,rfl⟩|⟨x,t,rfl,rfl⟩
  ·exact wpAny_pyHash_int h
  ·exact wpAny_pyHash_str h
 eqBool:=fun hu hv h=>by
  rcases iE hu with⟨i,t,rfl,rfl⟩|⟨x,t,rfl,rfl⟩
  ·rcases iE hv with⟨j,u,rfl,rfl⟩|⟨y,u,rfl,rfl⟩
   ·rw[key_ll]at h;exact wpAny_eqBool_int h
   ·rw[key_lr]at h;exact y0 i t y u _ _ _ _ h
  ·rcases iE hv with⟨j,u,rfl,rfl⟩|⟨y,u,rfl,rfl⟩
   ·rw[key_rl]at h;exact y6 x t j u _ _ _ _ h
   ·rw[key_rr]at h;exact wpAny_eqBool_str h
 «strs»:=fun k x t v h=>by
  rcases iE h with⟨i,u,rfl,e⟩|⟨y,u,rfl,e⟩
  ·exact nomatch e
  ·injection e with e1 _
   subst e1
   cases v<;>rfl
theorem mixKind_int(prog:aU)(w:aM)(i:Int)(t:Tok):(fj prog w).is (.inl i) (.int i t)=true:=keyIs_int i t
theorem mixKind_str(prog:aU)(w:aM)(x:ag)(t:Tok):(fj prog w).is (.inr x) (.str x t)=true:=keyIs_str x t
inductive V where
 |bo|bl (b:Bool)|int (i:Int)|str (x:ag)|byt (b:Array UInt8)|flt (b:UInt64)|ref (a:aa)|ty (n:String)
 deriving DecidableEq
def RelV:V->af->Prop
 |.bo,u=>u=dv
 |.bl b,u=>u=hV b
 |.int i,u=>∃t,u=pZ i t
 |.str x,u=>∃t,u=r4 x t
 |.byt b,u=>∃t,u=yd b t
 |.flt b,u=>∃t,u=ye b t
 |.ref a,u=>u=bO a
 |.ty n,u=>u=l5 n
abbrev Vals:List V->List af->Prop:=lL RelV
theorem Vals.length{xs:List V}{us:List af}(r:Vals xs us):xs.length=us.length:=gL r
theorem Vals.get:∀{xs:List V} {us:List af} {i:Nat} {x:V},Vals xs us->xs[i]?=some x->∃u,us[i]?=some u/\RelV x u
 |_,_,_,_,.nil,e=>by simp at e
 |_,_,0,_,.cons r _,e=>by simp at e;subst e;exact⟨_,rfl,r⟩
 |_,_,i+1,x,.cons _ t,e=>by
  obtain⟨u,h1,h2⟩:=Vals.get (i:=i) (x:=x) t (by simpa using e)
  exact⟨u,by simpa using h1,h2⟩
theorem Vals.set{x:V}{u:af}(r:RelV x u):∀{xs:List V} {us:List af} (i:Nat),Vals xs us->Vals (xs.set i x) (us.set i u)
 |_,_,_,.nil=>.nil
 |_,_,0,.cons _ t=>.cons r t
 |_,_,i+1,.cons q t=>.cons q (Vals.set r i t)
theorem Vals.append:∀{xs ys:List V} {us ws:List af},Vals xs us->Vals ys ws->Vals (xs++ys) (us++ws)
 |_,_,_,_,.nil,s=>s
 |_,_,_,_,.cons r t,s=>.cons r (Vals.append t s)
theorem Vals.take:∀{xs:List V} {us:List af} (n:Nat),Vals xs us->Vals (xs.take n) (us.take n)
 |_,_,0,_=>.nil
 |_,_,_+1,.nil=>.nil
 |_,_,n+1,.cons r t=>.cons r (Vals.take n t)
theorem Vals.drop:∀{xs:List V} {us:List af} (n:Nat),Vals xs us->Vals (xs.drop n) (us.drop n)
 |_,_,0,r=>r
 |_,_,_+1,.nil=>.nil
 |_,_,n+1,.cons _ t=>Vals.drop n t
def RelO:Option V->Option af->Prop
 |some v,some u=>RelV v u
 |none,none=>True
 |_,_=>False
def KV{κ:Type}:List (κ×V)->List (κ×af)->Prop:=lL fun(p:κ×V) (q:κ×af)=>p.1=q.1/\RelV p.2 q.2
def kV:Key->V
 |.inl i=>.int i
 |.inr x=>.str x
inductive HO where
 |lst (xs:List V)
 |tup (xs:List V)
 |dK (kvs:List (Key×V))|dT (kvs:List (List Key×V))
 |set (S:Int->Bool) (n:Nat)
 |ins (C dx:aa) (fs:List (ag×V))
 |own (x:aa)
 |xd (fs:List (ag×V))
 |met (f x:aa)
 |rng (lo hi:Int)
 |bM (o:az) (u:HO)
 |bz (ps:Array af)
 |ext (φ:aA->Prop)
abbrev Hp:=aa->Option HO
def upd(H:Hp)(a:aa)(o:HO):Hp:=fun b=>if b=a then some o else H b
theorem ax{H:Hp}{a:aa}{o:HO}:upd H a o a=some o:=by unfold upd;rw[if_pos rfl]
theorem ak{H:Hp}{a b:aa}{o:HO}(h:b≠a):upd H a o b=H b:=by unfold upd;rw[if_neg h]
theorem upd_upd{H:Hp}{a:aa}{o u:HO}:upd (upd H a o) a u=upd H a u:=by
 funext b;unfold upd;split<;>rfl
theorem dN{H:Hp}{a b:aa}{o u:HO}(h:H a=some o)(h':H b=some u)(d:o≠u):a≠b:=by
 intro e;subst e;rw[h]at h';exact d (cC h')
theorem bg{H:Hp}{a b:aa}{o:HO}(h:H a=some o)(h':H b=none):a≠b:=by
 intro e;subst e;rw[h]at h';cases h'
section
variable(P:aU)(w:aM)
def dk(H:Hp)(h:aA)(a:aa):HO->Prop
 |.lst xs=>xs.length<=sizeLine/\∃(ai:List af) (n:Nat),Vals xs ai/\h.get? a=some {cls:=.type "list",data:=.seq ai.toArray n}
 |.tup xs=>xs.length<=sizeLine/\∃ai:List af,Vals xs ai/\IsTup h a ai.toArray
 |.dK kvs=>kvs.length<=sizeLine/\(a==sysModules)=false/\∃vs,KV kvs vs/\h.DictOf (fj P w) a vs
 |.dT kvs=>kvs.length<=sizeLine/\(a==sysModules)=false/\∃xs:List (List Key×aa×af),
   lL (fun(p:List Key×V) (q:List Key×aa×af)=>p.1=q.1/\H q.2.1=some (.tup (p.1.map kV))/\RelV p.2 q.2.2) kvs xs /\
   ∃o es ep,h.get? a=some o/\o.ExactDict/\o.data=.dict es ep/\es.toList=xs.map (entryOfKey (tupleKind (fj P w)))/\(xs.map (·.1)).Nodup
 |.set S n=>h.SetOf (intKind P w) a S n
 |.ins C dx fs=>H dx=some (.own a)/\fs.length<=1000/\dx≠a/\h.get? a=some (kF C dx) /\
   ∃mA,h.Ns1 dx mA/\(∀f,RelO (fs.lookup f) (mA f))/\ur mA (fs.map (·.1))
 |.own _=>∃o,h.get? a=some o
 |.xd fs=>∃mA,h.Ns1 a mA/\∀f,RelO (fs.lookup f) (mA f)
 |.rng lo hi=>∃t u v,h.get? a=some {cls:=.type "range",data:=.fields #[.int lo t,.int hi u,.int 1 v]}
 |.bM o u=>h.get? a=some o/\dk H h a u
 |.bz ps=>h.get? a=some {cls:=.none,data:=.fields ps}
 |.met f x=>h.get? a=some (uL (.ref f) (.ref x))
 |.ext φ=>φ h/\(∃o,h.get? a=some o)/\∀h1 h2:aA,φ h1->(∀o,h1.get? a=some o->h2.get? a=some o)->φ h2
def HOk(H:Hp)(h:aA):Prop:=∀a o,H a=some o->dk P w H h a o
end
section
variable{P:aU}{w:aM}{H H':Hp}{h h':aA}{a:aa}{o:HO}
theorem dk.lt(x:dk P w H h a o):a<h.objs.size:=by
 cases o with
 |lst xs=>obtain⟨_,_,_,_,e⟩:=x;exact cy e
 |tup xs=>obtain⟨_,_,_,p⟩:=x;exact p.lt
 |dK kvs=>obtain⟨_,_,_,_,o,_,_,e,_⟩:=x;exact cy e
 |dT kvs=>obtain⟨_,_,_,_,o,_,_,e,_⟩:=x;exact cy e
 |set S n=>obtain⟨o,_,_,_,e,_⟩:=x;exact cy e
 |ins C dx fs=>obtain⟨_,_,_,e,_⟩:=x;exact cy e
 |own y=>obtain⟨_,e⟩:=x;exact cy e
 |xd fs=>obtain⟨_,⟨_,_,_,e,_⟩,_⟩:=x;exact cy e
 |rng lo hi=>obtain⟨_,_,_,e⟩:=x;exact cy e
 |bM ob u=>obtain⟨e,_⟩:=x;exact cy e
 |bz ps=>exact cy (show h.get? a=some _ from x)
 |met f y=>exact cy (show h.get? a=some _ from x)
 |ext φ=>obtain⟨_,⟨_,e⟩,_⟩:=x;exact cy e
theorem Paired.mapP{α β:Type}{F G:α->β->Prop}:∀{l₁:List α} {l₂:List β},lL F l₁ l₂->(∀a b,F a b->G a b)->lL G l₁ l₂
 |_,_,.nil,_=>.nil
 |_,_,.cons r t,f=>.cons (f _ _ r) (Paired.mapP t f)
theorem dk.stay(x:dk P w H h a o)(k:∀b u,(b=a\/H b=some (.own a))->h.get? b=some u->h'.get? b=some u)(ho:∀b,H b=some (.own a)->H' b=some (.own a))(ht:∀b xs,H b=some (.tup xs)->H' b=some (.tup xs)):dk P w H' h' a o:=by
 induction o with
 |lst xs=>obtain⟨z,ai,n,r,e⟩:=x;exact⟨z,ai,n,r,k _ _ (.inl rfl) e⟩
 |tup xs=>obtain⟨z,ai,r,ob,e,c⟩:=x;exact⟨z,ai,r,ob,k _ _ (.inl rfl) e,c⟩
 |dK kvs=>obtain⟨z,y,vs,r,ob,es,ep,e,c⟩:=x;exact⟨z,y,vs,r,ob,es,ep,k _ _ (.inl rfl) e,c⟩
 |dT kvs=>
  obtain⟨z,y,xs,r,ob,es,ep,e,c⟩:=x
  exact⟨z,y,xs,Paired.mapP r fun p q z=>⟨z.1,ht _ _ z.2.1,z.2.2⟩,ob,es,ep,k _ _ (.inl rfl) e,c⟩
 |set S n=>obtain⟨ob,es,ep,t,e,c⟩:=x;exact⟨ob,es,ep,t,k _ _ (.inl rfl) e,c⟩
 |ins C dx fs=>
  obtain⟨d,z,ne,e,mA,⟨od,es,ep,e2,c⟩,r⟩:=x
  exact⟨ho _ d,z,ne,k _ _ (.inl rfl) e,mA,⟨od,es,ep,k _ _ (.inr d) e2,c⟩,r⟩
 |own y=>obtain⟨ob,e⟩:=x;exact⟨ob,k _ _ (.inl rfl) e⟩
 |xd fs=>obtain⟨mA,⟨od,es,ep,e,c⟩,r⟩:=x;exact⟨mA,⟨od,es,ep,k _ _ (.inl rfl) e,c⟩,r⟩
 |rng lo hi=>obtain⟨t,u,v,e⟩:=x;exact⟨t,u,v,k _ _ (.inl rfl) e⟩
 |bM ob u ih=>obtain⟨e,q⟩:=x;exact⟨k _ _ (.inl rfl) e,ih q⟩
 |bz ps=>
  have e:h.get? a=some {cls:=.none,data:=.fields ps}:=x
  show h'.get? a=some {cls:=.none,data:=.fields ps}
  exact k a _ (.inl rfl) e
 |met f y=>
  have e:h.get? a=some (uL (.ref f) (.ref y)):=x
  show h'.get? a=some (uL (.ref f) (.ref y))
  exact k a _ (.inl rfl) e
 |ext φ=>obtain⟨p,⟨o,e⟩,st⟩:=x;exact⟨st _ _ p fun o q=>k _ _ (.inl rfl) q,⟨o,k _ _ (.inl rfl) e⟩,st⟩
theorem HOk.lt(x:HOk P w H h)(e:H a=some o):a<h.objs.size:=(x a o e).lt
theorem HOk.fresh(x:HOk P w H h)(e:h.objs.size<=a):H a=none:=by
 cases q:H a with
 |none=>rfl
 |some u=>exact absurd (du (x.lt q) e) (hG _)
theorem HOk.kept(x:HOk P w H h)(k:∀b u,h.get? b=some u->h'.get? b=some u):HOk P w H h':=fun a o e=>
 (x a o e).stay (fun b u _ q=>k b u q) (fun _ q=>q) fun _ _ q=>q
theorem HOk.laid(x:HOk P w H h)(k:∀b u,h.get? b=some u->h'.get? b=some u)(hp:h.objs.size<=a)(new:dk P w (upd H a o) h' a o):HOk P w (upd H a o) h':=fun b u e=>by
 have hn:=x.fresh hp
 by_cases hb:b=a
 ·subst hb;rw[ax]at e;cases e;exact new
 ·rw[ak hb]at e
  exact(x b u e).stay (fun c v _ q=>k c v q) (fun c q=>by rw[ak (bg q hn)];exact q) fun c xs q=>by rw[ak (bg q hn)];exact q
end
def Rd(H:Hp)(a:aa)(u:HO):Prop:=H a=some u\/∃o,H a=some (.bM o u)
theorem Rd.ok{P:aU}{w:aM}{H:Hp}{h:aA}{a:aa}{u:HO}(r:Rd H a u)(x:HOk P w H h):dk P w H h a u:=by
 rcases r with r|⟨o,r⟩
 ·exact x a u r
 ·obtain⟨_,q⟩:=x a _ r
  exact q
def Mut:Option HO->Prop
 |some (.lst _)=>True
 |some (.dK _)=>True
 |some (.dT _)=>True
 |some (.set _ _)=>True
 |some (.ins _ _ _)=>True
 |some (.ext _)=>True
 |_=>False
section
variable{P:aU}{w:aM}{H:Hp}{h h':aA}{x e:aa}{o':HO}
theorem HOk.write(ok:HOk P w H h)(mu:Mut (H x))(he:e=x\/H e=some (.own x))(k:∀b u,b≠e->h.get? b=some u->h'.get? b=some u)(heo:∃u,h'.get? e=some u)(new:dk P w (upd H x o') h' x o'):HOk P w (upd H x o') h':=fun b u q=>by
 have nown:∀c y,H c=some (.own y)->c≠x:=fun c y r z=>by subst z;rw[r]at mu;exact mu
 have ntup:∀c xs,H c=some (.tup xs)->c≠x:=fun c xs r z=>by subst z;rw[r]at mu;exact mu
 by_cases hb:b=x
 ·subst hb;rw[ax]at q;cases q;exact new
 ·rw[ak hb]at q
  by_cases hbe:b=e
  ·have q':H b=some (.own x):=by
    rcases he with z|z
    ·exact absurd (hbe.trans z) hb
    ·rw[hbe];exact z
   rw[q]at q';cases q'
   obtain⟨v,hv⟩:=heo
   exact⟨v,by rw[hbe];exact hv⟩
  ·refine(ok b u q).stay (fun c v hc r=>k c v ?_ r) (fun c r=>by rw[ak (nown c b r)];exact r) fun c xs r=>by rw[ak (ntup c xs r)];exact r
   rcases hc with rfl|hc
   ·exact hbe
   ·rintro rfl
    rcases he with z|z
    ·exact nown c b hc z
    ·rw[hc]at z;cases z;exact hb rfl
end
structure Un (fs ex:List aa) (H H':Hp) (h h':aA):Prop where
 keep:∀b o,h.get? b=some o->H b=none->b∉fs->b∉ex->h'.get? b=some o
 slot:∀b o,h.get? b=some o->H b=none->b∈fs->b∉ex->∃sl,h'.get? b=some {o with slots:=sl}
 free:∀b o,h.get? b=some o->H b=none->b∉ex->H' b=none
 there:∀b o,h.get? b=some o->b∉ex->∃o',h'.get? b=some o'
 tups:∀b xs,H b=some (.tup xs)->H' b=some (.tup xs)
 frzs:∀b o u,H b=some (.bM o u)->H' b=some (.bM o u)
 tbls:∀b ps,H b=some (.bz ps)->∃more,H' b=some (.bz (ps++more))
section
variable{fs fs' ex ex':List aa}{H H1 H2:Hp}{h h1 h2 h':aA}{a x e:aa}{o:HO}
theorem Un.any(u:Un fs ex H H1 h h1){b:aa}{ob:az}(q:h.get? b=some ob)(n:H b=none)(hx:b∉ex):∃sl,h1.get? b=some {ob with slots:=sl}:=by
 by_cases hb:b∈fs
 ·exact u.slot b ob q n hb hx
 ·exact⟨ob.slots,u.keep b ob q n hb hx⟩
theorem Un.kept(k:∀b u,h.get? b=some u->h'.get? b=some u):Un fs ex H H h h':=
 ⟨fun b ob q _ _ _=>k b ob q,fun b ob q _ _ _=>⟨ob.slots,k b ob q⟩,fun _ _ _ n _=>n,fun b ob q _=>⟨ob,k b ob q⟩,fun _ _ q=>q,fun _ _ _ q=>q,fun _ ps q=>⟨#[],by rw[q];simp⟩⟩
theorem Un.refl:Un fs ex H H h h:=Un.kept fun _ _ q=>q
theorem Un.laid(k:∀b u,h.get? b=some u->h'.get? b=some u)(hp:h.objs.size<=a)(hn:H a=none):Un fs ex H (upd H a o) h h' where
 keep:=fun b u q _ _ _=>k b u q
 slot:=fun b u q _ _ _=>⟨u.slots,k b u q⟩
 free:=fun b u q n _=>by rw[ak (dR (du (cy q) hp))];exact n
 there:=fun b u q _=>⟨u,k b u q⟩
 tups:=fun b xs q=>by rw[ak (bg q hn)];exact q
 frzs:=fun b u xs q=>by rw[ak (bg q hn)];exact q
 tbls:=fun b ps q=>⟨#[],by rw[ak (bg q hn),q];simp⟩
theorem Un.write(mu:Mut (H x))(he:e=x\/H e=some (.own x))(k:∀b u,b≠e->h.get? b=some u->h'.get? b=some u)(heo:∃u,h'.get? e=some u):Un fs ex H (upd H x o) h h':=by
 have hx:∀b,H b=none->b≠x:=fun b n z=>by subst z;rw[n]at mu;exact mu
 have hb:∀b,H b=none->b≠e:=fun b n z=>by
  subst z
  rcases he with r|r
  ·exact hx b n r
  ·rw[n]at r;cases r
 have hm:∀b u,H b=some u->¬Mut (some u)->b≠x:=fun b u q nm z=>by subst z;rw[q]at mu;exact nm mu
 refine⟨fun b u q n _ _=>k b u (hb b n) q,fun b u q n _ _=>⟨u.slots,k b u (hb b n) q⟩,fun b u q n _=>by rw[ak (hx b n)];exact n,fun b u q _=>?_,
  fun b xs q=>by rw[ak (hm b _ q fun z=>z)];exact q,fun b u xs q=>by rw[ak (hm b _ q fun z=>z)];exact q,fun b ps q=>⟨#[],by rw[ak (hm b _ q fun z=>z),q];simp⟩⟩
 by_cases hbe:b=e
 ·subst hbe;exact heo
 ·exact⟨u,k b u hbe q⟩
end
def trk(h:aA)(H:Hp):List aa:=(aT h.objs.size).filter fun a=>(H a).isSome
def hidT(h:aA)(H:Hp):aA:=ik h (trk h H)
theorem hidT_size(h:aA)(H:Hp):(hidT h H).objs.size=h.objs.size:=xm _ _
theorem hidT_get{h:aA}{H:Hp}{b:aa}{o:az}(e:h.get? b=some o)(n:H b=none):(hidT h H).get? b=some o:=
 lP _ e fun hm=>by
  have q:(H b).isSome=true:=(f7.mp hm).2
  rw[n]at q;simp at q
theorem of_hidT{h:aA}{H:Hp}{b:aa}{o:az}(e:(hidT h H).get? b=some o):h.get? b=some o/\H b=none:=by
 have e':h.get? b=some o:=nN (trk h H) e
 refine⟨e',?_⟩
 cases q:H b with
 |none=>rfl
 |some x=>
  have hm:b∈trk h H:=f7.mpr ⟨bt.mpr (cy e'),by simp[q]⟩
  have z:(hidT h H).get? b=none:=rC (trk h H) hm
  rw[z]at e;cases e
structure Mod (K:ay) (mg:ag->Option af) (base:aA):Prop where
 kin:K.In base
 glob:base.Ns mainGlobals mg
 blt:∃mb,base.Ns builtinsNs mb/\∀x:ag,x ≠ "__name__"->mb x=bootBuiltins x
 nolimit:base.NoLimit
structure Cx where
 prog:aU
 w:aM
 K:ay
 mg:ag->Option af
 base:aA
 A:bD
 N:List ag
 s_0:ah
 H_0:Hp
 env:cg
 outer:List cg
 stack:List cg
 ex:List aa
 fn:ag->Bool
 calm:Bool
 pn:List (aa×az)
 xe:af->ah->Prop
def cu(l:List cg):List aa:=l.filterMap (·.frame)
abbrev Cx.fs(X:Cx):List aa:=cu X.outer
def Vis(sc:dc)(x:ag):Prop:=sc.names.lookup x=some .local\/sc.names.lookup x=some .cell\/sc.names.lookup x=some .free
def Loc(sc:dc)(x:ag):Prop:=sc.names.lookup x=some .local\/sc.names.lookup x=some .cell
def Look(env:cg)(h:aA)(m:ag->Option af)(x:ag)(u:af):Prop:=
 (env.kindOf x=some .local/\m x=some u)\/((env.kindOf x=some .cell\/env.kindOf x=some .free)/\∃c,env.cells.lookup x=some c/\h.IsCell c (some u))
structure Cx.Ok (X:Cx):Prop where
 mod:Mod X.K X.mg X.base
 kind:X.env.scope.kind=.function
 glob:X.env.globals=mainGlobals
 blt:X.env.builtins=builtinsNs
 above:X.s_0.heap.objs.size<=X.env.locals
 inj:∀x y c,X.env.cells.lookup x=some c->X.env.cells.lookup y=some c->x=y
 has:∀x,(X.env.kindOf x=some .cell\/X.env.kindOf x=some .free)->∃c,X.env.cells.lookup x=some c
 cab:∀x c,X.fn x=true->X.env.cells.lookup x=some c->X.s_0.heap.objs.size<=c
 hd:X.calm=true->X.A.handled=none
 frames:X.A.frames=some X.stack
 stk:X.stack=X.outer\/(X.stack=X.env ::X.outer/\X.env.frame=some X.env.locals)
 exf:∀b∈X.ex,b≠X.env.locals/\∀x c,X.env.cells.lookup x=some c->c≠b
 bs:∀b o,X.base.get? b=some o->X.s_0.heap.get? b=some o/\X.H_0 b=none
 bsz:X.base.objs.size<=X.s_0.heap.objs.size
 noex:∀b o,X.base.get? b=some o->b∉X.ex
 exfs:∀b∈X.ex,b∉X.fs
 funs:X.s_0.heap.FunFrames X.base X.outer
 frf:∀b∈X.fs,X.H_0 b=none
structure Inv (X:Cx) (pins:List (aa×az)) (σ:List (Option V)) (H:Hp) (s:ah):Prop where
 ok:X.Ok
 os:s.os=X.s_0.os
 bare:kY s.gens
 base:Un X.fs X.ex X.H_0 H X.s_0.heap s.heap
 loc:∃m,s.heap.Ns X.env.locals m/\∀(i:Nat) (x:ag) (v:V),X.N[i]?=some x->σ[i]?=some (some v)->Vis X.env.scope x->∃u,RelV v u/\Look X.env s.heap m x u
 cell:∀x c,X.env.cells.lookup x=some c->∃v,s.heap.IsCell c v
 free:H X.env.locals=none
 fR:∀x c,X.env.cells.lookup x=some c->H c=none
 pin:∀p∈X.pn++pins,s.heap.get? p.1=some p.2/\H p.1=none/\p.1≠X.env.locals/\p.1∉X.fs/\∀v,p.2.data≠.cell v
 aG:HOk X.prog X.w H s.heap
 len:σ.length=X.N.length
section
variable{X:Cx}{pins:List (aa×az)}{σ:List (Option V)}{H H':Hp}{s:ah}{h':aA}
theorem Cx.Ok.nofr(ok:X.Ok){b:aa}{o:az}(e:X.base.get? b=some o):b∉X.fs:=fun hb=>by
 have:=(ok.funs.mem hb).1
 rw[e]at this;cases this
theorem Inv.bs(I:Inv X pins σ H s):∀b o,X.base.get? b=some o->s.heap.get? b=some o/\H b=none:=fun b o e=>
 ⟨I.base.keep b o (I.ok.bs b o e).1 (I.ok.bs b o e).2 (I.ok.nofr e) (I.ok.noex b o e),I.base.free b o (I.ok.bs b o e).1 (I.ok.bs b o e).2 (I.ok.noex b o e)⟩
theorem Inv.bk(I:Inv X pins σ H s):∀b o,X.base.get? b=some o->s.heap.get? b=some o:=fun b o e=>(I.bs b o e).1
theorem Inv.mod(I:Inv X pins σ H s):Mod X.K X.mg X.base:=I.ok.mod
theorem Inv.kIn(I:Inv X pins σ H s):X.K.In s.heap:=I.ok.mod.kin.keeps I.bk
theorem Inv.lt(I:Inv X pins σ H s):X.env.locals<s.heap.objs.size:=let ⟨_,hn,_⟩:=I.loc;hn.lt
theorem Inv.sz(I:Inv X pins σ H s):X.s_0.heap.objs.size<=s.heap.objs.size:=cZ I.ok.above (gH I.lt)
theorem Inv.nofs(I:Inv X pins σ H s){a:aa}(h:s.heap.objs.size<=a):a∉X.fs:=fun hb=>by
 obtain⟨_,o,ho,_⟩:=I.ok.funs.mem hb
 exact absurd (du (cy ho) (cZ I.sz h)) (hG _)
theorem Inv.cne(I:Inv X pins σ H s):∀x c,X.env.cells.lookup x=some c->c≠X.env.locals:=fun x c e z=>by
 obtain⟨v,o,ho,hd⟩:=I.cell x c e
 obtain⟨m,⟨o',es,ep,cS,hd',_⟩,_⟩:=I.loc
 rw[z,cS]at ho;cases ho;rw[hd']at hd;cases hd
theorem Inv.funs(I:Inv X pins σ H s):s.heap.FunFrames X.base X.outer:=by
 have all:∀(l:List cg),(∀b∈cu l,b∈X.fs)->X.s_0.heap.FunFrames X.base l->s.heap.FunFrames X.base l:=by
  intro l
  induction l with
  |nil=>intro _ _;trivial
  |cons env r ih=>
   intro hs hl
   obtain⟨hk,⟨L,o,hf,hn,ho,hd⟩,hr⟩:=hl
   have hL:L∈X.fs:=hs L (by unfold cu;rw[pN,hf];exact b9)
   obtain⟨sl,e⟩:=I.base.slot L o ho (I.ok.frf L hL) hL fun z=>I.ok.exfs L z hL
   exact⟨hk,⟨L,_,hf,hn,e,hd⟩,ih (fun b hb=>hs b (by unfold cu;rw[pN,hf];exact cb _ hb)) hr⟩
 exact all X.outer (fun _ hb=>hb) I.ok.funs
theorem Inv.stack(I:Inv X pins σ H s):s.heap.FunFrames X.base X.stack:=by
 rcases I.ok.stk with e|⟨e,hf⟩
 ·rw[e];exact I.funs
 ·rw[e]
  obtain⟨m,hn,_⟩:=I.loc
  refine .cons (by rw[I.ok.kind];decide) hf hn ?_ I.funs
  exact yf (cZ I.ok.bsz I.ok.above)
theorem Inv.stkSub(I:Inv X pins σ H s):∀b∈cu X.stack,b∈X.env.locals ::X.fs:=fun b hb=>by
 rcases I.ok.stk with e|⟨e,hf⟩
 ·rw[e]at hb;exact cb _ hb
 ·rw[e]at hb
  unfold cu at hb
  rw[pN,hf]at hb
  exact hb
theorem Inv.stkFree(I:Inv X pins σ H s):∀b∈cu X.stack,H b=none:=fun b hb=>by
 rcases aZ.mp (I.stkSub b hb)with e|hb
 ·rw[e];exact I.free
 ·obtain⟨_,o,ho,_⟩:=I.ok.funs.mem hb
  exact I.base.free b o ho (I.ok.frf b hb) fun z=>I.ok.exfs b z hb
theorem Inv.step{g':Array pF}{t':Nat}{d':Drawn}{ch:List aa}(I:Inv X pins σ H s)(hch:∀b∈ch,(b∈X.ex\/X.s_0.heap.objs.size<=b)/\b≠X.env.locals/\(∀x c,X.env.cells.lookup x=some c->c≠b)/\∀p∈X.pn++pins,p.1≠b)(keep:∀b o,b≠X.env.locals->b∉X.fs->b∉ch->s.heap.get? b=some o->H b=none->h'.get? b=some o)(slot:∀b o,b≠X.env.locals->b∈X.fs->b∉ch->s.heap.get? b=some o->H b=none->∃sl,h'.get? b=some {o with slots:=sl})(free:∀b o,b∉ch->s.heap.get? b=some o->H b=none->H' b=none)(there:∀b o,b∉ch->s.heap.get? b=some o->∃o',h'.get? b=some o')(tups:∀b xs,H b=some (.tup xs)->H' b=some (.tup xs))(frzs:∀b o u,H b=some (.bM o u)->H' b=some (.bM o u))(tbls:∀b ps,H b=some (.bz ps)->∃more,H' b=some (.bz (ps++more)))(ns:∀m,s.heap.Ns X.env.locals m->h'.Ns X.env.locals m)(aG:HOk X.prog X.w H' h')(hg:kY g') :Inv X pins σ H' {s with heap:=h',gens:=g',drawn:=d',toks:=t'}:=by
 have neL:∀b o,X.s_0.heap.get? b=some o->b≠X.env.locals:=fun b o e=>dR (du (cy e) I.ok.above)
 have neC:∀b o,X.s_0.heap.get? b=some o->b∉X.ex->b∉ch:=fun b o e hx hb=>by
  rcases (hch b hb).1 with z|z
  ·exact hx z
  ·exact absurd (du (cy e) z) (hG _)
 have cellK:∀x c,X.env.cells.lookup x=some c->∀v,s.heap.IsCell c v->h'.IsCell c v:=fun x c e v ⟨o,ho,hd⟩=>by
  have nch:c∉ch:=fun z=>(hch c z).2.2.1 x c e rfl
  by_cases hc:c∈X.fs
  ·obtain⟨sl,q⟩:=slot c o (I.cne x c e) hc nch ho (I.fR x c e)
   exact⟨_,q,hd⟩
  ·exact⟨o,keep c o (I.cne x c e) hc nch ho (I.fR x c e),hd⟩
 refine⟨I.ok,I.os,hg,⟨fun b o e n hb hx=>?_,fun b o e n hb hx=>?_,fun b o e n hx=>?_,fun b o e hx=>?_,fun b xs e=>tups b xs (I.base.tups b xs e),fun b o xs e=>frzs b o xs (I.base.frzs b o xs e),fun b ps e=>?_⟩,?_,fun x c e=>?_,?_,fun x c e=>?_,fun p hp=>?_,aG,I.len⟩
 ·exact keep b o (neL b o e) hb (neC b o e hx) (I.base.keep b o e n hb hx) (I.base.free b o e n hx)
 ·obtain⟨sl,e1⟩:=I.base.slot b o e n hb hx
  obtain⟨sl',e2⟩:=slot b _ (neL b o e) hb (neC b o e hx) e1 (I.base.free b o e n hx)
  exact⟨sl',e2⟩
 ·obtain⟨o',e1⟩:=I.base.there b o e hx
  exact free b o' (neC b o e hx) e1 (I.base.free b o e n hx)
 ·obtain⟨o',e1⟩:=I.base.there b o e hx
  exact there b o' (neC b o e hx) e1
 ·obtain⟨m1,e1⟩:=I.base.tbls b ps e
  obtain⟨m2,e2⟩:=tbls b _ e1
  exact⟨m1++m2,by rw[e2,Array.append_assoc]⟩
 ·obtain⟨m,hn,hl⟩:=I.loc
  refine⟨m,ns m hn,fun i x v e1 e2 e3=>?_⟩
  obtain⟨u,r,l⟩:=hl i x v e1 e2 e3
  refine⟨u,r,?_⟩
  rcases l with l|⟨k,c,e,z⟩
  ·exact .inl l
  ·exact .inr ⟨k,c,e,cellK x c e _ z⟩
 ·obtain⟨v,z⟩:=I.cell x c e
  exact⟨v,cellK x c e v z⟩
 ·obtain⟨m,⟨o,_,_,ho,_⟩,_⟩:=I.loc
  exact free _ o (fun z=>(hch _ z).2.1 rfl) ho I.free
 ·obtain⟨v,o,ho,hd⟩:=I.cell x c e
  exact free c o (fun z=>(hch c z).2.2.1 x c e rfl) ho (I.fR x c e)
 ·obtain⟨e,n,ne,nf,d⟩:=I.pin p hp
  have nch:p.1∉ch:=fun z=>(hch p.1 z).2.2.2 p hp rfl
  exact⟨keep p.1 p.2 ne nf nch e n,free p.1 p.2 nch e n,ne,nf,d⟩
theorem Inv.un{t':Nat}(I:Inv X pins σ H s)(u:Un X.fs [] H H' s.heap h')(aG:HOk X.prog X.w H' h'):Inv X pins σ H' {s with heap:=h',toks:=t'}:=by
 obtain⟨m,⟨o,es,ep,ho,r⟩,_⟩:=id I.loc
 obtain⟨sl,hL⟩:=u.any ho I.free (by simp)
 exact I.step (g':=s.gens) (d':=s.drawn) (ch:=[]) (fun _ z=>nomatch z) (fun b o _ hb _ e n=>u.keep b o e n hb (by simp)) (fun b o _ hb _ e n=>u.slot b o e n hb (by simp)) (fun b o _ e n=>u.free b o e n (by simp)) (fun b o _ e=>u.there b o e (by simp)) u.tups u.frzs u.tbls (fun m' hm=>by
  obtain⟨o',es',ep',cS,r'⟩:=hm
  rw[ho]at cS;cases cS
  exact⟨_,es',ep',hL,r'⟩) aG I.bare
theorem Inv.call{g':Array pF}{t':Nat}{d':Drawn}{ch:List aa}(I:Inv X pins σ H s)(u:Un (cu X.stack) ch H H' s.heap h')(aG:HOk X.prog X.w H' h')(hg:kY g')(hch:∀b∈ch,(b∈X.ex\/X.s_0.heap.objs.size<=b)/\b≠X.env.locals/\(∀x c,X.env.cells.lookup x=some c->c≠b)/\∀p∈X.pn++pins,p.1≠b) :Inv X pins σ H' {s with heap:=h',gens:=g',drawn:=d',toks:=t'}:=by
 obtain⟨m,⟨o,es,ep,ho,r⟩,_⟩:=id I.loc
 obtain⟨sl,hL⟩:=u.any ho I.free fun z=>(hch _ z).2.1 rfl
 exact I.step (ch:=ch) hch (fun b o hL hb hc e n=>u.keep b o e n (fun z=>(aZ.mp (I.stkSub b z)).elim hL hb) hc) (fun b o _ _ hc e n=>u.any e n hc) (fun b o hc e n=>u.free b o e n hc) (fun b o hc e=>u.there b o e hc) u.tups u.frzs u.tbls (fun m' hm=>by
  obtain⟨o',es',ep',cS,r'⟩:=hm
  rw[ho]at cS;cases cS
  exact⟨_,es',ep',hL,r'⟩) aG hg
theorem Inv.turned{t':Nat}{it:aa}(I:Inv X pins σ H s)(k:∀b o,b≠it->s.heap.get? b=some o->h'.get? b=some o)(hn:H it=none)(hL:it≠X.env.locals)(h1:it∈X.ex\/X.s_0.heap.objs.size<=it)(h2:∀x c,X.env.cells.lookup x=some c->c≠it)(h3:∀p∈X.pn++pins,p.1≠it):Inv X pins σ H {s with heap:=h',toks:=t'}:=by
 have nit:∀b u,H b=some u->b≠it:=fun b u e z=>by rw[z,hn]at e;cases e
 refine I.step (g':=s.gens) (d':=s.drawn) (ch:=[it]) (fun b hb=>?_) (fun b o _ _ hc e _=>k b o (fun z=>hc (by simp[z])) e) (fun b o _ _ hc e _=>⟨o.slots,k b o (fun z=>hc (by simp[z])) e⟩) (fun _ _ _ _ n=>n)
  (fun b o hc e=>⟨o,k b o (fun z=>hc (by simp[z])) e⟩) (fun _ _ e=>e) (fun _ _ _ e=>e) (fun b ps e=>⟨#[],by rw[e];simp⟩) (fun m hm=>?_) (fun b u e=>?_) I.bare
 ·have e:b=it:=by simpa using hb
  subst e
  exact⟨h1,hL,h2,h3⟩
 ·obtain⟨o,es,ep,ho,r⟩:=hm
  exact⟨o,es,ep,k _ o (hW hL) ho,r⟩
 ·refine(I.aG b u e).stay (fun c v hc q=>k c v ?_ q) (fun _ q=>q) fun _ _ q=>q
  rcases hc with z|z
  ·rw[z];exact nit b u e
  ·exact nit c _ z
theorem Inv.tok(I:Inv X pins σ H s)(t:Nat):Inv X pins σ H {s with toks:=t}:=I.un (h':=s.heap) (t':=t) Un.refl I.aG
theorem Inv.kept{t':Nat}(I:Inv X pins σ H s)(k:∀b u,s.heap.get? b=some u->h'.get? b=some u):Inv X pins σ H {s with heap:=h',toks:=t'}:=I.un (Un.kept k) (I.aG.kept k)
theorem Inv.laid{a:aa}{o:HO}{t':Nat}(I:Inv X pins σ H s)(k:∀b u,s.heap.get? b=some u->h'.get? b=some u)(hp:s.heap.objs.size<=a)(new:dk X.prog X.w (upd H a o) h' a o) :Inv X pins σ (upd H a o) {s with heap:=h',toks:=t'}:=I.un (Un.laid k hp (I.aG.fresh hp)) (I.aG.laid k hp new)
theorem Inv.write{x e:aa}{o:HO}{t':Nat}(I:Inv X pins σ H s)(mu:Mut (H x))(he:e=x\/H e=some (.own x))(k:∀b u,b≠e->s.heap.get? b=some u->h'.get? b=some u)(heo:∃u,h'.get? e=some u)(new:dk X.prog X.w (upd H x o) h' x o):Inv X pins σ (upd H x o) {s with heap:=h',toks:=t'}:=I.un (Un.write mu he k heo) (I.aG.write mu he k heo new)
theorem Inv.weak{σ':List (Option V)}(I:Inv X pins σ H s)(hl:σ'.length=σ.length)(w:∀(i:Nat) v,σ'[i]?=some (some v)->σ[i]?=some (some v)):Inv X pins σ' H s:=
 ⟨I.ok,I.os,I.bare,I.base,let ⟨m,hn,hl'⟩:=I.loc;⟨m,hn,fun i x v e1 e2 e3=>hl' i x v e1 (w i v e2) e3⟩,I.cell,I.free,I.fR,I.pin,I.aG,hl.trans I.len⟩
theorem Inv.pins_of{pins':List (aa×az)}(I:Inv X pins σ H s)(h:∀p∈pins',s.heap.get? p.1=some p.2/\H p.1=none/\p.1≠X.env.locals/\p.1∉X.fs/\∀v,p.2.data≠.cell v):Inv X pins' σ H s:=
 ⟨I.ok,I.os,I.bare,I.base,I.loc,I.cell,I.free,I.fR,fun p hp=>(cQ.mp hp).elim (fun z=>I.pin p (dZ _ z)) (h p),I.aG,I.len⟩
theorem nodup_ix{N:List ag}(hN:N.Nodup){i j:Nat}{x:ag}(a:N[i]?=some x)(b:N[j]?=some x):i=j:=by
 obtain⟨h1,e1⟩:=bj.mp a
 obtain⟨h2,e2⟩:=bj.mp b
 exact(xr hN).mp (e1.trans e2.symm)
theorem store_ok2{M:gX}{A:bD}{E:af->ah->Prop}{i:Nat}{x:ag}{v:V}{u:af}{Q:Unit->ah->Prop}(I:Inv X pins σ H s)(hN:X.N.Nodup)(hi:X.N[i]?=some x)(hx:Loc X.env.scope x)(r:RelV v u)
  (h:∀s',Inv X pins (σ.set i (some v)) H s'->(∃a,iY a s.heap s'.heap/\(a=X.env.locals\/X.env.cells.lookup x=some a))->Q () s') (hf:X.fn x=true\/X.env.scope.names.lookup x=some .local:=by first|exact .inl rfl|exact .inr rfl|assumption):wpAny M A (storeName X.env x u) Q E s:=by
 obtain⟨m,hn,hl⟩:=id I.loc
 have hcls:(X.env.scope.kind==.class||(X.env.scope.kind==.module&&X.env.locals != X.env.globals))=false:=by rw[I.ok.kind];rfl
 have hiσ:i<σ.length:=by rw[I.len];exact(bj.mp hi).1
 have cne:=I.cne
 have tracked:∀{a:aa} {h':aA},(∃o,s.heap.get? a=some o/\H a=none)->iY a s.heap h'->HOk X.prog X.w H h':=fun{a h'} ha hs b ob e=>by
  obtain⟨_,_,hfree⟩:=ha
  refine(I.aG b ob e).stay (fun c w' hc q=>(hs.2 c ?_).trans q) (fun _ q=>q) fun _ _ q=>q
  rintro rfl
  rcases hc with rfl|hc
  ·rw[hfree]at e;cases e
  ·rw[hfree]at hc;cases hc
 rcases hx with hk|hk
 ·refine wpAny_storeName_local hk hn (fun h' hn' hs=>?_) hcls
  obtain⟨oL,_,_,hoL,_⟩:=id hn
  refine h _ ⟨I.ok,I.os,I.bare,⟨fun b o e n hb hx=>?_,fun b o e n hb hx=>?_,I.base.free,fun b o e hx=>?_,I.base.tups,I.base.frzs,I.base.tbls⟩,⟨_,hn',fun j y v' e1 e2 e3=>?_⟩,fun y c e=>?_,I.free,I.fR,fun p hp=>?_,tracked ⟨oL,hoL,I.free⟩ hs,by simpa using I.len⟩ ⟨_,hs,.inl rfl⟩
  ·exact(hs.2 b (dR (du (cy e) I.ok.above))).trans (I.base.keep b o e n hb hx)
  ·obtain⟨sl,e1⟩:=I.base.slot b o e n hb hx
   exact⟨sl,(hs.2 b (dR (du (cy e) I.ok.above))).trans e1⟩
  ·obtain⟨o',e1⟩:=I.base.there b o e hx
   exact⟨o',(hs.2 b (dR (du (cy e) I.ok.above))).trans e1⟩
  ·by_cases hj:j=i
   ·subst hj
    rw[hi]at e1;cases e1
    rw[nR hiσ]at e2
    cases e2
    exact⟨u,r,.inl ⟨hk,by simp⟩⟩
   ·rw[lR (hW hj)]at e2
    obtain⟨u',r',q⟩:=hl j y v' e1 e2 e3
    refine⟨u',r',?_⟩
    rcases q with⟨k,e⟩|⟨k,c,e,z⟩
    ·refine .inl ⟨k,?_⟩
     have:y≠x:=fun e=>hj (nodup_ix hN e1 (e▸hi))
     simp[this,e]
    ·exact .inr ⟨k,c,e,z.sameBut hs (cne y c e)⟩
  ·obtain⟨w',z⟩:=I.cell y c e
   exact⟨w',z.sameBut hs (cne y c e)⟩
  ·obtain⟨e,n,ne,nf,d⟩:=I.pin p hp
   exact⟨(hs.2 p.1 ne).trans e,n,ne,nf,d⟩
 ·have hfn:X.fn x=true:=by
   rcases hf with z|z
   ·exact z
   ·rw[z]at hk;cases hk
  obtain⟨c,hc⟩:=I.ok.has x (.inl hk)
  obtain⟨w',z⟩:=I.cell x c hc
  refine wpAny_storeName_cell I.ok.kind hk hc z (fun h' hc' hs=>?_)
  obtain⟨oc,hoc,hocd⟩:=id z
  refine h {s with heap:=h'} ⟨I.ok,I.os,I.bare,⟨fun b o e n hb hx=>?_,fun b o e n hb hx=>?_,I.base.free,fun b o e hx=>?_,I.base.tups,I.base.frzs,I.base.tbls⟩,⟨m,hn.sameBut hs (hW (cne x c hc)),fun j y v' e1 e2 e3=>?_⟩,fun y c' e=>?_,I.free,I.fR,fun p hp=>?_,tracked ⟨oc,hoc,I.fR x c hc⟩ hs,by simpa using I.len⟩ ⟨c,hs,.inr hc⟩
  ·exact(hs.2 b (dR (du (cy e) (I.ok.cab x c hfn hc)))).trans (I.base.keep b o e n hb hx)
  ·obtain⟨sl,e1⟩:=I.base.slot b o e n hb hx
   exact⟨sl,(hs.2 b (dR (du (cy e) (I.ok.cab x c hfn hc)))).trans e1⟩
  ·obtain⟨o',e1⟩:=I.base.there b o e hx
   exact⟨o',(hs.2 b (dR (du (cy e) (I.ok.cab x c hfn hc)))).trans e1⟩
  ·by_cases hj:j=i
   ·subst hj
    rw[hi]at e1;cases e1
    rw[nR hiσ]at e2
    cases e2
    exact⟨u,r,.inr ⟨.inl hk,c,hc,hc'⟩⟩
   ·rw[lR (hW hj)]at e2
    obtain⟨u',r',q⟩:=hl j y v' e1 e2 e3
    refine⟨u',r',?_⟩
    rcases q with q|⟨k,c',e,z'⟩
    ·exact .inl q
    ·refine .inr ⟨k,c',e,z'.sameBut hs ?_⟩
     rintro rfl
     exact hj (nodup_ix hN e1 (I.ok.inj _ _ _ e hc▸hi))
  ·by_cases hcc:c'=c
   ·subst hcc;exact⟨_,hc'⟩
   ·obtain⟨w2,z2⟩:=I.cell y c' e
    exact⟨w2,z2.sameBut hs hcc⟩
  ·obtain⟨e,n,ne,nf,d⟩:=I.pin p hp
   refine⟨(hs.2 p.1 ?_).trans e,n,ne,nf,d⟩
   intro q
   rw[q,hoc]at e
   have q':oc=p.2:=cC e
   exact d w' (by rw[<-q'];exact hocd)
theorem store_ok{M:gX}{A:bD}{E:af->ah->Prop}{i:Nat}{x:ag}{v:V}{u:af}{Q:Unit->ah->Prop}(I:Inv X pins σ H s)(hN:X.N.Nodup)(hi:X.N[i]?=some x)(hx:Loc X.env.scope x)(r:RelV v u)
  (h:∀s',Inv X pins (σ.set i (some v)) H s'->Q () s') (hf:X.fn x=true\/X.env.scope.names.lookup x=some .local:=by first|exact .inl rfl|exact .inr rfl|assumption):wpAny M A (storeName X.env x u) Q E s:=
 store_ok2 I hN hi hx r (fun s' I' _=>h s' I') hf
theorem Inv.call'{s':ah}{ch:List aa}(I:Inv X pins σ H s)(ho:s'.os=s.os)(u:Un (cu X.stack) ch H H' s.heap s'.heap)(aG:HOk X.prog X.w H' s'.heap)(hg:kY s'.gens)(hch:∀b∈ch,(b∈X.ex\/X.s_0.heap.objs.size<=b)/\b≠X.env.locals/\(∀x c,X.env.cells.lookup x=some c->c≠b)/\∀p∈X.pn++pins,p.1≠b):Inv X pins σ H' s':=by
 obtain⟨h',g',d',t',o'⟩:=s'
 have e:o'=s.os:=ho
 subst e
 exact I.call (g':=g') (t':=t') (d':=d') u aG hg hch
end
abbrev XK:=af->Option aa->Hp->Prop
abbrev St:=List (Option V)
abbrev VK:=V->Hp->Prop
abbrev TE:=St->Hp->VK->Prop
abbrev TT:=St->Hp->(Bool->Hp->Prop)->Prop
abbrev TA:=St->Hp->(List V->Hp->Prop)->Prop
structure Ends where
 nx:St->Hp->Prop
 rt:VK
 bk:St->Hp->Prop:=fun _ _=>False
 ct:St->Hp->Prop:=fun _ _=>False
abbrev TS:=Ends->St->Hp->Prop
def EP(X:Cx)(pins:List (aa×az))(σ:St)(Q:VK)(u:af)(s':ah):Prop:=∃v H',Inv X pins σ H' s'/\RelV v u/\Q v H'
def TP(X:Cx)(pins:List (aa×az))(σ:St)(Q:Bool->Hp->Prop)(b:Bool)(s':ah):Prop:=∃H',Inv X pins σ H' s'/\Q b H'
def AP(X:Cx)(pins:List (aa×az))(σ:St)(Q:List V->Hp->Prop)(us:List af)(s':ah):Prop:=∃vs H',Inv X pins σ H' s'/\Vals vs us/\Q vs H'
def SP(X:Cx)(pins:List (aa×az))(D:Ends)(f:Flow)(s':ah):Prop:=
 match f with
 |.next=>∃σ' H',Inv X pins σ' H' s'/\D.nx σ' H'
 |.brk=>∃σ' H',Inv X pins σ' H' s'/\D.bk σ' H'
 |.cont=>∃σ' H',Inv X pins σ' H' s'/\D.ct σ' H'
 |.ret u=>∃v σ' H',Inv X pins σ' H' s'/\RelV v u/\D.rt v H'
def PE(X:Cx)(e:aV)(t:TE):Prop:=
 ∀(pins:List (aa×az)) (s:ah) (σ:St) (H:Hp) (Q:VK),Inv X pins σ H s->t σ H Q->wpAny (model X.prog X.w) X.A (eval e X.env) (EP X pins σ Q) X.xe s
def PT(X:Cx)(e:aV)(t:TT):Prop:=
 ∀(pins:List (aa×az)) (s:ah) (σ:St) (H:Hp) (Q:Bool->Hp->Prop),Inv X pins σ H s->t σ H Q->wpAny (model X.prog X.w) X.A (isTrue e X.env (eval e X.env)) (TP X pins σ Q) X.xe s
def PW(X:Cx)(e:aV)(t:TT):Prop:=
 ∀(whole:dY af) (pins:List (aa×az)) (s:ah) (σ:St) (H:Hp) (Q:Bool->Hp->Prop),Inv X pins σ H s->t σ H Q->wpAny (model X.prog X.w) X.A (isTrue e X.env whole) (TP X pins σ Q) X.xe s
theorem PW.pt{X:Cx}{e:aV}{t:TT}(h:PW X e t):PT X e t:=h _
def PA(X:Cx)(es:List aV)(t:TA):Prop:=
 ∀(pos:bN) (pins:List (aa×az)) (s:ah) (σ:St) (H:Hp) (Q:List V->Hp->Prop),Inv X pins σ H s->t σ H Q->wpAny (model X.prog X.w) X.A (spliced (backTo pos (starEach es X.env))) (AP X pins σ Q) X.xe s
def PS(X:Cx)(st:a6)(t:TS):Prop:=
 ∀(pins:List (aa×az)) (s:ah) (σ:St) (H:Hp) (D:Ends),Inv X pins σ H s->t D σ H->wpAny (model X.prog X.w) X.A (exec st X.env) (SP X pins D) X.xe s
def PSs(X:Cx)(st:List a6)(t:TS):Prop:=
 ∀(pins:List (aa×az)) (s:ah) (σ:St) (H:Hp) (D:Ends),Inv X pins σ H s->t D σ H->wpAny (model X.prog X.w) X.A (execs st X.env) (SP X pins D) X.xe s
theorem aW{α:Type}{t:dY α}{Q Q':α->ah->Prop}{M:gX}{A:bD}{E:af->ah->Prop}{s:ah}(h:wpAny M A t Q E s)(hQ:∀a s,Q a s->Q' a s):wpAny M A t Q' E s:=fD h hQ fun _ _ x=>x
section
variable{X:Cx}
theorem bin{a b:aV}{ta tb:TE}(ha:PE X a ta)(hb:PE X b tb){pins:List (aa×az)}{s:ah}{σ:St}{H:Hp}{R:V->V->Hp->Prop}(I:Inv X pins σ H s)(h:ta σ H fun x H1=>tb σ H1 fun y H2=>R x y H2){α:Type}{Q:α->ah->Prop}{f:af->af->dY α}(hf:∀v u s2 x y H2,Inv X pins σ H2 s2->RelV x v->RelV y u->R x y H2->wpAny (model X.prog X.w) X.A (f v u) Q X.xe s2) :wpAny (model X.prog X.w) X.A (eval a X.env) (fun v s₁=>wpAny (model X.prog X.w) X.A (eval b X.env) (fun u s₂=>wpAny (model X.prog X.w) X.A (f v u) Q X.xe s₂) X.xe s₁) X.xe s:=by
 refine aW (ha pins s σ H _ I h) fun v s1 ⟨x,H1,I1,r1,q1⟩=>?_
 refine aW (hb pins s1 σ H1 _ I1 q1) fun u s2 ⟨y,H2,I2,r2,q2⟩=>?_
 exact hf v u s2 x y H2 I2 r1 r2 q2
def tVar(i:Nat):TE:=fun σ H Q=>∃v,σ[i]?=some (some v)/\Q v H
def tC(v:V):TE:=fun _ H Q=>Q v H
theorem pe_var{i:Nat}{x:ag}{pos:bN}(hN:X.N[i]?=some x)(hv:Vis X.env.scope x)(hd:(x==("__debug__" :ag))=false:=by decide)(hcd:(x==("__classdict__" :ag))=false:=by decide):PE X (.Name x pos) (tVar i):=by
 intro pins s σ H Q I h
 obtain⟨v,e,h⟩:=h
 obtain⟨m,hn,hl⟩:=I.loc
 obtain⟨u,r,l⟩:=hl i x v hN e hv
 have fin:EP X pins σ Q u s:=⟨v,H,I,r,h⟩
 rcases l with⟨hk,hm⟩|⟨hk,c,hc,hcell⟩
 ·exact uu (wpAny_loadName_local I.ok.kind hk hn hm fin) hd
 ·rcases hk with hk|hk
  ·exact uu (wpAny_loadName_cell I.ok.kind hk hc hcell fin) hd
  ·exact uu (wpAny_loadName_free I.ok.kind hk hc hcell fin hcd) hd
theorem cj{i j pos}:PE X (.Constant (.int i) j pos) (tC (.int i)):=fun _ _ _ H _ I h=>wV ⟨.int i,H,I.tok _,⟨_,rfl⟩,h⟩
theorem pe_bl{b j pos}:PE X (.Constant (.bool b) j pos) (tC (.bl b)):=fun _ _ _ H _ I h=>Constant_bool ⟨.bl b,H,I,rfl,h⟩
theorem pe_non{j pos}:PE X (.Constant .none j pos) (tC .bo):=fun _ _ _ H _ I h=>Constant_none ⟨.bo,H,I,rfl,h⟩
def Gl(X:Cx)(x:ag):Prop:=X.env.kindOf x=some .globalImplicit
theorem iN{E:af->ah->Prop}{pins:List (aa×az)}{s:ah}{σ:St}{H:Hp}{x:ag}{u:af}{pos:bN}{Q:af->ah->Prop}(I:Inv X pins σ H s)(hg:Gl X x)(hm:X.mg x=some u)(h:Q u s)
  (hd:(x==("__debug__" :ag))=false:=by decide):wpAny (model X.prog X.w) X.A (eval (.Name x pos) X.env) Q E s:=
 y8 I.ok.kind hg (Calls.loadGlobal_global (by rw[I.ok.glob];exact I.mod.glob.keeps I.bk) hm h) hd
theorem kZ{E:af->ah->Prop}{pins:List (aa×az)}{s:ah}{σ:St}{H:Hp}{x:ag}{u:af}{pos:bN}{Q:af->ah->Prop}(I:Inv X pins σ H s)(hg:Gl X x)(hm:X.mg x=none)(hv:bootBuiltins x=some u)(h:Q u s)
  (hn:x ≠ "__name__":=by decide) (hd:(x==("__debug__" :ag))=false:=by decide):wpAny (model X.prog X.w) X.A (eval (.Name x pos) X.env) Q E s:=by
 obtain⟨mb,h1,h2⟩:=I.mod.blt
 exact y8 I.ok.kind hg (Calls.loadGlobal_builtin (by rw[I.ok.glob];exact I.mod.glob.keeps I.bk) hm (by rw[I.ok.blt];exact h1.keeps I.bk) ((h2 x hn).trans hv) h) hd
theorem pe_glob{x:ag}{v:V}{u:af}{pos:bN}(hg:Gl X x)(hm:X.mg x=some u)(r:RelV v u)(hd:(x==("__debug__" :ag))=false:=by decide):PE X (.Name x pos) (tC v):=
 fun _ _ _ H _ I h=>iN I hg hm ⟨v,H,I,r,h⟩ hd
variable{a b:aV}{ta tb:TE}{pos:bN}
def PC(X:Cx)(op:CmpOp)(a b:aV)(t:TE):Prop:=
 ∀(pins:List (aa×az)) (s:ah) (σ:St) (H:Hp) (Q:VK),Inv X pins σ H s->t σ H Q ->
  wpAny (model X.prog X.w) X.A (eval a X.env) (fun v s₁=>wpAny (model X.prog X.w) X.A (eval b X.env) (fun u s₂=>wpAny (model X.prog X.w) X.A (compareOp op v u) (EP X pins σ Q) X.xe s₂) X.xe s₁) X.xe s
def tB(t:TE):TT:=fun σ H Q=>t σ H fun x H1=>∃c,x=.bl c/\Q c H1
theorem pt_cmp{op:CmpOp}{t:TE}(h:PC X op a b t)(h1:behindInMarks op b=false:=by first|exact nobehind _ (by decide) (by decide)|rfl):PT X (.Compare a [op] [b] pos) (tB t):=by
 intro pins s σ H Q I hw
 refine wW (aW (h pins s σ H _ I hw) fun v s1 h1=>aW h1 fun u s2 h2=>aW h2 fun c s3 ⟨x,H1,I1,r1,q1⟩=>?_) h1
 obtain⟨d,rfl,q⟩:=q1
 cases r1
 exact nJ ⟨H1,I1,q⟩
theorem pt_val{e:aV}{t:TE}(h:PE X e t)(he:∀whole,isTrue e X.env whole=(do let v <-whole;standAt e.pos;holding [v] (truthy v)):=by intro _;rfl):PT X e (tB t):=by
 intro pins s σ H Q I hw
 refine isTrue_plain (aW (h pins s σ H _ I hw) fun v s1 ⟨x,H1,I1,r1,q1⟩=>?_) (he _)
 obtain⟨d,rfl,q⟩:=q1
 cases r1
 exact nJ ⟨H1,I1,q⟩
variable{tA tB':TT}{rest:List aV}
def tAnd(t u:TT):TT:=fun σ H Q=>t σ H fun c H1=>if c=true then u σ H1 Q else Q false H1
def tOr(t u:TT):TT:=fun σ H Q=>t σ H fun c H1=>if c=true then Q true H1 else u σ H1 Q
def tNot(t:TT):TT:=fun σ H Q=>t σ H fun c H1=>Q (!c) H1
theorem pw_and1(ha:PT X a tA):PW X (.BoolOp .And [a] pos) tA:=by
 intro wh pins s σ H Q I h
 refine isTrue_and (aW (ha pins s σ H Q I h) fun c s1 e=>?_)
 cases c with
 |true=>exact isTrue_and_nil e
 |false=>exact e
theorem pw_or1(ha:PT X a tA):PW X (.BoolOp .Or [a] pos) tA:=by
 intro wh pins s σ H Q I h
 refine isTrue_or (aW (ha pins s σ H Q I h) fun c s1 e=>?_)
 cases c with
 |false=>exact isTrue_or_nil e
 |true=>exact e
theorem pw_and(ha:PT X a tA)(hb:PW X (.BoolOp .And (b ::rest) pos) tB'):PW X (.BoolOp .And (a ::b ::rest) pos) (tAnd tA tB'):=by
 intro wh pins s σ H Q I h
 refine isTrue_and (aW (ha pins s σ H _ I h) fun c s1 ⟨H1,I1,q1⟩=>?_)
 cases c with
 |true=>exact hb wh pins s1 σ H1 Q I1 q1
 |false=>exact⟨H1,I1,q1⟩
theorem pw_or(ha:PT X a tA)(hb:PW X (.BoolOp .Or (b ::rest) pos) tB'):PW X (.BoolOp .Or (a ::b ::rest) pos) (tOr tA tB'):=by
 intro wh pins s σ H Q I h
 refine isTrue_or (aW (ha pins s σ H _ I h) fun c s1 ⟨H1,I1,q1⟩=>?_)
 cases c with
 |true=>exact⟨H1,I1,q1⟩
 |false=>exact hb wh pins s1 σ H1 Q I1 q1
theorem pt_not(ha:PT X a tA):PT X (.UnaryOp .Not a pos) (tNot tA):=by
 intro pins s σ H Q I h
 exact isTrue_not (ha pins s σ H (fun c H1=>Q (!c) H1) I h)
def tIf(t:TT)(ta tb:TE):TE:=fun σ H Q=>t σ H fun c H1=>if c=true then ta σ H1 Q else tb σ H1 Q
theorem pe_ifExp{c:aV}(hc:PT X c tA)(ha:PE X a ta)(hb:PE X b tb):PE X (.IfExp c a b pos) (tIf tA ta tb):=by
 intro pins s σ H Q I h
 refine wpAny_IfExp (aW (hc pins s σ H _ I h) fun d s1 ⟨H1,I1,q1⟩=>?_)
 cases d with
 |true=>exact ha pins s1 σ H1 Q I1 q1
 |false=>exact hb pins s1 σ H1 Q I1 q1
end
def ao(K:ay)(H:Hp)(a:aa)(xs:List V):Prop:=
 Rd H a (.lst xs) \/
  ∃(o:az) (ai:Array af) (n:Nat),K.lookup a=some o/\o.cls=.type "list"/\o.dict=none/\o.data=.seq ai n/\ai.size<=sizeLine/\Vals xs ai.toList
def cz(K:ay)(H:Hp)(a:aa)(xs:List V):Prop:=
 Rd H a (.tup xs) \/
  ∃(o:az) (ai:Array af) (n:Nat),K.lookup a=some o/\o.cls=.type "tuple"/\o.data=.seq ai n/\ai.size<=sizeLine/\Vals xs ai.toList
def absV:af->Option V
 |.none=>some .bo
 |.bool b=>some (.bl b)
 |.int i _=>some (.int i)
 |.str x _=>some (.str x)
 |.bytes b _=>some (.byt b)
 |.float b _=>some (.flt b)
 |.ref a=>some (.ref a)
 |.type n=>some (.ty n)
 |_=>none
theorem RelV.abs{x:V}{u:af}(r:RelV x u):absV u=some x:=by
 cases x with
 |bo=>cases r;rfl
 |bl _=>cases r;rfl
 |int _=>obtain⟨t,rfl⟩:=r;rfl
 |str _=>obtain⟨t,rfl⟩:=r;rfl
 |byt _=>obtain⟨t,rfl⟩:=r;rfl
 |flt _=>obtain⟨t,rfl⟩:=r;rfl
 |ref _=>cases r;rfl
 |ty _=>cases r;rfl
theorem RelV.inj{x y:V}{u:af}(r:RelV x u)(q:RelV y u):x=y:=cC (r.abs.symm.trans q.abs)
theorem Vals.inj:∀{xs ys:List V} {us:List af},Vals xs us->Vals ys us->xs=ys
 |_,_,_,.nil,.nil=>rfl
 |_,_,_,.cons r t,.cons r' t'=>by rw[r.inj r',Vals.inj t t']
section
variable{X:Cx}{pins:List (aa×az)}{σ:St}{H:Hp}{s:ah}{a:aa}{xs ys:List V}
theorem ao.of{K:ay}(h:H a=some (.lst xs)):ao K H a xs:=.inl (.inl h)
theorem cz.of{K:ay}(h:H a=some (.tup xs)):cz K H a xs:=.inl (.inl h)
theorem Inv.list(I:Inv X pins σ H s)(h:ao X.K H a xs):∃ai:List af,Vals xs ai/\PlainL s.heap a ai.toArray/\xs.length<=sizeLine:=by
 rcases h with h|⟨o,ai,n,hk,hc,hd,hs,hz,r⟩
 ·obtain⟨z,ai,n,r,e⟩:=h.ok I.aG
  exact⟨ai,r,⟨_,n,e,rfl,rfl,rfl⟩,z⟩
 ·refine⟨ai.toList,r,⟨o,n,I.kIn a o hk,hc,hd,by simpa using hs⟩,?_⟩
  have e:=r.length
  simp only[i5]at e
  omega
theorem Inv.tuple(I:Inv X pins σ H s)(h:cz X.K H a xs):∃ai:List af,Vals xs ai/\IsTup s.heap a ai.toArray/\xs.length<=sizeLine:=by
 rcases h with h|⟨o,ai,n,hk,hc,hs,hz,r⟩
 ·obtain⟨z,ai,r,p⟩:=h.ok I.aG
  exact⟨ai,r,p,z⟩
 ·refine⟨ai.toList,r,⟨o,I.kIn a o hk,hc,n,by simpa using hs⟩,?_⟩
  have e:=r.length
  simp only[i5]at e
  omega
theorem Inv.list_inj(I:Inv X pins σ H s)(h:ao X.K H a xs)(h':ao X.K H a ys):xs=ys:=by
 obtain⟨ai,r,⟨o,n,e,_,_,d⟩,_⟩:=I.list h
 obtain⟨its',r',⟨o',n',e',_,_,d'⟩,_⟩:=I.list h'
 rw[e]at e';cases e'
 rw[d]at d'
 injection d' with d1 _
 have:ai=its':=by simpa using congrArg vV d1
 subst this
 exact r.inj r'
theorem Inv.tuple_inj(I:Inv X pins σ H s)(h:cz X.K H a xs)(h':cz X.K H a ys):xs=ys:=by
 obtain⟨ai,r,⟨o,e,_,n,d⟩,_⟩:=I.tuple h
 obtain⟨its',r',⟨o',e',_,n',d'⟩,_⟩:=I.tuple h'
 rw[e]at e';cases e'
 rw[d]at d'
 injection d' with d1 _
 have:ai=its':=by simpa using congrArg vV d1
 subst this
 exact r.inj r'
end
section
variable{X:Cx}{st:a6}{rest:List a6}{t u:TS}{e:aV}{te:TE}{pos:bN}
def tNext:TS:=fun D σ H=>D.nx σ H
def tSeq(t u:TS):TS:=fun D σ H=>t {D with nx:=u D} σ H
theorem cU:PSs X [] tNext:=fun _ _ σ H _ I h=>nK ⟨σ,H,I,h⟩
theorem aF(h1:PS X st t)(h2:PSs X rest u):PSs X (st ::rest) (tSeq t u):=by
 intro pins s σ H D I h
 refine uv (aW (h1 pins s σ H {D with nx:=u D} I h) fun f s1 q=>?_)
 cases f with
 |next=>
  obtain⟨σ',H',I',q⟩:=q
  exact h2 pins s1 σ' H' D I' q
 |ret v=>exact q
 |brk=>exact q
 |cont=>exact q
theorem aE(h1:PS X st t):PSs X [st] t:=by
 intro pins s σ H D I h
 refine uv (aW (h1 pins s σ H D I h) fun f s1 q=>?_)
 cases f with
 |next=>exact nK q
 |ret v=>exact q
 |brk=>exact q
 |cont=>exact q
theorem Inv.quiet{pins:List (aa×az)}{σ:St}{H:Hp}{s:ah}(I:Inv X pins σ H s):interactive X.env=false:=by simp[interactive,I.ok.kind]
def tDrop(te:TE):TS:=fun D σ H=>te σ H fun _ H1=>D.nx σ H1
theorem dX(he:PE X e te)(hs:swapsWith e none pos.line X.env=pure false:=by rfl):PS X (.Expr e pos) (tDrop te):=by
 intro pins s σ H D I h
 exact wpAny_Expr_any (aW (he pins s σ H _ I h) fun v s1 ⟨x,H1,I1,r1,q1⟩=>⟨σ,H1,I1,q1⟩) I.quiet hs
def tRet(te:TE):TS:=fun D σ H=>te σ H D.rt
theorem bE(he:PE X e te):PS X (.Return (some e) pos) (tRet te):=by
 intro pins s σ H D I h
 exact wpAny_Return_some (aW (he pins s σ H _ I h) fun v s1 ⟨x,H1,I1,r1,q1⟩=>⟨x,σ,H1,I1,r1,q1⟩)
def tIfS(c:TT)(t u:TS):TS:=fun D σ H=>c σ H fun b H1=>if b=true then t D σ H1 else u D σ H1
theorem cF{c:aV}{a b:List a6}{tc:TT}(hc:PT X c tc)(ha:PSs X a t)(hb:PSs X b u):PS X (.If c a b pos) (tIfS tc t u):=by
 intro pins s σ H D I h
 refine wpAny_If (aW (hc pins s σ H _ I h) fun d s1 ⟨H1,I1,q1⟩=>?_)
 cases d with
 |true=>exact ha pins s1 σ H1 D I1 q1
 |false=>exact hb pins s1 σ H1 D I1 q1
end
abbrev TG:=V->St->Hp->(St->Hp->Prop)->Prop
abbrev TGs:=List V->St->Hp->(St->Hp->Prop)->Prop
def PG(X:Cx)(target:aV)(t:TG):Prop:=
 ∀(pins:List (aa×az)) (s:ah) (σ:St) (H:Hp) (v:V) (u:af) (Q:St->Hp->Prop),Inv X pins σ H s->RelV v u->t v σ H Q ->
  wpAny (model X.prog X.w) X.A (assign target X.env u) (fun _ s'=>∃σ' H',Inv X pins σ' H' s'/\Q σ' H') X.xe s
def PGs(X:Cx)(ts:List aV)(t:TGs):Prop:=
 ∀(pins:List (aa×az)) (s:ah) (σ:St) (H:Hp) (vs:List V) (us:List af) (Q:St->Hp->Prop),Inv X pins σ H s->Vals vs us->t vs σ H Q ->
  wpAny (model X.prog X.w) X.A (assignInOrder ((assignEach ts X.env).map (·.2)) us) (fun _ s'=>∃σ' H',Inv X pins σ' H' s'/\Q σ' H') X.xe s
abbrev TSet:=V->V->V->Hp->(Hp->Prop)->Prop
def PSet(X:Cx)(t:TSet):Prop:=
 ∀(pins:List (aa×az)) (s:ah) (σ:St) (H:Hp) (o i v:V) (ov iv u:af) (Q:Hp->Prop),Inv X pins σ H s->RelV o ov->RelV i iv->RelV v u->t o i v H Q ->
  wpAny (model X.prog X.w) X.A (setItem ov iv u) (fun _ s'=>∃H',Inv X pins σ H' s'/\Q H') X.xe s
section
variable{X:Cx}{pos:bN}
def gName(i:Nat):TG:=fun v σ H Q=>Q (σ.set i (some v)) H
theorem cV{i:Nat}{x:ag}(hN:X.N.Nodup)(hi:X.N[i]?=some x)(hx:Loc X.env.scope x)(hf:X.fn x=true\/X.env.scope.names.lookup x=some .local:=by first|exact .inl rfl|exact .inr rfl|assumption):PG X (.Name x pos) (gName i):=by
 intro pins s σ H v u Q I r h
 exact wX (store_ok I hN hi hx r (fun s' I'=>⟨_,H,I',h⟩) hf)
def gNil:TGs:=fun vs σ H Q=>vs=[]/\Q σ H
def gCons(t:TG)(u:TGs):TGs:=fun vs σ H Q=>∃v r,vs=v ::r/\t v σ H fun σ' H'=>u r σ' H' Q
theorem pgs_nil:PGs X [] gNil:=by
 intro pins s σ H vs us Q I r h
 obtain⟨e,h⟩:=h
 subst e
 cases r
 exact assignInOrder_nil ⟨σ,H,I,h⟩
theorem gT{e:aV}{es:List aV}{t:TG}{u:TGs}(h1:PG X e t)(h2:PGs X es u)
  (hs:(assignEach (e ::es) X.env).map (·.2)=assign e X.env ::(assignEach es X.env).map (·.2):=by rfl):PGs X (e ::es) (gCons t u):=by
 intro pins s σ H vs us Q I r h
 obtain⟨v,vr,e1,h⟩:=h
 subst e1
 cases r with
 |cons r rr=>
  rw[hs]
  refine assignInOrder_cons (aW (h1 pins s σ H _ _ _ I r h) fun _ s1 ⟨σ1,H1,I1,q1⟩=>?_)
  exact h2 pins s1 σ1 H1 _ _ Q I1 rr q1
def gTup(K:ay)(n:Nat)(t:TGs):TG:=fun v σ H Q=>∃a xs,v=.ref a/\cz K H a xs/\xs.length=n/\t xs σ H Q
theorem pg_tup{es:List aV}{k:Nat}{t:TGs}{n:Nat}(hc:X.calm=true)(h:PGs X es t)
  (hn:(assignEach es X.env).length=n:=by rfl) (hst:(assignEach es X.env).findIdx? (·.1)=none:=by rfl):PG X (.Tuple es k pos) (gTup X.K n t):=by
 intro pins s σ H v u Q I r hw
 obtain⟨a,xs,e1,hq,hl,hw⟩:=hw
 subst e1
 cases r
 obtain⟨ai,rv,ht,hz⟩:=I.tuple hq
 refine assign_Tuple_tuple (I.ok.hd hc) ht (by simp[hn,<-hl,rv.length]) hst fun h' hx=>?_
 have I1:Inv X pins σ H {s with heap:=h'}:=I.kept (t':=s.toks) fun b o e=>hx b o (dR (cy e)) e
 exact h pins _ σ H xs _ Q I1 (by simpa using rv) hw
def gSub(to ti:TE)(t:TSet):TG:=fun v σ H Q=>to σ H fun o H1=>ti σ H1 fun i H2=>t o i v H2 fun H3=>Q σ H3
theorem pg_sub {o i:aV} {to ti:TE} {t:TSet} (ho:PE X o to) (hi:PE X i ti) (hs:PSet X t)
  (ha:∀ v,assign (.Subscript o i pos) X.env v=(do
   let ov <-holding [v] (eval o X.env)
   let iv <-holding [v,ov] (eval i X.env)
   standAt pos
   holding [v,ov,iv] (setItem ov iv v)
   release [v,ov,iv] []):=by intro _;rfl):PG X (.Subscript o i pos) (gSub to ti t):=by
 intro pins s σ H v u Q I r h
 rw [ha]
 refine aq (gy (aW (ho pins s σ H _ I h) fun ov s1 ⟨x,H1,I1,r1,q1⟩=>?_))
 refine aq (gy (aW (hi pins s1 σ H1 _ I1 q1) fun iv s2 ⟨y,H2,I2,r2,q2⟩=>?_))
 refine aq (jr (aq (gy (aW (hs pins s2 σ H2 x y v ov iv u _ I2 r1 r2 r q2) fun _ s3 ⟨H3,I3,q3⟩=>?_))))
 exact wpAny_release ⟨σ,H3,I3,q3⟩
def tAsg(te:TE)(g:TG):TS:=fun D σ H=>te σ H fun x H1=>g x σ H1 D.nx
theorem ps_asg{tg e:aV}{te:TE}{g:TG}(he:PE X e te)(hg:PG X tg g)(hs:swapsWithSole [tg] e pos.line X.env=pure false:=by rfl)(hw:swappedStores [tg] e X.env=pure none:=by rfl)
  (h1:(assignEach [tg] X.env).map (·.2)=[assign tg X.env]:=by rfl):PS X (.Assign [tg] e pos) (tAsg te g):=by
 intro pins s σ H D I h
 refine wpAny_Assign_stores (aW (he pins s σ H _ I h) fun v s1 ⟨x,H1,I1,r1,q1⟩=>?_) hs hw
 rw[h1]
 exact aW (hg pins s1 σ H1 x v _ I1 r1 q1) fun _ s2 q=>q
theorem bB{i:Nat}{x:ag}{e:aV}{te:TE}{pos':bN}(hN:X.N.Nodup)(hi:X.N[i]?=some x)(hx:Loc X.env.scope x)(he:PE X e te)(hs:swapsWith e (some (.Name x pos')) pos.line X.env=pure false:=by rfl)(hf:X.fn x=true\/X.env.scope.names.lookup x=some .local:=by first|exact .inl rfl|exact .inr rfl|assumption):
  PS X (.Assign [.Name x pos'] e pos) (tAsg te (gName i)):=by
 intro pins s σ H D I h
 refine wpAny_Assign_Name (aW (he pins s σ H _ I h) fun v s1 ⟨y,H1,I1,r1,q1⟩=>?_) hs
 exact store_ok I1 hN hi hx r1 (fun s2 I2=>⟨_,H1,I2,q1⟩) hf
def tWhile(c:TT)(tb:TS):TS:=fun D σ H=>∃W:Nat->St->Hp->Prop,(∃m,W m σ H)/\∀m σ H,W m σ H ->
 c σ H fun b H1=>if b=true then ∃N:St->Hp->Prop,(∀σ' H',N σ' H'->∃m',m'<m/\W m' σ' H')/\tb {D with nx:=N,ct:=N,bk:=D.nx} σ H1 else D.nx σ H1
theorem ps_while{c:aV}{body:List a6}{tc:TT}{tb:TS}(hp:uw (model X.prog X.w) X.A X.env X.xe)(hc:PT X c tc)(hb:PSs X body tb):PS X (.While c body [] pos) (tWhile tc tb):=by
 intro pins s σ H D I h
 obtain⟨W,⟨m0,w0⟩,turn⟩:=h
 refine wpAny_While (codeAny_whileLoop (fun n s'=>∃σ' H',Inv X pins σ' H' s'/\W n σ' H') ?_ m0 ⟨σ,H,I,w0⟩)
 rintro n s1 ⟨σ1,H1,I1,w1⟩
 refine lM hp (aW (hc pins s1 σ1 H1 _ I1 (turn n σ1 H1 w1)) fun b s2 ⟨H2,I2,q2⟩=>?_)
 cases b with
 |true=>
  obtain⟨N,hN,q2⟩:=q2
  rw[if_pos rfl]
  refine lM hp (aW (hb pins s2 σ1 H2 _ I2 q2) fun f s3 q3=>?_)
  cases f with
  |next=>
   obtain⟨σ3,H3,I3,n3⟩:=q3
   obtain⟨m',hm,w3⟩:=hN σ3 H3 n3
   exact⟨m',hm,σ3,H3,I3,w3⟩
  |cont=>
   obtain⟨σ3,H3,I3,n3⟩:=q3
   obtain⟨m',hm,w3⟩:=hN σ3 H3 n3
   exact⟨m',hm,σ3,H3,I3,w3⟩
  |brk=>exact q3
  |ret v=>exact q3
 |false=>
  rw[if_neg dw]
  exact nK ⟨σ1,H2,I2,q2⟩
end
structure It where
 go:Nat->Hp->Prop
 yld:Nat->Hp->V->Hp->Prop
 stop:Nat->Hp->Prop
def FpOk(X:Cx)(pins:List (aa×az))(H:Hp)(b:aa):Prop:=
 H b=none/\b≠X.env.locals/\b∉X.fs/\(b∈X.ex\/X.s_0.heap.objs.size<=b)/\(∀x c,X.env.cells.lookup x=some c->c≠b)/\∀p∈X.pn++pins,p.1≠b
theorem Inv.fpOk{X:Cx}{pins:List (aa×az)}{σ:St}{H H':Hp}{s:ah}{b:aa}(I:Inv X pins σ H s)(hb:s.heap.objs.size<=b)(hn:H' b=none):FpOk X pins H' b:=by
 refine⟨hn,oj (du I.lt hb),I.nofs hb,.inr (cZ I.sz hb),fun x c e z=>?_,fun p hp z=>?_⟩
 ·obtain⟨v,q⟩:=I.cell x c e
  exact absurd (du q.lt (by rw[z];exact hb)) (hG _)
 ·exact absurd (du (cy (I.pin p hp).1) (by rw[z];exact hb)) (hG _)
structure Turn (P:aU) (w:aM) (K:ay) (tg:aV) (J:It) (fp:List aa) (it:aa) (tn:Nat->aA->Prop):Prop where
 mem:it∈fp
 obj:∀i h,tn i h->∀b∈fp,∃o,h.get? b=some o/\∀v,o.data≠.cell v
 keep:∀i h h',tn i h->(∀b∈fp,∀o,h.get? b=some o->h'.get? b=some o)->tn i h'
 item:∀(X:Cx),X.prog=P->X.w=w->X.K=K->X.calm=true->∀(i:Nat) (pins:List (aa×az)) (s:ah) (σ:St) (H:Hp) (E:af->ah->Prop),Inv X pins σ H s->(∀b∈fp,FpOk X pins H b)->tn i s.heap->J.go i H ->
  wpAny (model P w) X.A (pyNext (.ref it)) (fun r s1=>∃u,r=some u /\
   wpAny (model P w) X.A (letOwnedTupleGo tg (.ref it) u) (fun _ s2=>∃x H',Inv X pins σ H' s2/\RelV x u/\J.yld i H x H'/\tn (i+1) s2.heap/\∀b∈fp,H' b=none) E s1) E s
 done:∀(X:Cx),X.prog=P->X.w=w->X.K=K->X.calm=true->∀(i:Nat) (pins:List (aa×az)) (s:ah) (σ:St) (H:Hp) (E:af->ah->Prop),Inv X pins σ H s->(∀b∈fp,FpOk X pins H b)->tn i s.heap->J.stop i H ->
  wpAny (model P w) X.A (pyNext (.ref it)) (fun r s1=>r=none/\Inv X pins σ H s1) E s
 self:∀(A:bD) (i:Nat) (s:ah) (Q:af->ah->Prop) (E:af->ah->Prop),tn i s.heap->Q (.ref it) s->wpAny (model P w) A (pyIter (.ref it)) Q E s
abbrev TI:=St->Hp->(It->Hp->Prop)->Prop
def PIE(X:Cx)(pins:List (aa×az))(σ:St)(tg:aV)(R:It->Hp->Prop)(itv:af)(s2:ah):Prop:=
 ∃(it:aa) (fp:List aa) (tn:Nat->aA->Prop) (J:It) (H':Hp),itv=.ref it/\Inv X pins σ H' s2/\Turn X.prog X.w X.K tg J fp it tn/\tn 0 s2.heap/\(∀b∈fp,FpOk X pins H' b)/\R J H'
def PI(X:Cx)(tg iter:aV)(wi:TI):Prop:=
 ∀(pins:List (aa×az)) (s:ah) (σ:St) (H:Hp) (R:It->Hp->Prop),Inv X pins σ H s->wi σ H R ->
  wpAny (model X.prog X.w) X.A (eval iter X.env) (fun v s1=>wpAny (model X.prog X.w) X.A (pyIter v) (PIE X pins σ tg R) X.xe s1) X.xe s
theorem go_of {M : gX} {A : bD} {E : af -> ah -> Prop} {s : ah} {tg : aV} {it : aa} {u : af} {o : az} {n : String} {vs : Array af} {Q : Unit -> ah -> Prop} (ho : s.heap.get? it = some o) (hc : o.cls = .type n) (hd : o.data = .fields vs) (hn : ["enumerate", "zip", "dict_itemiterator", "dict_reverseitemiterator", "odict_iterator", "itertools.zip_longest", "itertools.pairwise"].contains n = false) (hQ : Q () s) : wpAny M A (letOwnedTupleGo tg (.ref it) u) Q E s:= by
  unfold letOwnedTupleGo
  cases tg <;> first
    | exact aX hQ
    | (cases u <;> first
        | exact aX hQ
        | (refine aq (wpAny_load ho ?_)
           rw [hc, hd]
           show wpAny M A (if (["enumerate", "zip", "dict_itemiterator", "dict_reverseitemiterator", "odict_iterator", "itertools.zip_longest", "itertools.pairwise"].contains n && vs[0]? == some (rawInt _)) = true then _ else _) Q E s
           rw [if_neg (by intro h; rw [hn, yg] at h; cases h)]
           exact aX hQ))
def Itl(K:ay)(a:aa):It:=
 ⟨fun i H=>∃xs x,ao K H a xs/\xs[i]?=some x,fun i H x H'=>H'=H/\∀xs,ao K H a xs->xs[i]?=some x,fun i H=>∃xs,ao K H a xs/\xs.length<=i⟩
def Itt(K:ay)(a:aa):It:=
 ⟨fun i H=>∃xs x,cz K H a xs/\xs[i]?=some x,fun i H x H'=>H'=H/\∀xs,cz K H a xs->xs[i]?=some x,fun i H=>∃xs,cz K H a xs/\xs.length<=i⟩
def Itr(lo:Int)(n:Nat):It:=⟨fun i _=>i<n,fun i H x H'=>H'=H/\x=.int (lo+i),fun i _=>n<=i⟩
theorem turn_list{P:aU}{w:aM}{K:ay}{tg:aV}(a it:aa):Turn P w K tg (Itl K a) [it] it (fun i h=>h.IsListIter it a i) where
 mem:=by simp
 obj:=fun i h st b hb=>by
  have e:b=it:=by simpa using hb
  subst e
  obtain⟨o,e,c,d⟩:=st
  exact⟨o,e,fun v z=>by rw[d]at z;cases z⟩
 keep:=fun i h h' st k=>st.at fun o e=>k it (by simp) o e
 item:=by
  intro X hP hw hK hc i pins s σ H E I hf st hg
  subst hP hw hK
  obtain⟨xs,x,hq,hx⟩:=hg
  obtain⟨ai,rv,p,hz⟩:=I.list hq
  obtain⟨u,hu,ru⟩:=rv.get hx
  obtain⟨f0,f1,f2,f3,f4,f5⟩:=hf it (by simp)
  refine wpAny_pyNext_list_item st p.isList (x:=u) (by simpa using hu) fun h' bu sb=>?_
  have I1:Inv X pins σ H {s with heap:=h'}:=I.turned (t':=s.toks) (fun b o hb e=>(sb.2 b hb).trans e) f0 f1 f3 f4 f5
  obtain⟨o,e,c,d⟩:=id bu
  exact⟨u,rfl,go_of (s:={s with heap:=h'}) e c d (by decide) ⟨x,H,I1,ru,⟨rfl,fun ys hy=>by rw[I.list_inj hy hq];exact hx⟩,bu,fun b hb=>(hf b hb).1⟩⟩
 done:=by
  intro X hP hw hK hc i pins s σ H E I hf st hg
  subst hP hw hK
  obtain⟨xs,hq,hx⟩:=hg
  obtain⟨ai,rv,p,hz⟩:=I.list hq
  obtain⟨f0,f1,f2,f3,f4,f5⟩:=hf it (by simp)
  have hl:=rv.length
  exact wpAny_pyNext_list_end (I.ok.hd hc) st p.isList (by simp;omega) fun h' eb=>⟨rfl,I.turned (t':=s.toks) (fun b o hb e=>eb b o hb e) f0 f1 f3 f4 f5⟩
 self:=fun _ _ _ _ _ st h=>wpAny_pyIter_listiter st h
theorem turn_tuple{P:aU}{w:aM}{K:ay}{tg:aV}(a it:aa):Turn P w K tg (Itt K a) [it] it (fun i h=>h.IsTupleIter it a i) where
 mem:=by simp
 obj:=fun i h st b hb=>by
  have e:b=it:=by simpa using hb
  subst e
  obtain⟨o,e,c,d⟩:=st
  exact⟨o,e,fun v z=>by rw[d]at z;cases z⟩
 keep:=fun i h h' st k=>st.at fun o e=>k it (by simp) o e
 item:=by
  intro X hP hw hK hc i pins s σ H E I hf st hg
  subst hP hw hK
  obtain⟨xs,x,hq,hx⟩:=hg
  obtain⟨ai,rv,p,hz⟩:=I.tuple hq
  obtain⟨u,hu,ru⟩:=rv.get hx
  obtain⟨f0,f1,f2,f3,f4,f5⟩:=hf it (by simp)
  refine wpAny_pyNext_tuple_item st (show s.heap.IsTuple a ai.toArray from p) (x:=u) (by simpa using hu) fun h' bu sb=>?_
  have I1:Inv X pins σ H {s with heap:=h'}:=I.turned (t':=s.toks) (fun b o hb e=>(sb.2 b hb).trans e) f0 f1 f3 f4 f5
  obtain⟨o,e,c,d⟩:=id bu
  exact⟨u,rfl,go_of (s:={s with heap:=h'}) e c d (by decide) ⟨x,H,I1,ru,⟨rfl,fun ys hy=>by rw[I.tuple_inj hy hq];exact hx⟩,bu,fun b hb=>(hf b hb).1⟩⟩
 done:=by
  intro X hP hw hK hc i pins s σ H E I hf st hg
  subst hP hw hK
  obtain⟨xs,hq,hx⟩:=hg
  obtain⟨ai,rv,p,hz⟩:=I.tuple hq
  obtain⟨f0,f1,f2,f3,f4,f5⟩:=hf it (by simp)
  have hl:=rv.length
  exact wpAny_pyNext_tuple_end (I.ok.hd hc) st (show s.heap.IsTuple a ai.toArray from p) (by simp;omega) fun h' eb=>⟨rfl,I.turned (t':=s.toks) (fun b o hb e=>eb b o hb e) f0 f1 f3 f4 f5⟩
 self:=fun _ _ _ _ _ st h=>wpAny_pyIter_tupleiter st h
theorem turn_range{P:aU}{w:aM}{K:ay}{tg:aV}(it:aa)(lo:Int)(n:Nat):Turn P w K tg (Itr lo n) [it] it (fun i h=>IsRangeIter h it (lo+(i:Nat)*1) ((n:Int)-(i:Nat)) 1) where
 mem:=by simp
 obj:=fun i h st b hb=>by
  have e:b=it:=by simpa using hb
  subst e
  exact⟨_,st,fun v z=>by
   have z':Data.fields _=Data.cell v:=z
   cases z'⟩
 keep:=fun i h h' st k=>k it (by simp) _ st
 item:=by
  intro X hP hw hK hc i pins s σ H E I hf st hg
  subst hP hw hK
  obtain⟨f0,f1,f2,f3,f4,f5⟩:=hf it (by simp)
  have W:=Walks.range (prog:=X.prog) (w:=X.w) (I.ok.hd hc) it lo 1 n
  refine W.item i s _ _ hg st fun v h' tk hv bu kk=>?_
  obtain⟨t,rfl⟩:=hv
  have I1:Inv X pins σ H {s with heap:=h',toks:=tk}:=I.turned (fun b o hb e=>kk b o (by simpa using hb) e) f0 f1 f3 f4 f5
  refine⟨_,rfl,go_of (s:={s with heap:=h',toks:=tk}) (n:="range_iterator") bu rfl rfl (by decide) ⟨.int (lo+i),H,I1,⟨t,?_⟩,⟨rfl,rfl⟩,bu,fun b hb=>(hf b hb).1⟩⟩
  rw[Int.mul_one]
 done:=by
  intro X hP hw hK hc i pins s σ H E I hf st hg
  subst hP hw hK
  obtain⟨f0,f1,f2,f3,f4,f5⟩:=hf it (by simp)
  exact wpAny_pyNext_range_end (I.ok.hd hc) st (by have:n<=i:=hg;omega) fun h' eb=>⟨rfl,I.turned (t':=s.toks) (fun b o hb e=>eb b o hb e) f0 f1 f3 f4 f5⟩
 self:=fun _ _ _ _ _ st h=>wpAny_pyIter_rangeiter st h
section
variable{X:Cx}{tg:aV}
def iList(K:ay)(tl:TE):TI:=fun σ H R=>tl σ H fun x H1=>∃a,x=.ref a/\(∃xs,ao K H1 a xs)/\R (Itl K a) H1
theorem ie{l:aV}{tl:TE}(hl:PE X l tl):PI X tg l (iList X.K tl):=by
 intro pins s σ H R I h
 refine aW (hl pins s σ H _ I h) fun v s1 ⟨x,H1,I1,r1,q1⟩=>?_
 obtain⟨a,e,⟨xs,hq⟩,q⟩:=q1
 subst e
 cases r1
 obtain⟨ai,rv,p,hz⟩:=I1.list hq
 refine kx p.isList ?_
 refine⟨s1.heap.objs.size,[s1.heap.objs.size],_,_,H1,rfl,I1.kept (t':=s1.toks) fun b o e=>cD _ e,turn_list a _,⟨_,df _ rfl,rfl,rfl⟩,fun b hb=>?_,q⟩
 have e:b=s1.heap.objs.size:=by simpa using hb
 subst e
 exact I1.fpOk (aI _) (I1.aG.fresh (aI _))
theorem range_it{pins:List (aa×az)}{σ:St}{H:Hp}{s:ah}{R:It->Hp->Prop}{E:af->ah->Prop}{lo hi:Int}{t u v:Tok}{tk:Nat}(I:Inv X pins σ H s)(h1 : -(2^62)<=lo)(h2:lo<2^62)(h3 : -(2^62)<=hi)(h4:hi<2^62)(q:R (Itr lo (hi-lo).toNat) H):wpAny (model X.prog X.w) X.A (pyIter (.ref s.heap.objs.size)) (PIE X pins σ tg R) E {s with heap:=s.heap.push {cls:=.type "range",data:=.fields #[.int lo t,.int hi u,.int 1 v]},toks:=tk}:=by
 refine wpAny_pyIter_range (IsRange.new ..) (small_one h1 h2 h3 h4) ?_
 have I1:Inv X pins σ H {s with heap:=s.heap.push {cls:=.type "range",data:=.fields #[.int lo t,.int hi u,.int 1 v]},toks:=tk}:=I.kept fun b o e=>cD _ e
 refine⟨(s.heap.push {cls:=.type "range",data:=.fields #[.int lo t,.int hi u,.int 1 v]}).objs.size,[(s.heap.push {cls:=.type "range",data:=.fields #[.int lo t,.int hi u,.int 1 v]}).objs.size],_,_,H,rfl,
  I1.kept (t':=tk) fun b o e=>cD _ e,turn_range _ lo (hi-lo).toNat,?_,fun b hb=>?_,q⟩
 ·have e1:lo+((0:Nat):Int)*1=lo:=by simp
  have e2:(((hi-lo).toNat:Nat):Int)-((0:Nat):Int)=zO lo hi 1:=by rw[rangeSize_one];split<;>omega
  show IsRangeIter _ _ (lo+((0:Nat):Int)*1) ((((hi-lo).toNat:Nat):Int)-((0:Nat):Int)) 1
  rw[e1,e2]
  exact df _ rfl
 ·have e:b=(s.heap.push {cls:=.type "range",data:=.fields #[.int lo t,.int hi u,.int 1 v]}).objs.size:=by simpa using hb
  subst e
  exact I1.fpOk (aI _) (I1.aG.fresh (aI _))
def iRng1(ta:TA):TI:=fun σ H R=>ta σ H fun vs H1=>∃j:Int,vs=[.int j]/\-(2^62)<=j/\j<2^62/\R (Itr 0 j.toNat) H1
def iRng2(ta:TA):TI:=fun σ H R=>ta σ H fun vs H1=>∃i j:Int,vs=[.int i,.int j]/\(-(2^62)<=i/\i<2^62/\-(2^62)<=j/\j<2^62)/\R (Itr i (j-i).toNat) H1
theorem ph{a:aV}{ta:TA}{p pos:bN}(hg:Gl X "range")(hm:X.mg "range" = none)(ha:PA X [a] ta)(hs:starEach [a] X.env=[(false,eval a X.env)]:=by rfl):PI X tg (.Call (.Name "range" p) [a] [] pos) (iRng1 ta):=by
 intro pins s σ H R I h
 refine Call_ (kZ I hg hm boot_range (sr (aW (ha pos pins s σ H _ I h) fun us s1 ⟨vs,H1,I1,r1,q1⟩=>?_) hs rfl))
 obtain⟨j,e,q1,q2,q⟩:=q1
 subst e
 cases r1 with
 |cons r rr=>
  cases rr
  obtain⟨t,rfl⟩:=r
  exact call_range_1 (range_it I1 (by omega) (by omega) q1 q2 (by simpa using q))
theorem pi_range2{a b:aV}{ta:TA}{p pos:bN}(hg:Gl X "range")(hm:X.mg "range" = none)(ha:PA X [a,b] ta)(hs:starEach [a,b] X.env=[(false,eval a X.env),(false,eval b X.env)]:=by rfl)(hs2:starEach [b] X.env=[(false,eval b X.env)]:=by rfl):
  PI X tg (.Call (.Name "range" p) [a,b] [] pos) (iRng2 ta):=by
 intro pins s σ H R I h
 refine Call_ (kZ I hg hm boot_range (sr (aW (ha pos pins s σ H _ I h) fun us s1 ⟨vs,H1,I1,r1,q1⟩=>?_) (by rw[hs,hs2]) (by rw[hs2];rfl)))
 obtain⟨i,j,e,⟨q1,q2,q3,q4⟩,q⟩:=q1
 subst e
 cases r1 with
 |cons r rr=>
  cases rr with
  |cons r' rr=>
   cases rr
   obtain⟨t,rfl⟩:=r
   obtain⟨t',rfl⟩:=r'
   exact call_range_2 (range_it I1 q1 q2 q3 q4 q)
def tFor(wi:TI)(g:TG)(tb:TS):TS:=fun D σ H=>wi σ H fun J H1=>∃W:Nat->Nat->St->Hp->Prop,(∃m,W 0 m σ H1)/\∀i m σ H,W i m σ H ->
 (J.stop i H/\D.nx σ H)\/(J.go i H/\∃N:St->Hp->Prop,(∀σ' H',N σ' H'->∃m',m'<m/\W (i+1) m' σ' H')/\∀x H',J.yld i H x H'->g x σ H' fun σ2 H2=>tb {D with nx:=N,ct:=N,bk:=D.nx} σ2 H2)
def pinsAt(fp:List aa)(h:aA):List (aa×az):=fp.filterMap fun b=>(h.get? b).map fun o=>(b,o)
theorem mem_pinsAt{fp:List aa}{h:aA}{b:aa}{o:az}(hb:b∈fp)(e:h.get? b=some o):(b,o)∈pinsAt fp h:=pO.mpr ⟨b,hb,by rw[e];rfl⟩
theorem of_pinsAt{fp:List aa}{h:aA}{p:aa×az}(hp:p∈pinsAt fp h):p.1∈fp/\h.get? p.1=some p.2:=by
 obtain⟨b,hb,e⟩:=pO.mp hp
 cases q:h.get? b with
 |none=>rw[q]at e;cases e
 |some o=>
  rw[q]at e
  have e':(b,o)=p:=cC e
  subst e'
  exact⟨hb,q⟩
theorem Inv.pinned{pins:List (aa×az)}{σ:St}{H:Hp}{s:ah}{fp:List aa}(I:Inv X pins σ H s)(hf:∀b∈fp,FpOk X pins H b)(ho:∀b∈fp,∃o,s.heap.get? b=some o/\∀v,o.data≠.cell v):Inv X (pins++pinsAt fp s.heap) σ H s:=
 I.pins_of fun p hp=>(cQ.mp hp).elim (fun z=>I.pin p (fP _ z)) fun z=>by
  obtain⟨hb,e⟩:=of_pinsAt z
  obtain⟨f0,f1,f2,_⟩:=hf p.1 hb
  obtain⟨o,e',d⟩:=ho p.1 hb
  rw[e]at e';cases e'
  exact⟨e,f0,f1,f2,d⟩
theorem Inv.unpinned{pins pl:List (aa×az)}{σ:St}{H:Hp}{s:ah}(I:Inv X (pins++pl) σ H s):Inv X pins σ H s:=I.pins_of fun p hp=>I.pin p (fP _ (dZ _ hp))
theorem fo{iter:aV}{body:List a6}{wi:TI}{g:TG}{tb:TS}{pos:bN}(hp:uw (model X.prog X.w) X.A X.env X.xe)(hc:X.calm=true)(hi:PI X tg iter wi)(hg:PG X tg g)(hb:PSs X body tb)
  (hs:∀x,foldedSetIterable iter X.env x=pure x:=by intro _;rfl):PS X (.For tg iter body [] pos) (tFor wi g tb):=by
 intro pins s σ H D I h
 refine wpAny_For (aW (hi pins s σ H _ I h) fun v s1 h1=>aW h1 fun itv s2 h2=>?_) hs
 obtain⟨it,fp,tn,J,H2,e,I2,T,st2,f2,W,⟨m0,w0⟩,turn⟩:=h2
 subst e
 have stat:∀{H':Hp},(∀b∈fp,H' b=none)->∀b∈fp,FpOk X pins H' b:=fun hn b hb=>⟨hn b hb,(f2 b hb).2⟩
 refine codeAny_forLoop_any (fun n s'=>∃i σ' H',Inv X pins σ' H' s'/\tn i s'.heap/\(∀b∈fp,H' b=none)/\W i n σ' H') ?_ m0 ⟨0,σ,H2,I2,st2,fun b hb=>(f2 b hb).1,w0⟩
 rintro n s3 ⟨i,σ3,H3,I3,st3,fr3,w3⟩
 rcases turn i n σ3 H3 w3 with⟨stop,qn⟩|⟨go,N,hN,step⟩
 ·refine lM hp (aW (T.done X rfl rfl rfl hc i pins s3 σ3 H3 X.xe I3 (stat fr3) st3 stop) fun r s4 ⟨hr,I4⟩=>?_)
  subst hr
  exact nK ⟨σ3,H3,I4,qn⟩
 ·refine lM hp (aW (T.item X rfl rfl rfl hc i pins s3 σ3 H3 X.xe I3 (stat fr3) st3 go) fun r s4 ⟨u,hr,h4⟩=>?_)
  subst hr
  refine lM hp (aW h4 fun _ s5 ⟨x,H5,I5,r5,y5,st5,fr5⟩=>?_)
  have I5':=I5.pinned (stat fr5) (T.obj _ _ st5)
  refine lM hp (aW (hg _ s5 σ3 H5 x u _ I5' r5 (step x H5 y5)) fun _ s6 ⟨σ6,H6,I6,q6⟩=>?_)
  refine lM hp (aW (hb _ s6 σ6 H6 _ I6 q6) fun f s7 q7=>?_)
  have again:∀{σ7:St} {H7:Hp},Inv X (pins++pinsAt fp s5.heap) σ7 H7 s7->N σ7 H7->∃m,m<n/\∃i σ' H',Inv X pins σ' H' s7/\tn i s7.heap/\(∀b∈fp,H' b=none)/\W i m σ' H':=fun{σ7 H7} I7 n7=>by
   obtain⟨m',hm,w7⟩:=hN σ7 H7 n7
   refine⟨m',hm,i+1,σ7,H7,I7.unpinned,T.keep _ _ _ st5 fun b hb o e=>(I7.pin (b,o) (fP _ (fP _ (mem_pinsAt hb e)))).1,fun b hb=>?_,w7⟩
   obtain⟨o,e,d⟩:=T.obj _ _ st5 b hb
   exact(I7.pin (b,o) (fP _ (fP _ (mem_pinsAt hb e)))).2.1
  cases f with
  |next=>obtain⟨σ7,H7,I7,n7⟩:=q7;exact again I7 n7
  |cont=>obtain⟨σ7,H7,I7,n7⟩:=q7;exact again I7 n7
  |brk=>obtain⟨σ7,H7,I7,q7⟩:=q7;exact⟨σ7,H7,I7.unpinned,q7⟩
  |ret v=>obtain⟨x7,σ7,H7,I7,r7,q7⟩:=q7;exact⟨x7,σ7,H7,I7.unpinned,r7,q7⟩
end
theorem lB{K:ay}{a:aa}{xs:List V}{g:TG}{tb:TS}{D:Ends}{σ:St}{H:Hp}(Pv:Nat->St->Hp->Prop)(h0:Pv 0 σ H)(hl:∀i σ H,i<=xs.length->Pv i σ H->ao K H a xs)(hs:∀i x σ H,xs[i]?=some x->Pv i σ H->g x σ H fun σ2 H2=>tb {D with nx:=Pv (i+1),ct:=Pv (i+1),bk:=D.nx} σ2 H2)(hd:∀σ H,Pv xs.length σ H->D.nx σ H):∃W:Nat->Nat->St->Hp->Prop,(∃m,W 0 m σ H)/\∀i m σ H,W i m σ H -> ((Itl K a).stop i H/\D.nx σ H)\/((Itl K a).go i H/\∃N:St->Hp->Prop,(∀σ' H',N σ' H'->∃m',m'<m/\W (i+1) m' σ' H')/\∀x H',(Itl K a).yld i H x H'->g x σ H' fun σ2 H2=>tb {D with nx:=N,ct:=N,bk:=D.nx} σ2 H2):=by
 refine⟨fun i m σ H=>m=xs.length-i/\i<=xs.length/\Pv i σ H,⟨xs.length,by simp,de _,h0⟩,?_⟩
 rintro i m σ H ⟨rfl,hi,p⟩
 have q:=hl i σ H hi p
 by_cases aR:i<xs.length
 ·refine .inr ⟨⟨xs,xs[i],q,by simp[aR]⟩,Pv (i+1),fun σ' H' p'=>⟨xs.length-(i+1),by omega,rfl,aR,p'⟩,fun x H' y=>?_⟩
  obtain⟨e,y⟩:=y
  subst e
  exact hs i x σ _ (y xs q) p
 ·have e:i=xs.length:=by omega
  subst e
  exact .inl ⟨⟨xs,q,aI _⟩,hd σ H p⟩
theorem for_tup{K:ay}{a:aa}{xs:List V}{g:TG}{tb:TS}{D:Ends}{σ:St}{H:Hp}(Pv:Nat->St->Hp->Prop)(h0:Pv 0 σ H)(hl:∀i σ H,i<=xs.length->Pv i σ H->cz K H a xs)(hs:∀i x σ H,xs[i]?=some x->Pv i σ H->g x σ H fun σ2 H2=>tb {D with nx:=Pv (i+1),ct:=Pv (i+1),bk:=D.nx} σ2 H2)(hd:∀σ H,Pv xs.length σ H->D.nx σ H):∃W:Nat->Nat->St->Hp->Prop,(∃m,W 0 m σ H)/\∀i m σ H,W i m σ H -> ((Itt K a).stop i H/\D.nx σ H)\/((Itt K a).go i H/\∃N:St->Hp->Prop,(∀σ' H',N σ' H'->∃m',m'<m/\W (i+1) m' σ' H')/\∀x H',(Itt K a).yld i H x H'->g x σ H' fun σ2 H2=>tb {D with nx:=N,ct:=N,bk:=D.nx} σ2 H2):=by
 refine⟨fun i m σ H=>m=xs.length-i/\i<=xs.length/\Pv i σ H,⟨xs.length,by simp,de _,h0⟩,?_⟩
 rintro i m σ H ⟨rfl,hi,p⟩
 have q:=hl i σ H hi p
 by_cases aR:i<xs.length
 ·refine .inr ⟨⟨xs,xs[i],q,by simp[aR]⟩,Pv (i+1),fun σ' H' p'=>⟨xs.length-(i+1),by omega,rfl,aR,p'⟩,fun x H' y=>?_⟩
  obtain⟨e,y⟩:=y
  subst e
  exact hs i x σ _ (y xs q) p
 ·have e:i=xs.length:=by omega
  subst e
  exact .inl ⟨⟨xs,q,aI _⟩,hd σ H p⟩
theorem m8{lo:Int}{n:Nat}{g:TG}{tb:TS}{D:Ends}{σ:St}{H:Hp}(Pv:Nat->St->Hp->Prop)(h0:Pv 0 σ H)(hs:∀i σ H,i<n->Pv i σ H->g (.int (lo+i)) σ H fun σ2 H2=>tb {D with nx:=Pv (i+1),ct:=Pv (i+1),bk:=D.nx} σ2 H2)(hd:∀σ H,Pv n σ H->D.nx σ H):∃W:Nat->Nat->St->Hp->Prop,(∃m,W 0 m σ H)/\∀i m σ H,W i m σ H -> ((Itr lo n).stop i H/\D.nx σ H)\/((Itr lo n).go i H/\∃N:St->Hp->Prop,(∀σ' H',N σ' H'->∃m',m'<m/\W (i+1) m' σ' H')/\∀x H',(Itr lo n).yld i H x H'->g x σ H' fun σ2 H2=>tb {D with nx:=N,ct:=N,bk:=D.nx} σ2 H2):=by
 refine⟨fun i m σ H=>m=n-i/\i<=n/\Pv i σ H,⟨n,by simp,de _,h0⟩,?_⟩
 rintro i m σ H ⟨rfl,hi,p⟩
 by_cases aR:i<n
 ·refine .inr ⟨aR,Pv (i+1),fun σ' H' p'=>⟨n-(i+1),by omega,rfl,aR,p'⟩,fun x H' y=>?_⟩
  obtain⟨e,y⟩:=y
  subst e y
  exact hs i σ _ aR p
 ·have e:i=n:=by omega
  subst e
  exact .inl ⟨aI _,hd σ H p⟩
abbrev R2:=V->V->Hp->VK->Prop
def OpR(X:Cx)(f:af->af->dY af)(r:R2):Prop:=
 ∀(pins:List (aa×az)) (s:ah) (σ:St) (H:Hp) (x y:V) (v u:af) (Q:VK),Inv X pins σ H s->RelV x v->RelV y u->r x y H Q ->
  wpAny (model X.prog X.w) X.A (f v u) (EP X pins σ Q) X.xe s
def UnR(X:Cx)(f:af->dY af)(r:V->Hp->VK->Prop):Prop:=
 ∀(pins:List (aa×az)) (s:ah) (σ:St) (H:Hp) (x:V) (v:af) (Q:VK),Inv X pins σ H s->RelV x v->r x H Q ->
  wpAny (model X.prog X.w) X.A (f v) (EP X pins σ Q) X.xe s
def gR(X:Cx)(f:af)(r:List V->Hp->VK->Prop):Prop:=
 ∀(pins:List (aa×az)) (s:ah) (σ:St) (H:Hp) (xs:List V) (us:List af) (Q:VK),Inv X pins σ H s->Vals xs us->r xs H Q ->
  wpAny (model X.prog X.w) X.A (call f us) (EP X pins σ Q) X.xe s
def TruR(X:Cx)(r:V->Hp->(Bool->Hp->Prop)->Prop):Prop:=
 ∀(pins:List (aa×az)) (s:ah) (σ:St) (H:Hp) (x:V) (v:af) (Q:Bool->Hp->Prop),Inv X pins σ H s->RelV x v->r x H Q ->
  wpAny (model X.prog X.w) X.A (truthy v) (TP X pins σ Q) X.xe s
def tOp(r:R2)(ta tb:TE):TE:=fun σ H Q=>ta σ H fun x H1=>tb σ H1 fun y H2=>r x y H2 Q
def tUn(r:V->Hp->VK->Prop)(ta:TE):TE:=fun σ H Q=>ta σ H fun x H1=>r x H1 Q
def rI(C:Int->Int->Prop)(g:Int->Int->V):R2:=fun x y H Q=>∃i j,x=.int i/\y=.int j/\C i j/\Q (g i j) H
def rI0(g:Int->Int->V):R2:=fun x y H Q=>∃i j,x=.int i/\y=.int j/\Q (g i j) H
def rU(g:Int->V):V->Hp->VK->Prop:=fun x H Q=>∃i,x=.int i/\Q (g i) H
section
variable{X:Cx}{a b c:aV}{ta tb tc:TE}{pos:bN}
theorem binT(ha:PE X a ta)(hb:PE X b tb){pins:List (aa×az)}{s:ah}{σ:St}{H:Hp}{R:V->V->Hp->Prop}(I:Inv X pins σ H s)(h:ta σ H fun x H1=>tb σ H1 fun y H2=>R x y H2){Q:af->ah->Prop}{f:af->af->dY af}(hf:∀v u s2 x y H2,Inv X pins σ H2 s2->RelV x v->RelV y u->R x y H2->wpAny (model X.prog X.w) X.A (f v u) Q X.xe s2) :wpAny (model X.prog X.w) X.A (eval a X.env) (fun v s₁=>wpAny (model X.prog X.w) X.A (eval b X.env) (fun u s₂=>wpAny (model X.prog X.w) X.A (f v u) Q X.xe s₂) X.xe s₁) X.xe s:=by
 refine aW (ha pins s σ H _ I h) fun v s1 ⟨x,H1,I1,r1,q1⟩=>?_
 refine aW (hb pins s1 σ H1 _ I1 q1) fun u s2 ⟨y,H2,I2,r2,q2⟩=>?_
 exact hf v u s2 x y H2 I2 r1 r2 q2
theorem c5{op:Operator}{r:R2}(ho:OpR X (binaryOp op) r)(ha:PE X a ta)(hb:PE X b tb):PE X (.BinOp a op b pos) (tOp r ta tb):=by
 intro pins s σ H Q I h
 exact wpAny_BinOp (binT ha hb I h fun v u s2 x y H2 I2 rx ry q=>ho pins s2 σ H2 x y v u Q I2 rx ry q)
theorem pe_un{op:UnaryOp}{r:V->Hp->VK->Prop}(ho:UnR X (unaryOp op) r)(ha:PE X a ta):PE X (.UnaryOp op a pos) (tUn r ta):=by
 intro pins s σ H Q I h
 exact UnaryOp_ (aW (ha pins s σ H _ I h) fun v s1 ⟨x,H1,I1,r1,q1⟩=>ho pins s1 σ H1 x v Q I1 r1 q1)
theorem opI{f:af->af->dY af}{C:Int->Int->Prop}{g:Int->Int->Int}(rule:∀(i j:Int) (t u:Tok) (s:ah) (Q:af->ah->Prop) (E:af->ah->Prop),C i j->Q (.int (g i j) s.toks) {s with toks:=s.toks+1}->wpAny (model X.prog X.w) X.A (f (.int i t) (.int j u)) Q E s) :OpR X f (rI C fun i j=>.int (g i j)):=by
 intro pins s σ H x y v u Q I rx ry h
 obtain⟨i,j,rfl,rfl,hc,q⟩:=h
 obtain⟨t,rfl⟩:=rx
 obtain⟨t',rfl⟩:=ry
 exact rule i j t t' s _ _ hc ⟨.int (g i j),H,I.tok _,⟨_,rfl⟩,q⟩
theorem opI0{f:af->af->dY af}{g:Int->Int->Int}(rule:∀(i j:Int) (t u:Tok) (s:ah) (Q:af->ah->Prop) (E:af->ah->Prop),Q (.int (g i j) s.toks) {s with toks:=s.toks+1}->wpAny (model X.prog X.w) X.A (f (.int i t) (.int j u)) Q E s) :OpR X f (rI0 fun i j=>.int (g i j)):=by
 intro pins s σ H x y v u Q I rx ry h
 obtain⟨i,j,rfl,rfl,q⟩:=h
 obtain⟨t,rfl⟩:=rx
 obtain⟨t',rfl⟩:=ry
 exact rule i j t t' s _ _ ⟨.int (g i j),H,I.tok _,⟨_,rfl⟩,q⟩
theorem opB0{f:af->af->dY af}{g:Int->Int->Bool}(rule:∀(i j:Int) (t u:Tok) (s:ah) (Q:af->ah->Prop) (E:af->ah->Prop),Q (.bool (g i j)) s->wpAny (model X.prog X.w) X.A (f (.int i t) (.int j u)) Q E s) :OpR X f (rI0 fun i j=>.bl (g i j)):=by
 intro pins s σ H x y v u Q I rx ry h
 obtain⟨i,j,rfl,rfl,q⟩:=h
 obtain⟨t,rfl⟩:=rx
 obtain⟨t',rfl⟩:=ry
 exact rule i j t t' s _ _ ⟨.bl (g i j),H,I,rfl,q⟩
def CMul(i j:Int):Prop:=(-(2^64)<i/\i<2^64)\/(-(2^64)<j/\j<2^64)
theorem CMul.ok{i j:Int}(h:CMul i j):IntMulOk i j:=by
 rcases h with⟨h1,h2⟩|⟨h1,h2⟩
 ·exact .of_left (intBits_le_64 h1 h2)
 ·exact .of_right (intBits_le_64 h1 h2)
theorem gN:OpR X (binaryOp .Add) (rI0 fun i j=>.int (i+j)):=opI0 fun _ _ _ _ _ _ _ q=>add_int q
theorem op_sub:OpR X (binaryOp .Sub) (rI0 fun i j=>.int (i-j)):=opI0 fun _ _ _ _ _ _ _ q=>sub_int q
theorem op_mul:OpR X (binaryOp .Mult) (rI CMul fun i j=>.int (i*j)):=opI fun _ _ _ _ _ _ _ hc q=>mul_int q hc.ok
theorem op_mod:OpR X (binaryOp .Mod) (rI (fun _ j=>0<j) fun i j=>.int (i%j)):=opI fun i j _ _ _ _ _ hc q=>by
 have h1:(0:Int)<j:=hc
 exact mod_int' (by omega) (by rw[Int.fmod_eq_emod_of_nonneg i (by omega)];exact q)
theorem unI{f:af->dY af}{g:Int->Int}(rule:∀(i:Int) (t:Tok) (s:ah) (Q:af->ah->Prop) (E:af->ah->Prop),Q (.int (g i) s.toks) {s with toks:=s.toks+1}->wpAny (model X.prog X.w) X.A (f (.int i t)) Q E s) :UnR X f (rU fun i=>.int (g i)):=by
 intro pins s σ H x v Q I rx h
 obtain⟨i,rfl,q⟩:=h
 obtain⟨t,rfl⟩:=rx
 exact rule i t s _ _ ⟨.int (g i),H,I.tok _,⟨_,rfl⟩,q⟩
theorem i8:UnR X (unaryOp .USub) (rU fun i=>.int (-i)):=unI fun _ _ _ _ _ q=>neg_int q
end
def scal:V->V->Bool
 |.bo,.bo=>true | .bo,.int _=>true | .int _,.bo=>true | .bo,.bl _=>true | .bl _,.bo=>true | .bo,.str _=>true | .str _,.bo=>true
 |.int _,.int _=>true | .bl _,.bl _=>true | .str _,.str _=>true | .byt _,.byt _=>true
 |.int _,.str _=>true | .str _,.int _=>true | .bl _,.str _=>true | .str _,.bl _=>true
 |_,_=>false
def rEq:R2:=fun x y H Q=>scal x y=true/\Q (.bl (decide (x=y))) H
def rNe:R2:=fun x y H Q=>scal x y=true/\Q (.bl (!decide (x=y))) H
theorem dec_int{i j:Int}:decide (V.int i=V.int j)=(i==j):=by
 rw[i4]
 simp
theorem dec_bl{i j:Bool}:decide (V.bl i=V.bl j)=(i==j):=by
 rw[i4]
 simp
theorem dec_str{i j:ag}:decide (V.str i=V.str j)=(i==j):=by
 rw[i4]
 simp
theorem dec_byt{i j:Array UInt8}:decide (V.byt i=V.byt j)=(i.toList==j.toList):=by
 rw[i4]
 cases i
 cases j
 simp
section
variable{X:Cx}{a b c:aV}{ta tb tc:TE}{pos:bN}
theorem dg{pins:List (aa×az)}{σ:St}{H:Hp}{s:ah}{Q:VK}{k k':Bool}(I:Inv X pins σ H s)(q:Q (.bl k) H)(e:k=k'):EP X pins σ Q (.bool k') s:=by
 subst e
 exact⟨.bl k,H,I,rfl,q⟩
theorem fz:OpR X (compareOp .Eq) rEq:=by
 intro pins s σ H x y v u Q I rx ry h
 obtain⟨hs,q⟩:=h
 cases x with
 |bo=>
  cases rx
  cases y with
  |bo=>cases ry;exact PySem.EqNone.eq_none_none (dg I q (by simp))
  |bl j=>cases ry;exact PySem.EqNone.eq_none_bool (dg I q (by simp))
  |int j=>obtain⟨t',rfl⟩:=ry;exact PySem.EqNone.eq_none_int (dg I q (by simp))
  |str j=>obtain⟨t',rfl⟩:=ry;exact PySem.EqNone.eq_none_str (dg I q (by simp))
  |_=>exact absurd (show false=true from hs) dw
 |bl i=>
  cases rx
  cases y with
  |bo=>cases ry;exact PySem.EqNone.eq_bool_none (dg I q (by simp))
  |bl j=>cases ry;exact eq_bool (dg I q dec_bl)
  |str j=>obtain⟨t',rfl⟩:=ry;exact zP (dg I q (by simp))
  |_=>exact absurd (show false=true from hs) dw
 |int i=>
  obtain⟨t,rfl⟩:=rx
  cases y with
  |bo=>cases ry;exact PySem.EqNone.eq_int_none (dg I q (by simp))
  |int j=>obtain⟨t',rfl⟩:=ry;exact eq_int (dg I q dec_int)
  |str j=>obtain⟨t',rfl⟩:=ry;exact zQ (dg I q (by simp))
  |_=>exact absurd (show false=true from hs) dw
 |str i=>
  obtain⟨t,rfl⟩:=rx
  cases y with
  |bo=>cases ry;exact PySem.EqNone.eq_str_none (dg I q (by simp))
  |bl j=>cases ry;exact zR (dg I q (by simp))
  |int j=>obtain⟨t',rfl⟩:=ry;exact zS (dg I q (by simp))
  |str j=>obtain⟨t',rfl⟩:=ry;exact eq_str (dg I q dec_str)
  |_=>exact absurd (show false=true from hs) dw
 |byt i=>
  obtain⟨t,rfl⟩:=rx
  cases y with
  |byt j=>obtain⟨t',rfl⟩:=ry;exact PySem.W.eq_bytes (dg I q dec_byt)
  |_=>exact absurd (show false=true from hs) dw
 |_=>cases y<;>exact absurd (show false=true from hs) dw
theorem op_ne:OpR X (compareOp .NotEq) rNe:=by
 intro pins s σ H x y v u Q I rx ry h
 obtain⟨hs,q⟩:=h
 cases x with
 |bo=>
  cases rx
  cases y with
  |bo=>cases ry;exact PySem.EqNone.ne_none_none (dg I q (by simp))
  |bl j=>cases ry;exact PySem.EqNone.ne_none_bool (dg I q (by simp))
  |int j=>obtain⟨t',rfl⟩:=ry;exact PySem.EqNone.ne_none_int (dg I q (by simp))
  |str j=>obtain⟨t',rfl⟩:=ry;exact PySem.EqNone.ne_none_str (dg I q (by simp))
  |_=>exact absurd (show false=true from hs) dw
 |bl i=>
  cases rx
  cases y with
  |bo=>cases ry;exact PySem.EqNone.ne_bool_none (dg I q (by simp))
  |bl j=>cases ry;exact ne_bool (dg I q (congrArg not dec_bl))
  |str j=>obtain⟨t',rfl⟩:=ry;exact zT (dg I q (by simp))
  |_=>exact absurd (show false=true from hs) dw
 |int i=>
  obtain⟨t,rfl⟩:=rx
  cases y with
  |bo=>cases ry;exact PySem.EqNone.ne_int_none (dg I q (by simp))
  |int j=>obtain⟨t',rfl⟩:=ry;exact ne_int (dg I q (congrArg not dec_int))
  |str j=>obtain⟨t',rfl⟩:=ry;exact zU (dg I q (by simp))
  |_=>exact absurd (show false=true from hs) dw
 |str i=>
  obtain⟨t,rfl⟩:=rx
  cases y with
  |bo=>cases ry;exact PySem.EqNone.ne_str_none (dg I q (by simp))
  |bl j=>cases ry;exact zV (dg I q (by simp))
  |int j=>obtain⟨t',rfl⟩:=ry;exact zW (dg I q (by simp))
  |str j=>obtain⟨t',rfl⟩:=ry;exact ne_str (dg I q (congrArg not dec_str))
  |_=>exact absurd (show false=true from hs) dw
 |byt i=>
  obtain⟨t,rfl⟩:=rx
  cases y with
  |byt j=>obtain⟨t',rfl⟩:=ry;exact PySem.W.ne_bytes (dg I q (congrArg not dec_byt))
  |_=>exact absurd (show false=true from hs) dw
 |_=>cases y<;>exact absurd (show false=true from hs) dw
theorem iC:OpR X (compareOp .Lt) (rI0 fun i j=>.bl (decide (i<j))):=opB0 fun _ _ _ _ _ _ _ q=>lt_int q
theorem op_le:OpR X (compareOp .LtE) (rI0 fun i j=>.bl (decide (i<=j))):=opB0 fun _ _ _ _ _ _ _ q=>le_int q
theorem hZ:OpR X (compareOp .Gt) (rI0 fun i j=>.bl (decide (j<i))):=opB0 fun _ _ _ _ _ _ _ q=>gt_int q
theorem op_ge:OpR X (compareOp .GtE) (rI0 fun i j=>.bl (decide (j<=i))):=opB0 fun _ _ _ _ _ _ _ q=>ge_int q
theorem op_isN:OpR X (compareOp .Is) (fun x y H Q=>y=.bo/\Q (.bl (decide (x=.bo))) H):=by
 intro pins s σ H x y v u Q I rx ry h
 obtain⟨rfl,q⟩:=h
 cases ry
 refine is_none_gen (dg I q ?_)
 cases x<;>first
  |(cases rx;rfl)
  |(obtain⟨t,rfl⟩:=rx;rfl)
theorem bU(b:aV){op:CmpOp}(h:op≠.In:=by decide)(h2:op≠.NotIn:=by decide):behindInMarks op b=false:=by
 have e1:(op==CmpOp.In)=false:=by cases op<;>first|rfl|exact absurd rfl h
 have e2:(op==CmpOp.NotIn)=false:=by cases op<;>first|rfl|exact absurd rfl h2
 cases b<;>simp[behindInMarks,e1,e2]
theorem pe_cmpR{op:CmpOp}{r:R2}(ho:OpR X (compareOp op) r)(ha:PE X a ta)(hb:PE X b tb)(hm:behindInMarks op b=false):PE X (.Compare a [op] [b] pos) (tOp r ta tb):=by
 intro pins s σ H Q I h
 exact wpAny_Compare1 (binT ha hb I h fun v u s2 x y H2 I2 rx ry q=>ho pins s2 σ H2 x y v u Q I2 rx ry q) hm
def tTest(t:TE):TT:=fun σ H Q=>t σ H fun x H'=>∃k,x=.bl k/\Q k H'
theorem bP{op:CmpOp}{r:R2}(ho:OpR X (compareOp op) r)(ha:PE X a ta)(hb:PE X b tb)(hm:behindInMarks op b=false):PT X (.Compare a [op] [b] pos) (tTest (tOp r ta tb)):=by
 intro pins s σ H Q I h
 refine wW (aW (ha pins s σ H _ I h) fun v s1 ⟨x,H1,I1,r1,q1⟩=>aW (hb pins s1 σ H1 _ I1 q1) fun u s2 ⟨y,H2,I2,r2,q2⟩=>
  aW (ho pins s2 σ H2 x y v u _ I2 r1 r2 q2) fun c s3 ⟨z,H3,I3,r3,k,e,q3⟩=>?_) hm
 subst e
 cases r3
 exact nJ ⟨H3,I3,q3⟩
def TruV(K:ay)(x:V)(H:Hp)(k:Bool):Prop:=
 match x with
 |.bo=>k=false
 |.bl b=>k=b
 |.int i=>k=(i != 0)
 |.str y=>y.length<=sizeLine/\k=((y.length:Int) != 0)
 |.byt y=>y.size<=sizeLine/\k=((y.size:Int) != 0)
 |.ref p=>(∃xs,ao K H p xs/\k = !xs.isEmpty)\/(∃xs,cz K H p xs/\k = !xs.isEmpty)\/∃kvs,H p=some (.dK kvs)/\k = !kvs.isEmpty
 |_=>False
theorem isEmpty_kv{κ:Type}{kvs:List (κ×V)}{vs:List (κ×af)}(r:KV kvs vs):(!vs.isEmpty) = !kvs.isEmpty:=by
 cases r<;>rfl
theorem isEmpty_of{xs:List V}{ai:List af}(r:Vals xs ai):(!ai.toArray.isEmpty) = !xs.isEmpty:=by
 cases r<;>simp
theorem line63:(sizeLine:Nat)<2^63:=by rw[rf];decide
theorem tru_ok:TruR X (fun x H Q=>∃k,TruV X.K x H k/\Q k H):=by
 intro pins s σ H x v Q I rx h
 obtain⟨k,e,q⟩:=h
 have hl:=line63
 have hs:sizeLine=16777216:=rf
 cases x with
 |bo=>
  cases rx
  have e':k=false:=e
  subst e'
  exact truthy_none ⟨H,I,q⟩
 |bl b=>
  cases rx
  have e':k=b:=e
  subst e'
  exact nJ ⟨H,I,q⟩
 |int i=>
  obtain⟨t,rfl⟩:=rx
  have e':k=(i != 0):=e
  subst e'
  exact PySem.P.truthy_int ⟨H,I,q⟩
 |str y=>
  obtain⟨t,rfl⟩:=rx
  obtain⟨hy,e'⟩:y.length<=sizeLine/\k=((y.length:Int) != 0):=e
  subst e'
  exact PySem.P.truthy_str (by omega) ⟨H,I.tok _,q⟩
 |byt y=>
  obtain⟨t,rfl⟩:=rx
  obtain⟨hy,e'⟩:y.size<=sizeLine/\k=((y.size:Int) != 0):=e
  subst e'
  exact PySem.W.truthy_bytes (by omega) ⟨H,I.tok _,q⟩
 |ref p=>
  cases rx
  have e':(∃xs,ao X.K H p xs/\k = !xs.isEmpty)\/(∃xs,cz X.K H p xs/\k = !xs.isEmpty)\/∃kvs,H p=some (.dK kvs)/\k = !kvs.isEmpty:=e
  rcases e' with⟨xs,hx,e'⟩|⟨xs,hx,e'⟩|⟨kvs,hx,e'⟩
  ·subst e'
   obtain⟨ai,r,pl,hz⟩:=I.list hx
   have hlen:=r.length
   exact wpAny_truthy_list pl.isList (by simp only[c4];omega) ⟨H,I.tok _,by rw[isEmpty_of r];exact q⟩
  ·subst e'
   obtain⟨ai,r,pl,hz⟩:=I.tuple hx
   have hlen:=r.length
   exact truthy_tuple pl (by simp only[c4];omega) ⟨H,I.tok _,by rw[isEmpty_of r];exact q⟩
  ·subst e'
   obtain⟨hz,hS,vs,r,m⟩:kvs.length<=sizeLine/\(p==sysModules)=false/\∃vs,KV kvs vs/\s.heap.DictOf (fj X.prog X.w) p vs:=I.aG p _ hx
   have hlen:kvs.length=vs.length:=gL r
   exact wpAny_truthy_dict hS m (by omega) ⟨H,I.tok _,by rw[isEmpty_kv r];exact q⟩
 |_=>exact(show False from e).elim
theorem nr(ha:PE X a ta)(he:∀whole,isTrue a X.env whole=(do let v <-whole;standAt a.pos;holding [v] (truthy v))):
  PT X a (fun σ H Q=>ta σ H fun x H'=>∃k,TruV X.K x H' k/\Q k H'):=by
 intro pins s σ H Q I h
 exact isTrue_plain (aW (ha pins s σ H _ I h) fun v s1 ⟨x,H1,I1,r1,q1⟩=>tru_ok pins s1 σ H1 x v Q I1 r1 q1) (he _)
theorem vals1{x:V}{us:List af}(r:Vals [x] us):∃u,us=[u]/\RelV x u:=by
 cases r with
 |cons r1 r2=>cases r2;exact⟨_,rfl,r1⟩
theorem call_abs:gR X (.builtin "abs") (fun xs H Q=>∃i,xs=[.int i]/\Q (.int (if i<0 then -i else i)) H):=by
 intro pins s σ H xs us Q I r h
 obtain⟨i,rfl,q⟩:=h
 obtain⟨u,rfl,t,rfl⟩:=vals1 r
 exact call_abs_int fun u tk=>⟨.int (if i<0 then -i else i),H,I.tok _,⟨_,rfl⟩,q⟩
end
structure ObjM (h:aA) (x dx C:aa) (mA:ag->Option af):Prop where
 obj:h.get? x=some (kF C dx)
 ns:h.Ns1 dx mA
 ne:dx≠x
theorem lookIn_ns{h:aA}{dx:aa}{mA:ag->Option af}(n:h.Ns1 dx mA):∃od,h.get? dx=some od/\∀name,uM name od=some (mA name):=by
 obtain⟨o,es,ep,ho,hd,hk,_,hm⟩:=n
 refine⟨o,ho,fun name=>?_⟩
 have e:=hm name
 unfold nsFind findBy at e
 rw[<-Array.find?_toList]at e
 unfold uM
 rw[hd]
 dsimp only
 split
 ·rename_i y q
  rw[q]at e
  exact congrArg some e
 ·rename_i q
  rw[q]at e
  have a:es.toList.any (·.refKey)=false:=by
   rw[List.any_eq_false]
   intro y hy
   obtain⟨z,t,hkey⟩:=hk y (Array.mem_toList_iff.mp hy)
   simp[DictEntry.refKey,hkey]
  have a':¬es.toList.any (·.refKey)=true:=by rw[a];exact dw
  rw[if_neg a']
  exact congrArg some e
theorem ObjM.look{h:aA}{x dx C:aa}{mA:ag->Option af}(I:ObjM h x dx C mA):∃od,PySem.W.InstAt h x (kF C dx) C (some od)/\∀name,uM name od=some (mA name):=
 let ⟨od,ho,hl⟩:=lookIn_ns I.ns
 ⟨od,⟨I.obj,rfl,rfl,ho⟩,hl⟩
section
variable{prog:aU}{w:aM}{A:bD}{E:af->ah->Prop}{s:ah}{K:ay}{x dx C f:aa}{mA:ag->Option af}{name:ag}{v:af}
theorem get_map{expr:Bool}{Q:af->ah->Prop}(X:K.In s.heap)(I:ObjM s.heap x dx C mA)(hg:pL K C name=true)(hh:pM K C=true)(ha:fF K (.ref C) name=some none)(hv:mA name=some v)(hv':xn v=true)(h:Q v {s with toks:=s.toks+1}) :wpAny (model prog w) A (getAttr (.ref x) name expr) Q E s:=by
 obtain⟨od,J,hl⟩:=I.look
 exact PySem.W.get_value X J (PySem.W.plainGet_of hg).1 (PySem.W.findObj_own hh ha rfl (by rw[hl,hv])) hv' h
theorem set_map{ns:List ag}{Q:Unit->ah->Prop}(X:K.In s.heap)(I:ObjM s.heap x dx C mA)(hs:fF K (.ref C) "__setattr__" = some (some (.builtin "object.__setattr__")))(hp:rD K C=true)(ht:uN K C name=some none)(hh:pM K C=true)(hw:ur mA ns)(hsz:ns.length<=sizeLine)(h:∀h',ObjM h' x dx C (fun y=>if y=name then some v else mA y)->iY dx s.heap h'->Q () {s with heap:=h',toks:=s.toks+2}) :wpAny (model prog w) A (setAttr (.ref x) name v) Q E s:=by
 obtain⟨od,J,hl⟩:=I.look
 refine PySem.W.set_plain X J hs (PySem.W.osa_open (s:={s with toks:=s.toks+1}) (r:=none) X J hp ht fun b=>?_)
 obtain⟨cd,hc,hd'⟩:=PySem.W.any_some hh
 have hx:s.heap.get? x=some ⟨.ref C,some dx,.plain,#[]⟩:=I.obj
 refine aq (aX (aq (aq (wpAny_loadPart hx (aq (zN (s:={s with toks:=s.toks+1}) (PySem.W.looks_clsIn X hc) ?_))))))
 rw[hd']
 refine aX (a:=some dx) (aq (aX (aq ?_)))
 refine wpAny_nsSet1 (s:={s with toks:=s.toks+1}) I.ns fun h' hn2 hs2=>?_
 obtain⟨oD,esD,epD,hoD,hdD,hcD⟩:=hn2.count (PySem.Within.cons name v hw)
 refine aq (wpAny_lookBehind hoD (by rw[hdD];exact pastItsLine_dict (cZ hcD (by rw[cI];omega))) ?_)
 exact aX (h _ ⟨(hs2.2 _ (hW I.ne)).trans I.obj,hn2,I.ne⟩ hs2)
theorem make_map{R:pG->ah->Prop}{vs:List af}{kw:List (ag×af)}(X:K.In s.heap)(hm:rE K C=true)(hi:fF K (.ref C) "__init__" = some (some (.ref f)))(hf:PySem.W.typeIn K (.ref f)=some (.type "function"))(h:codeAny (model prog w) (A.under (.builtin "type.__call__" ⟨.ref C ::vs,kw⟩)) (.call (.ref f) ⟨.ref (s.heap.objs.size+1) ::vs,kw⟩) (PySem.W.InitBack (s.heap.objs.size+1) R) {s with heap:=(s.heap.push jt).push (kF C s.heap.objs.size)}) :codeAny (model prog w) A (.call (.ref C) ⟨vs,kw⟩) R s:=by
 obtain⟨hh,g,d,t,os⟩:=s
 exact PySem.W.make_core (PySem.W.makes_of X hm) (PySem.W.looks_findIn X hi) (fun self=>PySem.W.bind_fn X self hf) (.inl rfl) h
end
def di(f:ag)(v:V):List (ag×V)->List (ag×V)
 |[]=>[(f,v)]
 |(g,x) :: r=>if g=f then(g,v) :: r else(g,x) :: di f v r
theorem lookup_putF(f g:ag)(v:V):∀fs:List (ag×V),(di f v fs).lookup g=if g=f then some v else fs.lookup g
 |[]=>by
  show kG g [(f,v)]=_
  by_cases h:g=f
  ·have hb:(g==f)=true:=beq_iff_eq.mpr h
   simp only[kG,hb,if_pos h]
  ·have hb:(g==f)=false:=beq_eq_false_iff_ne.mpr h
   simp only[kG,hb,if_neg h]
 |(k,x) :: r=>by
  have ih:=lookup_putF f g v r
  rw[show di f v ((k,x) ::r)=(if k=f then(k,v) ::r else(k,x) ::di f v r) from rfl]
  by_cases hk:k=f
  ·rw[if_pos hk]
   by_cases h:g=k
   ·have hb:(g==k)=true:=beq_iff_eq.mpr h
    simp only[kG,hb,if_pos (h.trans hk)]
   ·have hb:(g==k)=false:=beq_eq_false_iff_ne.mpr h
    simp only[kG,hb,if_neg (fun e:g=f=>h (e.trans hk.symm))]
  ·rw[if_neg hk]
   by_cases h:g=k
   ·have hb:(g==k)=true:=beq_iff_eq.mpr h
    simp only[kG,hb,if_neg (fun e:g=f=>hk (h.symm.trans e))]
   ·have hb:(g==k)=false:=beq_eq_false_iff_ne.mpr h
    simp only[kG,hb]
    exact ih
theorem keys_putF(f:ag)(v:V):∀fs:List (ag×V),f∈(di f v fs).map (·.1)/\∀g,g∈fs.map (·.1)->g∈(di f v fs).map (·.1)
 |[]=>⟨by simp[di],fun g h=>by simp at h⟩
 |(k,x) :: r=>by
  obtain⟨i1,i2⟩:=keys_putF f v r
  rw[show di f v ((k,x) ::r)=(if k=f then(k,v) ::r else(k,x) ::di f v r) from rfl]
  by_cases hk:k=f
  ·rw[if_pos hk]
   subst hk
   exact⟨by simp,fun g h=>by simpa using h⟩
  ·rw[if_neg hk]
   refine⟨?_,fun g h=>?_⟩
   ·rw[dB]
    exact cb _ i1
   ·rw[dB]at h ⊢
    rcases aZ.mp h with e|e
    ·exact aZ.mpr (.inl e)
    ·exact cb _ (i2 g e)
theorem length_putF(f:ag)(v:V):∀fs:List (ag×V),(di f v fs).length<=fs.length+1
 |[]=>by simp[di]
 |(k,x) :: r=>by
  have ih:=length_putF f v r
  rw[show di f v ((k,x) ::r)=(if k=f then(k,v) ::r else(k,x) ::di f v r) from rfl]
  by_cases hk:k=f
  ·rw[if_pos hk,cI,cI];omega
  ·rw[if_neg hk,cI,cI];omega
theorem RelO.some_of{v:V}{o:Option af}(r:RelO (some v) o):∃u,o=some u/\RelV v u:=by
 cases o with
 |none=>exact(show False from r).elim
 |some u=>exact⟨u,rfl,r⟩
theorem handed_of{v:V}{u:af}(r:RelV v u):xn u=true:=by
 cases v with
 |bo=>cases (show u=dv from r);rfl
 |bl b=>cases (show u=hV b from r);rfl
 |int i=>obtain⟨t,e⟩:=(show ∃t,u=pZ i t from r);cases e;rfl
 |str x=>obtain⟨t,e⟩:=(show ∃t,u=r4 x t from r);cases e;rfl
 |byt b=>obtain⟨t,e⟩:=(show ∃t,u=yd b t from r);cases e;rfl
 |flt b=>obtain⟨t,e⟩:=(show ∃t,u=ye b t from r);cases e;rfl
 |ref a=>cases (show u=bO a from r);rfl
 |ty n=>cases (show u=l5 n from r);rfl
section
variable{P:aU}{w:aM}{H H':Hp}{h h':aA}{a C dx:aa}{fs fs':List (ag×V)}
theorem ins_get(aG:HOk P w H h)(e:H a=some (.ins C dx fs)):∃mA,ObjM h a dx C mA/\(∀f,RelO (fs.lookup f) (mA f))/\ur mA (fs.map (·.1))/\fs.length<=1000/\H dx=some (.own a):=by
 obtain⟨d,z,ne,ob,mA,n,r,q⟩:=(show dk P w H h a (.ins C dx fs) from aG a _ e)
 exact⟨mA,⟨ob,n,ne⟩,r,q,z,d⟩
end
structure Cls (K:ay) (C:aa):Prop where
 pg:pL K C wb=true
 hd:pM K C=true
 po:rD K C=true
 sa:fF K (.ref C) "__setattr__" = some (some (.builtin "object.__setattr__"))
theorem Cls.get{K:ay}{C:aa}(c:Cls K C)(f:ag):pL K C f=true:=c.pg
def gO(K:ay)(C:aa)(f:ag):Prop:=fF K (.ref C) f=some none
theorem gO.taker{K:ay}{C:aa}{f:ag}(n:gO K C f):uN K C f=some none:=by
 unfold uN
 rw[show fF K (.ref C) f=some none from n]
 rfl
section
variable{X:Cx}{pins:List (aa×az)}{σ:St}{H:Hp}{s:ah}{a C dx:aa}{fs:List (ag×V)}{f:ag}{v:V}{A:bD}{E:af->ah->Prop}
theorem getattr_ok{b:Bool}{Q:af->ah->Prop}(I:Inv X pins σ H s)(e:H a=some (.ins C dx fs))(c:Cls X.K C)(n:gO X.K C f)(l:fs.lookup f=some v)(h:∀u s',Inv X pins σ H s'->RelV v u->Q u s'):wpAny (model X.prog X.w) A (getAttr (.ref a) f b) Q E s:=by
 obtain⟨mA,O,r,_,_,_⟩:=ins_get I.aG e
 obtain⟨u,hu,ru⟩:=RelO.some_of (v:=v) (o:=mA f) (by rw[<-l];exact r f)
 exact get_map I.kIn O (c.get f) c.hd n hu (handed_of ru) (h u _ (I.tok _) ru)
theorem setattr_ok{y:V}{u:af}{Q:Unit->ah->Prop}(I:Inv X pins σ H s)(e:H a=some (.ins C dx fs))(c:Cls X.K C)(n:gO X.K C f)(hl:fs.length<1000)(ry:RelV y u)(h:∀s',Inv X pins σ (upd H a (.ins C dx (di f y fs))) s'->Q () s'):wpAny (model X.prog X.w) A (setAttr (.ref a) f u) Q E s:=by
 obtain⟨mA,O,r,wi,_,ho⟩:=ins_get I.aG e
 have hz:(fs.map (·.1)).length<=sizeLine:=by rw[aP,rf];omega
 refine set_map I.kIn O c.sa c.po n.taker c.hd wi hz fun h' O' sb=>h _ ?_
 have hd:∃o,h'.get? dx=some o:=let ⟨o,_,_,e',_⟩:=O'.ns;⟨o,e'⟩
 refine I.write (x:=a) (e:=dx) (by rw[e];exact oH) (.inr ho) (fun b q hb z=>(sb.2 b hb).trans z) hd ?_
 refine⟨by rw[ak O.ne];exact ho,?_,O.ne,O'.obj,_,O'.ns,fun g=>?_,fun g hg=>?_⟩
 ·have:=length_putF f y fs;omega
 ·show RelO ((di f y fs).lookup g) (if g=f then some u else mA g)
  rw[lookup_putF]
  by_cases q:g=f
  ·rw[if_pos q,if_pos q];exact ry
  ·rw[if_neg q,if_neg q];exact r g
 ·by_cases q:g=f
  ·rw[q];exact(keys_putF f y fs).1
  ·refine(keys_putF f y fs).2 g (wi g fun z=>hg ?_)
   show(if g=f then some u else mA g)=none
   rw[if_neg q];exact z
theorem Inv.made(I:Inv X pins σ H s):Inv X pins σ (upd (upd H s.heap.objs.size (.own (s.heap.objs.size+1))) (s.heap.objs.size+1) (.ins C s.heap.objs.size [])) {s with heap:=(s.heap.push jt).push (kF C s.heap.objs.size)}:=by
 have e1:(s.heap.push jt).get? s.heap.objs.size=some jt:=df s.heap rfl
 have e2:((s.heap.push jt).push (kF C s.heap.objs.size)).get? (s.heap.objs.size+1)=some (kF C s.heap.objs.size):=by
  have:=df (s.heap.push jt) (o:=kF C s.heap.objs.size) rfl
  rwa[gg]at this
 have e3:(s.heap.push jt).Ns s.heap.objs.size (fun _=>none):=⟨jt,#[],_,e1,rfl,(fun e he=>absurd he (by simp)),fun _=>rfl⟩
 have I1:=I.laid (a:=s.heap.objs.size) (o:=.own (s.heap.objs.size+1)) (h':=s.heap.push jt) (t':=s.toks) (fun b u q=>cD _ q) (aI _) ⟨_,e1⟩
 refine I1.laid (a:=s.heap.objs.size+1) (o:=.ins C s.heap.objs.size []) (t':=s.toks) (fun b u q=>cD _ q) (om (gg _ _)) ?_
 have ne:s.heap.objs.size≠s.heap.objs.size+1:=dR (pT _)
 refine⟨by rw[ak ne,ax],de _,ne,e2,fun _=>none,(Heap.Ns1.of_empty e3).at fun o q=>cD _ q,fun _=>oH,fun y hy=>absurd rfl hy⟩
theorem attr_of{prog:aU}{w:aM}{env:cg}{e:aV}{f:ag}{pos:bN}{s:ah}{Q:af->ah->Prop}(hb:attributeBase e f env (eval e env)=eval e env)(h:wpAny (model prog w) A (eval e env) (fun o s₁=>wpAny (model prog w) A (getAttr o f true) Q E s₁) E s):wpAny (model prog w) A (eval (.Attribute e f pos) env) Q E s:=
 Attribute_any_ h (by rw[arm_eval_Attribute,hb])
end
def tFld(K:ay)(ta:TE)(f:ag):TE:=fun σ H Q=>ta σ H fun x H1=>∃a C dx fs v,x=.ref a/\H1 a=some (.ins C dx fs)/\Cls K C/\gO K C f/\fs.lookup f=some v/\Q v H1
def sFld(K:ay)(ta tv:TE)(f:ag):TS:=fun D σ H=>tv σ H fun y H1=>ta σ H1 fun x H2=>∃a C dx fs,x=.ref a/\H2 a=some (.ins C dx fs)/\Cls K C/\gO K C f/\fs.length<1000 /\
 D.nx σ (upd H2 a (.ins C dx (di f y fs)))
section
variable{X:Cx}{o e value:aV}{f:ag}{pos pos' tpos:bN}{ta tv:TE}
theorem fY(he:PE X e ta)(hb:attributeBase e f X.env (eval e X.env)=eval e X.env):PE X (.Attribute e f pos) (tFld X.K ta f):=by
 intro pins s σ H Q I h
 refine attr_of hb (aW (he pins s σ H _ I h) fun u s1 ⟨x,H1,I1,rx,a,C,dx,fs,v,ex,ea,c,n,l,q⟩=>?_)
 subst ex
 obtain rfl:u=bO a:=rx
 exact getattr_ok I1 ea c n l fun u' s2 I2 ru=>⟨v,H1,I2,ru,q⟩
theorem i9(ha:PE X o ta)(hv:PE X value tv)(hs:swapsWith value (some (.Attribute o f pos')) pos.line X.env=pure false):PS X (.Assign [.Attribute o f pos'] value pos) (sFld X.K ta tv f):=by
 intro pins s σ H D I h
 refine plainObj_wpAny_Assign_Attribute (aW (hv pins s σ H _ I h) fun u s1 ⟨y,H1,I1,ry,q⟩=>aW (ha pins s1 σ H1 _ I1 q) fun ov s2 ⟨x,H2,I2,rx,a,C,dx,fs,ex,ea,c,n,l,q2⟩=>?_) hs
 subst ex
 obtain rfl:ov=bO a:=rx
 exact setattr_ok I2 ea c n l ry fun s3 I3=>⟨σ,_,I3,q2⟩
end
structure dP (k:Nat) (A:bD):Prop where
 hd:A.handled=none
 dp:A.depth+3*k+5<recursionLimit
 un:A.units+16*k+200<cLine
theorem dP.mono{j k:Nat}{A:bD}(r:dP k A)(h:j<=k):dP j A:=⟨r.hd,by have:=r.dp;omega,by have:=r.un;omega⟩
theorem dP.deeper{k:Nat}{A:bD}(r:dP (k+1) A)(env:cg):dP k (A.deeper env):=
 ⟨r.hd,by have:=r.dp;show A.depth+1+3*k+5<_;omega,by have:=r.un;show A.units+3+16*k+200<_;omega⟩
theorem make_depth{A:bD}{C:aa}{us:List af}{kw:List (ag×af)}:(A.under (.builtin "type.__call__" ⟨.ref C ::us,kw⟩)).depth=A.depth+1:=by
 first|rfl|simp[v9,Code.weight,Code.isCreation,Code.isGuard,Code.isCaller,yV,wg,guardIds]
theorem make_units{A:bD}{C:aa}{us:List af}{kw:List (ag×af)}:(A.under (.builtin "type.__call__" ⟨.ref C ::us,kw⟩)).units=A.units+1:=by
 first|rfl|simp[v9,Code.cUnits,yV,wg]
theorem dP.make{k:Nat}{A:bD}(r:dP (k+1) A)(C:aa)(us:List af)(kw:List (ag×af)):dP k (A.under (.builtin "type.__call__" ⟨.ref C ::us,kw⟩)):=
 ⟨r.hd,by have:=r.dp;rw[make_depth];omega,by have:=r.un;rw[make_units];omega⟩
theorem dP.depth{k:Nat}{A:bD}(r:dP k A):A.depth<recursionLimit:=by have:=r.dp;omega
theorem dP.units{k:Nat}{A:bD}(r:dP k A):A.units+64<cLine:=by have:=r.un;omega
def tNil:TA:=fun _ H Q=>Q [] H
def tCons(ta:TE)(tr:TA):TA:=fun σ H Q=>ta σ H fun x H1=>tr σ H1 fun xs H2=>Q (x ::xs) H2
section
variable{X:Cx}{e:aV}{es:List aV}{te:TE}{t:TA}{pos:bN}
theorem au:PA X [] tNil:=fun _ _ _ _ H Q I h=>y9 ⟨[],H,I,.nil,h⟩
theorem aj(ha:PE X e te)(hr:PA X es t)(hs:starEach (e ::es) X.env=(false,eval e X.env) ::starEach es X.env:=by rfl):PA X (e ::es) (tCons te t):=by
 intro pos pins s σ H Q I h
 rw[hs]
 show wpAny _ _ (spliced ((false,eval e X.env) ::backTo pos (starEach es X.env))) _ _ s
 refine za (aW (ha pins s σ H _ I h) fun u s1 ⟨x,H1,I1,r1,q1⟩=>?_)
 exact aW (hr pos pins s1 σ H1 _ I1 q1) fun us s2 ⟨xs,H2,I2,r2,q2⟩=>⟨x ::xs,H2,I2,.cons r1 r2,q2⟩
def tTup(t:TA):TE:=fun σ H Q=>t σ H fun xs H1=>xs.length<=sizeLine/\∀p,H1 p=none->Q (.ref p) (upd H1 p (.tup xs))
def tLst(t:TA):TE:=fun σ H Q=>t σ H fun xs H1=>xs.length<=sizeLine/\∀p,H1 p=none->Q (.ref p) (upd H1 p (.lst xs))
theorem pe_tup{x1}(h:PA X es t):PE X (.Tuple es x1 pos) (tTup t):=by
 intro pins s σ H Q I hq
 refine wpAny_Tuple_spliced (aW (h pos pins s σ H _ I hq) fun us s1 ⟨xs,H1,I1,r,z,q⟩=>⟨by rw[<-r.length];exact z,?_⟩)
 have hf:H1 s1.heap.objs.size=none:=I1.aG.fresh (aI _)
 refine⟨.ref s1.heap.objs.size,upd H1 s1.heap.objs.size (.tup xs),I1.laid (t':=s1.toks) (fun b u e=>cD _ e) (aI _) ?_,rfl,q _ hf⟩
 exact⟨z,us,r,⟨_,df _ rfl,rfl,_,rfl⟩⟩
theorem dI(h:PA X es t):PE X (.List es pos) (tLst t):=by
 intro pins s σ H Q I hq
 refine wpAny_List_spliced (aW (h pos pins s σ H _ I hq) fun us s1 ⟨xs,H1,I1,r,z,q⟩=>⟨by rw[<-r.length];exact z,?_⟩)
 have hf:H1 s1.heap.objs.size=none:=I1.aG.fresh (aI _)
 refine⟨.ref s1.heap.objs.size,upd H1 s1.heap.objs.size (.lst xs),I1.laid (t':=s1.toks) (fun b u e=>cD _ e) (aI _) ?_,rfl,q _ hf⟩
 exact⟨z,us,0,r,df _ rfl⟩
end
abbrev Sp:=List V->Hp->VK->XK->Prop
abbrev CXT:=List cg->Hp->ah->XK->af->ah->Prop
structure Env0 (P:aU) (w:aM) (K:ay) (mg:ag->Option af) (base:aA) (A:bD) (outer:List cg) (s:ah) (H:Hp):Prop where
 frames:A.frames=some outer
 mod:Mod K mg base
 bs:∀b o,base.get? b=some o->s.heap.get? b=some o/\H b=none
 bsz:base.objs.size<=s.heap.objs.size
 funs:s.heap.FunFrames base outer
 frf:∀b∈cu outer,H b=none
 aG:HOk P w H s.heap
 bare:kY s.gens
def CE(outer:List cg)(P:aU)(w:aM)(H:Hp)(s:ah)(Q:VK)(u:af)(s':ah):Prop:=
 ∃v H',s'.os=s.os/\kY s'.gens/\Un (cu outer) [] H H' s.heap s'.heap/\HOk P w H' s'.heap/\RelV v u/\Q v H'
def CR(CX:CXT)(outer:List cg)(P:aU)(w:aM)(H:Hp)(s:ah)(Q:VK)(E:XK)(r:pG)(s':ah):Prop:=
 match r with
 |.ok (.ret u)=>CE outer P w H s Q u s'
 |.ok _=>False
 |.error e=>CX outer H s E e s'
structure aD (P:aU) (w:aM) (K:ay) (mg:ag->Option af) (base:aA) (CX:CXT) (k:Nat) (f:aa) (fd:bh) (ps:List ag) (sp:Sp):Prop where
 len:∀vs H Q E,sp vs H Q E->vs.length=ps.length
 run:∀(A:bD) (outer:List cg) (s:ah) (H:Hp) (args:Args) (us:List af) (vs:List V) (Q:VK) (E:XK),dP k A->Env0 P w K mg base A outer s H->nL s fd args (ps.zip us)->Vals vs us->sp vs H Q E ->
  codeAny (model P w) A (.call (.ref f) args) (CR CX outer P w H s Q E) s
theorem aD.mono{P:aU}{w:aM}{K:ay}{mg:ag->Option af}{base:aA}{CX:CXT}{j k:Nat}{f:aa}{fd:bh}{ps:List ag}{sp:Sp}(F:aD P w K mg base CX j f fd ps sp)(h:j<=k) :aD P w K mg base CX k f fd ps sp:=⟨F.len,fun A outer s H args us vs Q E hr=>F.run A outer s H args us vs Q E (hr.mono h)⟩
theorem Env0.make{P:aU}{w:aM}{K:ay}{mg:ag->Option af}{base:aA}{A:bD}{outer:List cg}{s:ah}{H:Hp}(e:Env0 P w K mg base A outer s H)(C:aa)(us:List af)(kw:List (ag×af)) :Env0 P w K mg base (A.under (.builtin "type.__call__" ⟨.ref C ::us,kw⟩)) outer s H:=⟨by first|exact e.frames|(simpa[v9,Code.envs,wg,pushEnvs]using e.frames),e.mod,e.bs,e.bsz,e.funs,e.frf,e.aG,e.bare⟩
section
variable{X:Cx}{pins:List (aa×az)}{σ:St}{H:Hp}{s s':ah}
theorem Inv.env0(I:Inv X pins σ H s):Env0 X.prog X.w X.K X.mg X.base X.A X.stack s H:=
 ⟨I.ok.frames,I.ok.mod,I.bs,cZ I.ok.bsz I.sz,I.stack,I.stkFree,I.aG,I.bare⟩
theorem Inv.after{Q:VK}{u:af}(I:Inv X pins σ H s)(h:CE X.stack X.prog X.w H s Q u s'):EP X pins σ Q u s':=by
 obtain⟨v,H',os,bare,un,aG,r,q⟩:=h
 obtain⟨hh,g,d,t,os'⟩:=s'
 obtain rfl:os'=s.os:=os
 exact⟨v,H',I.call (h':=hh) (g':=g) (d':=d) (t':=t) (ch:=[]) un aG bare (fun b z=>absurd z (by simp)),r,q⟩
end
def tCall(sp:Sp)(dvs:List V)(E:XK)(t:TA):TE:=fun σ H Q=>t σ H fun vs H1=>sp (vs++dvs) H1 Q E
def tMake(C:aa)(sp:Sp)(dvs:List V)(E:XK)(t:TA):TE:=fun σ H Q=>t σ H fun vs H1=>∀x dx,H1 x=none->H1 dx=none->dx≠x ->
 sp (.ref x ::(vs++dvs)) (upd (upd H1 dx (.own x)) x (.ins C dx [])) (fun v H2=>v=.bo/\Q (.ref x) H2) E
def Binds(K:ay)(fd:bh)(ps:List ag)(ds:List af):Prop:=
 ∀(s:ah) (us:List af),K.In s.heap->(us++ds).length=ps.length->nL s fd ⟨us,[]⟩ (ps.zip (us++ds))
theorem Binds.all{K:ay}{fd:bh}{ps:List ag}(h:∀us:List af,us.length=ps.length->bindArgs fd ⟨us,[]⟩=pure (ps.zip us)):Binds K fd ps []:=fun s us _ hl=>by
 rw[fV]at hl ⊢
 exact .of_eq (h us hl)
def Passes(CX:CXT)(X:Cx)(E:XK):Prop:=∀(pins:List (aa×az)) (σ:St) (H:Hp) (s:ah) (e:af) (s':ah),Inv X pins σ H s->CX X.stack H s E e s'->X.xe e s'
section
variable{X:Cx}{CX:CXT}{k:Nat}{f C:aa}{fd:bh}{ps:List ag}{sp:Sp}{dvs:List V}{ds:List af}{E:XK}{x m:ag}{p pos apos:bN}{e o:aV}{es:List aV}{ta:TE}{t:TA}
theorem run_fn{pins:List (aa×az)}{σ:St}{H:Hp}{s:ah}{Q:VK}{us:List af}{vs:List V}(F:aD X.prog X.w X.K X.mg X.base CX k f fd ps sp)(hr:dP k X.A)(hb:Binds X.K fd ps ds)(hd:Vals dvs ds)(hx:Passes CX X E)(I:Inv X pins σ H s)(r:Vals vs us)(h:sp (vs++dvs) H Q E):wpAny (model X.prog X.w) X.A (call (.ref f) us) (EP X pins σ Q) X.xe s:=by
 have r2:Vals (vs++dvs) (us++ds):=r.append hd
 have hl:(us++ds).length=ps.length:=by rw[<-r2.length];exact F.len _ _ _ _ h
 refine nM (iR (F.run X.A X.stack s H ⟨us,[]⟩ (us++ds) (vs++dvs) Q E hr I.env0 (hb s us I.kIn hl) r2 h) fun r s' hq=>?_)
 cases r with
 |error e=>exact hx pins σ H s e s' I hq
 |ok fl=>
  cases fl with
  |ret u=>exact I.after hq
  |next=>exact eS hq
  |brk=>exact eS hq
  |cont=>exact eS hq
theorem bp(F:aD X.prog X.w X.K X.mg X.base CX k f fd ps sp)(hr:dP k X.A)(hg:Gl X x)(hm:X.mg x=some (.ref f))(hk:bG X.K (.ref f)=true)(hb:Binds X.K fd ps ds)(hd:Vals dvs ds)(hx:Passes CX X E)
  (ha:PA X (e ::es) t) (hdb:(x==("__debug__" :ag))=false:=by decide) (he:starEach (e ::es) X.env=(false,eval e X.env) ::starEach es X.env:=by rfl) (hpl:(backTo pos (starEach es X.env)).any (·.1)=false:=by rfl):
  PE X (.Call (.Name x p) (e ::es) [] pos) (tCall sp dvs E t):=by
 intro pins s σ H Q I h
 refine kA (iN I hg hm ?_ hdb)
 refine uO (h₀:=X.base) I.ok.mod.kin hk (aW (ha pos pins s σ H _ I h) fun us s1 ⟨vs,H1,I1,r,q⟩=>⟨I1.kIn,?_⟩) he hpl
 exact run_fn F hr hb hd hx I1 r q
structure Mk (K:ay) (C f:aa):Prop where
 makes:rE K C=true
 init:fF K (.ref C) "__init__" = some (some (.ref f))
 fn:uP K (.ref f)=true
 kp:bG K (.ref C)=true
theorem run_make{pins:List (aa×az)}{σ:St}{H:Hp}{s:ah}{Q:VK}{us:List af}{vs:List V}(M:Mk X.K C f)(F:aD X.prog X.w X.K X.mg X.base CX k f fd ps sp)(hr:dP (k+1) X.A)(hb:Binds X.K fd ps ds)(hd:Vals dvs ds)(hx:Passes CX X E)(I:Inv X pins σ H s)(r:Vals vs us)(h:∀x dx,H x=none->H dx=none->dx≠x->sp (.ref x ::(vs++dvs)) (upd (upd H dx (.own x)) x (.ins C dx [])) (fun v H2=>v=.bo/\Q (.ref x) H2) E) :wpAny (model X.prog X.w) X.A (call (.ref C) us) (EP X pins σ Q) X.xe s:=by
 have hq:=h (s.heap.objs.size+1) s.heap.objs.size (I.aG.fresh (vw _)) (I.aG.fresh (aI _)) (dR (pT _))
 have I2:=Inv.made (C:=C) I
 have r2:Vals (V.ref (s.heap.objs.size+1) ::(vs++dvs)) (bO (s.heap.objs.size+1) ::(us++ds)):=.cons rfl (r.append hd)
 have hl:(bO (s.heap.objs.size+1) ::us++ds).length=ps.length:=by
  have e:=r2.length
  rw[F.len _ _ _ _ hq]at e
  exact e.symm
 refine nM (make_map (f:=f) I.kIn M.makes M.init (beq_iff_eq.mp M.fn) (iR (F.run _ X.stack _ _ ⟨bO (s.heap.objs.size+1) ::us,[]⟩ (bO (s.heap.objs.size+1) ::(us++ds)) _ _ E (hr.make C us [])
  (I2.env0.make C us []) (hb _ (bO (s.heap.objs.size+1) ::us) I2.kIn hl) r2 hq) fun r s' hq'=>?_))
 cases r with
 |error e=>exact hx pins σ _ _ e s' I2 hq'
 |ok fl=>
  cases fl with
  |ret u=>
   obtain⟨v,H',I3,rv,ev,q3⟩:=I2.after hq'
   subst ev
   exact⟨rv,⟨V.ref (s.heap.objs.size+1),H',I3,rfl,q3⟩⟩
  |next=>exact eS hq'
  |brk=>exact eS hq'
  |cont=>exact eS hq'
theorem pe_make(M:Mk X.K C f)(F:aD X.prog X.w X.K X.mg X.base CX k f fd ps sp)(hr:dP (k+1) X.A)(hg:Gl X x)(hm:X.mg x=some (.ref C))(hb:Binds X.K fd ps ds)(hd:Vals dvs ds)(hx:Passes CX X E)
  (ha:PA X (e ::es) t) (hdb:(x==("__debug__" :ag))=false:=by decide) (he:starEach (e ::es) X.env=(false,eval e X.env) ::starEach es X.env:=by rfl) (hpl:(backTo pos (starEach es X.env)).any (·.1)=false:=by rfl):
  PE X (.Call (.Name x p) (e ::es) [] pos) (tMake C sp dvs E t):=by
 intro pins s σ H Q I h
 refine kA (iN I hg hm ?_ hdb)
 refine uO (h₀:=X.base) I.ok.mod.kin M.kp (aW (ha pos pins s σ H _ I h) fun us s1 ⟨vs,H1,I1,r,q⟩=>⟨I1.kIn,?_⟩) he hpl
 exact run_make M F hr hb hd hx I1 r q
end
structure bQ (N P:List ag) (sc:dc):Prop where
 kind:sc.kind=.function
 co:sc.isCoroutine=false
 gen:sc.isGenerator=false
 nd:N.Nodup
 pre:N.take P.length=P
 par:∀x∈P,sc.names.lookup x=some .local\/sc.names.lookup x=some .cell
 nofree:∀y∈sc.names,y.2≠.free
theorem bindL_out{kindOf:ag->Option fU}{x:ag}:∀{binds:List (ag×af)} {m:ag->Option af},(∀v,(x,v)∉binds)->bindL kindOf binds m x=m x
 |[],_,_=>rfl
 |(n,v) :: r,m,h=>by
  unfold bindL
  rw[bindL_out fun w hw=>h w (cb _ hw)]
  split
  ·have:x≠n:=by rintro rfl;exact h v b9
   simp[this]
  ·rfl
theorem bindC_out{kindOf:ag->Option fU}{x:ag}:∀{binds:List (ag×af)} {m:ag->Option af},(∀v,(x,v)∉binds)->bindC kindOf binds m x=m x
 |[],_,_=>rfl
 |(n,v) :: r,m,h=>by
  unfold bindC
  rw[bindC_out fun w hw=>h w (cb _ hw)]
  split
  ·rfl
  ·have:x≠n:=by rintro rfl;exact h v b9
   simp[this]
theorem bindL_get{kindOf:ag->Option fU}{x:ag}{v:af}:∀{P:List ag} {vs:List af} {i:Nat} {m:ag->Option af},P.Nodup->P[i]?=some x->vs[i]?=some v->kindOf x=some .local ->
  bindL kindOf (P.zip vs) m x=some v
 |[],_,_,_,_,h,_,_=>by simp at h
 |_ :: _,[],_,_,_,_,h,_=>by simp at h
 |p :: P,w :: vs,0,m,nd,h1,h2,hk=>by
  simp at h1 h2;subst h1;subst h2
  show bindL kindOf ((p,w) ::P.zip vs) m p=_
  unfold bindL
  rw[bindL_out fun v hv=>(eD.mp nd).1 (uR hv).1,if_pos hk]
  simp
 |p :: P,w :: vs,i+1,m,nd,h1,h2,hk=>by
  show bindL kindOf ((p,w) ::P.zip vs) m x=_
  unfold bindL
  exact bindL_get (i:=i) (eD.mp nd).2 (by simpa using h1) (by simpa using h2) hk
theorem bindC_get{kindOf:ag->Option fU}{x:ag}{v:af}:∀{P:List ag} {vs:List af} {i:Nat} {m:ag->Option af},P.Nodup->P[i]?=some x->vs[i]?=some v->kindOf x≠some .local ->
  bindC kindOf (P.zip vs) m x=some v
 |[],_,_,_,_,h,_,_=>by simp at h
 |_ :: _,[],_,_,_,_,h,_=>by simp at h
 |p :: P,w :: vs,0,m,nd,h1,h2,hk=>by
  simp at h1 h2;subst h1;subst h2
  show bindC kindOf ((p,w) ::P.zip vs) m p=_
  unfold bindC
  rw[bindC_out fun v hv=>(eD.mp nd).1 (uR hv).1,if_neg hk]
  simp
 |p :: P,w :: vs,i+1,m,nd,h1,h2,hk=>by
  show bindC kindOf ((p,w) ::P.zip vs) m x=_
  unfold bindC
  exact bindC_get (i:=i) (eD.mp nd).2 (by simpa using h1) (by simpa using h2) hk
def start(N:List ag)(vs:List V):St:=vs.map some++eI (N.length-vs.length) none
def cxOf(CX:CXT)(P:aU)(w:aM)(K:ay)(mg:ag->Option af)(base:aA)(N:List ag)(qual:ag)(scope:dc)(f:aa)(cd:af)(A:bD)(outer:List cg)(s:ah)(H:Hp)(E:XK):Cx where
 prog:=P
 w:=w
 K:=K
 mg:=mg
 base:=base
 A:=A.deeper (envOfC qual scope s.heap.objs.size f cd)
 N:=N
 s_0:=s
 H_0:=H
 env:=envOfC qual scope s.heap.objs.size f cd
 outer:=outer
 stack:=envOfC qual scope s.heap.objs.size f cd ::outer
 ex:=[]
 calm:=true
 fn:=fun _=>true
 pn:=[]
 xe:=fun e s'=>wpAny (model P w) (A.deeper (envOfC qual scope s.heap.objs.size f cd)) (leaving (envOfC qual scope s.heap.objs.size f cd) e) (fun _ s''=>CX outer H s E e s'') (fun e' s''=>CX outer H s E e' s'') s'
theorem cell_has{sc:dc}{n:Nat}{x:ag}(h:sc.names.lookup x=some .cell):∃c,(cellsFrom n sc.names []).lookup x=some c:=by
 have q:=xo sc.names n [] (.inl h)
 exact yK.mp q
theorem inv_start{CX:CXT}{P:aU}{w:aM}{K:ay}{mg:ag->Option af}{base:aA}{N ps:List ag}{qual:ag}{scope:dc}{f:aa}{cd:af}{A:bD}{outer:List cg}{s s1:ah}{H:Hp}{E:XK}{us:List af}{vs:List V}(S:bQ N ps scope)(hd:A.handled=none)(e0:Env0 P w K mg base A outer s H)(hl:vs.length=ps.length)(r:Vals vs us)(x:InCallC s s.heap.objs.size (bindL (envOfC qual scope s.heap.objs.size f cd).kindOf (ps.zip us) fun _=>none) (cellsFrom (s.heap.objs.size+1) scope.names []) (bindC (envOfC qual scope s.heap.objs.size f cd).kindOf (ps.zip us) fun _=>none) s1) :Inv (cxOf CX P w K mg base N qual scope f cd A outer s H E) [] (start N vs) H s1:=by
 have hpl:ps.length<=N.length:=by have:=congrArg xt S.pre;rw[gG]at this;omega
 obtain⟨h1,tk,rfl,hk⟩:=x.done
 have noA:∀b:aa,b∉(cxOf CX P w K mg base N qual scope f cd A outer s H E).ex:=fun b z=>absurd (show b∈([]:List aa) from z) (by simp)
 refine⟨⟨e0.mod,S.kind,rfl,rfl,aI _,fun y z c h1 h2=>?_,fun y hy=>?_,fun y c _ h=>?_,fun _=>hd,yQ e0.frames,.inr ⟨rfl,rfl⟩,fun b z=>absurd z (noA b),e0.bs,e0.bsz,fun b _ _=>noA b,fun b z=>absurd z (noA b),e0.funs,e0.frf⟩,
  rfl,e0.bare,Un.kept hk,⟨_,x.toInCall.ns,fun i y v h1 h2 h3=>?_⟩,fun y c h=>⟨_,x.cell y c h⟩,e0.aG.fresh (aI _),fun y c h=>?_,fun p hp=>absurd (show p∈([]:List (aa×az)) from hp) (by simp),e0.aG.kept hk,?_⟩
 ·exact name_of_addr x.apart (fE h1) (fE h2)
 ·have hy:scope.names.lookup y=some .cell\/scope.names.lookup y=some .free:=hy
  rcases hy with hy|hy
  ·exact cell_has hy
  ·exact absurd rfl (S.nofree _ (fE hy))
 ·exact gH (x.above y c (fE h))
 ·have hi:i<vs.length:=by
   unfold start at h2
   by_cases hi:i<vs.length
   ·exact hi
   ·rw[e9 (by simpa using hi)]at h2
    rw[List.getElem?_replicate]at h2
    split at h2<;>cases h2
  have ha:vs[i]?=some v:=by
   unfold start at h2
   rw[dQ (by simpa using hi),bH]at h2
   cases e:vs[i]? with
   |none=>rw[e]at h2;cases h2
   |some a=>rw[e]at h2;cases h2;rfl
  obtain⟨u,hu,rv⟩:=r.get ha
  have hp:ps[i]?=some y:=by
   rw[<-S.pre,List.getElem?_take_of_lt (by omega)];exact h1
  have ndP:ps.Nodup:=by rw[<-S.pre];exact S.nd.sublist (List.take_sublist _ _)
  refine⟨u,rv,?_⟩
  rcases S.par y (cW hp)with k|k
  ·exact .inl ⟨k,bindL_get ndP hp hu k⟩
  ·obtain⟨c,e⟩:=cell_has (n:=s.heap.objs.size+1) k
   refine .inr ⟨.inl k,c,e,?_⟩
   have q:=x.cell y c e
   rw[bindC_get ndP hp hu (by show scope.names.lookup y≠_;rw[k];decide)]at q
   exact q
 ·exact e0.aG.fresh (gH (x.above y c (fE h)))
 ·unfold start
  show _=N.length
  rw[cx,aP,xu]
  omega
theorem fn_of{CX:CXT}{P:aU}{w:aM}{K:ay}{mg:ag->Option af}{base:aA}{k:Nat}{f:aa}{name qual:ag}{params:pH}{body:List a6}{scope:dc}{dV kV doc pm aY ct oc:af}{an od:Option aa}{osl:Array (Option af)}{N ps:List ag}{sp:Sp}(lk:K.lookup f=some ⟨oc,od,.func (bJ name qual params body scope dV kV doc pm an aY ct),osl⟩)(hcd:bW K aY qual=true)(S:bQ N ps scope)(len:∀vs H Q E,sp vs H Q E->vs.length=ps.length)(hbody:∀(A:bD) (outer:List cg) (s:ah) (H:Hp) (vs:List V) (Q:VK) (E:XK),dP k (A.deeper (envOfC qual scope s.heap.objs.size f aY))->sp vs H Q E -> ∃t,PSs (cxOf CX P w K mg base N qual scope f aY A outer s H E) body t/\t {nx:=fun _ H'=>Q .bo H',rt:=Q} (start N vs) H) :aD P w K mg base CX (k+1) f (bJ name qual params body scope dV kV doc pm an aY ct) ps sp:=by
 refine⟨len,fun A outer s H args us vs Q E hr e0 hb r hsp=>?_⟩
 have hl:=len _ _ _ _ hsp
 have KX:K.In s.heap:=e0.mod.kin.keeps fun b o e=>(e0.bs b o e).1
 have lim:s.heap.NoLimit:=e0.mod.nolimit.keeps fun b o e=>(e0.bs b o e).1
 have hkind:∀y∈ps.zip us,scope.names.lookup y.1=some .local\/(scope.names.lookup y.1=some .cell/\((cellsFrom (s.heap.objs.size+1) scope.names []).lookup y.1).isSome=true):=fun⟨n,v⟩ hy=>by
  rcases S.par n (uR hy).1 with q|q
  ·exact .inl q
  ·exact .inr ⟨q,xo _ _ _ (.inl q)⟩
 refine codeAny_call_function hr.depth (KX _ _ lk) rfl S.co S.gen rfl (PySem.W.codeRec_of KX hcd) (hb _ _ _ _ ?_)
 refine wpAny_newFunctionEnv_cells S.kind hkind fun env he s1 x=>?_
 subst he
 refine⟨lim.keeps x.toInCall.keep,codeAny_func ?_⟩
 obtain⟨t,ht,hq⟩:=hbody A outer s H vs Q E (hr.deeper _) hsp
 have I:Inv (cxOf CX P w K mg base N qual scope f aY A outer s H E) [] (start N vs) H s1:=inv_start S hr.hd e0 hl r x
 refine fD (ht [] s1 (start N vs) H _ I hq) (fun fl s' hs=>?_) fun e s' hs=>hs
 have fin:∀{σ':St} {H':Hp} {v:V} {u:af},Inv (cxOf CX P w K mg base N qual scope f aY A outer s H E) [] σ' H' s'->RelV v u->Q v H'->CE outer P w H s Q u s':=
  fun{σ' H' v u} J rv q=>⟨v,H',J.os,J.bare,J.base,J.aG,rv,q⟩
 cases fl with
 |ret u=>
  obtain⟨v,σ',H',J,rv,q⟩:=hs
  exact fin J rv q
 |next=>
  obtain⟨σ',H',J,q⟩:=hs
  exact fin (v:=V.bo) (u:=dv) J rfl q
 |brk=>
  obtain⟨_,_,_,q⟩:=hs
  exact eS q
 |cont=>
  obtain⟨_,_,_,q⟩:=hs
  exact eS q
section
variable{X:Cx}{x:ag}{p pos:bN}{e:aV}{es:List aV}{t:TA}{id T:String}{r:List V->Hp->VK->Prop}
def tCB(r:List V->Hp->VK->Prop)(t:TA):TE:=fun σ H Q=>t σ H fun vs H1=>r vs H1 Q
theorem dr(hc:gR X (.builtin id) r)(hg:Gl X x)(hm:X.mg x=none)(hv:bootBuiltins x=some (.builtin id))(ha:PA X (e ::es) t)(hn:x ≠ "__name__":=by decide)(hdb:(x==("__debug__" :ag))=false:=by decide)
  (he:starEach (e ::es) X.env=(false,eval e X.env) ::starEach es X.env:=by rfl) (hpl:(backTo pos (starEach es X.env)).any (·.1)=false:=by rfl):PE X (.Call (.Name x p) (e ::es) [] pos) (tCB r t):=by
 intro pins s σ H Q I h
 refine kA (kZ I hg hm hv ?_ hn hdb)
 exact PyProof.Rows.callWith_builtin1 (aW (ha pos pins s σ H _ I h) fun us s1 ⟨vs,H1,I1,r1,q1⟩=>hc pins s1 σ H1 vs us Q I1 r1 q1) he hpl
theorem pj(hc:gR X (.type T) r)(hg:Gl X x)(hm:X.mg x=none)(hv:bootBuiltins x=some (.type T))(ha:PA X (e ::es) t)(hn:x ≠ "__name__":=by decide)(hdb:(x==("__debug__" :ag))=false:=by decide)
  (he:starEach (e ::es) X.env=(false,eval e X.env) ::starEach es X.env:=by rfl) (hpl:(backTo pos (starEach es X.env)).any (·.1)=false:=by rfl):PE X (.Call (.Name x p) (e ::es) [] pos) (tCB r t):=by
 intro pins s σ H Q I h
 refine kA (kZ I hg hm hv ?_ hn hdb)
 exact sr (aW (ha pos pins s σ H _ I h) fun us s1 ⟨vs,H1,I1,r1,q1⟩=>hc pins s1 σ H1 vs us Q I1 r1 q1) he hpl
end
end L2
namespace HT
open PySem PyProof.Rows
section
variable{prog:aU}{w:aM}{A:bD}{E:af->ah->Prop}{s:ah}
def sIx(n d:Nat):Option Int->Nat
 |none=>d
 |some v=>if v<0 then(v+(n:Int)).toNat else min v.toNat n
end
end HT
namespace L2
open PySem PySem.Spec PyProof.Rows
abbrev TO:=St->Hp->(Option Int->Hp->Prop)->Prop
def PO(X:Cx)(e:Option aV)(t:TO):Prop:=
 ∀(pins:List (aa×az)) (s:ah) (σ:St) (H:Hp) (Q:Option Int->Hp->Prop),Inv X pins σ H s->t σ H Q ->
  wpAny (model X.prog X.w) X.A (evalPart e X.env) (fun u s'=>∃o H',Inv X pins σ H' s'/\IsPart u o/\Q o H') X.xe s
def tNoPart:TO:=fun _ H Q=>Q none H
def tPart(t:TE):TO:=fun σ H Q=>t σ H fun x H1=>∃i,x=.int i/\Q (some i) H1
section
variable{X:Cx}{e:aV}{te:TE}{lo hi:Option aV}{tl th:TO}{pos p2:bN}
theorem po_none:PO X none tNoPart:=by
 intro pins s σ H Q I h
 rw[evalPart_none]
 exact aX ⟨none,H,I,.none,h⟩
theorem po_some(h:PE X e te):PO X (some e) (tPart te):=by
 intro pins s σ H Q I hw
 rw[evalPart_some]
 refine aW (h pins s σ H _ I hw) fun u s1 ⟨x,H1,I1,r1,q1⟩=>?_
 obtain⟨i,rfl,q⟩:=q1
 obtain⟨t,rfl⟩:=r1
 exact⟨some i,H1,I1,.int i t,q⟩
def SlR(X:Cx)(r:V->Option Int->Option Int->Hp->VK->Prop):Prop:=
 ∀(pins:List (aa×az)) (s:ah) (σ:St) (H:Hp) (x:V) (v vl vu:af) (lo hi:Option Int) (sl:aa) (Q:VK),Inv X pins σ H s->RelV x v->s.heap.IsSliceOf sl vl vu .none->IsPart vl lo->IsPart vu hi->r x lo hi H Q ->
  ∃T id,typeLookup (.type T) "__getitem__" = pure (some (.builtin id))/\s.TypeIs v T/\wpAny (model X.prog X.w) X.A (getItem v (.ref sl)) (EP X pins σ Q) X.xe s
def tSl(r:V->Option Int->Option Int->Hp->VK->Prop)(te:TE)(tl th:TO):TE:=fun σ H Q=>te σ H fun x H1=>tl σ H1 fun l H2=>th σ H2 fun u H3=>r x l u H3 Q
theorem pe_slice{r:V->Option Int->Option Int->Hp->VK->Prop}(hr:SlR X r)(he:PE X e te)(hl:PO X lo tl)(hu:PO X hi th):PE X (.Subscript e (.Slice lo hi none p2) pos) (tSl r te tl th):=by
 intro pins s σ H Q I h
 refine vU (aW (he pins s σ H _ I h) fun v s1 ⟨x,H1,I1,r1,q1⟩=>?_)
 refine wpAny_Slice (aW (hl pins s1 σ H1 _ I1 q1) fun vl s2 ⟨l,H2,I2,pl,q2⟩=>aW (hu pins s2 σ H2 _ I2 q2) fun vu s3 ⟨u,H3,I3,pu,q3⟩=>?_)
 rw[evalPart_none]
 refine aX ?_
 have I4:Inv X pins σ H3 {s3 with heap:=s3.heap.push {cls:=.type "slice",data:=.fields #[vl,vu,.none]}}:=I3.kept (t':=s3.toks) fun b ob q=>cD _ q
 obtain⟨T,id,hT,ht,hg⟩:=hr pins {s3 with heap:=s3.heap.push {cls:=.type "slice",data:=.fields #[vl,vu,.none]}} σ H3 x v vl vu l u s3.heap.objs.size Q I4 r1 (zX ..) pl pu q3
 show wpAny (model X.prog X.w) X.A (subscriptTail e (.Slice lo hi none p2) v (.ref s3.heap.objs.size)) (EP X pins σ Q) X.xe {s3 with heap:=s3.heap.push {cls:=.type "slice",data:=.fields #[vl,vu,.none]}}
 exact tail_any (ops:=[.ref s3.heap.objs.size,v]) ht hT hg (by with_unfolding_all rfl)
def fB(xs:List V)(lo hi:Option Int):List V:=(xs.drop (HT.sIx xs.length 0 lo)).take (HT.sIx xs.length xs.length hi-HT.sIx xs.length 0 lo)
theorem cutV_length(xs:List V)(lo hi:Option Int):(fB xs lo hi).length<=xs.length:=by
 unfold fB
 rw[gG,kI]
 omega
end
def ixN(n:Nat)(i:Int):Option Nat:=if 0<=i then(if i<n then some i.toNat else none)else if -(n:Int)<=i then some (i+n).toNat else none
def atI{α:Type}(xs:List α)(i:Int):Option α:=(ixN xs.length i).bind fun j=>xs[j]?
theorem ixN_seq{n:Nat}{i:Int}{j:Nat}(h:ixN n i=some j):seqIndex? i n=some j/\j<n/\-(n:Int)<=i/\i<n:=by
 unfold ixN at h
 by_cases h0:0<=i
 ·rw[if_pos h0]at h
  by_cases h1:i<n
  ·rw[if_pos h1]at h
   have e:i.toNat=j:=cC h
   exact⟨by rw[ux h0 h1,e],by omega,by omega,h1⟩
  ·rw[if_neg h1]at h;cases h
 ·rw[if_neg h0]at h
  by_cases h1 : -(n:Int)<=i
  ·rw[if_pos h1]at h
   have e:(i+n).toNat=j:=cC h
   exact⟨by rw[seqIndex_neg (by omega) h1,e],by omega,h1,by omega⟩
  ·rw[if_neg h1]at h;cases h
theorem atI_get{α:Type}{xs:List α}{i:Int}{v:α}(h:atI xs i=some v):∃j,seqIndex? i xs.length=some j/\xs[j]?=some v/\j<xs.length/\-(xs.length:Int)<=i/\i<xs.length:=by
 unfold atI at h
 cases e:ixN xs.length i with
 |none=>rw[e]at h;cases h
 |some j=>
  rw[e]at h
  obtain⟨h1,h2,h3,h4⟩:=ixN_seq e
  exact⟨j,h1,h,h2,h3,h4⟩
theorem eV{α:Type}{xs:List α}{j:Nat}{v:α}(h:xs[j]?=some v):atI xs (j:Int)=some v:=by
 have hj:j<xs.length:=(bj.mp h).1
 have e:ixN xs.length (j:Int)=some j:=by
  unfold ixN
  rw[if_pos (by omega),if_pos (by omega)];simp
 unfold atI;rw[e];exact h
theorem atI_last{α:Type}(xs:List α)(v:α):atI (xs++[v]) (-1)=some v:=by
 have hl:(xs++[v]).length=xs.length+1:=by simp
 have e:ixN (xs++[v]).length (-1)=some xs.length:=by
  unfold ixN
  rw[hl,if_neg (by decide),if_pos (by omega)]
  congr 1
  omega
 unfold atI
 rw[e]
 show(xs++[v])[xs.length]?=some v
 simp
def PlainIx(b:aV):Prop:=∀o i,subscripted b false o i=operate [o,i] (getItem o i)
def IxR(X:Cx)(r:R2):Prop:=
 ∀(value slice:aV) (pins:List (aa×az)) (s:ah) (σ:St) (H:Hp) (x y:V) (v u:af) (Q:VK),Inv X pins σ H s->RelV x v->RelV y u->r x y H Q ->
  subscripted slice false v u=operate [v,u] (getItem v u)->wpAny (model X.prog X.w) X.A (subscriptTail value slice v u) (EP X pins σ Q) X.xe s
def MtR(X:Cx)(id:String)(r:V->List V->Hp->VK->Prop):Prop:=
 ∀(pins:List (aa×az)) (s:ah) (σ:St) (H:Hp) (x:V) (xs:List V) (v:af) (us:List af) (Q:VK),Inv X pins σ H s->RelV x v->Vals xs us->r x xs H Q ->
  wpAny (model X.prog X.w) X.A (call (.builtin id) (v ::us)) (EP X pins σ Q) X.xe s
section
variable{X:Cx}{a b:aV}{ta tb:TE}{pos:bN}
theorem dO{r:R2}(hr:IxR X r)(ha:PE X a ta)(hb:PE X b tb)(hs:PlainIx b):PE X (.Subscript a b pos) (tOp r ta tb):=by
 intro pins s σ H Q I h
 exact vU (binT ha hb I h fun v u s2 x y H2 I2 rx ry q=>hr a b pins s2 σ H2 x y v u Q I2 rx ry q (hs _ _))
def rIxL(K:ay):R2:=fun x y H Q=>∃p xs i v,x=.ref p/\y=.int i/\ao K H p xs/\atI xs i=some v/\Q v H
def rIxT(K:ay):R2:=fun x y H Q=>∃p xs i v,x=.ref p/\y=.int i/\cz K H p xs/\atI xs i=some v/\Q v H
theorem eG:IxR X (rIxL X.K):=by
 intro value slice pins s σ H x y v u Q I rx ry h hs
 obtain⟨p,xs,i,z,rfl,rfl,hq,he,q⟩:=h
 cases rx
 obtain⟨t,rfl⟩:=ry
 obtain⟨ai,r,pl,hz⟩:=I.list hq
 obtain⟨j,h1,h2,h3,h4,h5⟩:=atI_get he
 obtain⟨w,ew,rw'⟩:=r.get h2
 have hl:=r.length
 have hn:=line63
 have fin:EP X pins σ Q w s:=⟨z,H,I,rw',q⟩
 by_cases h0:0<=i
 ·have hj:i.toNat=j:=by
   rw[ux h0 h5]at h1
   exact cC h1
  exact item_listR pl.isList h0 (by omega) (by rw[hj];simpa using ew) fin hs
 ·have hj:(i+(ai.toArray.size:Int)).toNat=j:=by
   rw[seqIndex_neg (by omega) h4]at h1
   rw[c4,<-hl]
   exact cC h1
  exact yH (x:=w) pl.isList.typeIs wY.lookup
   (wpAny_getItem_list_neg (Q:=fun r s'=>r=w/\EP X pins σ Q r s') pl.isList (by omega) (by rw[c4]<;>omega) (by omega) (by rw[hj];simpa using ew) ⟨rfl,fin⟩) hs
theorem ix_tup:IxR X (rIxT X.K):=by
 intro value slice pins s σ H x y v u Q I rx ry h hs
 obtain⟨p,xs,i,z,rfl,rfl,hq,he,q⟩:=h
 cases rx
 obtain⟨t,rfl⟩:=ry
 obtain⟨ai,r,pl,hz⟩:=I.tuple hq
 obtain⟨j,h1,h2,h3,h4,h5⟩:=atI_get he
 obtain⟨w,ew,rw'⟩:=r.get h2
 have hl:=r.length
 have hn:=line63
 have fin:EP X pins σ Q w s:=⟨z,H,I,rw',q⟩
 exact yH (x:=w) pl.typeIs slot_tuple_getitem.lookup
  (getItem_tuple (j:=j) (Q:=fun r s'=>r=w/\EP X pins σ Q r s') pl (by omega) (by omega) (by rw[c4,<-hl];exact h1) (by simpa using ew) ⟨rfl,fin⟩) hs
theorem mapSeq_set(ai:List af)(n j:Nat)(u:af):p9 (·.setIfInBounds j u) {cls:=.type "list",data:=.seq ai.toArray n} = {cls:=.type "list",data:=.seq (ai.set j u).toArray n}:=by
 simp[p9]
theorem Inv.lst{pins:List (aa×az)}{σ:St}{H:Hp}{s:ah}{p:aa}{xs:List V}(I:Inv X pins σ H s)(h:H p=some (.lst xs)):∃(ai:List af) (n:Nat),Vals xs ai/\s.heap.get? p=some {cls:=.type "list",data:=.seq ai.toArray n}/\xs.length<=sizeLine:=by
 obtain⟨z,ai,n,r,e⟩:=I.aG p _ h
 exact⟨ai,n,r,e,z⟩
theorem Inv.lstUpd{pins:List (aa×az)}{σ:St}{H:Hp}{s:ah}{p:aa}{xs ys:List V}{ai its':List af}{n n':Nat}{f:az->az}(I:Inv X pins σ H s)(h:H p=some (.lst xs))(ho:s.heap.get? p=some {cls:=.type "list",data:=.seq ai.toArray n})(hf:f {cls:=.type "list",data:=.seq ai.toArray n} = {cls:=.type "list",data:=.seq its'.toArray n'})(r:Vals ys its')(hz:ys.length<=sizeLine)(t:Nat) :Inv X pins σ (upd H p (.lst ys)) {s with heap:=s.heap.update p f,toks:=t}:=by
 have e:(s.heap.update p f).get? p=some {cls:=.type "list",data:=.seq its'.toArray n'}:=by
  rw[iZ f ho (by rw[hf]<;>rfl),hf]
 refine I.write (x:=p) (e:=p) (by rw[h];trivial) (.inl rfl) (fun b u hb q=>(iy _ _ (hW hb)).trans q) ⟨_,e⟩ ?_
 exact⟨hz,its',n',r,e⟩
def rSetL:V->V->V->Hp->(Hp->Prop)->Prop:=fun o i v H Q=>∃p xs k j,o=.ref p/\i=.int k/\H p=some (.lst xs)/\ixN xs.length k=some j/\Q (upd H p (.lst (xs.set j v)))
theorem set_list:PSet X rSetL:=by
 intro pins s σ H o i v ov iv u Q I ro ri rv h
 obtain⟨p,xs,k,j,rfl,rfl,hp,hj,q⟩:=h
 cases ro
 obtain⟨t,rfl⟩:=ri
 obtain⟨ai,n,r,ho,hz⟩:=I.lst hp
 obtain⟨h1,h2,h3,h4⟩:=ixN_seq hj
 have hl:=r.length
 have hn:=line63
 have I':Inv X pins σ (upd H p (.lst (xs.set j v))) {s with heap:=s.heap.update p (p9 (·.setIfInBounds j u))}:=
  I.lstUpd hp ho (mapSeq_set ai n j u) (r.set rv j) (by rw[pP];exact hz) s.toks
 by_cases h0:0<=k
 ·have hk:k.toNat=j:=by
   rw[ux h0 h4]at h1
   exact cC h1
  exact PySem.W.ki_setAt ho h0 (by omega) (by rw[c4,<-hl];exact h4) (by rw[hk];exact⟨_,I',q⟩)
 ·have hk:(k+(ai.toArray.size:Int)).toNat=j:=by
   rw[seqIndex_neg (by omega) h3]at h1
   rw[c4,<-hl]
   exact cC h1
  exact PySem.W.ki_setBack ho (by omega) (by rw[c4,<-hl];exact h3) (by omega) (by rw[hk];exact⟨_,I',q⟩)
theorem slice_bounds(lo hi:Option Int)(n:Nat):(sliceBounds lo hi none n).1=((HT.sIx n 0 lo:Nat):Int)/\(sliceBounds lo hi none n).2.1=((HT.sIx n n hi:Nat):Int)/\(sliceBounds lo hi none n).2.2=1:=by
 refine⟨?_,?_,rfl⟩
 ·cases lo with
  |none=>simp[sliceBounds,HT.sIx]
  |some i=>
   simp only[sliceBounds,HT.sIx,yL,show(1:Int) > 0 by decide,if_true]
   by_cases h:i<0
   ·simp only[h,if_true]<;>omega
   ·simp only[h,if_false]<;>omega
 ·cases hi with
  |none=>simp[sliceBounds,HT.sIx]
  |some i=>
   simp only[sliceBounds,HT.sIx,yL,show(1:Int) > 0 by decide,if_true]
   by_cases h:i<0
   ·simp only[h,if_true]<;>omega
   ·simp only[h,if_false]<;>omega
theorem slicePick_cut(ai:List af)(lo hi:Option Int):slicePick ai.toArray lo hi none=((ai.drop (HT.sIx ai.length 0 lo)).take (HT.sIx ai.length ai.length hi-HT.sIx ai.length 0 lo)).toArray:=by
 obtain⟨h1,h2,h3⟩:=slice_bounds lo hi ai.toArray.size
 unfold slicePick
 rw[h1,h2,h3]
 simp only[sliceRange_one,pick_run,c4]<;>rfl
def rSlL(K:ay):V->Option Int->Option Int->Hp->VK->Prop:=fun x lo hi H Q=>∃a xs,x=.ref a/\ao K H a xs/\∀p,H p=none->Q (.ref p) (upd H p (.lst (fB xs lo hi)))
theorem sl_list:SlR X (rSlL X.K):=by
 intro pins s σ H x v vl vu lo hi sl Q I rx hs pl pu h
 obtain⟨a,xs,rfl,hx,q⟩:=h
 cases rx
 obtain⟨ai,r,ht,hz⟩:=I.list hx
 have hlen:=r.length
 refine⟨"list",_,wY.lookup,ht.isList.typeIs,?_⟩
 refine wpAny_getItem_list_slice ht.isList hs pl pu .none (by simp) ?_ (by rw[c4]<;>omega)
 rw[slicePick_cut,<-hlen]
 refine⟨.ref s.heap.objs.size,_,I.laid (t':=s.toks) (o:=.lst (fB xs lo hi)) (fun b ob q=>cD _ q) (aI _) ?_,rfl,q _ (I.aG.fresh (aI _))⟩
 exact⟨cZ (cutV_length xs lo hi) hz,_,0,(r.drop (HT.sIx xs.length 0 lo)).take (HT.sIx xs.length xs.length hi-HT.sIx xs.length 0 lo),df _ rfl⟩
def gn:V->Bool
 |.bo=>true
 |.bl _=>true
 |.int _=>true
 |.str _=>true
 |_=>false
def eqV:V->V->Bool
 |.bo,.bo=>true
 |.bl a,.bl b=>a==b
 |.bl a,.int b=>(if a then 1 else 0)==b
 |.int a,.bl b=>a==(if b then 1 else 0)
 |.int a,.int b=>a==b
 |.str a,.str b=>a==b
 |_,_=>false
theorem eqAt_V{A:bD}{s:ah}{y x:V}{u v:af}(ry:RelV y u)(rx:RelV x v)(fy:gn y=true)(fx:gn x=true):yU A s u v (eqV y x):=by
 cases y with
 |bo=>
  cases ry
  cases x with
  |bo=>cases rx;exact SeqAt.EqAt.same _
  |bl b=>cases rx;exact SeqAt.EqAt.none_bool b
  |int b=>obtain⟨t,rfl⟩:=rx;exact SeqAt.EqAt.none_int b t
  |str b=>obtain⟨t,rfl⟩:=rx;exact SeqAt.EqAt.none_str b t
  |_=>exact absurd (show false=true from fx) dw
 |bl a=>
  cases ry
  cases x with
  |bo=>cases rx;exact SeqAt.EqAt.bool_none a
  |bl b=>cases rx;exact SeqAt.EqAt.bool_bool a b
  |int b=>obtain⟨t,rfl⟩:=rx;exact SeqAt.EqAt.bool_int a b t
  |str b=>obtain⟨t,rfl⟩:=rx;exact SeqAt.EqAt.bool_str a b t
  |_=>exact absurd (show false=true from fx) dw
 |int a=>
  obtain⟨t',rfl⟩:=ry
  cases x with
  |bo=>cases rx;exact SeqAt.EqAt.int_none a t'
  |bl b=>cases rx;exact SeqAt.EqAt.int_bool a t' b
  |int b=>obtain⟨t,rfl⟩:=rx;exact SeqAt.EqAt.int_int a t' b t
  |str b=>obtain⟨t,rfl⟩:=rx;exact y0 a t' b t
  |_=>exact absurd (show false=true from fx) dw
 |str a=>
  obtain⟨t',rfl⟩:=ry
  cases x with
  |bo=>cases rx;exact SeqAt.EqAt.str_none a t'
  |bl b=>cases rx;exact SeqAt.EqAt.str_bool a t' b
  |int b=>obtain⟨t,rfl⟩:=rx;exact y6 a t' b t
  |str b=>obtain⟨t,rfl⟩:=rx;exact SeqAt.EqAt.str_str a t' b t
  |_=>exact absurd (show false=true from fx) dw
 |_=>exact absurd (show false=true from fy) dw
def eqU(x:V)(u:af):Bool:=match u with
 |.none=>eqV .bo x
 |.bool b=>eqV (.bl b) x
 |.int i _=>eqV (.int i) x
 |.str z _=>eqV (.str z) x
 |_=>false
theorem eqU_of{x y:V}{u:af}(r:RelV y u)(f:gn y=true):eqU x u=eqV y x:=by
 cases y with
 |bo=>cases r;rfl
 |bl b=>cases r;rfl
 |int i=>obtain⟨t,rfl⟩:=r;rfl
 |str z=>obtain⟨t,rfl⟩:=r;rfl
 |_=>exact absurd (show false=true from f) dw
theorem any_eqU{x:V}:∀{xs:List V} {us:List af},Vals xs us->xs.all gn=true->us.any (eqU x)=xs.any fun y=>eqV y x
 |_,_,.nil,_=>rfl
 |y :: xs,u :: us,.cons r t,f=>by
  rw[nS,gh]at f
  rw[kJ,kJ,eqU_of r f.1,any_eqU t f.2]
theorem pB{A:bD}{s:ah}{x:V}{v:af}(rx:RelV x v)(fx:gn x=true):∀{xs:List V} {us:List af},Vals xs us->xs.all gn=true->∀u∈us,yU A s u v (eqU x u)
 |_,_,.nil,_=>fun u hu=>by cases hu
 |y :: xs,u :: us,.cons r t,f=>fun u' hu=>by
  rw[nS,gh]at f
  rcases aZ.mp hu with rfl|hu
  ·rw[eqU_of r f.1];exact eqAt_V r rx f.1 fx
  ·exact pB rx fx t f.2 u' hu
def inV(x:V)(xs:List V):Bool:=xs.any fun y=>eqV y x
def rIn(K:ay)(neg:Bool):R2:=fun x y H Q=>∃p xs,y=.ref p/\(ao K H p xs\/cz K H p xs)/\gn x=true/\xs.all gn=true/\Q (.bl (if neg then !inV x xs else inV x xs)) H
theorem op_notIn_seq:OpR X (compareOp .NotIn) (rIn X.K true):=by
 intro pins s σ H x y v u Q I rx ry h
 obtain⟨p,xs,rfl,hq,fx,fs,q⟩:=h
 cases ry
 rcases hq with hq|hq
 ·obtain⟨ai,r,pl,hz⟩:=I.list hq
  refine SeqAt.notIn_listAt (eqU x) pl.isList (fun w hw=>pB rx fx r fs w (by simpa using hw)) ⟨.bl _,H,I,rfl,?_⟩
  rw[show ai.toArray.any (eqU x)=ai.any (eqU x) by simp,any_eqU r fs]
  exact q
 ·obtain⟨ai,r,pl,hz⟩:=I.tuple hq
  refine SeqAt.notIn_tupleAt (eqU x) pl (fun w hw=>pB rx fx r fs w (by simpa using hw)) ⟨.bl _,H,I,rfl,?_⟩
  rw[show ai.toArray.any (eqU x)=ai.any (eqU x) by simp,any_eqU r fs]
  exact q
theorem eB:gR X (.builtin "len") (fun xs H Q=>∃p ys,xs=[.ref p]/\(ao X.K H p ys\/cz X.K H p ys)/\Q (.int ys.length) H):=by
 intro pins s σ H xs us Q I r h
 obtain⟨p,ys,rfl,hq,q⟩:=h
 obtain⟨u,rfl,rx⟩:=vals1 r
 cases rx
 have hn:=line63
 rcases hq with hq|hq
 ·obtain⟨ai,r',pl,hz⟩:=I.list hq
  have hlen:=r'.length
  exact Calls.call_len_list pl.isList (by simp only[c4]<;>omega) ⟨.int ys.length,H,I.tok _,⟨s.toks+1,by rw[c4,hlen]⟩,q⟩
 ·obtain⟨ai,r',pl,hz⟩:=I.tuple hq
  have hlen:=r'.length
  exact len_tuple pl (by simp only[c4]<;>omega) ⟨.int ys.length,H,I.tok _,⟨s.toks+1,by rw[c4,hlen]⟩,q⟩
theorem call_list_of:gR X (.type "list") (fun xs H Q=>∃p ys,xs=[.ref p]/\(ao X.K H p ys\/cz X.K H p ys)/\∀l,H l=none->Q (.ref l) (upd H l (.lst ys))):=by
 intro pins s σ H xs us Q I r h
 obtain⟨p,ys,rfl,hq,q⟩:=h
 obtain⟨u,rfl,rx⟩:=vals1 r
 cases rx
 have fin:∀(ai:List af),Vals ys ai->ys.length<=sizeLine->∀(h':aA) (c':Nat),(∀b o',s.heap.get? b=some o'->h'.get? b=some o') ->
   h'.get? s.heap.objs.size=some {cls:=.type "list",dict:=none,data:=.seq ai.toArray c',slots:=#[]}->EP X pins σ Q (.ref s.heap.objs.size) {s with heap:=h'}:=fun ai r' hz h' c' kp e=>
  ⟨.ref s.heap.objs.size,_,I.laid (t':=s.toks) kp (aI _) (show dk X.prog X.w _ h' _ (.lst ys) from⟨hz,ai,c',r',e⟩),rfl,q _ (I.aG.fresh (aI _))⟩
 rcases hq with hq|hq
 ·obtain⟨ai,r',pl,hz⟩:=I.list hq
  have hlen:=r'.length
  obtain⟨o,ho,hc,n,hd⟩:=pl.isList
  exact call_list_seq p (.inl rfl) ho hc hd (fun h' c' kp e=>fin ai r' hz h' c' kp e) (by simp only[c4]<;>omega)
 ·obtain⟨ai,r',pl,hz⟩:=I.tuple hq
  have hlen:=r'.length
  obtain⟨o,ho,hc,n,hd⟩:=pl
  exact call_list_seq p (.inr rfl) ho hc hd (fun h' c' kp e=>fin ai r' hz h' c' kp e) (by simp only[c4]<;>omega)
theorem call_tuple_of:gR X (.type "tuple") (fun xs H Q=>∃p ys,xs=[.ref p]/\((ao X.K H p ys/\∀l,H l=none->Q (.ref l) (upd H l (.tup ys)))\/(cz X.K H p ys/\Q (.ref p) H))):=by
 intro pins s σ H xs us Q I r h
 obtain⟨p,ys,rfl,h⟩:=h
 obtain⟨u,rfl,rx⟩:=vals1 r
 cases rx
 rcases h with⟨hq,q⟩|⟨hq,q⟩
 ·obtain⟨ai,r',pl,hz⟩:=I.list hq
  have hlen:=r'.length
  refine call_tuple_list pl.isList (fun h' kp=>?_) (by simp only[c4]<;>omega)
  have I1:Inv X pins σ H {s with heap:=h'}:=I.kept (t':=s.toks) kp
  have I2:Inv X pins σ (upd H h'.objs.size (.tup ys)) {s with heap:=h'.push {cls:=.type "tuple",data:=.seq ai.toArray}}:=
   I1.laid (t':=s.toks) (fun b o e=>cD _ e) (aI _) (show dk X.prog X.w _ _ _ (.tup ys) from⟨hz,ai,r',IsTup.new _ _⟩)
  exact⟨.ref h'.objs.size,_,I2,rfl,q _ (I1.aG.fresh (aI _))⟩
 ·obtain⟨ai,r',pl,hz⟩:=I.tuple hq
  exact call_tuple_same pl ⟨.ref p,H,I,rfl,q⟩
def tyV(K:ay)(T:String)(x:V)(H:Hp):Prop:=match x with
 |.str _=>T = "str"
 |.int _=>T = "int"
 |.ref p=>(T = "list"/\∃xs,ao K H p xs)\/(T = "tuple"/\∃o,K.lookup p=some o/\o.cls=.type "tuple"/\o.dict=none) \/
   (T = "dict"/\((∃kvs,H p=some (.dK kvs))\/∃kvs,H p=some (.dT kvs)))\/(T = "set"/\∃S n,H p=some (.set S n))
 |_=>False
theorem tyV_is{pins:List (aa×az)}{σ:St}{H:Hp}{s:ah}{T:String}{x:V}{v:af}(I:Inv X pins σ H s)(r:RelV x v)(ty:tyV X.K T x H) :s.TypeIs v T/\∀a,v=.ref a->∃ob,s.heap.get? a=some ob/\ob.dict=none:=by
 cases x with
 |str z=>
  obtain⟨t,rfl⟩:=r
  cases (show T = "str" from ty)
  exact⟨typeIs_str s z t,fun _ e=>nomatch e⟩
 |int i=>
  obtain⟨t,rfl⟩:=r
  cases (show T = "int" from ty)
  exact⟨uz s i t,fun _ e=>nomatch e⟩
 |ref p=>
  cases r
  rcases ty with⟨rfl,xs,hq⟩|⟨rfl,o,hk,hc,hd⟩|⟨rfl,hk⟩|⟨rfl,S,n,hk⟩
  ·obtain⟨ai,_,pl,_⟩:=I.list hq
   refine⟨pl.isList.typeIs,fun a e=>?_⟩
   cases e
   obtain⟨o,n,e,c,hd,_⟩:=pl
   exact⟨o,e,hd⟩
  ·refine⟨⟨o,I.kIn p o hk,hc⟩,fun a e=>?_⟩
   cases e
   exact⟨o,I.kIn _ o hk,hd⟩
  ·have z:∃o,s.heap.get? p=some o/\o.ExactDict:=by
    rcases hk with⟨kvs,hk⟩|⟨kvs,hk⟩
    ·obtain⟨_,_,_,_,o,_,_,e,ex,_⟩:=I.aG p _ hk
     exact⟨o,e,ex⟩
    ·obtain⟨_,_,_,_,o,_,_,e,ex,_⟩:=I.aG p _ hk
     exact⟨o,e,ex⟩
   obtain⟨o,e,ex⟩:=z
   refine⟨⟨o,e,ex.1⟩,fun a e2=>?_⟩
   cases e2
   exact⟨o,e,ex.2.1⟩
  ·obtain⟨o,_,_,_,e,ex,_⟩:=I.aG p _ hk
   refine⟨⟨o,e,ex.1⟩,fun a e2=>?_⟩
   cases e2
   exact⟨o,e,ex.2.1⟩
 |_=>exact eS ty
def tBM0(K:ay)(T:String)(r:V->List V->Hp->VK->Prop)(to:TE):TE:=fun σ H Q=>to σ H fun x H1=>tyV K T x H1/\r x [] H1 Q
def tBM(K:ay)(T:String)(r:V->List V->Hp->VK->Prop)(to:TE)(t:TA):TE:=fun σ H Q=>to σ H fun x H1=>tyV K T x H1/\t σ H1 fun xs H2=>r x xs H2 Q
variable{o e:aV}{es:List aV}{to:TE}{t:TA}{name:ag}{apos c8:bN}{T id:String}{r:V->List V->Hp->VK->Prop}
theorem pe_bm0(pa:uA T)(slot:Slot T name id)(hty:typeOf (.builtin id)=pure (.type "method_descriptor"))(hm:MtR X id r)(ho:PE X o to)
  (iD:attributeBase o name X.env (eval o X.env)=eval o X.env:=by rfl) (hline:(apos.endLine==c8.line)=true:=by rfl):PE X (.Call (.Attribute o name apos) [] [] c8) (tBM0 X.K T r to):=by
 intro pins s σ H Q I h
 refine wpAny_Call_method0_late iD hline (aW (ho pins s σ H _ I h) fun v s1 ⟨x,H1,I1,r1,ty,q1⟩=>?_)
 obtain⟨h1,h2⟩:=tyV_is I1 r1 ty
 exact⟨T,id,pa,slot,hty,h1,h2,zb rfl (uB (hm pins s1 σ H1 x [] v [] Q I1 r1 .nil q1))⟩
theorem gp (pa:uA T) (slot:Slot T name id) (hty:typeOf (.builtin id)=pure (.type "method_descriptor")) (hm:MtR X id r) (ho:PE X o to) (ha:PA X (e :: es) t)
  (iD:attributeBase o name X.env (eval o X.env)=eval o X.env:=by rfl)
  (hfew:((backTo c8 (starEach (e :: es) X.env)).all (fun x=>!x.1)&&(backToKw c8 (keywordEach [] X.env)).all (fun x=>x.1.isSome)
   && decide ((e :: es).length+([]:List rg).length+(if ([]:List rg).isEmpty then 0 else 1)<30))=true:=by rfl)
  (hline:(apos.endLine==c8.line)=true:=by rfl) (hs:starEach (e :: es) X.env=(false,eval e X.env) :: starEach es X.env:=by rfl) (hplain:(backTo c8 (starEach es X.env)).any (·.1)=false:=by rfl) :
  PE X (.Call (.Attribute o name apos) (e :: es) [] c8) (tBM X.K T r to t):=by
 intro pins s σ H Q I h
 refine wpAny_Call_method_late iD hfew hline rfl (aW (ho pins s σ H _ I h) fun v s1 ⟨x,H1,I1,r1,ty,q1⟩=>?_)
 obtain ⟨h1,h2⟩:=tyV_is I1 r1 ty
 refine ⟨T,id,pa,slot,hty,h1,h2,?_⟩
 have hA:=ha c8 pins s1 σ H1 _ I1 q1
 rw [hs] at hA ⊢
 refine zb (by show (false||(backTo c8 (starEach es X.env)).any (·.1))=false;rw [hplain]<;>rfl) (Calls.evalArgs_plain ?_)
 exact aW hA fun us s2 ⟨vs,H2,I2,r2,q2⟩=>hm pins s2 σ H2 x vs v us Q I2 r1 r2 q2
end
def MtM(X:Cx)(id:String)(r:V->List V->Hp->VK->Prop):Prop:=
 ∀(pins:List (aa×az)) (s:ah) (σ:St) (H:Hp) (x:V) (xs:List V) (v:af) (us:List af) (Q:VK),Inv X pins σ H s->RelV x v->Vals xs us->r x xs H Q ->
  wpAny (model X.prog X.w) X.A (call (.builtin id) (v ::us)) (EP X pins σ Q) X.xe s
theorem Vals.one:∀{x:V} {us:List af},Vals [x] us->∃u,us=[u]/\RelV x u
 |_,_,.cons r .nil=>⟨_,rfl,r⟩
theorem Vals.zero:∀{us:List af},Vals [] us->us=[]
 |_,.nil=>rfl
theorem Vals.dropLast{xs:List V}{us:List af}(h:Vals xs us):Vals xs.dropLast us.dropLast:=by
 induction h with
 |nil=>exact .nil
 |cons r t ih=>
  cases t with
  |nil=>exact .nil
  |cons q t'=>exact .cons r ih
theorem Vals.rep{xs:List V}{us:List af}(h:Vals xs us):∀k:Nat,Vals (eI k xs).flatten (eI k us).flatten
 | 0=>.nil
 |k+1=>by
  rw[nU,nU,jv,jv]
  exact Vals.append h (Vals.rep h k)
theorem erase_last{α:Type}(l:List α):l.eraseIdx (l.length-1)=l.dropLast:=by
 induction l with
 |nil=>rfl
 |cons a r ih=>
  cases r with
  |nil=>rfl
  |cons b r=>
   have e:(a ::b ::r).length-1=((b ::r).length-1)+1:=by
    have h1:(a ::b ::r).length=r.length+2:=rfl
    have h2:(b ::r).length=r.length+1:=rfl
    omega
   rw[e,List.eraseIdx_cons_succ,ih]
   all_goals rfl
theorem foldl_rep(ai:List af):∀(k:Nat) (acc:List af),
  nV (fun x1 x2=>x1++x2) acc.toArray (eI k ai.toArray)=(acc++(eI k ai).flatten).toArray
 | 0,acc=>by simp
 |k+1,acc=>by
  have e:acc.toArray++ai.toArray=(acc++ai).toArray:=by simp
  have e2:(acc++ai)++(eI k ai).flatten=acc++(eI (k+1) ai).flatten:=by
   rw[nU,jv,jw]
  rw[<-e2,<-foldl_rep ai k (acc++ai),<-e,nU,kK]
section
variable{X:Cx}{pins:List (aa×az)}{σ:St}{H:Hp}{s:ah}{l b:aa}{xs ys zs:List V}
theorem Inv.lset{ai its':List af}{n:Nat}{f:Array af->Array af}{t':Nat}(I:Inv X pins σ H s)(hH:H l=some (.lst xs))(e:s.heap.get? l=some {cls:=.type "list",data:=.seq ai.toArray n})(hf:f ai.toArray=its'.toArray)(hv:Vals ys its')(hz:ys.length<=sizeLine) :Inv X pins σ (upd H l (.lst ys)) {s with heap:=s.heap.update l (p9 f),toks:=t'}:=by
 have q:=PySem.IsL.update e f
 rw[hf]at q
 refine I.write (x:=l) (e:=l) (by rw[hH];exact trivial) (.inl rfl) (fun b' u hb hu=>(iy s.heap (p9 f) (hW hb)).trans hu) ⟨_,q⟩ ?_
 exact⟨hz,its',_,hv,q⟩
theorem Inv.lnew{ai:List af}{t':Nat}(I:Inv X pins σ H s)(hv:Vals ys ai)(hz:ys.length<=sizeLine) :Inv X pins σ (upd H s.heap.objs.size (.lst ys)) {s with heap:=s.heap.push {cls:=.type "list",data:=.seq ai.toArray},toks:=t'}:=
 I.laid (fun _ _ q=>cD _ q) (aI _) ⟨hz,ai,0,hv,df _ rfl⟩
theorem Inv.fresh(I:Inv X pins σ H s):H s.heap.objs.size=none:=I.aG.fresh (aI _)
theorem Inv.lstM(I:Inv X pins σ H s)(hH:H l=some (.lst xs)):xs.length<=sizeLine/\∃(ai:List af) (n:Nat),Vals xs ai/\xs.length=ai.length/\s.heap.get? l=some {cls:=.type "list",data:=.seq ai.toArray n}:=by
 obtain⟨z,ai,n,r,e⟩:=I.aG l _ hH
 exact⟨z,ai,n,r,r.length,e⟩
theorem notLongL{n:Nat}(h:n<=sizeLine):sC n=false:=by
 unfold sC
 exact decide_eq_false (by omega)
end
section
variable{X:Cx}
def rAppend:V->List V->Hp->VK->Prop:=fun x vs H Q=>∃l xs y,x=.ref l/\vs=[y]/\H l=some (.lst xs)/\xs.length<sizeLine/\Q .bo (upd H l (.lst (xs++[y])))
theorem j3:MtM X "list.append" rAppend:=by
 intro pins s σ H x vs v us Q I rx rv h
 obtain⟨l,xs,y,rfl,rfl,hH,hz,q⟩:=h
 cases rx
 obtain⟨u,rfl,ru⟩:=rv.one
 obtain⟨z,ai,n,r,hl,e⟩:=I.lstM hH
 refine lN F.slot_list_append ⟨_,e,rfl⟩ F.entry_list_append (F.args_list_append_2 _ _) (PySem.list_append l ai.toArray n u (by rw[c4];omega)) ⟨e,?_⟩
 refine⟨.bo,_,I.lset (its':=ai++[u]) hH e (by simp) (r.append (.cons ru .nil)) ?_,rfl,q⟩
 rw[cx,xw]
 omega
def rExtend:V->List V->Hp->VK->Prop:=fun x vs H Q=>∃l b xs zs,x=.ref l/\vs=[.ref b]/\H l=some (.lst xs)/\H b=some (.lst zs)/\xs.length+zs.length<=sizeLine/\Q .bo (upd H l (.lst (xs++zs)))
theorem mt_extend:MtM X "list.extend" rExtend:=by
 intro pins s σ H x vs v us Q I rx rv h
 obtain⟨l,b,xs,zs,rfl,rfl,hH,hB,hz,q⟩:=h
 cases rx
 obtain⟨u,rfl,ru⟩:=rv.one
 cases ru
 obtain⟨z,ai,n,r,hl,e⟩:=I.lstM hH
 obtain⟨z2,its2,n2,r2,bZ,e2⟩:=I.lstM hB
 have hsz:ai.toArray.size+its2.toArray.size<=sizeLine:=by rw[c4,c4];omega
 have hlong:¬(!ai.toArray.isEmpty&&sC (ai.toArray.size+its2.toArray.size))=true:=by
  rw[notLongL hsz,vI]
  exact dw
 refine lN F.slot_list_extend ⟨_,e,rfl⟩ F.entry_list_extend (F.args_list_extend_2 _ _)
  (AutoSeq1.list_extend_list_list_0 l ai.toArray n b its2.toArray n2 hlong (by rw[c4];omega) (by omega)) ⟨e,e2,?_⟩
 refine⟨.bo,_,I.lset (its':=ai++its2) hH e (by simp) (r.append r2) ?_,rfl,q⟩
 rw[cx]
 omega
def rPop:V->List V->Hp->VK->Prop:=fun x vs H Q=>∃l xs y,x=.ref l/\vs=[]/\H l=some (.lst xs)/\xs[xs.length-1]?=some y/\Q y (upd H l (.lst xs.dropLast))
theorem mt_pop:MtM X "list.pop" rPop:=by
 intro pins s σ H x vs v us Q I rx rv h
 obtain⟨l,xs,y,rfl,rfl,hH,hy,q⟩:=h
 cases rx
 have hus:=rv.zero
 subst hus
 obtain⟨z,ai,n,r,hl,e⟩:=I.lstM hH
 obtain⟨u,hu,ru⟩:=r.get hy
 have hy':ai.toArray[ai.toArray.size-1]?=some u:=by
  show ai.toArray[ai.length-1]?=some u
  rw[<-qa,<-hl]
  exact hu
 refine lN F.slot_list_pop ⟨_,e,rfl⟩ F.entry_list_pop (F.args_list_pop_1 _) (MeetsSeq.list_pop_last l ai.toArray n u hy' (by rw[c4];omega)) ⟨e,?_⟩
 refine⟨y,_,I.lset (its':=ai.dropLast) hH e ?_ r.dropLast ?_,ru,q⟩
 ·show ai.toArray.eraseIdxIfInBounds (ai.toArray.size-1)=ai.dropLast.toArray
  rw[c4,List.eraseIdxIfInBounds_toArray,erase_last]
 ·rw[List.length_dropLast]
  omega
def rCat:R2:=fun x y H Q=>∃l b xs zs,x=.ref l/\y=.ref b/\H l=some (.lst xs)/\H b=some (.lst zs)/\xs.length+zs.length<=sizeLine/\∀p,H p=none->Q (.ref p) (upd H p (.lst (xs++zs)))
theorem op_cat:OpR X (binaryOp .Add) rCat:=by
 intro pins s σ H x y v u Q I rx ry h
 obtain⟨l,b,xs,zs,rfl,rfl,hH,hB,hz,q⟩:=h
 cases rx
 cases ry
 obtain⟨z,ai,n,r,hl,e⟩:=I.lstM hH
 obtain⟨z2,its2,n2,r2,bZ,e2⟩:=I.lstM hB
 refine PySem.P.add_list e e2 ?_ (by rw[c4,c4];omega)
 have ea:ai.toArray++its2.toArray=(ai++its2).toArray:=by simp
 rw[ea]
 exact⟨.ref _,_,I.lnew (t':=s.toks) (r.append r2) (by rw[cx];omega),rfl,q _ I.fresh⟩
def rRep:R2:=fun x y H Q=>∃l k xs,x=.ref l/\y=.int k/\H l=some (.lst xs)/\-(2^63)<=k/\k<2^63/\xs.length*k.toNat<=sizeLine /\
 ∀p,H p=none->Q (.ref p) (upd H p (.lst (eI k.toNat xs).flatten))
theorem len_rep{α:Type}(xs:List α)(k:Nat):(eI k xs).flatten.length=k*xs.length:=by
 induction k with
 |zero=>simp
 |succ k ih=>rw[nU,jv,cx,ih,rP,vx]
theorem op_rep:OpR X (binaryOp .Mult) rRep:=by
 intro pins s σ H x y v u Q I rx ry h
 obtain ⟨l,k,xs,rfl,rfl,hH,h1,h2,hz,q⟩:=h
 cases rx
 obtain ⟨t,rfl⟩:=ry
 obtain ⟨z,ai,n,r,hl,e⟩:=I.lstM hH
 have hlen:ai.toArray.size*k.toNat<=sizeLine:=by rw [c4,<-hl];exact hz
 have hcap:¬ ai.toArray.size*k.toNat > (2 ^ 63-1) / 8:=by
  have:(sizeLine:Nat)<=(2 ^ 63-1) / 8:=by decide
  omega
 have hfit:¬ (!Builtin.List.listFitsIndex k)=true:=by
  rw [fitsIndex_both h1 h2]
  exact dw
 have hlong:¬ sC (ai.toArray.size*k.toNat)=true:=by
  rw [notLongL hlen]
  exact dw
 have hnew:nV (fun x1 x2=>x1++x2) #[] (eI (if ai.toArray.isEmpty=true then 0 else k.toNat) ai.toArray)=(eI k.toNat ai).flatten.toArray:=by
  have f0:∀ m:Nat,nV (fun x1 x2=>x1++x2) #[] (eI m ai.toArray)=(eI m ai).flatten.toArray:=fun m=>by
   have:=foldl_rep ai m []
   rw [nW] at this
   exact this
  rw [f0]
  cases ai with
  | nil=>simp
  | cons a r'=>rw [if_neg (by simp)]
 refine wpAny_binaryOp_repeat_ref (T:="list") (U:="int") (by decide) ⟨_,e,rfl⟩ (fun s'=>uz s' k t) noFill_list_mul F.fills_int_mul yo repeat_list F.slot_int_index.lookup
  (lN yo (uz s k t) F.entry_int_rmul (F.args_int_rmul_2 _ _) (int___rmul___int_list k t l ai.toArray n)
   ⟨e,rfl,⟨_,e,rfl⟩,lN F.slot_list_mul ⟨_,e,rfl⟩ F.entry_list_mul (F.args_list_mul_2 _ _) (AutoListH.list___mul___list_int_3 l ai.toArray n k t hfit hcap hlong) ⟨e,?_⟩⟩)
 rw [hnew]
 exact ⟨.ref _,_,I.lnew (t':=s.toks) (r.rep k.toNat) (by rw [len_rep,gI];exact hz),rfl,q _ I.fresh⟩
end
theorem Vals.ints:∀{ns:List Int} {us:List af},Vals (ns.map V.int) us->gM us ns
 |[],us,h=>by
  rw[pQ]at h
  cases h
  exact IntsAre.nil
 |n :: ns,us,h=>by
  rw[dB]at h
  cases h with
  |cons r t=>
   obtain⟨k,rfl⟩:=r
   exact IntsAre.cons n k (Vals.ints t)
theorem vals_of_ints:∀{us:List af} {ns:List Int},gM us ns->Vals (ns.map V.int) us
 |_,_,.nil=>by rw[pQ];exact Paired.nil
 |_,_,.cons n t h=>by rw[dB];exact Paired.cons (show RelV (V.int n) (pZ n t) from⟨t,rfl⟩) (vals_of_ints h)
theorem Vals.bls:∀{bs:List Bool} {us:List af},Vals (bs.map V.bl) us->us=bs.map hV
 |[],us,h=>by
  rw[pQ]at h
  cases h
  rfl
 |b :: bs,us,h=>by
  rw[dB]at h
  cases h with
  |cons r t=>
   cases r
   rw[Vals.bls t,dB]
theorem Vals.ref1{a:aa}{us:List af}(r:Vals [V.ref a] us):us=[bO a]:=by
 cases r with
 |cons r t=>
  cases t
  cases r
  rfl
section
variable{X:Cx}
def rIndex(K:ay):V->List V->Hp->VK->Prop:=fun x xs H Q=>∃(a:aa) (ys:List V) (y:V) (j:Nat) (z:V),x=V.ref a/\xs=[y]/\ao K H a ys/\gn y=true/\ys.all gn=true/\ys[j]?=some z/\eqV z y=true /\
 (∀(m:Nat) (z':V),m<j->ys[m]?=some z'->eqV z' y=false)/\Q (.int (j:Nat)) H
theorem flat_at{ys:List V}(f:ys.all gn=true){j:Nat}{z:V}(h:ys[j]?=some z):gn z=true:=cB.mp f z (cW h)
theorem mt_index:MtR X "list.index" (rIndex X.K):=by
 intro pins s σ H x xs v us Q I rx rxs h
 obtain⟨a,ys,y,j,z,rfl,rfl,hs,fy,fys,hz,hzj,hno,q⟩:=h
 cases rx
 cases rxs with
 |cons ry rt=>
  rename_i uy ut
  cases rt
  obtain⟨ai,rv,⟨⟨cls,dd,data,sl⟩,n,ho,hc,hdn,hd⟩,hlen⟩:=I.list hs
  simp only at hc hd
  subst hc hd
  obtain⟨u,hu,ru⟩:=rv.get hz
  obtain⟨cw,hje⟩:=bj.mp hu
  have hvl:=rv.length
  have hj:j<ai.toArray.size:=by simpa using cw
  have hsl:=rf
  refine lN vN ⟨_,ho,rfl⟩ PySem.F.entry_list_index (PySem.F.args_list_index_2 _ _)
   (SeqAt.list_indexAt a ai.toArray n dd sl uy (eqU y) j hj (by omega) ?_ ?_) ⟨ho,fun u' hu'=>pB ry fy rv fys u' (by simpa using hu'),?_⟩
  ·have e1:ai.toArray[j]=u:=by simpa using hje
   rw[e1,eqU_of ru (flat_at fys hz)]
   exact hzj
  ·intro m hm hmj
   have hml:m<ai.length:=by simpa using hm
   have hmy:m<ys.length:=by omega
   have hy':ys[m]?=some ys[m]:=aH hmy
   obtain⟨u2,hu2,ru2⟩:=rv.get hy'
   obtain⟨_,hme⟩:=bj.mp hu2
   have e1:ai.toArray[m]=u2:=by simpa using hme
   rw[e1,eqU_of ru2 (flat_at fys hy')]
   exact hno m _ hmj hy'
  ·exact⟨.int (j:Nat),H,I.tok _,⟨_,rfl⟩,q⟩
end
theorem iter_any{prog:aU}{w:aM}{A:bD}{E:af->ah->Prop}{s:ah}{l:aa}{items:Array af}{Q:af->ah->Prop}(hl:s.heap.IsList l items)(h:∀s₂:ah,s₂ = {s with heap:=s.heap.push {cls:=.type "list_iterator",data:=.fields #[.ref l,.int 0 0]}} -> (s₂.heap.IsListIter s.heap.objs.size l 0/\s₂.heap.IsList l items)->l≠s.heap.objs.size->Q (.ref s.heap.objs.size) s₂):wpAny (model prog w) A (pyIter (.ref l)) Q E s:=by
 have aR:l<s.heap.objs.size:=by obtain⟨_,e,_⟩:=hl;exact cy e
 exact kx hl (h _ rfl ⟨⟨_,df _ rfl,rfl,rfl⟩,hl.push _⟩ (dR aR))
theorem truth_bools{prog:aU}{w:aM}{A:bD}{bs:List Bool}{ai:List af}(e:ai=bs.map hV) :TruthOf prog w A (fun i v=>ai.toArray[i]?=some v) (fun i=>bs.getD i false):=fun i v s Q E hv hq=>by
 have hv':ai[i]?=some v:=by simpa using hv
 rw[e,bH]at hv'
 obtain⟨b,hb,rfl⟩:=qb.mp hv'
 have hg:bs.getD i false=b:=by rw[bT,hb]<;>rfl
 have hq':Q (bs.getD i false) s:=hq
 rw[hg]at hq'
 exact nJ hq'
theorem any_range:∀bs:List Bool,(aT bs.length).any (fun i=>bs.getD i false)=bs.any id
 |[]=>rfl
 |b :: bs=>by
  rw[cI,xx,kJ,uS,kJ,<-any_range bs]
  all_goals rfl
theorem all_range:∀bs:List Bool,(aT bs.length).all (fun i=>bs.getD i false)=bs.all id
 |[]=>rfl
 |b :: bs=>by
  rw[cI,xx,nS,uT,nS,<-all_range bs]
  all_goals rfl
section
variable{X:Cx}
def rAll(K:ay):List V->Hp->VK->Prop:=fun vs H Q=>∃(a:aa) (bs:List Bool),vs=[V.ref a]/\ao K H a (bs.map V.bl)/\Q (.bl (bs.all id)) H
theorem cr_all(hc:X.calm=true):gR X (.builtin "all") (rAll X.K):=by
 intro pins s σ H vs us Q I r h
 obtain⟨a,bs,rfl,hs,q⟩:=h
 obtain⟨ai,rv,hl,_⟩:=I.list hs
 rw[Vals.ref1 r]
 have hb:=rv.bls
 refine call_all_walk (iter_any hl.isList fun s₂ e2 st ba=>?_)
 subst e2
 refine⟨_,_,_,_,_,_,_,rfl,wj (A:=X.A.in1) (I.ok.hd hc) _ a ba ai.toArray,st,truth_bools hb,fun h' tk hk=>?_⟩
 refine⟨.bl _,H,I.kept fun b o eo=>hk b o (fun hmem=>?_) (cD _ eo),?_,q⟩
 ·rcases aZ.mp hmem with e1|hmem
  ·exact absurd (e1▸cy eo) (hG _)
  ·cases hmem
 ·show hV _=hV _
  rw[<-all_range,hb,c4,aP]
end
mutual
inductive Dp (K:ay) (H:Hp):V->kB->Prop
 |bo:Dp K H .bo .none
 |bl (b:Bool):Dp K H (.bl b) (.bool b)
 |int (i:Int):Dp K H (.int i) (.int i)
 |str (x:ag):Dp K H (.str x) (.str x)
 |lst {a:aa} {xs:List V} {ds:List kB}:ao K H a xs->DpAll K H xs ds->Dp K H (.ref a) (.list ds)
 |tup {a:aa} {xs:List V} {ds:List kB}:cz K H a xs->DpAll K H xs ds->Dp K H (.ref a) (.tuple ds)
inductive DpAll (K:ay) (H:Hp):List V->List kB->Prop
 |nil:DpAll K H [] []
 |cons {v:V} {vs:List V} {d:kB} {ds:List kB}:Dp K H v d->DpAll K H vs ds->DpAll K H (v :: vs) (d :: ds)
end
section
variable{X:Cx}{pins:List (aa×az)}{σ:St}{H:Hp}{s:ah}
mutual
theorem Dp.reads(I:Inv X pins σ H s):∀(d:kB) (v:V) (u:af),Dp X.K H v d->RelV v u->∃as,Reads s.heap u d as
 |.none,_,_,h,r=>by
  cases h
  cases r
  exact⟨_,Reads.none⟩
 |.bool b,_,_,h,r=>by
  cases h
  cases r
  exact⟨_,Reads.bool b⟩
 |.int i,_,_,h,r=>by
  cases h
  obtain⟨t,rfl⟩:=r
  exact⟨_,Reads.int i t⟩
 |.str x,_,_,h,r=>by
  cases h
  obtain⟨t,rfl⟩:=r
  exact⟨_,Reads.str x t⟩
 |.list ds,_,_,h,r=>by
  cases h with
  |lst hs ha=>
   cases r
   obtain⟨ai,rv,⟨o,n,ho,hc,_,hd⟩,_⟩:=I.list hs
   obtain⟨as,hr⟩:=Dp.readsAll I ds _ ai ha rv
   exact⟨_,Reads.list ho hc hd hr⟩
 |.tuple ds,_,_,h,r=>by
  cases h with
  |tup hs ha=>
   cases r
   obtain⟨ai,rv,⟨o,ho,hc,n,hd⟩,_⟩:=I.tuple hs
   obtain⟨as,hr⟩:=Dp.readsAll I ds _ ai ha rv
   exact⟨_,Reads.tuple ho hc hd hr⟩
 |.dict _,_,_,h,_=>by cases h
theorem Dp.readsAll(I:Inv X pins σ H s):∀(ds:List kB) (vs:List V) (us:List af),DpAll X.K H vs ds->Vals vs us->∃as,ReadsAll s.heap us ds as
 |[],_,_,h,r=>by
  cases h
  cases r
  exact⟨_,ReadsAll.nil⟩
 |d :: ds,_,_,h,r=>by
  cases h with
  |cons h1 h2=>
   cases r with
   |cons r1 r2=>
    obtain⟨as,q1⟩:=Dp.reads I d _ _ h1 r1
    obtain⟨bs,q2⟩:=Dp.readsAll I ds _ _ h2 r2
    exact⟨_,ReadsAll.cons q1 q2⟩
end
end
section
variable{X:Cx}
def rEqD(K:ay):R2:=fun x y H Q=>∃d e,Dp K H x d/\Dp K H y e/\sD d=true/\sD e=true/\Q (.bl (sA d e)) H
theorem op_eqD(hu:X.A.units+64<cLine):OpR X (compareOp .Eq) (rEqD X.K):=by
 intro pins s σ H x y v u Q I rx ry h
 obtain⟨d,e,hd,he,sd,se,q⟩:=h
 obtain⟨as,r1⟩:=Dp.reads I d x v hd rx
 obtain⟨bs,r2⟩:=Dp.reads I e y u he ry
 exact SeqAt.compareEq_shaped r1 r2 sd se hu ⟨.bl _,H,I,rfl,q⟩
end
end L2
namespace L2
open PySem PySem.Spec PyProof.Rows
abbrev CellAt(h:aA)(c:aa)(v:Option af):Prop:=h.IsCell c v
def relS(scope sc:dc):dc:=
 {scope with names:=scope.names.map fun(n,k)=>if (k==.free&&sc.kind==.function&&sc.names.lookup n==some .cell)then(n,.cell)else(n,k)}
def da(cells:List (ag×aa)):List (ag×fU)->List (ag×aa)->List (ag×aa)
 |[],acc=>acc
 |(n,k) :: r,acc=>if k==.free then da cells r ((n,(cells.lookup n).getD 0) :: acc)else da cells r acc
theorem closure_loop(env:cg)(f:ag×fU->List (ag×aa)->dY (ForInStep (List (ag×aa))))
  (hf:∀n k c,f (n,k) c=if k==.free then(do let a <-cellOf env n;pure (.yield ((n,a) ::c)))else pure (.yield c)):
  ∀(names:List (ag×fU)) (acc:List (ag×aa)),(∀y∈names,y.2=.free->∃c,env.cells.lookup y.1=some c)->forIn names acc f=pure (da env.cells names acc)
 |[],acc,_=>by rw[uU];rfl
 |(n,k) :: r,acc,h=>by
  rw[xy,hf]
  have ih:=fun acc=>closure_loop env f hf r acc fun y hy=>h y (cb _ hy)
  unfold da
  by_cases hk:(k==oI)=true
  ·rw[if_pos hk,if_pos hk]
   obtain⟨c,hc⟩:=h (n,k) b9 (by simpa using hk)
   have e:cellOf env n=pure c:=by unfold cellOf;rw[hc]
   rw[e]
   have e2:(env.cells.lookup n).getD 0=c:=by rw[hc];rfl
   rw[e2]
   exact ih _
  ·rw[if_neg hk,if_neg hk]
   exact ih _
theorem closure_ok{scope:dc}{env:cg}(h:∀y∈scope.names,y.2=.free->∃c,env.cells.lookup y.1=some c):closureFor scope env=pure (da env.cells scope.names []):=by
 simp only[closureFor]
 rw[closure_loop env _ (fun n k c=>rfl) scope.names [] h]
 rfl
theorem mem_lookup{α:Type}:∀{l:List (ag×α)} {n:ag} {c:α},(n,c)∈l->∃c',l.lookup n=some c'
 |(k,v) :: r,n,c,h=>by
  rw[lS]
  cases hb:n==k with
  |true=>exact⟨_,rfl⟩
  |false=>
   rcases aZ.mp h with e|h
   ·cases e;simp at hb
   ·exact mem_lookup h
theorem oY{cells:List (ag×aa)}:∀{names:List (ag×fU)} {acc:List (ag×aa)} {n:ag} {c:aa},(n,c)∈da cells names acc->(n,c)∈acc\/((n,.free)∈names/\c=(cells.lookup n).getD 0)
 |[],_,_,_,h=>.inl h
 |(m,k) :: r,acc,n,c,h=>by
  unfold da at h
  split at h
  ·rename_i hk
   have hk:k=.free:=by simpa using hk
   rcases oY h with h|⟨h1,h2⟩
   ·rcases aZ.mp h with e|h
    ·cases e;exact .inr ⟨hk▸b9,rfl⟩
    ·exact .inl h
   ·exact .inr ⟨cb _ h1,h2⟩
  ·rcases oY h with h|⟨h1,h2⟩
   ·exact .inl h
   ·exact .inr ⟨cb _ h1,h2⟩
theorem ub{cells:List (ag×aa)}:∀{names:List (ag×fU)} {acc:List (ag×aa)} {p:ag×aa},p∈acc->p∈da cells names acc
 |[],_,_,h=>h
 |(m,k) :: r,acc,p,h=>by
  unfold da
  split
  ·exact ub (cb _ h)
  ·exact ub h
theorem qK{cells:List (ag×aa)}:∀{names:List (ag×fU)} {acc:List (ag×aa)} {n:ag},(n,.free)∈names->(n,(cells.lookup n).getD 0)∈da cells names acc
 |(m,k) :: r,acc,n,h=>by
  unfold da
  rcases aZ.mp h with e|h
  ·cases e
   exact ub b9
  ·split
   ·exact qK h
   ·exact qK h
theorem pk:∀{names:List (ag×fU)} {h:aA} {acc:List (ag×aa)} {x:ag} {c:aa},(x,c)∈cellsFrom h.objs.size names acc ->
  (x,c)∈acc\/((x,.cell)∈names/\h.objs.size<=c/\CellAt (pushCells h names) c none)
 |[],_,_,_,_,h=>.inl h
 |(n,k) :: r,h,acc,x,c,hm=>by
  unfold cellsFrom at hm
  unfold pushCells
  split at hm
  ·rename_i hk
   rw[if_pos hk]
   have hk:k=.cell:=by simpa using hk
   rw[<-gg h {cls:=.type "cell",data:=.cell none}]at hm
   rcases pk hm with hm|⟨h1,h2,h3⟩
   ·rcases aZ.mp hm with e|hm
    ·cases e
     exact .inr ⟨hk▸b9,aI _,_,rh r _ _ _ (df _ rfl),rfl⟩
    ·exact .inl hm
   ·rw[gg]at h2
    exact .inr ⟨cb _ h1,rQ h2,h3⟩
  ·rename_i hk
   rw[if_neg hk]
   rcases pk hm with hm|⟨h1,h2,h3⟩
   ·exact .inl hm
   ·exact .inr ⟨cb _ h1,h2,h3⟩
theorem cells_acc:∀{names:List (ag×fU)} {n:Nat} {acc:List (ag×aa)} {p:ag×aa},p∈acc->p∈cellsFrom n names acc
 |[],_,_,_,h=>h
 |(m,k) :: r,n,acc,p,h=>by
  unfold cellsFrom
  split
  ·exact cells_acc (cb _ h)
  ·exact cells_acc h
theorem cells_has:∀{names:List (ag×fU)} {n:Nat} {acc:List (ag×aa)} {x:ag},(x,.cell)∈names->∃c,(x,c)∈cellsFrom n names acc
 |(m,k) :: r,n,acc,x,h=>by
  unfold cellsFrom
  rcases aZ.mp h with e|h
  ·cases e
   exact⟨n,cells_acc b9⟩
  ·split
   ·exact cells_has h
   ·exact cells_has h
theorem cells_inj:∀{names:List (ag×fU)} {h:aA} {acc:List (ag×aa)} {x y:ag} {c:aa},(∀p∈acc,p.2<h.objs.size)->(∀x y c,(x,c)∈acc->(y,c)∈acc->x=y) ->
  (x,c)∈cellsFrom h.objs.size names acc->(y,c)∈cellsFrom h.objs.size names acc->x=y
 |[],_,_,_,_,_,_,hi,h1,h2=>hi _ _ _ h1 h2
 |(n,k) :: r,h,acc,x,y,c,hl,hi,h1,h2=>by
  unfold cellsFrom at h1 h2
  split at h1
  ·rename_i hk
   rw[if_pos hk]at h2
   rw[<-gg h {cls:=.type "cell",data:=.cell none}]at h1 h2
   refine cells_inj (h:=h.push _) (fun p hp=>?_) (fun x y c a b=>?_) h1 h2
   ·rw[gg]
    rcases aZ.mp hp with rfl|hp
    ·exact pT _
    ·exact oo (hl p hp)
   ·rcases aZ.mp a with e|a<;>rcases aZ.mp b with e'|b
    ·cases e;cases e';rfl
    ·cases e;exact absurd (hl _ b) (hG _)
    ·cases e';exact absurd (hl _ a) (hG _)
    ·exact hi _ _ _ a b
  ·rename_i hk
   rw[if_neg hk]at h2
   exact cells_inj hl hi h1 h2
theorem newEnv_comp{M:gX}{A:bD}{E:af->ah->Prop}{s:ah}{scope:dc}{globals:aa}{closure:List (ag×aa)}{qual:ag}{func:Option aa}{code:af}{around:cg}{builtins:aa}{Q:cg->ah->Prop}(h:Q (newEnv scope s.heap.objs.size globals (cellsFrom (s.heap.objs.size+1) scope.names closure) qual func code (some around) builtins) {s with heap:=pushCells (s.heap.push {cls:=.type "dict",data:=.dict #[]}) scope.names}) :wpAny M A (newFunctionEnv scope globals closure [] qual func code (some around) builtins) Q E s:=by
 simp only[newFunctionEnv,yM,if_true]
 refine aq (wpAny_alloc ?_)
 refine aq (wpAny_layCells _ (fun n k c=>rfl) scope.names closure _ _ ?_)
 rw[show({s with heap:=s.heap.push {cls:=.type "dict",data:=.dict #[]}}:ah).heap.objs.size=s.heap.objs.size+1 from gg ..]
 rw[uU]
 exact aq (aX (aX h))
theorem uc{sc:dc}:∀{names:List (ag×fU)} {x:ag} {k:fU},
  (names.map fun(n,k)=>if (k==oI&&sc.kind==.function&&sc.names.lookup n==some .cell)then(n,vZ)else(n,k)).lookup x=some k ->
  ∃k',names.lookup x=some k'/\(k=k'\/(k'=.free/\k=.cell))
 |[],_,_,h=>by simp at h
 |(n,k₀) :: r,x,k,h=>by
  have ih:=@uc sc r x k
  have h':kG x ((if (k₀==oI&&sc.kind==.function&&sc.names.lookup n==some .cell)=true then(n,vZ)else(n,k₀)) ::(r.map _))=some k:=h
  cases hx:x==n with
  |true=>
   simp only[lS,hx]
   by_cases hc:(k₀==oI&&sc.kind==.function&&sc.names.lookup n==some .cell)=true
   ·rw[if_pos hc]at h'
    simp only[lS,hx]at h'
    cases h'
    simp only[gh,beq_iff_eq]at hc
    exact⟨k₀,rfl,.inr ⟨hc.1.1,rfl⟩⟩
   ·rw[if_neg hc]at h'
    simp only[lS,hx]at h'
    cases h'
    exact⟨_,rfl,.inl rfl⟩
  |false=>
   simp only[lS,hx]
   by_cases hc:(k₀==oI&&sc.kind==.function&&sc.names.lookup n==some .cell)=true
   ·rw[if_pos hc]at h'
    simp only[lS,hx]at h'
    exact ih h'
   ·rw[if_neg hc]at h'
    simp only[lS,hx]at h'
    exact ih h'
structure BlkOk (N:List ag) (sc scope:dc) (own:List (ag×Nat)):Prop where
 kind:scope.kind=.function
 uniq:∀y∈scope.names,scope.names.lookup y.1=some y.2
 ix:∀p∈own,N[p.2]?=some p.1
 free:∀y∈scope.names,y.2=.free->sc.names.lookup y.1=some .cell\/sc.names.lookup y.1=some .free
 own:∀y∈scope.names,y.2=.local\/y.2=.cell->y.1∈own.map (·.1)\/y.1∉N
def wipe(σ:St):List Nat->St
 |[]=>σ
 |v :: vs=>(wipe σ vs).set v none
theorem ud(σ:St):∀vs:List Nat,(wipe σ vs).length=σ.length
 |[]=>rfl
 |v :: vs=>by unfold wipe;rw[pP,ud σ vs]
theorem wipe_some{σ:St}{i:Nat}{x:V}:∀{vs:List Nat},(wipe σ vs)[i]?=some (some x)->σ[i]?=some (some x)/\i∉vs
 |[],h=>⟨h,by simp⟩
 |v :: vs,h=>by
  unfold wipe at h
  by_cases hi:v=i
  ·subst hi
   by_cases hv:v<(wipe σ vs).length
   ·rw[nR hv]at h;cases h
   ·rw[d3 (by simpa using hv)]at h;cases h
  ·rw[lR hi]at h
   obtain⟨h1,h2⟩:=wipe_some h
   exact⟨h1,by simp only[aZ,not_or];exact⟨fun e=>hi e.symm,h2⟩⟩
abbrev Cx.blk(X:Cx)(s:ah)(H:Hp)(scope:dc)(dq:cg)(fp:List aa):Cx:={X with s_0:=s,H_0:=H,env:=dq,outer:=X.stack,ex:=fp,fn:=fun x=>scope.names.lookup x==some .cell,pn:=[],xe:=fun _ _=>False}
section
variable{X:Cx}{pins:List (aa×az)}{σ:St}{H:Hp}{s:ah}
theorem block_start{scope:dc}{own:List (ag×Nat)}{fp:List aa}(I:Inv X pins σ H s)(ok:BlkOk X.N X.env.scope scope own)(hN:X.N.Nodup)(hfp:∀b∈fp,FpOk X pins H b/\b<s.heap.objs.size) :Inv (X.blk s H scope (compEnvC scope (cellsFrom (s.heap.objs.size+1) scope.names (da X.env.cells scope.names [])) s.heap.objs.size X.env) fp) [] (wipe σ (own.map (·.2))) H {s with heap:=pushCells (s.heap.push {cls:=.type "dict",data:=.dict #[]}) scope.names}:=by
 have hfree:∀y∈scope.names,y.2=.free->∃c,X.env.cells.lookup y.1=some c:=fun y hy e=>by
  rcases ok.free y hy e with k|k
  ·exact I.ok.has _ (.inl k)
  ·exact I.ok.has _ (.inr k)
 generalize hcenv:compEnvC scope (cellsFrom (s.heap.objs.size+1) scope.names (da X.env.cells scope.names [])) s.heap.objs.size X.env=dq
 have kp:∀b o,s.heap.get? b=some o->(pushCells (s.heap.push {cls:=.type "dict",data:=.dict #[]}) scope.names).get? b=some o:=fun b o e=>rh _ _ _ _ (cD _ e)
 have hL:dq.locals=s.heap.objs.size:=by rw[<-hcenv];rfl
 have hcl:dq.cells=cellsFrom (s.heap.objs.size+1) scope.names (da X.env.cells scope.names []):=by rw[<-hcenv];rfl
 have hsc:dq.scope=relS scope X.env.scope:=by rw[<-hcenv];rfl
 rw[<-gg s.heap {cls:=.type "dict",data:=.dict #[]}]at hcl
 have cm:∀{y c},(y,c)∈da X.env.cells scope.names []->X.env.cells.lookup y=some c/\c<s.heap.objs.size:=fun{y c} hm=>by
  rcases oY hm with hm|⟨h1,rfl⟩
  ·cases hm
  ·obtain⟨c,hc⟩:=hfree _ h1 rfl
   rw[hc]
   obtain⟨w,z⟩:=I.cell _ _ hc
   exact⟨rfl,z.lt⟩
 have mem:∀{y c},dq.cells.lookup y=some c->(X.env.cells.lookup y=some c/\c<s.heap.objs.size)\/(s.heap.objs.size+1<=c/\CellAt (pushCells (s.heap.push {cls:=.type "dict",data:=.dict #[]}) scope.names) c none):=fun{y c} e=>by
  rw[hcl]at e
  rcases pk (fE e)with hm|⟨_,h2,h3⟩
  ·exact .inl (cm hm)
  ·rw[gg]at h2;exact .inr ⟨h2,h3⟩
 have look:∀{y},scope.names.lookup y=some .free->∃c,dq.cells.lookup y=some c/\X.env.cells.lookup y=some c:=fun{y} hl=>by
  have hy:(y,oI)∈scope.names:=fE hl
  obtain⟨c',e'⟩:=mem_lookup (cells_acc (names:=scope.names) (n:=(s.heap.push {cls:=.type "dict",data:=.dict #[]}).objs.size) (qK (cells:=X.env.cells) (acc:=[]) hy))
  rw[<-hcl]at e'
  refine⟨c',e',?_⟩
  rw[hcl]at e'
  rcases pk (fE e')with hm|⟨h1,_,_⟩
  ·exact(cm hm).1
  ·have:=ok.uniq _ h1
   rw[hl]at this;cases this
 have okB:(X.blk s H scope dq fp).Ok:=by
  refine⟨I.ok.mod,by show dq.scope.kind=_;rw[hsc];exact ok.kind,by show dq.globals=_;rw[<-hcenv];exact I.ok.glob,by show dq.builtins=_;rw[<-hcenv];exact I.ok.blt,by show s.heap.objs.size<=dq.locals;rw[hL];exact aI _,
   fun y z c e1 e2=>?_,fun y hy=>?_,fun y c z e=>?_,I.ok.hd,I.ok.frames,.inl rfl,fun b hb=>⟨?_,fun y c e z=>?_⟩,I.bs,cZ I.ok.bsz I.sz,fun b o e hb=>?_,fun b hb z=>?_,I.stack,I.stkFree⟩
  ·have e1:dq.cells.lookup y=some c:=e1
   have e2:dq.cells.lookup z=some c:=e2
   rw[hcl]at e1 e2
   refine cells_inj (fun p hp=>?_) (fun y z c a b=>I.ok.inj y z c (cm a).1 (cm b).1) (fE e1) (fE e2)
   rw[gg]
   exact oo (cm (y:=p.1) (c:=p.2) hp).2
  ·show ∃c,dq.cells.lookup y=some c
   have key:∀k,dq.kindOf y=some k->(k=.cell\/k=.free)->∃c,dq.cells.lookup y=some c:=fun k hk hk'=>by
    unfold Env.kindOf at hk
    rw[hsc]at hk
    obtain⟨k',e,r⟩:=uc hk
    have:k'=.cell\/k'=.free:=by
     rcases r with rfl|⟨rfl,_⟩
     ·exact hk'
     ·exact .inr rfl
    rcases this with rfl|rfl
    ·obtain⟨c,hm⟩:=cells_has (n:=(s.heap.push {cls:=.type "dict",data:=.dict #[]}).objs.size) (acc:=da X.env.cells scope.names []) (fE e)
     obtain⟨c',e'⟩:=mem_lookup hm
     exact⟨c',by rw[hcl];exact e'⟩
    ·obtain⟨c,h1,_⟩:=look e
     exact⟨c,h1⟩
   rcases hy with hy|hy
   ·exact key _ hy (.inl rfl)
   ·exact key _ hy (.inr rfl)
  ·have z:(scope.names.lookup y==some vZ)=true:=z
   have z:scope.names.lookup y=some .cell:=by simpa using z
   have e:dq.cells.lookup y=some c:=e
   rw[hcl]at e
   rcases pk (fE e)with hm|⟨_,h2,_⟩
   ·rcases oY hm with hm|⟨h1,_⟩
    ·cases hm
    ·have q:=ok.uniq _ h1
     rw[z]at q;cases q
   ·rw[gg]at h2
    exact rQ h2
  ·show b≠dq.locals
   rw[hL];exact dR (hfp b hb).2
  ·have e:dq.cells.lookup y=some c:=e
   rcases mem e with⟨h1,_⟩|⟨h1,_⟩
   ·exact(hfp b hb).1.2.2.2.2.1 y c h1 z
   ·have h2:s.heap.objs.size+1<=b:=by rw[<-z];exact h1
    exact absurd (du (hfp b hb).2 (rQ h2)) (hG _)
  ·rcases (hfp b hb).1.2.2.2.1 with z|z
   ·exact I.ok.noex b o e z
   ·exact absurd (du (cy e) (cZ I.ok.bsz z)) (hG _)
  ·rcases aZ.mp (I.stkSub b z)with z|z
   ·exact(hfp b hb).1.2.1 z
   ·exact(hfp b hb).1.2.2.1 z
 refine⟨okB,rfl,I.bare,Un.kept kp,⟨fun _=>none,?_,fun i y av e1 e2 e3=>?_⟩,fun y c e=>?_,?_,fun y c e=>?_,fun p hp=>?_,I.aG.kept kp,by rw[ud];exact I.len⟩
 ·show Heap.Ns _ dq.locals _
  rw[hL]
  exact Heap.Ns.keeps (Heap.Ns.new ..) fun b o e=>rh _ _ _ _ e
 ·obtain⟨e2,ba⟩:=wipe_some e2
  have hfr:scope.names.lookup y=some .free/\(dq.kindOf y=some .cell\/dq.kindOf y=some .free):=by
   have key:∀k,dq.scope.names.lookup y=some k->k=.local\/k=.cell\/k=.free->scope.names.lookup y=some .free/\(dq.kindOf y=some .cell\/dq.kindOf y=some .free):=fun k hk hk'=>by
    have hk0:=hk
    rw[hsc]at hk
    obtain⟨k',e,r⟩:=uc hk
    have no:¬(k'=.local\/k'=.cell):=fun hh=>by
     rcases ok.own _ (fE e) hh with e'|e'
     ·obtain⟨p,hp,hpy⟩:=bc.mp e'
      have e3:=ok.ix p hp
      have:p.1=y:=hpy
      rw[this]at e3
      exact ba (bc.mpr ⟨p,hp,nodup_ix hN e3 e1⟩)
     ·exact e' (cW e1)
    rcases r with rfl|⟨rfl,rfl⟩
    ·rcases hk' with rfl|rfl|rfl
     ·exact absurd (.inl rfl) no
     ·exact absurd (.inr rfl) no
     ·exact⟨e,.inr hk0⟩
    ·exact⟨e,.inl hk0⟩
   have e3:Vis dq.scope y:=e3
   rcases e3 with e3|e3|e3
   ·exact key _ e3 (.inl rfl)
   ·exact key _ e3 (.inr (.inl rfl))
   ·exact key _ e3 (.inr (.inr rfl))
  obtain⟨m,hn,hl⟩:=I.loc
  have hvis:Vis X.env.scope y:=(ok.free _ (fE hfr.1) rfl).elim (fun k=>.inr (.inl k)) (fun k=>.inr (.inr k))
  obtain⟨w,r,q⟩:=hl i y av e1 e2 hvis
  refine⟨w,r,.inr ⟨hfr.2,?_⟩⟩
  obtain⟨c,h1,h2⟩:=look hfr.1
  rcases q with⟨k,_⟩|⟨_,c',e',z⟩
  ·have k:X.env.scope.names.lookup y=some .local:=k
   rcases ok.free _ (fE hfr.1) rfl with k'|k'<;>rw[show X.env.scope.names.lookup y=_ from k']at k<;>cases k
  ·rw[h2]at e';cases e'
   exact⟨c,h1,z.keeps kp⟩
 ·have e:dq.cells.lookup y=some c:=e
  rcases mem e with⟨h1,_⟩|⟨_,z⟩
  ·obtain⟨w,z⟩:=I.cell y c h1
   exact⟨w,z.keeps kp⟩
  ·exact⟨_,z⟩
 ·show H dq.locals=none
  rw[hL];exact I.aG.fresh (aI _)
 ·have e:dq.cells.lookup y=some c:=e
  rcases mem e with⟨h1,_⟩|⟨h1,_⟩
  ·exact I.fR y c h1
  ·exact I.aG.fresh (rQ h1)
 ·exact absurd (show p∈([]:List (aa×az))++[] from hp) (by simp)
theorem app_ok{E:af->ah->Prop}{D:aa}{xs:List V}{y:V}{v:af}{Q:af->ah->Prop}(I:Inv X pins σ H s)(hD:H D=some (.lst xs))(hz:xs.length<sizeLine)(r:RelV y v)(h:∀s',Inv X pins σ (upd H D (.lst (xs++[y]))) s'->Q .none s'):wpAny (model X.prog X.w) X.A (call (.builtin "list.append") [.ref D,v]) Q E s:=by
 obtain⟨hz',ai,n,ri,e⟩:=I.aG D _ hD
 have hl:=ri.length
 refine append_at (hsz:=by rw[c4];omega) e fun h' sb cS=>?_
 refine h {s with heap:=h'} (I.write (t':=s.toks) (by rw[hD];trivial) (.inl rfl) (fun b u hb q=>(sb.2 b hb).trans q) ⟨_,cS⟩ ⟨by rw[cx];exact hz,ai++[v],n+1,ri.append (.cons r .nil),?_⟩)
 rw[cS]
 simp
def PTs(X:Cx)(ifs:List aV)(t:TT):Prop:=
 ∀(pins:List (aa×az)) (s:ah) (σ:St) (H:Hp) (Q:Bool->Hp->Prop),Inv X pins σ H s->t σ H Q ->
  wpAny (model X.prog X.w) X.A (forIn ifs true fun c r=>if r=true then do let ok <-isTrue c X.env (eval c X.env);pure (sE ok)else pure (sE r)) (TP X pins σ Q) X.xe s
def tYes:TT:=fun _ H Q=>Q true H
theorem pts_nil:PTs X [] tYes:=fun _ _ _ H _ I h=>wpAny_tests_nil ⟨H,I,h⟩
theorem pts_one{c:aV}{t:TT}(h:PT X c t):PTs X [c] t:=fun pins s σ H Q I hw=>wpAny_tests_one (h pins s σ H Q I hw)
end
theorem thnF{α:Type}{t:dY α}{Q Q':α->ah->Prop}{M:gX}{A:bD}{E:af->ah->Prop}{s:ah}(h:wpAny M A t Q (fun _ _=>False) s)(hQ:∀a s,Q a s->Q' a s):wpAny M A t Q' E s:=fD h hQ fun _ _ z=>eS z
theorem compLoop_any {prog:aU} {w:aM} {A:bD} {R:pG->ah->Prop} {s:ah} {elt target iter:aV} {ifs:List aV} {scope:dc} {pos:bN} {it acc:af} {env:cg} (I:Nat->ah->Prop)
  (turn:∀ n s,I n s->wpAny (model prog w) A (pyNext it) (fun r s₁=>match r with
   | none=>R (.ok .next) s₁
   | some v=>wpAny (model prog w) A (letOwnedTupleGo target it v) (fun _ s₁'=>wpAny (model prog w) A (assign target env v) (fun _ s₂=>
     wpAny (model prog w) A (forIn ifs true fun c r=>if r=true then do let ok <-isTrue c env (eval c env);pure (sE ok) else pure (sE r)) (fun ok s₃=>
      if ok=true then wpAny (model prog w) A (eval elt env) (fun x s₄=>
       wpAny (model prog w) A (call (.builtin "list.append") [acc,x]) (fun _ s₅=>∃ m,m<n/\I m s₅) (notedBy (model prog w) A env fun e s'=>R (.error e) s') s₄) (notedBy (model prog w) A env fun e s'=>R (.error e) s') s₃
      else ∃ m,m<n/\I m s₃) (notedBy (model prog w) A env fun e s'=>R (.error e) s') s₂) (notedBy (model prog w) A env fun e s'=>R (.error e) s') s₁') (notedBy (model prog w) A env fun e s'=>R (.error e) s') s₁) (notedBy (model prog w) A env fun e s'=>R (.error e) s') s)
  (n:Nat) (h:I n s) :
  codeAny (model prog w) A (.compLoop (.ListComp elt [⟨target,iter,ifs,0⟩] scope pos) 0 it acc env) R s:=by
 refine codeAny_loop rfl I (fun n s hI=>?_) n h
 show wpAny _ A ((compTurn (.ListComp elt [⟨target,iter,ifs,0⟩] scope pos) 0 it acc env).onRaise (fun x=>do noteFrame x env;theTreesLotGoes x)) _ _ s
 refine wpAny_noted ?_
 rw [compTurn_list]
 refine aq (jr (aq (fD (turn n s hI) (fun r s₁ h₁=>?_) fun _ _ h'=>h')))
 cases r with
 | none=>exact aX h₁
 | some v=>
  refine aq (fD h₁ (fun _ s₁' h₁'=>?_) fun _ _ h'=>h')
  refine aq (fD h₁' (fun _ s₂ h₂=>aq (fD h₂ (fun ok s₃ h₃=>?_) fun _ _ h'=>h')) fun _ _ h'=>h')
  cases ok with
  | false=>exact aX ⟨rfl,h₃⟩
  | true=>
   exact aq (aq (fD h₃ (fun x s₄ h₄=>aq (fD h₄ (fun _ s₅ h₅=>aX (aX ⟨rfl,h₅⟩)) fun _ _ h'=>h')) fun _ _ h'=>h'))
section
variable{X:Cx}
def tLc (wi:TI) (g:TG) (tt:TT) (te:TE) (vs:List Nat):TE:=fun σ H Q=>wi σ H fun J H1=>∀ D,H1 D=none->∃ W:Nat->Nat->Hp->Prop,(∃ m,W 0 m (upd H1 D (.lst [])))/\∀ i m H,W i m H ->
 (J.stop i H/\Q (.ref D) H)\/(J.go i H/\∃ Nx:Hp->Prop,(∀ H',Nx H'->∃ m',m'<m/\W (i+1) m' H')/\∀ x H',J.yld i H x H'->g x (wipe σ vs) H' fun σ2 H2=>wipe σ2 vs=wipe σ vs/\tt σ2 H2 fun b H3=>
  if b=true then te σ2 H3 fun y H4=>∃ acc,H4 D=some (.lst acc)/\acc.length<sizeLine/\Nx (upd H4 D (.lst (acc++[y]))) else Nx H3)
theorem lc_core{pins:List (aa×az)}{s:ah}{σ:St}{H:Hp}{Q:VK}{elt tg iter:aV}{ifs:List aV}{scope:dc}{own:List (ag×Nat)}{pos pos':bN}{wi:TI}{g:TG}{tt:TT}{te:TE}{use:Option (af->dY Unit)}{Qf:af->ah->Prop}(hc:X.calm=true)(hN:X.N.Nodup)(I:Inv X pins σ H s)(hi:PI X tg iter wi)(ok:BlkOk X.N X.env.scope scope own)(hg:∀(s:ah) (H:Hp) (C:aa) (cl:List (ag×aa)) (fp:List aa),PG (X.blk s H scope (compEnvC scope cl C X.env) fp) tg g)(ht:∀(s:ah) (H:Hp) (C:aa) (cl:List (ag×aa)) (fp:List aa),PTs (X.blk s H scope (compEnvC scope cl C X.env) fp) ifs tt)(he:∀(s:ah) (H:Hp) (C:aa) (cl:List (ag×aa)) (fp:List aa),PE (X.blk s H scope (compEnvC scope cl C X.env) fp) elt te)(hs:∀x,foldedSetIterable iter X.env x=pure x)(h:tLc wi g tt te (own.map (·.2)) σ H Q)(hRR:∀D C s' m H',Inv X pins σ H' s'->Q (.ref D) H'->s'.heap.Ns C m->FpOk X pins H' C->compPost (model X.prog X.w) X.A X.xe use Qf (.ref D) C (.ok .next) s') :wpAny (model X.prog X.w) X.A (comprehension (.ListComp elt [⟨tg,iter,ifs,0⟩] scope pos) scope X.env pos' (newList []) false (eval iter X.env) use) Qf X.xe s:=by
 have hfree:∀y∈scope.names,y.2=.free->∃c,X.env.cells.lookup y.1=some c:=fun y hy e=>by
  rcases ok.free y hy e with k|k
  ·exact I.ok.has _ (.inl k)
  ·exact I.ok.has _ (.inr k)
 refine wpAny_comprehension_free (use:=use) rfl hs (closure_ok hfree) ok.kind (fun y hy e=>by rw[ok.uniq y hy,e])
  (aW (hi pins s σ H _ I h) fun xv s1 hx=>aW hx fun itv s2 h2=>?_)
 obtain⟨it,fp,tn,J,H2,e,I2,T,st2,f2,q⟩:=h2
 subst e
 refine pI (newEnv_comp ?_) (by show 0<=sizeLine;decide)
 generalize hD:s2.heap.objs.size=D
 have hDn:H2 D=none:=I2.aG.fresh (om hD)
 obtain⟨W,⟨m0,w0⟩,turn⟩:=q D hDn
 generalize hs3:({s2 with heap:=s2.heap.push {cls:=.type "list",data:=.seq ([]:List af).toArray}}:ah)=s3
 have I3:Inv X pins σ (upd H2 D (.lst [])) s3:=by
  rw[<-hs3]
  refine I2.laid (t':=s2.toks) (fun b o e=>cD _ e) (om hD) ⟨de _,[],0,.nil,?_⟩
  rw[<-hD]
  exact df _ rfl
 have h3:s3.heap=s2.heap.push {cls:=.type "list",data:=.seq ([]:List af).toArray}:=by rw[<-hs3]
 have sz:∀b∈fp,b<s2.heap.objs.size:=fun b hb=>by
  obtain⟨o,e,_⟩:=T.obj _ _ st2 b hb
  exact cy e
 have f3:∀b∈fp,FpOk X pins (upd H2 D (.lst [])) b/\b<s3.heap.objs.size:=fun b hb=>by
  have aR:=sz b hb
  refine⟨⟨?_,(f2 b hb).2⟩,by rw[h3,gg];exact oo aR⟩
  rw[ak (by rw[<-hD];exact dR aR)]
  exact(f2 b hb).1
 have st3:tn 0 s3.heap:=T.keep _ _ _ st2 fun b _ o e=>by rw[h3];exact cD _ e
 have I4:=block_start I3 ok hN f3
 have pg:=hg s3 (upd H2 D (.lst [])) s3.heap.objs.size (cellsFrom (s3.heap.objs.size+1) scope.names (da X.env.cells scope.names [])) fp
 have pt:=ht s3 (upd H2 D (.lst [])) s3.heap.objs.size (cellsFrom (s3.heap.objs.size+1) scope.names (da X.env.cells scope.names [])) fp
 have pe:=he s3 (upd H2 D (.lst [])) s3.heap.objs.size (cellsFrom (s3.heap.objs.size+1) scope.names (da X.env.cells scope.names [])) fp
 show codeAny _ _ (.compStart (.ListComp elt [⟨tg,iter,ifs,0⟩] scope pos) 0 (.ref it) (.ref D) (compEnvC scope (cellsFrom (s3.heap.objs.size+1) scope.names (da X.env.cells scope.names [])) s3.heap.objs.size X.env)) (compPost (model X.prog X.w) X.A X.xe use Qf (.ref D) s3.heap.objs.size) {s3 with heap:=pushCells (s3.heap.push {cls:=.type "dict",data:=.dict #[]}) scope.names}
 have nfp:∀b∈fp,(upd H2 D (.lst [])) b=none:=fun b hb=>(f3 b hb).1.1
 generalize hce:compEnvC scope (cellsFrom (s3.heap.objs.size+1) scope.names (da X.env.cells scope.names [])) s3.heap.objs.size X.env=ce at I4 pg pt pe ⊢
 have cL:ce.locals=s3.heap.objs.size:=by subst hce;rfl
 generalize hH3:upd H2 D (.lst [])=H3 at I3 I4 pg pt pe w0 nfp f3
 generalize hs4:({s3 with heap:=pushCells (s3.heap.push {cls:=.type "dict",data:=.dict #[]}) scope.names}:ah)=s4 at I4 ⊢
 have st4:tn 0 s4.heap:=T.keep _ _ _ st3 fun b _ o e=>by rw[<-hs4];exact rh _ _ _ _ (cD _ e)
 have stat:∀{σ':St} {H':Hp} {s':ah},Inv (X.blk s3 H3 scope ce fp) [] σ' H' s'->(∀b∈fp,H' b=none)->∀b∈fp,FpOk (X.blk s3 H3 scope ce fp) [] H' b:=fun{σ' H' s'} I' hn b hb=>
  ⟨hn b hb,(I'.ok.exf b hb).1,I'.ok.exfs b hb,.inl hb,fun x c e=>(I'.ok.exf b hb).2 x c e,fun p hp=>absurd (show p∈([]:List (aa×az))++[] from hp) (by simp)⟩
 have loop:codeAny (model X.prog X.w) X.A (.compLoop (.ListComp elt [⟨tg,iter,ifs,0⟩] scope pos) 0 (.ref it) (.ref D) ce) (compPost (model X.prog X.w) X.A X.xe use Qf (.ref D) s3.heap.objs.size) s4:=by
  refine compLoop_any (fun n s'=>∃i H',Inv (X.blk s3 H3 scope ce fp) [] (wipe σ (own.map (·.2))) H' s'/\tn i s'.heap/\(∀b∈fp,H' b=none)/\W i n H') ?_ m0 ⟨0,H3,I4,st4,nfp,w0⟩
  rintro n s5 ⟨i,H5,I5,st5,n5,w5⟩
  rcases turn i n H5 w5 with⟨stop,qq⟩|⟨go,Nx,hNx,step⟩
  ·have td:=T.done (X.blk s3 H3 scope ce fp) rfl rfl rfl hc i [] s5 _ H5 (fun _ _=>False) I5 (stat I5 n5) st5 stop
   refine thnF td fun r s6 ⟨hr,I6⟩=>?_
   subst hr
   have I7:Inv X pins σ H5 s6:=I3.call' (ch:=fp) I6.os I6.base I6.aG I6.bare fun b hb=>⟨(f3 b hb).1.2.2.2.1,(f3 b hb).1.2.1,(f3 b hb).1.2.2.2.2.1,(f3 b hb).1.2.2.2.2.2⟩
   have nC:H5 s3.heap.objs.size=none:=by
    have z:H5 ce.locals=none:=I6.free
    rw[cL]at z
    exact z
   obtain⟨m,hn,_⟩:=I6.loc
   have hn:s6.heap.Ns ce.locals m:=hn
   rw[cL]at hn
   exact hRR D s3.heap.objs.size s6 m H5 I7 qq hn (I3.fpOk (aI _) nC)
  ·have ti:=T.item (X.blk s3 H3 scope ce fp) rfl rfl rfl hc i [] s5 _ H5 (fun _ _=>False) I5 (stat I5 n5) st5 go
   refine thnF ti fun r s6 ⟨u,hr,h6⟩=>?_
   subst hr
   refine thnF h6 fun _ s7 ⟨x,H7,I7,r7,y7,st7,n7⟩=>?_
   have I7':=I7.pinned (stat I7 n7) (T.obj _ _ st7)
   refine thnF (pg _ s7 _ H7 x u _ I7' r7 (step x H7 y7)) fun _ s8 ⟨σ8,H8,I8,hw8,q8⟩=>?_
   refine thnF (pt _ s8 σ8 H8 _ I8 q8) fun b s9 ⟨H9,I9,q9⟩=>?_
   have fin:∀{s':ah} {H':Hp},Inv (X.blk s3 H3 scope ce fp) ([]++pinsAt fp s7.heap) σ8 H' s'->Nx H'->∃m,m<n/\∃i H',Inv (X.blk s3 H3 scope ce fp) [] (wipe σ (own.map (·.2))) H' s'/\tn i s'.heap/\(∀b∈fp,H' b=none)/\W i m H':=fun{s' H'} I' nx=>by
    obtain⟨m',hm,w'⟩:=hNx H' nx
    have pin':∀b∈fp,∀o,s7.heap.get? b=some o->s'.heap.get? b=some o/\H' b=none:=fun b hb o e=>
     let z:=I'.pin (b,o) (fP _ (fP _ (mem_pinsAt hb e)))
     ⟨z.1,z.2.1⟩
    have hl:(wipe σ (own.map (·.2))).length=σ8.length:=by rw[<-hw8,ud]
    refine⟨m',hm,i+1,H',(I'.unpinned (pins:=[])).weak hl (fun j v e=>?_),T.keep _ _ _ st7 fun b hb o e=>(pin' b hb o e).1,fun b hb=>?_,w'⟩
    ·rw[<-hw8]at e
     exact(wipe_some e).1
    ·obtain⟨o,e,_⟩:=T.obj _ _ st7 b hb
     exact(pin' b hb o e).2
   cases b with
   |false=>
    simp only[dH,if_false]at q9 ⊢
    exact fin I9 q9
   |true=>
    simp only[if_true]at q9 ⊢
    refine thnF (pe _ s9 σ8 H9 _ I9 q9) fun z s10 ⟨yv,H10,I10,r10,acc,hD10,hz10,nx⟩=>?_
    exact app_ok (X:=X.blk s3 H3 scope ce fp) I10 hD10 hz10 r10 fun s11 I11=>fin I11 nx
 exact codeAny_compStart_list loop (T.self X.A 0 _ _ _ st4 loop)
theorem pe_lc{elt tg iter:aV}{ifs:List aV}{scope:dc}{own:List (ag×Nat)}{pos:bN}{wi:TI}{g:TG}{tt:TT}{te:TE}(hc:X.calm=true)(hN:X.N.Nodup)(hi:PI X tg iter wi)(ok:BlkOk X.N X.env.scope scope own)
  (hg:∀(s:ah) (H:Hp) (C:aa) (cl:List (ag×aa)) (fp:List aa),PG (X.blk s H scope (compEnvC scope cl C X.env) fp) tg g) (ht:∀(s:ah) (H:Hp) (C:aa) (cl:List (ag×aa)) (fp:List aa),PTs (X.blk s H scope (compEnvC scope cl C X.env) fp) ifs tt)
  (he:∀(s:ah) (H:Hp) (C:aa) (cl:List (ag×aa)) (fp:List aa),PE (X.blk s H scope (compEnvC scope cl C X.env) fp) elt te) (hs:∀x,foldedSetIterable iter X.env x=pure x:=by intro _;rfl):
  PE X (.ListComp elt [⟨tg,iter,ifs,0⟩] scope pos) (tLc wi g tt te (own.map (·.2))):=by
 intro pins s σ H Q I h
 rw[eval_ListComp]
 refine lc_core hc hN I hi ok hg ht he hs h fun D C s' m H' I' q hn f=>⟨m,hn,fun h'' sb=>?_⟩
 obtain⟨f0,f1,f2,f3,f4,f5⟩:=f
 exact⟨.ref D,H',I'.turned (t':=s'.toks) (fun b o hb e=>(sb.2 b hb).trans e) f0 f1 f3 f4 f5,rfl,q⟩
theorem ps_setLc{i:Nat}{y:ag}{py:bN}{elt tg iter:aV}{ifs:List aV}{scope:dc}{own:List (ag×Nat)}{pos spos:bN}{wi:TI}{g:TG}{tt:TT}{te:TE}(hc:X.calm=true)(hN:X.N.Nodup)(hy:X.N[i]?=some y)(hyl:X.env.scope.names.lookup y=some .local)
  (hsw:swapsWith (.ListComp elt [⟨tg,iter,ifs,0⟩] scope pos) (some (.Name y py)) spos.line X.env=pure true) (hi:PI X tg iter wi) (ok:BlkOk X.N X.env.scope scope own)
  (hg:∀(s:ah) (H:Hp) (C:aa) (cl:List (ag×aa)) (fp:List aa),PG (X.blk s H scope (compEnvC scope cl C X.env) fp) tg g) (ht:∀(s:ah) (H:Hp) (C:aa) (cl:List (ag×aa)) (fp:List aa),PTs (X.blk s H scope (compEnvC scope cl C X.env) fp) ifs tt)
  (he:∀(s:ah) (H:Hp) (C:aa) (cl:List (ag×aa)) (fp:List aa),PE (X.blk s H scope (compEnvC scope cl C X.env) fp) elt te) (hs:∀x,foldedSetIterable iter X.env x=pure x:=by intro _;rfl):
  PS X (.Assign [.Name y py] (.ListComp elt [⟨tg,iter,ifs,0⟩] scope pos) spos) (tAsg (tLc wi g tt te (own.map (·.2))) (gName i)):=by
 intro pins s σ H D I h
 rw[exec_Assign_Name_used _ _ _ _ hsw]
 refine aq (jr (aq ?_))
 show wpAny _ X.A (do let _ <-comprehension (.ListComp elt [⟨tg,iter,ifs,0⟩] scope pos) scope X.env (firstIterPos [⟨tg,iter,ifs,0⟩] pos) (newList []) false (eval iter X.env) (some (assign (.Name y py) X.env))) _ _ s
 have h:tLc wi g tt te (own.map (·.2)) σ H (fun x H1=>gName i x σ H1 D.nx):=h
 refine aq (aW (lc_core (Qf:=fun _ s'=>SP X pins D .next s') hc hN I hi ok hg ht he hs h fun L C s' m H' I' q hn f=>?_) fun _ s' hq=>aX (aX hq))
 show wpAny _ _ (assign (.Name y py) X.env (.ref L)) _ _ _
 refine wX (store_ok2 (v:=V.ref L) I' hN hy (.inl hyl) rfl (fun s2 I2 ⟨a,sb,ha⟩=>?_) (.inr hyl))
 obtain⟨f0,f1,f2,f3,f4,f5⟩:=f
 have haC:C≠a:=by
  rcases ha with z|z
  ·rw[z];exact f1
  ·exact fun e=>f4 y a z e.symm
 refine⟨m,hn.sameBut sb haC,fun h3 sb3=>?_⟩
 exact⟨_,H',I2.turned (t':=s2.toks) (fun b o hb e=>(sb3.2 b hb).trans e) f0 f1 f3 f4 f5,q⟩
theorem sw_true{elt:aV}{gs:List Comprehension}{scope:dc}{pos py:bN}{y:ag}{l:Nat}{env:cg}(hk:env.scope.kind=.function)(hy:env.scope.names.lookup y=some .local)(hl:(py.line==pos.line)=true)(ha:(scope.names.any fun(n,k)=>n==y&&(k==.local||k==.cell))=false):swapsWith (.ListComp elt gs scope pos) (some (.Name y py)) l env=pure true:=by
 have ky:env.kindOf y=some .local:=hy
 have hb:env.blockKind=.function:=by unfold Env.blockKind;rw[hk];rfl
 unfold swapsWith
 simp only[hb,ky,ha,Expr.pos,hl]
 rfl
end
theorem lc_range{lo :Int}{n :Nat}{g :TG}{tt :TT}{te :TE}{vs :List Nat}{σ :St}{H1 :Hp}{D :aa}{Qd :Hp -> Prop}(Pv :Nat -> Hp -> Prop)(h0 :Pv 0 (upd H1 D (.lst [])))(hs:∀i H,i < n -> Pv i H -> g (.int (lo + i)) (wipe σ vs) H fun σ2 H2 => wipe σ2 vs = wipe σ vs /\ tt σ2 H2 fun b H3 => if b = true then te σ2 H3 fun y H4 => ∃acc,H4 D = some (.lst acc) /\ acc.length < sizeLine /\ Pv (i + 1) (upd H4 D (.lst (acc ++ [y])))else Pv (i + 1) H3)(hd:∀H,Pv n H -> Qd H):∃W :Nat -> Nat -> Hp -> Prop,(∃m,W 0 m (upd H1 D (.lst []))) /\ ∀i m H,W i m H -> ((Itr lo n).stop i H /\ Qd H) \/ ((Itr lo n).go i H /\ ∃Nx :Hp -> Prop,(∀H',Nx H' -> ∃m',m' < m /\ W (i + 1) m' H') /\ ∀x H',(Itr lo n).yld i H x H' -> g x (wipe σ vs) H' fun σ2 H2 => wipe σ2 vs = wipe σ vs /\ tt σ2 H2 fun b H3 => if b = true then te σ2 H3 fun y H4 => ∃acc,H4 D = some (.lst acc) /\ acc.length < sizeLine /\ Nx (upd H4 D (.lst (acc ++ [y])))else Nx H3):= by
  refine⟨fun i m H => m = n - i /\ i <= n /\ Pv i H,⟨n,by simp,de _,h0⟩,?_⟩
  rintro i m H ⟨rfl,hi,p⟩
  by_cases aR :i < n
  · refine .inr ⟨aR,Pv (i + 1),fun H' p' => ⟨n - (i + 1),by omega,rfl,aR,p'⟩,fun x H' y => ?_⟩
    obtain⟨e,y⟩ := y
    subst e y
    exact hs i _ aR p
  · have e :i = n := by omega
    subst e
    exact .inl ⟨aI _,hd H p⟩
theorem lc_list{K :ay}{a :aa}{xs :List V}{g :TG}{tt :TT}{te :TE}{vs :List Nat}{σ :St}{H1 :Hp}{D :aa}{Qd :Hp -> Prop}(Pv :Nat -> Hp -> Prop)(h0 :Pv 0 (upd H1 D (.lst [])))(hl:∀i H,i <= xs.length -> Pv i H -> ao K H a xs)(hs:∀i x H,xs[i]? = some x -> Pv i H -> g x (wipe σ vs) H fun σ2 H2 => wipe σ2 vs = wipe σ vs /\ tt σ2 H2 fun b H3 => if b = true then te σ2 H3 fun y H4 => ∃acc,H4 D = some (.lst acc) /\ acc.length < sizeLine /\ Pv (i + 1) (upd H4 D (.lst (acc ++ [y])))else Pv (i + 1) H3)(hd:∀H,Pv xs.length H -> Qd H):∃W :Nat -> Nat -> Hp -> Prop,(∃m,W 0 m (upd H1 D (.lst []))) /\ ∀i m H,W i m H -> ((Itl K a).stop i H /\ Qd H) \/ ((Itl K a).go i H /\ ∃Nx :Hp -> Prop,(∀H',Nx H' -> ∃m',m' < m /\ W (i + 1) m' H') /\ ∀x H',(Itl K a).yld i H x H' -> g x (wipe σ vs) H' fun σ2 H2 => wipe σ2 vs = wipe σ vs /\ tt σ2 H2 fun b H3 => if b = true then te σ2 H3 fun y H4 => ∃acc,H4 D = some (.lst acc) /\ acc.length < sizeLine /\ Nx (upd H4 D (.lst (acc ++ [y])))else Nx H3):= by
  refine⟨fun i m H => m = xs.length - i /\ i <= xs.length /\ Pv i H,⟨xs.length,by simp,de _,h0⟩,?_⟩
  rintro i m H ⟨rfl,hi,p⟩
  have q := hl i H hi p
  by_cases aR :i < xs.length
  · refine .inr ⟨⟨xs,xs[i],q,by simp[aR]⟩,Pv (i + 1),fun H' p' => ⟨xs.length - (i + 1),by omega,rfl,aR,p'⟩,fun x H' y => ?_⟩
    obtain⟨e,y⟩ := y
    subst e
    exact hs i x _ (y xs q) p
  · have e :i = xs.length := by omega
    subst e
    exact .inl ⟨⟨xs,q,aI _⟩,hd H p⟩
def blkC (N:List ag) (sc scope:dc) (own:List (ag × Nat)):Bool:=
 (match scope.kind with | .function=>true | _=>false)&&(scope.names.all fun y=>decide (scope.names.lookup y.1=some y.2))&&(own.all fun p=>decide (N[p.2]?=some p.1)) &&
  (scope.names.all fun y=>match y.2 with
   | .free=>(match sc.names.lookup y.1 with | some .cell=>true | some .free=>true | _=>false)
   | .local=>decide (y.1∈own.map (·.1))||decide (y.1∉N)
   | .cell=>decide (y.1∈own.map (·.1))||decide (y.1∉N)
   | _=>true)
theorem iH{N:List ag}{sc scope:dc}{own:List (ag×Nat)}(h:blkC N sc scope own=true):BlkOk N sc scope own:=by
 unfold blkC at h
 simp only[gh,cB,decide_eq_true_eq]at h
 obtain⟨⟨⟨h1,h2⟩,h3⟩,h4⟩:=h
 refine⟨?_,h2,h3,fun y hy e=>?_,fun y hy e=>?_⟩
 ·split at h1
  ·assumption
  ·cases h1
 ·have q:=h4 y hy
  simp only[e]at q
  split at q<;>first|exact .inl (by assumption)|exact .inr (by assumption)|cases q
 ·have q:=h4 y hy
  rcases e with e|e<;>(simp only[e,yh,decide_eq_true_eq]at q;exact q)
section
variable{κ:Type}[DecidableEq κ]
def c9(kvs:List (κ×V))(k:κ):Option V:=(kvs.find? fun kv=>decide (kv.1=k)).map (·.2)
def putK(kvs:List (κ×V))(k:κ)(v:V):List (κ×V):=
 if (kvs.any fun kv=>decide (kv.1=k))=true then kvs.map (fun kv=>if kv.1=k then(kv.1,v)else kv)else kvs++[(k,v)]
theorem gU{p:κ×V}{r:List (κ×V)}{k:κ}(e:p.1=k):c9 (p ::r) k=some p.2:=by simp[c9,nX,e]
theorem gD{p:κ×V}{r:List (κ×V)}{k:κ}(e:¬p.1=k):c9 (p ::r) k=c9 r k:=by simp[c9,nX,e]
theorem lC(k:κ):∀kvs:List (κ×V),(kvs.any fun kv=>decide (kv.1=k))=(c9 kvs k).isSome
 |[]=>rfl
 |p :: r=>by
  rw[kJ]
  by_cases e:p.1=k
  ·simp only[gU e,decide_eq_true e,Bool.true_or,yM]
  ·rw[gD e,decide_eq_false e,Bool.false_or];exact lC k r
theorem valV_map(k j:κ)(y:V):∀kvs:List (κ×V),c9 (kvs.map fun kv=>if kv.1=k then(kv.1,y)else kv) j=(c9 kvs j).map fun x=>if j=k then y else x
 |[]=>rfl
 |p :: r=>by
  have ih:=valV_map k j y r
  rw[dB]
  by_cases h:p.1=k
  ·rw[if_pos h]
   by_cases e:p.1=j
   ·rw[gU (p:=(p.1,y)) e,gU e,i6,if_pos (e.symm.trans h)]
   ·rw[gD (p:=(p.1,y)) e,gD e,ih]
  ·rw[if_neg h]
   by_cases e:p.1=j
   ·rw[gU (p:=p) e,gU e,i6,if_neg (fun z=>h (e.trans z))]
   ·rw[gD (p:=p) e,gD e,ih]
theorem valV_snoc(k j:κ)(y:V):∀kvs:List (κ×V),c9 kvs k=none->c9 (kvs++[(k,y)]) j=if j=k then some y else c9 kvs j
 |[],_=>by
  by_cases e:k=j
  ·rw[if_pos e.symm];exact gU (p:=(k,y)) e
  ·rw[if_neg (fun z=>e z.symm)];exact gD (p:=(k,y)) e
 |p :: r,hn=>by
  rw[uV]
  have hk:¬p.1=k:=fun z=>by rw[gU z]at hn;cases hn
  rw[gD hk]at hn
  have ih:=valV_snoc k j y r hn
  by_cases e:p.1=j
  ·rw[gU e,gU e,if_neg (fun z=>hk (e.trans z))]
  ·rw[gD e,gD e,ih]
theorem valV_put(kvs:List (κ×V))(k j:κ)(y:V):c9 (putK kvs k y) j=if j=k then some y else c9 kvs j:=by
 unfold putK
 by_cases a:(kvs.any fun kv=>decide (kv.1=k))=true
 ·rw[if_pos a,valV_map]
  rw[lC]at a
  by_cases e:j=k
  ·obtain⟨x,hx⟩:=yK.mp a
   rw[if_pos e,e,hx,i6,if_pos rfl]
  ·rw[if_neg e]
   cases c9 kvs j with
   |none=>rfl
   |some x=>rw[i6,if_neg e]
 ·rw[if_neg a]
  refine valV_snoc k j y kvs ?_
  rw[lC]at a
  cases q:c9 kvs k with
  |none=>rfl
  |some x=>rw[q]at a;exact(a rfl).elim
theorem oZ(kvs:List (κ×V))(k:κ)(v:V):(putK kvs k v).length<=kvs.length+1:=by
 unfold putK
 split
 ·rw[aP];omega
 ·rw[cx,cI,xA];omega
theorem putK_new{kvs:List (κ×V)}{k:κ}(v:V)(h:c9 kvs k=none):putK kvs k v=kvs++[(k,v)]:=by
 unfold putK
 rw[lC,h]
 exact if_neg (by decide)
theorem RelO.isSome_eq{o:Option V}{u:Option af}(r:RelO o u):o.isSome=u.isSome:=by
 cases o with
 |none=>cases u with
  |none=>rfl
  |some _=>exact(show False from r).elim
 |some _=>cases u with
  |none=>exact(show False from r).elim
  |some _=>rfl
theorem KV.val{kvs:List (κ×V)}{vs:List (κ×af)}(r:KV kvs vs)(k:κ):RelO (c9 kvs k) (valueAt vs k):=by
 unfold KV at r
 induction r with
 |nil=>exact oH
 | @cons p q ps qs h t ih=>
  obtain⟨h1,h2⟩:=h
  by_cases e:p.1=k
  ·have e':q.1=k:=h1.symm.trans e
   have b:valueAt (q ::qs) k=some q.2:=by simp[valueAt,nX,e']
   rw[gU e,b];exact h2
  ·have e':¬q.1=k:=fun z=>e (h1.trans z)
   have b:valueAt (q ::qs) k=valueAt qs k:=by simp[valueAt,nX,e']
   rw[gD e,b];exact ih
theorem KV.any{kvs:List (κ×V)}{vs:List (κ×af)}(r:KV kvs vs)(k:κ):(kvs.any fun kv=>decide (kv.1=k))=vs.any fun kv=>decide (kv.1=k):=by
 unfold KV at r
 induction r with
 |nil=>rfl
 |cons h t ih=>rw[kJ,kJ,ih,h.1]
theorem KV.repl{kvs:List (κ×V)}{vs:List (κ×af)}(r:KV kvs vs)(k:κ){y:V}{u:af}(ry:RelV y u) :KV (kvs.map fun kv=>if kv.1=k then(kv.1,y)else kv) (vs.map fun kv=>if kv.1=k then(kv.1,u)else kv):=by
 unfold KV at r ⊢
 induction r with
 |nil=>exact .nil
 | @cons p q ps qs h t ih=>
  rw[dB,dB]
  refine .cons ?_ ih
  obtain⟨h1,h2⟩:=h
  by_cases e:p.1=k
  ·rw[if_pos e,if_pos (h1.symm.trans e)];exact⟨h1,ry⟩
  ·rw[if_neg e,if_neg (fun z=>e (h1.trans z))];exact⟨h1,h2⟩
theorem KV.put{kvs:List (κ×V)}{vs:List (κ×af)}(r:KV kvs vs)(k:κ){y:V}{u:af}(ry:RelV y u):KV (putK kvs k y) (stored vs k u):=by
 unfold putK stored
 rw[r.any k]
 by_cases e:(vs.any fun kv=>decide (kv.1=k))=true
 ·rw[if_pos e,if_pos e];exact r.repl k ry
 ·rw[if_neg e,if_neg e];exact yG r ⟨rfl,ry⟩
theorem KV.length{kvs:List (κ×V)}{vs:List (κ×af)}(r:KV kvs vs):kvs.length=vs.length:=gL r
end
theorem kV_is{P:aU}{w:aM}{k:Key}{u:af}(r:RelV (kV k) u):(fj P w).is k u=true:=by
 cases k with
 |inl i=>obtain⟨t,e⟩:=(show ∃t,u=pZ i t from r);subst e;exact mixKind_int P w i t
 |inr x=>obtain⟨t,e⟩:=(show ∃t,u=r4 x t from r);subst e;exact mixKind_str P w x t
theorem items_are{P:aU}{w:aM}:∀{ks:List Key} {us:List af},Vals (ks.map kV) us->ItemsAre (fj P w) ks us
 |[],_,r=>by rw[pQ]at r;cases r;exact .nil
 |k :: ks,_,r=>by
  rw[dB]at r
  cases r with
  |cons h t=>exact .cons (kV_is h) (items_are t)
abbrev KT(H:Hp):List (List Key×V)->List (List Key×aa×af)->Prop:=lL fun p q=>p.1=q.1/\H q.2.1=some (.tup (p.1.map kV))/\RelV p.2 q.2.2
theorem KT.val{H:Hp}{kvs:List (List Key×V)}{xs:List (List Key×aa×af)}(r:KT H kvs xs)(k:List Key):RelO (c9 kvs k) ((atKey xs k).map (·.2)):=by
 induction r with
 |nil=>exact oH
 | @cons p q ps qs h t ih=>
  obtain⟨h1,_,h2⟩:=h
  by_cases e:p.1=k
  ·have e':q.1=k:=h1.symm.trans e
   have b:atKey (q ::qs) k=some q.2:=by simp[atKey,nX,e']
   rw[gU e,b];exact h2
  ·have e':¬q.1=k:=fun z=>e (h1.trans z)
   have b:atKey (q ::qs) k=atKey qs k:=by simp[atKey,nX,e']
   rw[gD e,b];exact ih
theorem KT.repl{H:Hp}{kvs:List (List Key×V)}{xs:List (List Key×aa×af)}(r:KT H kvs xs)(k:List Key){y:V}{u:af}(ry:RelV y u) :KT H (kvs.map fun kv=>if kv.1=k then(kv.1,y)else kv) (xs.map (putAt k u)):=by
 induction r with
 |nil=>exact .nil
 | @cons p q ps qs h t ih=>
  rw[dB,dB]
  refine .cons ?_ ih
  obtain⟨h1,h2,h3⟩:=h
  unfold putAt
  by_cases e:p.1=k
  ·rw[if_pos e,if_pos (h1.symm.trans e)];exact⟨h1,h2,ry⟩
  ·rw[if_neg e,if_neg (fun z=>e (h1.trans z))];exact⟨h1,h2,h3⟩
theorem KT.put{H:Hp}{kvs:List (List Key×V)}{xs:List (List Key×aa×af)}(r:KT H kvs xs)(k:List Key){b:aa}{y:V}{u:af}(hb:H b=some (.tup (k.map kV)))(ry:RelV y u) :KT H (putK kvs k y) (storedH xs k b u):=by
 have e:(kvs.any fun kv=>decide (kv.1=k))=(atKey xs k).isSome:=by
  rw[lC,(r.val k).isSome_eq,yN]
 unfold putK storedH
 rw[e]
 by_cases q:(atKey xs k).isSome=true
 ·rw[if_pos q,if_pos q];exact r.repl k ry
 ·rw[if_neg q,if_neg q];exact yG r ⟨rfl,hb,ry⟩
theorem KT.keeps{H H':Hp}{kvs:List (List Key×V)}{xs:List (List Key×aa×af)}(r:KT H kvs xs)(ht:∀b ys,H b=some (.tup ys)->H' b=some (.tup ys)):KT H' kvs xs:=
 Paired.mapP r fun _ _ z=>⟨z.1,ht _ _ z.2.1,z.2.2⟩
section
variable{P:aU}{w:aM}{H:Hp}{h:aA}{a:aa}
theorem rd_of{u:HO}(ok:HOk P w H h)(e:Rd H a u):dk P w H h a u:=e.ok ok
theorem dk_rd{kvs:List (Key×V)}(ok:HOk P w H h)(e:Rd H a (.dK kvs)):kvs.length<=sizeLine/\(a==sysModules)=false/\∃vs,KV kvs vs/\h.DictOf (fj P w) a vs:=
 show dk P w H h a (.dK kvs) from rd_of ok e
theorem dk_of{kvs:List (Key×V)}(ok:HOk P w H h)(e:H a=some (.dK kvs)):kvs.length<=sizeLine/\(a==sysModules)=false/\∃vs,KV kvs vs/\h.DictOf (fj P w) a vs:=dk_rd ok (.inl e)
theorem key_of{ks:List Key}(ok:HOk P w H h)(e:H a=some (.tup (ks.map kV))):(tupleKind (fj P w)).is h ks a:=by
 obtain⟨_,ai,r,o,h1,h2,n,h3⟩:=(show dk P w H h a (.tup (ks.map kV)) from ok a _ e)
 exact⟨o,ai.toArray,n,h1,h2,h3,by simpa using items_are r⟩
theorem dt_rd{kvs:List (List Key×V)}(ok:HOk P w H h)(e:Rd H a (.dT kvs)):kvs.length<=sizeLine/\(a==sysModules)=false /\ ∃xs,KT H kvs xs/\h.DictOfH (tupleKind (fj P w)) a xs:=by
 obtain⟨z,y,xs,r,o,es,ep,h1,h2,h3,h4,h5⟩:=(show dk P w H h a (.dT kvs) from rd_of ok e)
 refine⟨z,y,xs,r,o,es,ep,h1,h2,h3,h4,fun x hx=>?_,h5⟩
 have all:∀{l:List (List Key×V)} {m:List (List Key×aa×af)},KT H l m->∀x∈m,(tupleKind (fj P w)).is h x.1 x.2.1:=by
  intro l m q
  induction q with
  |nil=>intro x hx;exact nomatch hx
  | @cons p q ps qs hq t ih=>
   intro x hx
   rcases aZ.mp hx with e|hx
   ·subst e
    exact key_of ok (by rw[<-hq.1];exact hq.2.1)
   ·exact ih x hx
 exact all r x hx
theorem dt_of{kvs:List (List Key×V)}(ok:HOk P w H h)(e:H a=some (.dT kvs)):kvs.length<=sizeLine/\(a==sysModules)=false /\ ∃xs,KT H kvs xs/\h.DictOfH (tupleKind (fj P w)) a xs:=dt_rd ok (.inl e)
end
def eT(H:Hp)(a:aa)(y:V)(r:Option V):Prop:=
 (∃kvs k,Rd H a (.dK kvs)/\y=kV k/\r=c9 kvs k)\/∃kvs k b,Rd H a (.dT kvs)/\y=.ref b/\H b=some (.tup (k.map kV))/\r=c9 kvs k
def DPut(H:Hp)(a:aa)(y v:V)(H':Hp):Prop:=
 (∃kvs k,H a=some (.dK kvs)/\y=kV k/\kvs.length<sizeLine/\H'=upd H a (.dK (putK kvs k v))) \/
 ∃kvs k b,H a=some (.dT kvs)/\y=.ref b/\H b=some (.tup (k.map kV))/\kvs.length<sizeLine/\H'=upd H a (.dT (putK kvs k v))
theorem eT.k{H:Hp}{a:aa}{kvs:List (Key×V)}{k:Key}(e:H a=some (.dK kvs)):eT H a (kV k) (c9 kvs k):=.inl ⟨kvs,k,.inl e,rfl,rfl⟩
theorem DPut.k{H:Hp}{a:aa}{kvs:List (Key×V)}{k:Key}{v:V}(e:H a=some (.dK kvs))(hl:kvs.length<sizeLine):DPut H a (kV k) v (upd H a (.dK (putK kvs k v))):=.inl ⟨kvs,k,e,rfl,hl,rfl⟩
theorem DPut.t{H:Hp}{a b:aa}{kvs:List (List Key×V)}{k:List Key}{v:V}(e:H a=some (.dT kvs))(eb:H b=some (.tup (k.map kV)))(hl:kvs.length<sizeLine) :DPut H a (.ref b) v (upd H a (.dT (putK kvs k v))):=.inr ⟨kvs,k,b,e,rfl,eb,hl,rfl⟩
section
variable{X:Cx}{pins:List (aa×az)}{σ:St}{H:Hp}{s:ah}{a:aa}{y v:V}{u r:af}{o:Option V}{A:bD}{E:af->ah->Prop}
theorem Inv.big(I:Inv X pins σ H s):sysModules<s.heap.objs.size:=by
 have h:mainGlobals<s.heap.objs.size:=(I.mod.glob.keeps I.bk).lt
 exact pU (by decide) h
theorem d_getItem{Q:af->ah->Prop}(hu:A.units+1<cLine)(I:Inv X pins σ H s)(g:eT H a y (some v))(ry:RelV y u)(h:∀w' s',Inv X pins σ H s'->RelV v w'->Q w' s') :wpAny (model X.prog X.w) A (getItem (.ref a) u) Q E s:=by
 rcases g with⟨kvs,k,e,ey,l⟩|⟨kvs,k,b,e,ey,eb,l⟩
 ·subst ey
  obtain⟨z,hd,vs,rel,dd⟩:=dk_rd I.aG e
  obtain⟨w',hw,rw'⟩:=RelO.some_of (v:=v) (o:=valueAt vs k) (by rw[l];exact rel.val k)
  exact wpAny_getItem_of (kV_is ry) dd.mapOf hw (h w' _ (I.tok _) rw')
 ·subst ey
  cases (show u=bO b from ry)
  obtain⟨z,hd,xs,rel,dd⟩:=dt_rd I.aG e
  obtain⟨w',hw,rw'⟩:=RelO.some_of (v:=v) (o:=(atKey xs k).map (·.2)) (by rw[l];exact rel.val k)
  obtain⟨p,hp,hp2⟩:=qb.mp hw
  refine wpAny_getItem_heap (uC hu) (key_of I.aG eb) dd hp ?_
  rw[hp2]
  exact h w' _ (I.tok _) rw'
theorem d_in{Q:af->ah->Prop}(hu:A.units+1<cLine)(I:Inv X pins σ H s)(g:eT H a y o)(ry:RelV y u)(h:∀s',Inv X pins σ H s'->Q (.bool o.isSome) s') :wpAny (model X.prog X.w) A (compareOp .In u (.ref a)) Q E s:=by
 rcases g with⟨kvs,k,e,ey,l⟩|⟨kvs,k,b,e,ey,eb,l⟩
 ·subst ey
  obtain⟨z,hd,vs,rel,dd⟩:=dk_rd I.aG e
  refine wpAny_in_of (kV_is ry) hd dd.mapOf ?_
  rw[<-(rel.val k).isSome_eq,<-l]
  exact h _ (I.tok _)
 ·subst ey
  cases (show u=bO b from ry)
  obtain⟨z,hd,xs,rel,dd⟩:=dt_rd I.aG e
  refine wpAny_in_heap (uC hu) (key_of I.aG eb) hd dd ?_
  have q:=(rel.val k).isSome_eq
  rw[yN]at q
  rw[<-q,<-l]
  exact h _ (I.tok _)
theorem d_write{h':aA}{t':Nat}{ob:HO}(I:Inv X pins σ H s)(mu:Mut (H a))(hs:iY a s.heap h')(he:∃q,h'.get? a=some q)(new:dk X.prog X.w (upd H a ob) h' a ob) :Inv X pins σ (upd H a ob) {s with heap:=h',toks:=t'}:=
 I.write (x:=a) (e:=a) mu (.inl rfl) (fun b q hb z=>(hs.2 b hb).trans z) he new
theorem dk_new{P:aU}{w:aM}{H':Hp}{h':aA}{kvs:List (Key×V)}{vs:List (Key×af)}(z:kvs.length<=sizeLine)(hd:(a==sysModules)=false)(rel:KV kvs vs)(dd:h'.DictOf (fj P w) a vs) :dk P w H' h' a (.dK kvs):=⟨z,hd,vs,rel,dd⟩
theorem d_setItem{H':Hp}{Q:Unit->ah->Prop}(hu:A.units+1<cLine)(I:Inv X pins σ H s)(g:DPut H a y v H')(ry:RelV y u)(rv:RelV v r)(h:∀s',Inv X pins σ H' s'->Q () s') :wpAny (model X.prog X.w) A (setItem (.ref a) u r) Q E s:=by
 rcases g with⟨kvs,k,e,ey,l,eH⟩|⟨kvs,k,b,e,ey,eb,l,eH⟩
 ·subst ey eH
  obtain⟨z,hd,vs,rel,dd⟩:=dk_of I.aG e
  have hz:vs.length<=sizeLine:=by rw[<-rel.length];exact z
  have hl:(putK kvs k v).length<=sizeLine:=by have:=oZ kvs k v;omega
  refine wpAny_setItem_pairs (hsz:=hz) (kV_is ry) dd fun h' dd' hs=>h _ ?_
  have he:∃q,h'.get? a=some q:=let ⟨q,_,_,hq,_⟩:=dd';⟨q,hq⟩
  exact d_write I (by rw[e];exact oH) hs he (dk_new hl hd (rel.put k rv) dd')
 ·subst ey eH
  cases (show u=bO b from ry)
  obtain⟨z,hd,xs,rel,dd⟩:=dt_of I.aG e
  have hz:xs.length<=sizeLine:=by rw[<-gL rel];exact z
  have hl:(putK kvs k v).length<=sizeLine:=by have:=oZ kvs k v;omega
  refine wpAny_setItem_heap (hsz:=hz) (uC hu) (key_of I.aG eb) dd fun h' dd' hs=>h _ ?_
  obtain⟨q,es,ep,hq,h2,h3,h4,_,h5⟩:=dd'
  refine d_write I (by rw[e];exact oH) hs ⟨q,hq⟩ ⟨hl,hd,_,(rel.put k eb rv).keeps fun c ys ec=>?_,q,es,ep,hq,h2,h3,h4,h5⟩
  rw[ak (dN ec e (fun z=>nomatch z))]
  exact ec
end
def NoSl(i:aV):Prop:=∀ov iv,subscripted i false ov iv=operate [ov,iv] (getItem ov iv)
theorem subD_of{prog:aU}{w:aM}{A:bD}{E:af->ah->Prop}{s:ah}{env:cg}{value slice:aV}{pos:bN}{T id:String}{Q:af->ah->Prop}(hl:typeLookup (.type T) "__getitem__" = pure (some (.builtin id)))(hs:NoSl slice)(h:wpAny (model prog w) A (eval value env) (fun o s₁=>wpAny (model prog w) A (eval slice env) (fun i s₂=>s₂.TypeIs o T/\wpAny (model prog w) A (getItem o i) Q E s₂) E s₁) E s) :wpAny (model prog w) A (eval (.Subscript value slice pos) env) Q E s:=by
 refine vU (fD h (fun o s₁ h₁=>fD h₁ (fun i s₂ h₂=>?_) fun _ _ x=>x) fun _ _ x=>x)
 obtain⟨hT,h₂⟩:=h₂
 unfold subscriptTail
 refine aq ?_
 rw[getitemInPython_of_ne hT.not_modules]
 refine aq (wpAny_specialOf hT hl ?_)
 have fin:wpAny (model prog w) A (subscripted slice false o i) (fun r s₃=>wpAny (model prog w) A (letTemporaryGo value o r >>= fun _=>pure r) Q E s₃) E s₂:=by
  rw[hs o i]
  exact wpAny_operating (fD h₂ (fun r s₃ h₃=>aq (wpAny_letTemporaryGo (aX h₃))) fun _ _ x=>x)
 first
  |exact aX (aq fin)
  |exact aq (aX (aq fin))
  |exact aq fin
theorem dict_typeIs{X:Cx}{pins:List (aa×az)}{σ:St}{H:Hp}{s:ah}{a:aa}{y:V}{o:Option V}(I:Inv X pins σ H s)(g:eT H a y o):s.TypeIs (.ref a) "dict":=by
 rcases g with⟨kvs,k,e,_,_⟩|⟨kvs,k,b,e,_,_,_⟩
 ·obtain⟨_,_,vs,_,dd⟩:=dk_rd I.aG e
  exact dd.typeIs
 ·obtain⟨_,_,xs,_,dd⟩:=dt_rd I.aG e
  exact dd.typeIs
def tDGet(td ty:TE):TE:=fun σ H Q=>td σ H fun x H1=>ty σ H1 fun y H2=>∃a v,x=.ref a/\eT H2 a y (some v)/\Q v H2
def tDIn(ty td:TE):TE:=fun σ H Q=>ty σ H fun y H1=>td σ H1 fun x H2=>∃a o,x=.ref a/\eT H2 a y o/\Q (.bl o.isSome) H2
def sDPut(td ty tv:TE):TS:=fun D σ H=>tv σ H fun v H1=>td σ H1 fun x H2=>ty σ H2 fun y H3=>∃a H4,x=.ref a/\DPut H3 a y v H4/\D.nx σ H4
section
variable{X:Cx}{o i e value:aV}{pos pos' tpos:bN}{td ty tv:TE}
theorem pe_dget(hu:X.A.units+1<cLine)(ho:PE X o td)(hi:PE X i ty)(hs:NoSl i):PE X (.Subscript o i pos) (tDGet td ty):=by
 intro pins s σ H Q I h
 refine subD_of PySem.F.slot_dict_getitem.lookup hs (aW (ho pins s σ H _ I h) fun u s1 ⟨x,H1,I1,rx,q1⟩=>aW (hi pins s1 σ H1 _ I1 q1) fun iv s2 ⟨y,H2,I2,ry,a,v,ex,g,q2⟩=>?_)
 subst ex
 obtain rfl:u=bO a:=rx
 exact⟨dict_typeIs I2 g,d_getItem hu I2 g ry fun w' s3 I3 rw'=>⟨v,H2,I3,rw',q2⟩⟩
theorem pc_din(hu:X.A.units+1<cLine)(hi:PE X i ty)(ho:PE X o td):PC X .In i o (tDIn ty td):=by
 intro pins s σ H Q I h
 refine aW (hi pins s σ H _ I h) fun iv s1 ⟨y,H1,I1,ry,q1⟩=>aW (ho pins s1 σ H1 _ I1 q1) fun u s2 ⟨x,H2,I2,rx,a,ov,ex,g,q2⟩=>?_
 subst ex
 obtain rfl:u=bO a:=rx
 exact d_in hu I2 g ry fun s3 I3=>⟨.bl ov.isSome,H2,I3,rfl,q2⟩
theorem lE(hu:X.A.units+1<cLine)(ho:PE X o td)(hi:PE X i ty)(hv:PE X value tv)(hs:swapsWith value (some (.Subscript o i pos')) pos.line X.env=pure false) :PS X (.Assign [.Subscript o i pos'] value pos) (sDPut td ty tv):=by
 intro pins s σ H D I h
 refine wpAny_Assign_Subscript (aW (hv pins s σ H _ I h) fun r s1 ⟨v,H1,I1,rv,q1⟩=>aW (ho pins s1 σ H1 _ I1 q1) fun u s2 ⟨x,H2,I2,rx,q2⟩=>aW (hi pins s2 σ H2 _ I2 q2) fun iv s3 ⟨y,H3,I3,ry,a,H4,ex,g,q3⟩=>?_) hs
 subst ex
 obtain rfl:u=bO a:=rx
 exact d_setItem hu I3 g ry rv fun s4 I4=>⟨σ,H4,I4,q3⟩
end
theorem dk_empty{P:aU}{w:aM}{H:Hp}(h:aA)(hb:sysModules<h.objs.size):dk P w H (h.push {cls:=.type "dict",data:=.dict #[]}) h.objs.size (.dK []):=
 ⟨de _,beq_eq_false_iff_ne.mpr (hW (dR hb)),[],.nil,Heap.DictOf.new h⟩
theorem dt_empty{P:aU}{w:aM}{H:Hp}(h:aA)(hb:sysModules<h.objs.size):dk P w H (h.push {cls:=.type "dict",data:=.dict #[]}) h.objs.size (.dT []):=
 ⟨de _,beq_eq_false_iff_ne.mpr (hW (dR hb)),[],.nil,_,#[],0,df _ rfl,⟨rfl,rfl,rfl⟩,rfl,rfl,nY⟩
def tDNewK:TE:=fun _ H Q=>∀p,H p=none->Q (.ref p) (upd H p (.dK []))
def tDNewT:TE:=fun _ H Q=>∀p,H p=none->Q (.ref p) (upd H p (.dT []))
section
variable{X:Cx}{pos:bN}
theorem pe_dnewK:PE X (.Dict [] [] pos) tDNewK:=fun pins s σ H Q I h=>
 wZ ⟨.ref s.heap.objs.size,_,I.laid (a:=s.heap.objs.size) (o:=.dK []) (t':=s.toks) (fun _ _ q=>cD _ q) (aI _) (dk_empty s.heap I.big),rfl,h _ (I.aG.fresh (aI _))⟩
theorem pe_dnewT:PE X (.Dict [] [] pos) tDNewT:=fun pins s σ H Q I h=>
 wZ ⟨.ref s.heap.objs.size,_,I.laid (a:=s.heap.objs.size) (o:=.dT []) (t':=s.toks) (fun _ _ q=>cD _ q) (aI _) (dt_empty s.heap I.big),rfl,h _ (I.aG.fresh (aI _))⟩
end
theorem boot_reversed5:bootBuiltins "reversed" = some (.type "reversed"):=by decide +kernel
section
variable{X:Cx}{pins:List (aa×az)}{σ:St}{H:Hp}{s:ah}{h':aA}
theorem Inv.turnedNew{t':Nat}{ch:List aa}{T:aa}{ob:HO}(I:Inv X pins σ H s)(k:∀b o,b∉ch->s.heap.get? b=some o->h'.get? b=some o)(hf:∀b∈ch,FpOk X pins H b)(hT:s.heap.objs.size<=T)(new:dk X.prog X.w (upd H T ob) h' T ob):Inv X pins σ (upd H T ob) {s with heap:=h',toks:=t'}:=by
 have hn:H T=none:=I.aG.fresh hT
 have nit:∀b u,H b=some u->b∉ch:=fun b u e z=>by
  have q:=(hf b z).1
  rw[q]at e;cases e
 refine I.step (g':=s.gens) (d':=s.drawn) (ch:=ch) (fun b hb=>⟨(hf b hb).2.2.2.1,(hf b hb).2.1,(hf b hb).2.2.2.2.1,(hf b hb).2.2.2.2.2⟩) (fun b o _ _ hc e _=>k b o hc e) (fun b o _ _ hc e _=>⟨o.slots,k b o hc e⟩)
  (fun b o _ e n=>?_) (fun b o hc e=>⟨o,k b o hc e⟩) (fun b xs e=>?_) (fun b o u e=>?_) (fun b ps e=>⟨#[],?_⟩) (fun m hm=>?_) (fun b u e=>?_) I.bare
 ·rw[ak (dR (du (cy e) hT))];exact n
 ·rw[ak (bg e hn)];exact e
 ·rw[ak (bg e hn)];exact e
 ·rw[ak (bg e hn),e];simp
 ·obtain⟨o,es,ep,ho,r⟩:=hm
  exact⟨o,es,ep,k _ o (fun z=>(hf _ z).2.1 rfl) ho,r⟩
 ·by_cases hb:b=T
  ·subst hb
   rw[ax]at e
   cases e
   exact new
  ·rw[ak hb]at e
   refine(I.aG b u e).stay (fun c v hc q=>k c v ?_ q) (fun c q=>by rw[ak (bg q hn)];exact q) fun c xs q=>by rw[ak (bg q hn)];exact q
   rcases hc with z|z
   ·rw[z];exact nit b u e
   ·exact nit c _ z
theorem Inv.lock{d:aa}{u:HO}(I:Inv X pins σ H s)(h:H d=some u)(mu:Mut (some u)):∃od,Inv X pins σ (upd H d (.bM od u)) s:=by
 have x:=I.aG d u h
 have ex:∃od,s.heap.get? d=some od:=by
  cases u with
  |lst xs=>obtain⟨_,_,_,_,e⟩:=x;exact⟨_,e⟩
  |dK kvs=>obtain⟨_,_,_,_,o,_,_,e,_⟩:=x;exact⟨o,e⟩
  |dT kvs=>obtain⟨_,_,_,_,o,_,_,e,_⟩:=x;exact⟨o,e⟩
  |set S n=>obtain⟨o,_,_,_,e,_⟩:=x;exact⟨o,e⟩
  |ins C dx fs=>obtain⟨_,_,_,e,_⟩:=x;exact⟨_,e⟩
  |ext φ=>obtain⟨_,⟨_,e⟩,_⟩:=x;exact⟨_,e⟩
  |_=>exact eS mu
 obtain⟨od,e⟩:=ex
 have new:dk X.prog X.w (upd H d (.bM od u)) s.heap d (.bM od u):=by
  refine⟨e,x.stay (fun b v _ q=>q) (fun b q=>?_) fun b xs q=>?_⟩
  ·rw[ak (fun z=>by rw[z,h]at q;cases q;exact mu)];exact q
  ·rw[ak (fun z=>by rw[z,h]at q;cases q;exact mu)];exact q
 exact⟨od,I.write (x:=d) (e:=d) (t':=s.toks) (h':=s.heap) (by rw[h];exact mu) (.inl rfl) (fun b v _ q=>q) ⟨od,e⟩ new⟩
theorem Inv.nofrz{d:aa}{u:HO}(I:Inv X pins σ H s)(h:H d=some u)(mu:Mut (some u)):∀o' u',X.H_0 d≠some (.bM o' u'):=fun o' u' e=>by
 have q:=I.base.frzs d o' u' e
 rw[h]at q
 cases q
 exact mu
theorem Inv.unlock{d:aa}{od:az}{u:HO}(I:Inv X pins σ H s)(h:H d=some (.bM od u))(hn:∀o' u',X.H_0 d≠some (.bM o' u')):Inv X pins σ (upd H d u) s:=by
 have neH:∀b o,H b=some o->(∀o' u',o≠.bM o' u')->b≠d:=fun b o e ba z=>by
  rw[z,h]at e
  cases e
  exact ba _ _ rfl
 have neN:∀b,H b=none->b≠d:=fun b e z=>by rw[z,h]at e;cases e
 refine⟨I.ok,I.os,I.bare,⟨I.base.keep,I.base.slot,fun b o e n hx=>?_,I.base.there,fun b xs e=>?_,fun b o x e=>?_,fun b ps e=>?_⟩,I.loc,I.cell,?_,fun x c e=>?_,fun p hp=>?_,fun b o e=>?_,I.len⟩
 ·rw[ak (neN b (I.base.free b o e n hx))];exact I.base.free b o e n hx
 ·have q:=I.base.tups b xs e
  rw[ak (neH b _ q (fun _ _ z=>nomatch z))];exact q
 ·have q:=I.base.frzs b o x e
  rw[ak (fun z=>by rw[z]at e;exact hn _ _ e)];exact q
 ·obtain⟨m,q⟩:=I.base.tbls b ps e
  exact⟨m,by rw[ak (neH b _ q (fun _ _ z=>nomatch z))];exact q⟩
 ·rw[ak (neN _ I.free)];exact I.free
 ·rw[ak (neN c (I.fR x c e))];exact I.fR x c e
 ·obtain⟨e,n,r⟩:=I.pin p hp
  exact⟨e,by rw[ak (neN _ n)];exact n,r⟩
 ·by_cases hb:b=d
  ·rw[hb,ax]at e
   cases e
   rw[hb]
   obtain⟨_,x⟩:=I.aG d _ h
   exact x.stay (fun c v _ q=>q) (fun c q=>by rw[ak (neH c _ q (fun _ _ z=>nomatch z))];exact q) fun c xs q=>by rw[ak (neH c _ q (fun _ _ z=>nomatch z))];exact q
  ·rw[ak hb]at e
   exact(I.aG b o e).stay (fun c v _ q=>q) (fun c q=>by rw[ak (neH c _ q (fun _ _ z=>nomatch z))];exact q) fun c xs q=>by rw[ak (neH c _ q (fun _ _ z=>nomatch z))];exact q
end
def tLock(t:TS):TS:=fun D σ H=>∃d u,H d=some u/\Mut (some u)/\∀od,t ⟨fun σ' H'=>H' d=some (.bM od u)/\D.nx σ' (upd H' d u),fun v H'=>H' d=some (.bM od u)/\D.rt v (upd H' d u),fun σ' H'=>H' d=some (.bM od u)/\D.bk σ' (upd H' d u),fun σ' H'=>H' d=some (.bM od u)/\D.ct σ' (upd H' d u)⟩ σ (upd H d (.bM od u))
def tLockE(t:TE):TE:=fun σ H Q=>∃d u,H d=some u/\Mut (some u)/\∀od,t σ (upd H d (.bM od u)) fun v H'=>H' d=some (.bM od u)/\Q v (upd H' d u)
section
variable{X:Cx}
theorem ps_lock{st:a6}{t:TS}(h:PS X st t):PS X st (tLock t):=by
 intro pins s σ H D I hw
 obtain⟨d,u,hd,mu,hw⟩:=hw
 obtain⟨od,I1⟩:=I.lock hd mu
 refine aW (h pins s σ _ _ I1 (hw od)) fun f s1 q=>?_
 cases f with
 |next=>obtain⟨σ',H',I2,e,q⟩:=q;exact⟨σ',_,I2.unlock e (I.nofrz hd mu),q⟩
 |brk=>obtain⟨σ',H',I2,e,q⟩:=q;exact⟨σ',_,I2.unlock e (I.nofrz hd mu),q⟩
 |cont=>obtain⟨σ',H',I2,e,q⟩:=q;exact⟨σ',_,I2.unlock e (I.nofrz hd mu),q⟩
 |ret v=>obtain⟨x,σ',H',I2,r,e,q⟩:=q;exact⟨x,σ',_,I2.unlock e (I.nofrz hd mu),r,q⟩
theorem pe_lock{e:aV}{t:TE}(h:PE X e t):PE X e (tLockE t):=by
 intro pins s σ H Q I hw
 obtain⟨d,u,hd,mu,hw⟩:=hw
 obtain⟨od,I1⟩:=I.lock hd mu
 refine aW (h pins s σ _ _ I1 (hw od)) fun v s1 ⟨x,H1,I2,r,e2,q⟩=>?_
 exact⟨x,_,I2.unlock e2 (I.nofrz hd mu),r,q⟩
theorem pi_one{tg:aV}{pins:List (aa×az)}{σ:St}{H:Hp}{s:ah}{R:It->Hp->Prop}{J:It}{tn:Nat->aA->Prop}{tk:Nat}(I:Inv X pins σ H s)(o:az)(T:Turn X.prog X.w X.K tg J [s.heap.objs.size] s.heap.objs.size tn)(st:tn 0 (s.heap.push o))(q:R J H):PIE X pins σ tg R (.ref s.heap.objs.size) {s with heap:=s.heap.push o,toks:=tk}:=by
 refine⟨s.heap.objs.size,[s.heap.objs.size],tn,J,H,rfl,I.kept fun b ob e=>cD _ e,T,st,fun b hb=>?_,q⟩
 have e:b=s.heap.objs.size:=by simpa using hb
 subst e
 exact I.fpOk (aI _) (I.aG.fresh (aI _))
end
def Itv(K:ay)(a:aa)(n:Nat):It:=
 ⟨fun i H=>i<n/\∃(xs:List V) (x:V),ao K H a xs/\xs[n-1-i]?=some x,fun i H x H'=>H'=H/\∀xs,ao K H a xs->xs[n-1-i]?=some x,fun i _=>n<=i⟩
theorem turn_rev{P:aU}{w:aM}{K:ay}{tg:aV}(a it:aa)(n:Nat):Turn P w K tg (Itv K a n) [it] it (fun i h=>i<=n/\h.IsRevIter it a ((n:Int)-1-(i:Nat))) where
 mem:=by simp
 obj:=fun i h st b hb=>by
  have e:b=it:=by simpa using hb
  subst e
  obtain⟨_,o,e,c,d⟩:=st
  exact⟨o,e,fun v z=>by rw[d]at z;cases z⟩
 keep:=fun i h h' st k=>⟨st.1,st.2.at fun o e=>k it (by simp) o e⟩
 item:=by
  intro X hP hw hK hc i pins s σ H E I hf st hg
  subst hP hw hK
  obtain⟨hin,xs,x,hq,hx⟩:=hg
  obtain⟨ai,rv,p,hz⟩:=I.list hq
  obtain⟨u,hu,ru⟩:=rv.get hx
  obtain⟨f0,f1,f2,f3,f4,f5⟩:=hf it (by simp)
  obtain⟨_,hit⟩:=st
  have e1:(n:Int)-1-((i:Nat):Int)=((n-1-i:Nat):Int):=by omega
  rw[e1]at hit
  refine wpAny_pyNext_rev_item hit p.isList (x:=u) (by simpa using hu) fun h' bu sb=>?_
  have e2:((n-1-i:Nat):Int)-1=(n:Int)-1-((i+1:Nat):Int):=by omega
  rw[e2]at bu
  have I1:Inv X pins σ H {s with heap:=h'}:=I.turned (t':=s.toks) (fun b o hb e=>(sb.2 b hb).trans e) f0 f1 f3 f4 f5
  obtain⟨o,e,c,d⟩:=id bu
  exact⟨u,rfl,go_of (s:={s with heap:=h'}) e c d (by decide) ⟨x,H,I1,ru,⟨rfl,fun ys hy=>by rw[I.list_inj hy hq];exact hx⟩,⟨hin,bu⟩,fun b hb=>(hf b hb).1⟩⟩
 done:=by
  intro X hP hw hK hc i pins s σ H E I hf st hg
  subst hP hw hK
  obtain⟨f0,f1,f2,f3,f4,f5⟩:=hf it (by simp)
  obtain⟨hin,hit⟩:=st
  have hge:n<=i:=hg
  have e1:(n:Int)-1-((i:Nat):Int) = -1:=by omega
  rw[e1]at hit
  exact wpAny_pyNext_rev_end (I.ok.hd hc) hit fun h' eb=>⟨rfl,I.turned (t':=s.toks) (fun b o hb e=>eb b o hb e) f0 f1 f3 f4 f5⟩
 self:=fun A i s Q E st h=>w6 st.2 h
def iRev(K:ay)(ta:TA):TI:=fun σ H R=>ta σ H fun vs H1=>∃(a:aa) (xs:List V),vs=[.ref a]/\ao K H1 a xs/\R (Itv K a xs.length) H1
section
variable{X:Cx}{tg:aV}
theorem pi_reversed{e:aV}{ta:TA}{p pos:bN}(hg:Gl X "reversed")(hm:X.mg "reversed" = none)(ha:PA X [e] ta)(hs:starEach [e] X.env=[(false,eval e X.env)]:=by rfl):PI X tg (.Call (.Name "reversed" p) [e] [] pos) (iRev X.K ta):=by
 intro pins s σ H R I h
 refine Call_ (kZ I hg hm boot_reversed5 (sr (aW (ha pos pins s σ H _ I h) fun us s1 ⟨vs,H1,I1,r1,q1⟩=>?_) hs rfl))
 obtain⟨a,xs,e,hq,q⟩:=q1
 subst e
 cases r1 with
 |cons r rr=>
  cases rr
  cases r
  obtain⟨ai,rv,p',hz⟩:=I1.list hq
  have hl:=rv.length
  have e1:((ai.toArray.size:Nat):Int)-1=(xs.length:Int)-1-((0:Nat):Int):=by simp only[c4];omega
  refine call_reversed_list p'.isList (w6 (l:=a) (i:=((ai.toArray.size:Nat):Int)-1) ⟨_,df _ rfl,rfl,rfl⟩ ?_)
  refine pi_one (tk:=s1.toks) I1 _ (turn_rev a _ xs.length) ⟨de _,?_⟩ q
  rw[<-e1]
  exact⟨_,df _ rfl,rfl,rfl⟩
end
section
variable{prog:aU}{w:aM}{A:bD}{E:af->ah->Prop}{s:ah}
theorem iter_keys{d:aa}{o:az}{es:Array iS}{ep:Nat}{Q:af->ah->Prop}(hd:(d==sysModules)=false)(ho:s.heap.get? d=some o)(hc:o.ExactDict)(hdat:o.data=.dict es ep)(hQ:Q (.ref s.heap.objs.size) {s with heap:=s.heap.push {cls:=.type "dict_keyiterator",data:=.fields #[.ref d,.int 0 0,.int es.size 0,.int ep 0]}}) :wpAny (model prog w) A (pyIter (.ref d)) Q E s:=by
 have hT:s.TypeIs (.ref d) "dict":=⟨o,ho,hc.1⟩
 refine w8 hT yp (rj yp hT F.entry_dict_iter ?_ (F.args_dict_iter_1 _))
 unfold iT.«dict.__iter__»
 refine aq ?_
 unfold Builtin.Dict.dictSlotNone
 refine aq (wpAny_notOrdered_dict hT ?_)
 show wpAny _ _ (pure (bO d)) _ _ s
 refine aX ?_
 show wpAny _ _ (zc d >>= _) _ _ s
 unfold zc
 rw[if_neg (by rw[hd];exact dw)]
 refine aq (aX ?_)
 refine aq (uD ho hdat ?_)
 refine aq (uE ho hdat ?_)
 refine aq (pI (aX ⟨_,rfl,"dict_keyiterator",_,⟨_,df _ rfl,rfl⟩,oB.lookup,?_⟩))
 simpa[rawInt]using hQ
theorem next_key_item{it d:aa}{i n ep:Nat}{od:az}{es:Array iS}{en:iS}{Q:Option af->ah->Prop}(hit:s.heap.IsKeyIter it d i n ep)(hod:s.heap.get? d=some od)(hdd:od.data=.dict es ep)(hsz:es.size=n)(hx:es[i]?=some en)(hQ:∀h',h'.IsKeyIter it d (i+1) n ep->iY it s.heap h'->Q (some en.key) {s with heap:=h'}):wpAny (model prog w) A (pyNext (.ref it)) Q E s:=by
 obtain⟨o,ho,hc,hd⟩:=id hit
 unfold pyNext
 refine aq (wpAny_attempt (w9 (name:=wc "__next__") hit.typeIs oB
  (rj oB hit.typeIs yq ?_ (yr _))))
 refine aq (aX ?_)
 refine aq ?_
 refine aq ?_
 first|refine aq (rk hit.typeIs (aX ?_))|refine aq (rm hit.typeIs (aX ?_))
 refine aq (wpAny_fieldsOf ho hd ?_)
 have hown:zd "dict_keyiterator" = false:=by decide
 simp only[hown,dH,if_false]
 show wpAny _ _ (if (bO d==dv)=true then _ else _) _ _ s
 rw[if_neg (show ¬((bO d==dv)=true) from dw)]
 refine aq (aX ?_)
 refine aq (uD hod hdd ?_)
 rw[if_neg (by rw[hsz];simp)]
 refine aq (aX ?_)
 refine aq (uE hod hdd ?_)
 rw[if_neg (by simp)]
 refine aX ?_
 obtain⟨hlt',hen⟩:=vW.mp hx
 simp only[show ¬((i:Int)<0) from by omega,if_false,gi,Array.getElem?_eq_getElem hlt']
 refine aq ?_
 first|refine aq (rk hit.typeIs (aX ?_))|refine aq (rm hit.typeIs (aX ?_))
 refine aq (xa hit.typeIs ?_)
 show wpAny _ _ (setField (.ref it) 1 (rawInt ((i:Int)+1)) >>= _) _ _ s
 refine aq (rp ho hd (by simp) ?_)
 have hit':(s.heap.update it (gj (·.setIfInBounds 1 (rawInt ((i:Int)+1))))).IsKeyIter it d (i+1) n ep:=
  ⟨_,iZ _ ho (vT (so hd _)),(Obj.cls_mapFields ..).trans hc,by rw[so hd];simp[rawInt]⟩
 refine aq (gy ?_)
 refine aq (xa (s:={s with heap:=s.heap.update it (gj (·.setIfInBounds 1 (rawInt ((i:Int)+1))))}) hit'.typeIs ?_)
 show wpAny _ _ (pure es[i].key) _ _ _
 rw[hen]
 exact aX (aX ⟨_,rfl,aX (hQ _ hit' (me ..))⟩)
theorem next_key_end{it d:aa}{i n ep:Nat}{od:az}{es:Array iS}{Q:Option af->ah->Prop}(hh:A.handled=none)(hit:s.heap.IsKeyIter it d i n ep)(hod:s.heap.get? d=some od)(hdd:od.data=.dict es ep)(hsz:es.size=n)(hge:n<=i)(hQ:∀h',Heap.ExtBut it s.heap h'->Q none {s with heap:=h'}):wpAny (model prog w) A (pyNext (.ref it)) Q E s:=by
 obtain⟨o,ho,hc,hd⟩:=id hit
 unfold pyNext
 refine aq (wpAny_attempt (w9 (name:=wc "__next__") hit.typeIs oB
  (rj oB hit.typeIs yq ?_ (yr _))))
 refine aq (aX ?_)
 refine aq ?_
 refine aq ?_
 first|refine aq (rk hit.typeIs (aX ?_))|refine aq (rm hit.typeIs (aX ?_))
 refine aq (wpAny_fieldsOf ho hd ?_)
 have hown:zd "dict_keyiterator" = false:=by decide
 simp only[hown,dH,if_false]
 show wpAny _ _ (if (bO d==dv)=true then _ else _) _ _ s
 rw[if_neg (show ¬((bO d==dv)=true) from dw)]
 refine aq (aX ?_)
 refine aq (uD hod hdd ?_)
 rw[if_neg (by rw[hsz];simp)]
 refine aq (aX ?_)
 refine aq (uE hod hdd ?_)
 rw[if_neg (by simp)]
 refine aX ?_
 have hge':es.size<=i:=by rw[hsz];exact hge
 simp only[show ¬((i:Int)<0) from by omega,if_false,gi,Array.getElem?_eq_none hge']
 refine aq ?_
 first|refine aq (rk hit.typeIs (aX ?_))|refine aq (rm hit.typeIs (aX ?_))
 show wpAny _ _ (setField (.ref it) 0 .none >>= _) _ _ s
 refine aq (rp ho hd (by simp) ?_)
 show wpAny _ _ (newExc (.type "StopIteration") [] >>= _) _ _ _
 refine aq ?_
 simp only[newExc,newTuple]
 refine aq (pI ?_ (by size_fits))
 refine aq (m:=firstArgMember _ _) (uF (a:=dv) (by first|rfl|(simp only[firstArgMember];rfl)) ?_)
 refine pI ?_ (by size_fits)
 simp only[raiseNew]
 refine aq (wpAny_handled ?_)
 rw[show A.in1.handled=none from hh]
 refine aq (aX (uG ?_))
 refine aq (wpAny_isInstance (T:="StopIteration") (b:=true) ⟨_,df _ rfl,rfl⟩ isSubtype_stop ?_)
 exact aX (hQ _ (((me ..).extBut.push _).push _))
end
theorem kv_get{κ:Type}{kvs:List (κ×V)}{vs:List (κ×af)}(h:KV kvs vs):∀{i:Nat} {k:κ} {v:V},kvs[i]?=some (k,v)->∃u,vs[i]?=some (k,u)/\RelV v u:=by
 unfold KV at h
 induction h with
 |nil=>intro i k v e;simp at e
 | @cons a b l₁ l₂ r t ih=>
  intro i k v e
  cases i with
  |zero=>
   simp only[uW,vH]at e
   subst e
   refine⟨b.2,?_,r.2⟩
   simp only[uW]
   exact congrArg some (i7 r.1.symm rfl)
  |succ j=>
   simp only[xB]at e ⊢
   exact ih e
theorem paired_get{α β:Type}{G:α->β->Prop}{l₁:List α}{l₂:List β}(h:lL G l₁ l₂):∀{i:Nat} {a:α},l₁[i]?=some a->∃b,l₂[i]?=some b/\G a b:=by
 induction h with
 |nil=>intro i a e;simp at e
 | @cons a b l₁ l₂ r t ih=>
  intro i a' e
  cases i with
  |zero=>
   simp only[uW,vH]at e
   subst e
   exact⟨b,rfl,r⟩
  |succ j=>
   simp only[xB]at e ⊢
   exact ih e
theorem relV_key{k:Key}{u:af}(h:keyIs k u=true):RelV (kV k) u:=by
 rcases iE h with⟨i,t,rfl,rfl⟩|⟨x,t,rfl,rfl⟩
 ·exact⟨t,rfl⟩
 ·exact⟨t,rfl⟩
section
variable{X:Cx}{pins:List (aa×az)}{σ:St}{H:Hp}{s:ah}{d:aa}{o:az}
theorem Inv.frzK{kvs:List (Key×V)}(I:Inv X pins σ H s)(h:H d=some (.bM o (.dK kvs))) :(d==sysModules)=false/\s.heap.get? d=some o/\o.ExactDict/\∃(es:Array iS) (ep:Nat) (vs:List (Key×af)),o.data=.dict es ep/\es.size=kvs.length/\KV kvs vs/\s.heap.DictAt (fj X.prog X.w) d vs ep:=by
 obtain⟨hd,z,hs,vs,kv,o',es,ep,ho,hx,hdt,r⟩:=I.aG d _ h
 rw[hd]at ho
 cases ho
 refine⟨hs,hd,hx,es,ep,vs,hdt,?_,kv,o,es,hd,hx,hdt,r⟩
 have l1:=r.2.1.length
 have l2:kvs.length=vs.length:=gL kv
 rw[i5]at l1
 omega
theorem Inv.frzT{kvs:List (List Key×V)}(I:Inv X pins σ H s)(h:H d=some (.bM o (.dT kvs))) :(d==sysModules)=false/\s.heap.get? d=some o/\o.ExactDict/\∃(es:Array iS) (ep:Nat),o.data=.dict es ep/\es.size=kvs.length /\ ∀(i:Nat) (k:List Key) (v:V),kvs[i]?=some (k,v)->∃(en:iS) (q:aa),es[i]?=some en/\en.key=.ref q/\H q=some (.tup (k.map kV)):=by
 obtain⟨hd,z,hs,xs,pr,o',es,ep,ho,hx,hdt,he,_⟩:=I.aG d _ h
 rw[hd]at ho
 cases ho
 refine⟨hs,hd,hx,es,ep,hdt,?_,fun i k v e=>?_⟩
 ·have l1:es.size=xs.length:=size_of_entries he
  have l2:kvs.length=xs.length:=gL pr
  omega
 ·obtain⟨b,hb,e1,e2,_⟩:=paired_get pr e
  have q:=entry_at he i
  rw[hb]at q
  exact⟨_,b.2.1,q,rfl,e2⟩
end
def Itk(d:aa)(o:az)(kvs:List (Key×V)):It:=
 ⟨fun i H=>H d=some (.bM o (.dK kvs))/\i<kvs.length,fun i H x H'=>H'=H/\∃k v,kvs[i]?=some (k,v)/\x=kV k,fun i H=>H d=some (.bM o (.dK kvs))/\kvs.length<=i⟩
def Itkt(d:aa)(o:az)(kvs:List (List Key×V)):It:=
 ⟨fun i H=>H d=some (.bM o (.dT kvs))/\i<kvs.length,fun i H x H'=>H'=H/\∃(k:List Key) (v:V) (q:aa),kvs[i]?=some (k,v)/\x=.ref q/\H q=some (.tup (k.map kV)),fun i H=>H d=some (.bM o (.dT kvs))/\kvs.length<=i⟩
def Itd(d:aa)(o:az)(kvs:List (Key×V)):It:=
 ⟨fun i H=>H d=some (.bM o (.dK kvs))/\i<kvs.length,fun i H x H'=>H'=H/\∃k,kvs[i]?=some (k,x),fun i H=>H d=some (.bM o (.dK kvs))/\kvs.length<=i⟩
def Iti(d:aa)(o:az)(kvs:List (Key×V)):It:=
 ⟨fun i H=>H d=some (.bM o (.dK kvs))/\i<kvs.length,fun i H x H'=>∃T k v,kvs[i]?=some (k,v)/\x=.ref T/\H T=none/\H'=upd H T (.tup [kV k,v]),fun i H=>H d=some (.bM o (.dK kvs))/\kvs.length<=i⟩
theorem kj{o:az}{es es':Array iS}{ep ep':Nat}(h:o.data=.dict es ep)(h':o.data=.dict es' ep'):es'=es/\ep'=ep:=by
 rw[h]at h'
 cases h'
 exact⟨rfl,rfl⟩
section
variable{P:aU}{w:aM}{K:ay}{tg:aV}{d:aa}{o:az}{es:Array iS}{ep:Nat}
theorem turn_keys{kvs:List (Key×V)}(it:aa)(hod:o.data=.dict es ep):Turn P w K tg (Itk d o kvs) [it] it (fun i h=>h.IsKeyIter it d i kvs.length ep) where
 mem:=by simp
 obj:=fun i h st b hb=>by
  have e:b=it:=by simpa using hb
  subst e
  obtain⟨oi,e,c,dd⟩:=st
  exact⟨oi,e,fun v z=>by rw[dd]at z;cases z⟩
 keep:=fun i h h' st k=>st.at fun oi e=>k it (by simp) oi e
 item:=by
  intro X hP hw hK hc i pins s σ H E I hf st hg
  subst hP hw hK
  obtain⟨hd,hi⟩:=hg
  obtain⟨f0,f1,f2,f3,f4,f5⟩:=hf it (by simp)
  obtain⟨hs,hgd,hx,es',ep',vs,hdt,hsz,kv,hm⟩:=I.frzK hd
  obtain⟨rfl,rfl⟩:=kj hod hdt
  obtain⟨⟨k,v⟩,hkv⟩:∃p,kvs[i]?=some p:=⟨kvs[i],aH hi⟩
  obtain⟨u,hu,ru⟩:=kv_get kv hkv
  have hl:kvs.length=vs.length:=gL kv
  rw[hl]at st
  refine wpAny_pyNext_dict_item st hm hu fun key h' hkey bu sb=>?_
  have I1:Inv X pins σ H {s with heap:=h'}:=I.turned (t':=s.toks) (fun b ob hb e=>(sb.2 b hb).trans e) f0 f1 f3 f4 f5
  obtain⟨oi,e,c,dd⟩:=id bu
  refine⟨key,rfl,go_of (s:={s with heap:=h'}) e c dd (by decide) ⟨kV k,H,I1,relV_key (show keyIs k key=true from hkey),⟨rfl,k,v,hkv,rfl⟩,?_,fun b hb=>(hf b hb).1⟩⟩
  show h'.IsKeyIter it d (i+1) kvs.length _
  rw[hl]
  exact bu
 done:=by
  intro X hP hw hK hc i pins s σ H E I hf st hg
  subst hP hw hK
  obtain⟨hd,hi⟩:=hg
  obtain⟨f0,f1,f2,f3,f4,f5⟩:=hf it (by simp)
  obtain⟨hs,hgd,hx,es',ep',vs,hdt,hsz,kv,hm⟩:=I.frzK hd
  obtain⟨rfl,rfl⟩:=kj hod hdt
  exact next_key_end (I.ok.hd hc) st hgd hdt hsz hi fun h' eb=>⟨rfl,I.turned (t':=s.toks) (fun b ob hb e=>eb b ob hb e) f0 f1 f3 f4 f5⟩
 self:=fun A i s Q E st h=>wpAny_pyIter_keyiter st h
theorem turn_keysT{kvs:List (List Key×V)}(it:aa)(hod:o.data=.dict es ep):Turn P w K tg (Itkt d o kvs) [it] it (fun i h=>h.IsKeyIter it d i kvs.length ep) where
 mem:=by simp
 obj:=fun i h st b hb=>by
  have e:b=it:=by simpa using hb
  subst e
  obtain⟨oi,e,c,dd⟩:=st
  exact⟨oi,e,fun v z=>by rw[dd]at z;cases z⟩
 keep:=fun i h h' st k=>st.at fun oi e=>k it (by simp) oi e
 item:=by
  intro X hP hw hK hc i pins s σ H E I hf st hg
  subst hP hw hK
  obtain⟨hd,hi⟩:=hg
  obtain⟨f0,f1,f2,f3,f4,f5⟩:=hf it (by simp)
  obtain⟨hs,hgd,hx,es',ep',hdt,hsz,ent⟩:=I.frzT hd
  obtain⟨rfl,rfl⟩:=kj hod hdt
  obtain⟨⟨k,v⟩,hkv⟩:∃p,kvs[i]?=some p:=⟨kvs[i],aH hi⟩
  obtain⟨en,q,hen,hkey,hq⟩:=ent i k v hkv
  refine next_key_item st hgd hdt hsz hen fun h' bu sb=>?_
  have I1:Inv X pins σ H {s with heap:=h'}:=I.turned (t':=s.toks) (fun b ob hb e=>(sb.2 b hb).trans e) f0 f1 f3 f4 f5
  obtain⟨oi,e,c,dd⟩:=id bu
  exact⟨en.key,rfl,go_of (s:={s with heap:=h'}) e c dd (by decide) ⟨.ref q,H,I1,hkey,⟨rfl,k,v,q,hkv,rfl,hq⟩,bu,fun b hb=>(hf b hb).1⟩⟩
 done:=by
  intro X hP hw hK hc i pins s σ H E I hf st hg
  subst hP hw hK
  obtain⟨hd,hi⟩:=hg
  obtain⟨f0,f1,f2,f3,f4,f5⟩:=hf it (by simp)
  obtain⟨hs,hgd,hx,es',ep',hdt,hsz,ent⟩:=I.frzT hd
  obtain⟨rfl,rfl⟩:=kj hod hdt
  exact next_key_end (I.ok.hd hc) st hgd hdt hsz hi fun h' eb=>⟨rfl,I.turned (t':=s.toks) (fun b ob hb e=>eb b ob hb e) f0 f1 f3 f4 f5⟩
 self:=fun A i s Q E st h=>by
  refine w8 st.typeIs yt (rj yt st.typeIs F.entry_dict_keyiterator_iter ?_ (F.args_dict_keyiterator_iter_1 _))
  show wpAny _ _ (ret (.ref it)) _ _ s
  exact aX ⟨_,rfl,"dict_keyiterator",_,st.typeIs,oB.lookup,h⟩
theorem turn_vals{kvs:List (Key×V)}(it:aa)(hod:o.data=.dict es ep):Turn P w K tg (Itd d o kvs) [it] it (fun i h=>h.IsValIter it d i kvs.length ep) where
 mem:=by simp
 obj:=fun i h st b hb=>by
  have e:b=it:=by simpa using hb
  subst e
  obtain⟨oi,e,c,dd⟩:=st
  exact⟨oi,e,fun v z=>by rw[dd]at z;cases z⟩
 keep:=fun i h h' st k=>st.at fun oi e=>k it (by simp) oi e
 item:=by
  intro X hP hw hK hc i pins s σ H E I hf st hg
  subst hP hw hK
  obtain⟨hd,hi⟩:=hg
  obtain⟨f0,f1,f2,f3,f4,f5⟩:=hf it (by simp)
  obtain⟨hs,hgd,hx,es',ep',vs,hdt,hsz,kv,hm⟩:=I.frzK hd
  obtain⟨rfl,rfl⟩:=kj hod hdt
  obtain⟨⟨k,v⟩,hkv⟩:∃p,kvs[i]?=some p:=⟨kvs[i],aH hi⟩
  obtain⟨u,hu,ru⟩:=kv_get kv hkv
  have hl:kvs.length=vs.length:=gL kv
  rw[hl]at st
  refine wpAny_pyNext_values_item st hm hu fun h' bu sb=>?_
  have I1:Inv X pins σ H {s with heap:=h'}:=I.turned (t':=s.toks) (fun b ob hb e=>(sb.2 b hb).trans e) f0 f1 f3 f4 f5
  obtain⟨oi,e,c,dd⟩:=id bu
  refine⟨u,rfl,go_of (s:={s with heap:=h'}) e c dd (by decide) ⟨v,H,I1,ru,⟨rfl,k,hkv⟩,?_,fun b hb=>(hf b hb).1⟩⟩
  show h'.IsValIter it d (i+1) kvs.length _
  rw[hl]
  exact bu
 done:=by
  intro X hP hw hK hc i pins s σ H E I hf st hg
  subst hP hw hK
  obtain⟨hd,hi⟩:=hg
  obtain⟨f0,f1,f2,f3,f4,f5⟩:=hf it (by simp)
  obtain⟨hs,hgd,hx,es',ep',vs,hdt,hsz,kv,hm⟩:=I.frzK hd
  obtain⟨rfl,rfl⟩:=kj hod hdt
  have hl:kvs.length=vs.length:=gL kv
  rw[hl]at st
  exact wpAny_pyNext_values_end (I.ok.hd hc) st hm (d3 (by omega)) fun h' eb=>⟨rfl,I.turned (t':=s.toks) (fun b ob hb e=>eb b ob hb e) f0 f1 f3 f4 f5⟩
 self:=fun A i s Q E st h=>wpAny_pyIter_valiter st h
theorem turn_items{kvs:List (Key×V)}{elts:List aV}{kk:Nat}{tpos:bN}(it:aa)(hod:o.data=.dict es ep):
  Turn P w K (.Tuple elts kk tpos) (Iti d o kvs) [it] it (fun i h=>∃ok ov,IsItemIter h it d i kvs.length ep ok ov) where
 mem:=by simp
 obj:=fun i h st b hb=>by
  have e:b=it:=by simpa using hb
  subst e
  obtain⟨ok,ov,e⟩:=st
  exact⟨_,e,fun v z=>nomatch z⟩
 keep:=fun i h h' st k=>let ⟨ok,ov,e⟩:=st;⟨ok,ov,k it (by simp) _ e⟩
 item:=by
  intro X hP hw hK hc i pins s σ H E I hf st hg
  subst hP hw hK
  obtain⟨hd,hi⟩:=hg
  obtain⟨hs,hgd,hx,es',ep',vs,hdt,hsz,kv,hm⟩:=I.frzK hd
  obtain⟨rfl,rfl⟩:=kj hod hdt
  obtain⟨⟨k,v⟩,hkv⟩:∃p,kvs[i]?=some p:=⟨kvs[i],aH hi⟩
  obtain⟨u,hu,ru⟩:=kv_get kv hkv
  have hl:kvs.length=vs.length:=gL kv
  obtain⟨ok,ov,he⟩:=st
  rw[hl]at he
  have aR:it<s.heap.objs.size:=cy he
  refine wpAny_pyNext_items_item he hm hu fun key h' hkey ho hT hz hk=>?_
  refine⟨_,rfl,wpAny_letOwnedTupleGo_items (s:={s with heap:=h'}) ho fun h'' he' sb=>?_⟩
  have hT2:h''.get? s.heap.objs.size=some {cls:=.type "tuple",data:=.seq #[key,u]}:=(sb.2 _ (oj aR)).trans hT
  have new:dk X.prog X.w (upd H s.heap.objs.size (.tup [kV k,v])) h'' s.heap.objs.size (.tup [kV k,v]):=
   ⟨by show 2<=sizeLine;decide,[key,u],.cons (relV_key (show keyIs k key=true from hkey)) (.cons ru .nil),⟨_,hT2,rfl,_,rfl⟩⟩
  have I1:Inv X pins σ (upd H s.heap.objs.size (.tup [kV k,v])) {s with heap:=h''}:=
   I.turnedNew (t':=s.toks) (ch:=[it]) (fun b ob hb e=>(sb.2 b (by simpa using hb)).trans (hk b ob (by simpa using hb) e)) hf (aI _) new
  refine⟨.ref s.heap.objs.size,_,I1,rfl,⟨_,k,v,hkv,rfl,I.aG.fresh (aI _),rfl⟩,⟨key,u,?_⟩,fun b hb=>?_⟩
  ·rw[hl];exact he'
  ·have e:b=it:=by simpa using hb
   rw[e,ak (dR aR)]
   exact(hf it (by simp)).1
 done:=by
  intro X hP hw hK hc i pins s σ H E I hf st hg
  subst hP hw hK
  obtain⟨hd,hi⟩:=hg
  obtain⟨f0,f1,f2,f3,f4,f5⟩:=hf it (by simp)
  obtain⟨hs,hgd,hx,es',ep',vs,hdt,hsz,kv,hm⟩:=I.frzK hd
  obtain⟨rfl,rfl⟩:=kj hod hdt
  have hl:kvs.length=vs.length:=gL kv
  obtain⟨ok,ov,he⟩:=st
  rw[hl]at he
  exact wpAny_pyNext_items_end (I.ok.hd hc) he hm (d3 (by omega)) fun h' eb=>⟨rfl,I.turned (t':=s.toks) (fun b ob hb e=>eb b ob hb e) f0 f1 f3 f4 f5⟩
 self:=fun A i s Q E st h=>let ⟨_,_,e⟩:=st;PySem.W.kcp_self e h
end
def iKeys(td:TE):TI:=fun σ H R=>td σ H fun x H1=>∃d o,x=.ref d/\((∃kvs,H1 d=some (.bM o (.dK kvs))/\R (Itk d o kvs) H1)\/∃kvs,H1 d=some (.bM o (.dT kvs))/\R (Itkt d o kvs) H1)
def iVals(td:TE):TI:=fun σ H R=>td σ H fun x H1=>∃d o kvs,x=.ref d/\H1 d=some (.bM o (.dK kvs))/\R (Itd d o kvs) H1
def iItems(td:TE):TI:=fun σ H R=>td σ H fun x H1=>∃d o kvs,x=.ref d/\H1 d=some (.bM o (.dK kvs))/\R (Iti d o kvs) H1
section
variable{X:Cx}{tg e:aV}{td:TE}{apos c8:bN}
theorem pi_keys(he:PE X e td):PI X tg e (iKeys td):=by
 intro pins s σ H R I h
 refine aW (he pins s σ H _ I h) fun u s1 ⟨x,H1,I1,rx,d,o,ex,q⟩=>?_
 subst ex
 obtain rfl:u=bO d:=rx
 rcases q with⟨kvs,hd,q⟩|⟨kvs,hd,q⟩
 ·obtain⟨hs,hgd,hx,es,ep,vs,hdt,hsz,kv,hm⟩:=I1.frzK hd
  refine iter_keys hs hgd hx hdt (pi_one (tk:=s1.toks) I1 _ (turn_keys _ hdt) ⟨_,df _ rfl,rfl,?_⟩ q)
  rw[hsz]<;>rfl
 ·obtain⟨hs,hgd,hx,es,ep,hdt,hsz,ent⟩:=I1.frzT hd
  refine iter_keys hs hgd hx hdt (pi_one (tk:=s1.toks) I1 _ (turn_keysT _ hdt) ⟨_,df _ rfl,rfl,?_⟩ q)
  rw[hsz]<;>rfl
theorem pi_values(he:PE X e td)(iD:attributeBase e "values" X.env (eval e X.env)=eval e X.env:=by rfl)(hline:(apos.endLine==c8.line)=true:=by rfl):PI X tg (.Call (.Attribute e "values" apos) [] [] c8) (iVals td):=by
 intro pins s σ H R I h
 refine xb (T:="dict") (id:="dict.values") iD rfl hline yu yw F.type_dict_values (aW (he pins s σ H _ I h) fun u s1 ⟨x,H1,I1,rx,d,o,kvs,ex,hd,q⟩=>?_)
 subst ex
 obtain rfl:u=bO d:=rx
 obtain⟨hs,hgd,hx,es,ep,vs,hdt,hsz,kv,hm⟩:=I1.frzK hd
 have hl:kvs.length=vs.length:=gL kv
 refine⟨hm.dictOf.typeIs,hm.dictOf.mapOf.noDict,?_⟩
 have I2:Inv X pins σ H1 {s1 with heap:=s1.heap.push {cls:=.type "dict_values",data:=.fields #[.ref d]}}:=I1.kept (t':=s1.toks) fun b ob q=>cD _ q
 have fin:wpAny (model X.prog X.w) X.A (pyIter (.ref s1.heap.objs.size)) (PIE X pins σ tg R) X.xe {s1 with heap:=s1.heap.push {cls:=.type "dict_values",data:=.fields #[.ref d]}}:=by
  refine wpAny_pyIter_values (d:=d) (knd:=fj X.prog X.w) ⟨_,df _ rfl,rfl,rfl⟩ (hm.push _) (pi_one (tk:=s1.toks) I2 _ (turn_vals _ hdt) ⟨_,df _ rfl,rfl,?_⟩ q)
  rw[hl]<;>rfl
 show wpAny _ _ (callWith c8 (.builtin "dict.values") [.ref d] [] []) _ X.xe s1
 exact method_meetsIn yw F.entry_dict_values rfl (uB ⟨rfl,hm.dictOf.typeIs,F.args_dict_values_1 _,_,meets_dict_values (fj X.prog X.w) d hs,⟨vs,hm.dictOf⟩,fin⟩)
theorem pC{elts:List aV}{kk:Nat}{tpos:bN}(he:PE X e td)(iD:attributeBase e "items" X.env (eval e X.env)=eval e X.env:=by rfl)(hline:(apos.endLine==c8.line)=true:=by rfl):
  PI X (.Tuple elts kk tpos) (.Call (.Attribute e "items" apos) [] [] c8) (iItems td):=by
 intro pins s σ H R I h
 refine xb (T:="dict") (id:="dict.items") iD rfl hline yu yx F.type_dict_items (aW (he pins s σ H _ I h) fun u s1 ⟨x,H1,I1,rx,d,o,kvs,ex,hd,q⟩=>?_)
 subst ex
 obtain rfl:u=bO d:=rx
 obtain⟨hs,hgd,hx,es,ep,vs,hdt,hsz,kv,hm⟩:=I1.frzK hd
 have hl:kvs.length=vs.length:=gL kv
 refine⟨hm.dictOf.typeIs,hm.dictOf.mapOf.noDict,?_⟩
 have I2:Inv X pins σ H1 {s1 with heap:=s1.heap.push {cls:=.type "dict_items",data:=.fields #[.ref d]}}:=I1.kept (t':=s1.toks) fun b ob q=>cD _ q
 have fin:wpAny (model X.prog X.w) X.A (pyIter (.ref s1.heap.objs.size)) (PIE X pins σ (.Tuple elts kk tpos) R) X.xe {s1 with heap:=s1.heap.push {cls:=.type "dict_items",data:=.fields #[.ref d]}}:=by
  refine wpAny_pyIter_items (d:=d) (knd:=fj X.prog X.w) ⟨_,df _ rfl,rfl,rfl⟩ (hm.push _) (pi_one (tk:=s1.toks) I2 _ (turn_items _ hdt) ⟨.none,.none,?_⟩ q)
  rw[hl]
  exact df _ rfl
 show wpAny _ _ (callWith c8 (.builtin "dict.items") [.ref d] [] []) _ X.xe s1
 exact method_meetsIn yx F.entry_dict_items rfl (uB ⟨rfl,hm.dictOf.typeIs,F.args_dict_items_1 _,_,meets_dict_items (fj X.prog X.w) d hs,⟨vs,hm.dictOf⟩,fin⟩)
end
end L2
namespace Att
open PySem PySem.W PySem.Calls PyProof.Rows
theorem ints_of_wellAll{P:Params}{h:aA}:∀(ns:List Int) (vs:List af),WellAll P h vs (ns.map WData.int)->gM vs ns:=by
 intro ns
 induction ns with
 |nil=>
  intro vs w
  rw[pQ]at w
  cases w
  exact .nil
 |cons n ns ih=>
  intro vs w
  rw[dB]at w
  cases w with
  |cons a b=>
   cases a
   exact .cons _ _ (ih _ b)
end Att
namespace L2
open PySem PySem.Spec PyProof.Rows
theorem vals_ints:∀{vs:List af} {ns:List Int},gM vs ns->Vals (ns.map V.int) vs
 |_,_,.nil=>.nil
 |_,_,.cons n t h=>.cons ⟨t,rfl⟩ (vals_ints h)
abbrev KOf{K:ay}{h:aA}(_:K.In h):ay:=K
def inClass(s:a6)(j:Nat):a6:=match s with
 |.ClassDef _ _ _ body _ _ _ _ _ _ _=>body.getD j (.Pass ⟨0,0,0,0⟩)
 |_=>.Pass ⟨0,0,0,0⟩
def bS(s:a6):pH:=match s with
 |.FunctionDef _ a _ _ _ _ _ _ _ _=>a
 |_=>{posonlyargs:=[],args:=[],vararg:=none,kwonlyargs:=[],kw_defaults:=[],kwarg:=none,defaults:=[]}
def bI(s:a6):List a6:=match s with
 |.FunctionDef _ _ b _ _ _ _ _ _ _=>b
 |_=>[]
def aK(s:a6):dc:=match s with
 |.FunctionDef _ _ _ _ _ _ sc _ _ _=>sc
 |_=>{kind:=.function,names:=[],isGenerator:=false,isCoroutine:=false}
structure Fun (K:ay) (x qual:ag) (st:a6) (f:aa) (fd:bh):Prop where
 ex:∃(oc:af) (od:Option aa) (kV doc pm:af) (an:Option aa) (aY ct:af) (osl:Array (Option af)),
  fd=bJ x qual (bS st) (bI st) (aK st) .none kV doc pm an aY ct/\K.lookup f=some ⟨oc,od,.func fd,osl⟩/\bW K aY qual=true
 kp:bG K (.ref f)=true
section
variable{P:aU}{w:aM}{K:ay}{mg:ag->Option af}{base:aA}
theorem Fun.binds{x qual:ag}{st:a6}{f:aa}{fd:bh}{ps:List ag}(F:Fun K x qual st f fd)(h:∀(kV doc pm:af) (an:Option aa) (aY ct:af) (us:List af),us.length=ps.length->bindArgs (bJ x qual (bS st) (bI st) (aK st) .none kV doc pm an aY ct) ⟨us,[]⟩=pure (ps.zip us)):Binds K fd ps []:=by
 obtain⟨oc,od,kV,doc,pm,an,aY,ct,osl,rfl,lk,hcd⟩:=F.ex
 exact .all (h kV doc pm an aY ct)
theorem cf{x qual:ag}{st:a6}{f:aa}{oc:af}{od an:Option aa}{osl:Array (Option af)}{kV doc pm aY ct:af}(l:K.lookup f=some ⟨oc,od,.func (bJ x qual (bS st) (bI st) (aK st) .none kV doc pm an aY ct),osl⟩)(c:bW K aY qual=true)(k:bG K (.ref f)=true):Fun K x qual st f (bJ x qual (bS st) (bI st) (aK st) .none kV doc pm an aY ct):=⟨⟨oc,od,kV,doc,pm,an,aY,ct,osl,rfl,l,c⟩,k⟩
end
theorem ia{A:bD}{k:Nat}(hr:dP k A):A.units+1<cLine:=iu (Nat.add_le_add_left (by decide:1<=64) _) hr.units
section
variable{X:Cx}
theorem pv(i:Nat){x:ag}{pos:bN}(hN:X.N[i]?=some x:=by rfl)(hv:Vis X.env.scope x:=by first|exact aQ rfl|exact lX (aQ rfl)|exact lX (lX rfl))(hd:(x==("__debug__" :ag))=false:=by decide)
  (hcd:(x==("__classdict__" :ag))=false:=by decide):PE X (.Name x pos) (tVar i):=pe_var hN hv hd hcd
end
theorem iteF{A B:Prop}(h:B):if false=true then A else B:=by
 rw[if_neg dw]
 exact h
theorem iteT{A B:Prop}(h:A):if true=true then A else B:=by
 rw[if_pos rfl]
 exact h
theorem bF{c A B:Prop}[Decidable c](h1:c->A)(h2:¬c->B):if c then A else B:=by
 by_cases h:c
 ·rw[if_pos h]
  exact h1 h
 ·rw[if_neg h]
  exact h2 h
def aC(H H':Hp):Prop:=∀b o,H b=some o->H' b=some o
theorem aC.trans{H H1 H2:Hp}(a:aC H H1)(b:aC H1 H2):aC H H2:=fun c o h=>b c o (a c o h)
theorem aC.free{H H':Hp}(e:aC H H'){l:aa}(h:H' l=sx):H l=sx:=by
 cases q:H l with
 |none=>rfl
 |some o=>
  rw[e l o q]at h
  cases h
theorem aC.seq{K:ay}{H H':Hp}{a:aa}{xs:List V}(e:aC H H')(h:ao K H a xs):ao K H' a xs:=by
 rcases h with(h|⟨o,h⟩)|h
 ·exact .inl (.inl (e _ _ h))
 ·exact .inl (.inr ⟨o,e _ _ h⟩)
 ·exact .inr h
section
variable{κ:Type}[DecidableEq κ]
theorem nd_snoc:∀{l:List κ} {k:κ},l.Nodup->¬k∈l->(l++[k]).Nodup
 |[],k,_,_=>by simp
 |a :: r,k,h,hk=>by
  obtain⟨h1,h2⟩:=eD.mp h
  show(a ::(r++[k])).Nodup
  refine eD.mpr ⟨fun m=>?_,nd_snoc h2 fun m=>hk (aZ.mpr (lX m))⟩
  rcases cQ.mp m with q|q
  ·exact h1 q
  ·exact hk (aZ.mpr (aQ (aO.mp q).symm))
end
theorem nd_ix{α:Type}{l:List α}(hN:l.Nodup){i j:Nat}{x:α}(a:l[i]?=some x)(b:l[j]?=some x):i=j:=by
 obtain⟨h1,e1⟩:=bj.mp a
 obtain⟨h2,e2⟩:=bj.mp b
 exact(xr hN).mp (e1.trans e2.symm)
theorem aC.made{H H1:Hp}{x dx C:aa}(nx:H x=sx)(nd:H dx=sx)(k:∀b o,(upd (upd H dx (.own x)) x (.ins C dx [])) b=some o->b≠x->H1 b=some o):aC H H1:=fun b o e=>
 k b o (by rw[ak (bg e nx),ak (bg e nd)];exact e) (bg e nx)
def keep2(o o':az):Prop:=∀vs,o.data=.fields vs->∃vs',o'.data=.fields vs'/\vs'[2]?=vs[2]?
def K2(h h':aA):Prop:=∀b o,h.get? b=some o->∀vs,o.data=.fields vs->∃o' vs',h'.get? b=some o'/\o'.data=.fields vs'/\vs'[2]?=vs[2]?
theorem K2.refl(h:aA):K2 h h:=fun _ o e vs d=>⟨o,vs,e,d,rfl⟩
theorem K2.trans{h1 h2 h3:aA}(a:K2 h1 h2)(b:K2 h2 h3):K2 h1 h3:=fun c o e vs d=>by
 obtain⟨o1,v1,e1,d1,q1⟩:=a c o e vs d
 obtain⟨o2,v2,e2,d2,q2⟩:=b c o1 e1 v1 d1
 exact⟨o2,v2,e2,d2,q2.trans q1⟩
theorem K2.push{h h':aA}(a:K2 h h')(ob:az):K2 h (h'.push ob):=fun c o e vs d=>by
 obtain⟨o1,v1,e1,d1,q1⟩:=a c o e vs d
 exact⟨o1,v1,cD _ e1,d1,q1⟩
theorem K2.update{h h':aA}(a:K2 h h'){c:aa}{f:az->az}(hf:∀o,keep2 o (f o)):K2 h (h'.update c f):=fun b o e vs d=>by
 obtain⟨o1,v1,e1,d1,q1⟩:=a b o e vs d
 by_cases hb:c=b
 ·subst hb
  obtain⟨v2,d2,q2⟩:=hf o1 v1 d1
  exact⟨_,v2,iZ f e1 (vT d2),d2,q2.trans q1⟩
 ·exact⟨o1,v1,by rw[iy _ _ hb];exact e1,d1,q1⟩
inductive cO {α:Type}:dY α->Prop
 |pure (a:α):cO (.pure a)
 |raise (e:af):cO (.raise e)
 |uns (w:String):cO (.unsupported w)
 |load {a:aa} {p:Option af} {k:az->dY α} (h:∀o,cO (k o)):cO (.load a p k)
 |upd {a:aa} {p:Option af} {f:az->az} {k:Unit->dY α} (hf:∀o,keep2 o (f o)) (h:∀u,cO (k u)):cO (.update a p f k)
 |alloc {o:az} {k:aa->dY α} (h:∀a,cO (k a)):cO (.alloc o k)
 |stack {k:List (Code×bN)->dY α} (h:∀l,cO (k l)):cO (.stack k)
theorem cO.bind{α β:Type}{m:dY α}{f:α->dY β}(hm:cO m)(hf:∀a,cO (f a)):cO (m >>= f):=by
 show cO (Sem.bind m f)
 induction hm with
 |pure a=>exact hf a
 |raise e=>exact .raise e
 |uns w=>exact .uns w
 |load h ih=>exact .load ih
 |upd g h ih=>exact .upd g ih
 |alloc h ih=>exact .alloc ih
 |stack h ih=>exact .stack ih
theorem cO.wp{α:Type}{t:dY α}(hm:cO t){M:gX}{Γ :PySem.Ctx}{Q:α->bN->ah->Prop}{E:af->bN->ah->Prop}{h0:aA}:∀{p:bN} {s:ah},K2 h0 s.heap->jA M Γ t Q E p s -> jA M Γ t (fun a p s'=>Q a p s'/\K2 h0 s'.heap) E p s:=by
 induction hm with
 |pure a=>intro p s k h;simp only[jA]at h ⊢;exact⟨h,k⟩
 |raise e=>intro p s k h;simp only[jA]at h ⊢;exact h
 |uns w=>intro p s k h;simp only[jA]at h
 |load hh ih=>intro p s k h;simp only[jA]at h ⊢;obtain⟨o,e,q⟩:=h;exact⟨o,e,ih o k q⟩
 |upd g hh ih=>intro p s k h;simp only[jA]at h ⊢;exact⟨h.1,ih () (k.update g) h.2⟩
 |alloc hh ih=>intro p s k h;simp only[jA]at h ⊢;exact ih _ (k.push _) h
 |stack hh ih=>intro p s k h;simp only[jA]at h ⊢;exact ih _ k h
theorem cO.any{α:Type}{t:dY α}(hm:cO t){M:gX}{A:bD}{Q:α->ah->Prop}{E:af->ah->Prop}{s:ah}(h:wpAny M A t Q E s):wpAny M A t (fun a s'=>Q a s'/\K2 s.heap s'.heap) E s:=
 fun Γ p hΓ=>hm.wp (K2.refl _) (h Γ p hΓ)
theorem mild_load{a:aa}:cO (load a):=.load fun _=>.pure _
theorem mild_stack:cO stack:=.stack fun _=>.pure _
theorem mild_fieldsOf(v:af):cO (fieldsOf v):=by
 unfold fieldsOf
 split
 ·refine .bind mild_load fun o=>?_
  split
  ·exact .pure _
  ·exact .uns _
 ·exact .uns _
theorem qT(v:af)(i:Nat):cO (field v i):=by
 unfold field
 refine .bind (mild_fieldsOf v) fun vs=>?_
 split
 ·exact .pure _
 ·exact .uns _
theorem keep2_map{i:Nat}{v:af}(hi:i≠2)(o:az):keep2 o (gj (·.setIfInBounds i v) o):=fun vs d=>
 ⟨_,so d _,by rw[Array.getElem?_setIfInBounds_ne hi]⟩
theorem tx{v x:af}{i:Nat}(hi:i≠2):cO (setField v i x):=by
 unfold setField
 split
 ·unfold updateField
  refine .bind mild_load fun o=>?_
  split
  ·split
   ·exact .upd (fun o=>keep2_map hi o) fun _=>.pure _
   ·exact .uns _
  ·exact .uns _
 ·exact .uns _
theorem oQ{e:af}{f:Option aa}:cO (setFlight e f):=by
 unfold setFlight
 refine .bind (qT _ _) fun tb=>?_
 split
 ·exact tx (by decide)
 ·exact .pure _
theorem mild_import(env:cg)(outer:List cg):cO (behindIsImport env outer):=by
 unfold behindIsImport
 split
 ·exact .pure _
 ·split
  ·exact .pure _
  ·exact .bind (qT _ _) fun _=>.pure _
theorem mild_caller:cO underTheClaimsCaller:=.bind mild_stack fun _=>.pure _
theorem mild_back(env:cg)(b:Bool)(l:List cg):cO (keptBack env b l):=by
 unfold keptBack
 split
 ·split
  ·exact .pure _
  ·exact .bind mild_caller fun _=>.pure _
 ·exact .pure _
theorem mild_ready:∀l:List cg,cO (readyFrames l)
 |[]=>.pure _
 |env :: outer=>by
  unfold readyFrames
  split
  ·refine .bind mild_load fun o=>?_
   split
   ·exact .pure _
   ·refine .bind (mild_import _ _) fun b=>.bind (mild_back _ _ _) fun v=>.bind (.upd (fun o vs d=>⟨vs,d,rfl⟩) fun _=>.pure _) fun _=>mild_ready outer
  ·exact .uns _
theorem mild_frameOf(env:cg):cO (uH env):=by
 unfold uH
 refine .bind (.bind mild_stack fun _=>.pure _) fun l=>.bind ?_ fun o=>?_
 ·unfold frameObject
  split
  ·exact .pure _
  ·exact .bind (mild_ready _) fun _=>.pure _
 ·split
  ·exact .pure _
  ·exact .uns _
theorem mild_place(f:aa)(b:Bool):cO (entryPlaceOf f b):=by
 unfold entryPlaceOf
 refine .bind mild_stack fun l=>?_
 split<;>exact .pure _
theorem mild_newFields(t:String)(vs:List af):cO (newFields t vs):=by
 unfold newFields newObj newObjAsIs
 dsimp only
 by_cases h:vs.toArray.size > sizeLine+2
 ·rw[if_pos h]
  exact .bind (.uns _) fun _=>.bind (.alloc fun _=>.pure _) fun _=>.pure _
 ·rw[if_neg h]
  exact .bind (.alloc fun _=>.pure _) fun _=>.pure _
theorem mild_entry(a b c d e:af)(l:List af):cO (zf a b c d e l):=mild_newFields _ _
theorem mild_note(e:af)(env:cg):cO (noteFrame e env):=by
 unfold noteFrame
 split
 ·refine .bind (qT _ _) fun head=>?_
  have tl:∀f b,cO (do setField e 1 (<-zf head (<-uH env) .none (rawInt f) .none (<-entryPlaceOf f b))):=fun f b=>
   .bind (mild_frameOf _) fun _=>.bind (mild_place _ _) fun _=>.bind (mild_entry _ _ _ _ _ _) fun _=>tx (by decide)
  split
  ·refine .bind (qT _ _) fun x=>?_
   split
   ·exact .pure _
   ·exact .bind (tx (by decide)) fun _=>tl _ _
  ·exact tl _ _
 ·exact .uns _
theorem mild_leaving(env:cg)(e:af):cO (leaving env e):=.bind (mild_note _ _) fun _=>oQ
theorem dk.there{P:aU}{w:aM}{H:Hp}{h:aA}{a:aa}{o:HO}(x:dk P w H h a o):∃ob,h.get? a=some ob:=by
 cases o with
 |lst xs=>obtain⟨_,_,_,_,e⟩:=x;exact⟨_,e⟩
 |tup xs=>obtain⟨_,_,_,ob,e,_⟩:=x;exact⟨_,e⟩
 |dK kvs=>obtain⟨_,_,_,_,ob,_,_,e,_⟩:=x;exact⟨_,e⟩
 |dT kvs=>obtain⟨_,_,_,_,ob,_,_,e,_⟩:=x;exact⟨_,e⟩
 |set S n=>obtain⟨ob,_,_,_,e,_⟩:=x;exact⟨_,e⟩
 |ins C dx fs=>obtain⟨_,_,_,e,_⟩:=x;exact⟨_,e⟩
 |own y=>exact x
 |xd fs=>obtain⟨_,⟨_,_,_,e,_⟩,_⟩:=x;exact⟨_,e⟩
 |rng lo hi=>obtain⟨_,_,_,e⟩:=x;exact⟨_,e⟩
 |bM ob u=>obtain⟨e,_⟩:=x;exact⟨_,e⟩
 |bz ps=>exact⟨_,show h.get? a=some _ from x⟩
 |met f y=>exact⟨_,show h.get? a=some _ from x⟩
 |ext φ=>obtain⟨_,e,_⟩:=x;exact e
theorem HOk.none_of{P:aU}{w:aM}{H:Hp}{h:aA}{a:aa}(x:HOk P w H h)(e:h.get? a=none):H a=none:=by
 cases q:H a with
 |none=>rfl
 |some o=>
  obtain⟨ob,z⟩:=(x a o q).there
  rw[e]at z;cases z
section
variable{X:Cx}{pins:List (aa×az)}{σ:St}{H H':Hp}{s:ah}{h':aA}
theorem Inv.fsFree(I:Inv X pins σ H s):∀b∈X.fs,H b=none:=fun b hb=>by
 obtain⟨_,o,ho,_⟩:=I.ok.funs.mem hb
 exact I.base.free b o ho (I.ok.frf b hb) fun z=>I.ok.exfs b z hb
theorem Inv.old(I:Inv X pins σ H s)(hex:X.ex=[]){b:aa}(e:s.heap.get? b=none):X.s_0.heap.get? b=none:=by
 cases q:X.s_0.heap.get? b with
 |none=>rfl
 |some o=>
  obtain⟨o',z⟩:=I.base.there b o q (by rw[hex];simp)
  rw[e]at z;cases z
theorem Inv.stepN{ch:List aa}(I:Inv X pins σ H s)(hch:∀b∈ch,X.s_0.heap.get? b=none/\H b=none/\b≠X.env.locals/\b∉X.fs/\(∀x c,X.env.cells.lookup x=some c->c≠b)/\∀p∈X.pn++pins,p.1≠b)(keep:∀b o,b≠X.env.locals->b∉X.fs->b∉ch->s.heap.get? b=some o->h'.get? b=some o)(slot:∀b o,(b=X.env.locals\/b∈X.fs)->s.heap.get? b=some o->∃sl,h'.get? b=some {o with slots:=sl}):Inv X pins σ H {s with heap:=h'}:=by
 have neL:∀b o,X.s_0.heap.get? b=some o->b≠X.env.locals:=fun b o e=>dR (du (cy e) I.ok.above)
 have neC:∀b o,X.s_0.heap.get? b=some o->b∉ch:=fun b o e hb=>by
  have z:=(hch b hb).1
  rw[e]at z;cases z
 have any:∀b o,b∉ch->s.heap.get? b=some o->∃sl,h'.get? b=some {o with slots:=sl}:=fun b o hc e=>by
  by_cases h1:b=X.env.locals\/b∈X.fs
  ·exact slot b o h1 e
  ·exact⟨o.slots,keep b o (fun z=>h1 (.inl z)) (fun z=>h1 (.inr z)) hc e⟩
 have cellK:∀x c,X.env.cells.lookup x=some c->∀v,s.heap.IsCell c v->h'.IsCell c v:=fun x c e v ⟨o,ho,hd⟩=>by
  have nch:c∉ch:=fun z=>(hch c z).2.2.2.2.1 x c e rfl
  obtain⟨sl,q⟩:=any c o nch ho
  exact⟨_,q,hd⟩
 refine⟨I.ok,I.os,I.bare,⟨fun b o e n hb hx=>?_,fun b o e n hb hx=>?_,fun b o e n hx=>I.base.free b o e n hx,fun b o e hx=>?_,fun b xs e=>I.base.tups b xs e,fun b o xs e=>I.base.frzs b o xs e,fun b ps e=>I.base.tbls b ps e⟩,?_,fun x c e=>?_,I.free,fun x c e=>I.fR x c e,fun p hp=>?_,fun b o e=>?_,I.len⟩
 ·exact keep b o (neL b o e) hb (neC b o e) (I.base.keep b o e n hb hx)
 ·obtain⟨sl,e1⟩:=I.base.slot b o e n hb hx
  obtain⟨sl',e2⟩:=slot b _ (.inr hb) e1
  exact⟨sl',e2⟩
 ·obtain⟨o',e1⟩:=I.base.there b o e hx
  obtain⟨sl,e2⟩:=any b o' (neC b o e) e1
  exact⟨_,e2⟩
 ·obtain⟨m,⟨o,es,ep,ho,r⟩,hl⟩:=I.loc
  obtain⟨sl,e⟩:=slot _ o (.inl rfl) ho
  refine⟨m,⟨_,es,ep,e,r⟩,fun i x v e1 e2 e3=>?_⟩
  obtain⟨u,ru,l⟩:=hl i x v e1 e2 e3
  refine⟨u,ru,?_⟩
  rcases l with l|⟨k,c,e,z⟩
  ·exact .inl l
  ·exact .inr ⟨k,c,e,cellK x c e _ z⟩
 ·obtain⟨v,z⟩:=I.cell x c e
  exact⟨v,cellK x c e v z⟩
 ·obtain⟨e,n,ne,nf,d⟩:=I.pin p hp
  exact⟨keep p.1 p.2 ne nf (fun z=>(hch p.1 z).2.2.2.2.2 p hp rfl) e,n,ne,nf,d⟩
 ·have nt:∀c u,H c=some u->c≠X.env.locals/\c∉X.fs/\c∉ch:=fun c u q=>
   ⟨fun z=>(by rw[z,I.free]at q;cases q),fun z=>(by rw[I.fsFree c z]at q;cases q),fun z=>(by rw[(hch c z).2.1]at q;cases q)⟩
  refine(I.aG b o e).stay (fun c u hc q=>?_) (fun _ q=>q) fun _ _ q=>q
  have n3:c≠X.env.locals/\c∉X.fs/\c∉ch:=by
   rcases hc with z|z
   ·rw[z];exact nt b o e
   ·exact nt c _ z
  exact keep c u n3.1 n3.2.1 n3.2.2 q
end
def C2(h:aA)(a:aa):Prop:=∃(o:az) (vs:Array af),h.get? a=some o/\o.data=.fields vs/\vs[2]?=some .none
theorem C2.on{h h':aA}{a:aa}(c:C2 h a)(k:K2 h h'):C2 h' a:=by
 obtain⟨o,vs,e,d,q⟩:=c
 obtain⟨o',vs',e',d',q'⟩:=k a o e vs d
 exact⟨o',vs',e',d',q'.trans q⟩
def Rec(h:aA)(a C:aa)(a0:af)(T:aa)(fl:af):Prop:=
 ∃(oe:az) (vs:Array af) (oT:az) (ts:Array af),h.get? a=some oe/\(oe.cls=.ref C/\vs[0]?=some a0)/\oe.data=.fields vs/\vs[1]?=some (.ref T)/\T≠a/\h.get? T=some oT/\oT.data=.fields ts/\ts[3]?=some fl
structure Fly (h0 h:aA) (H:Hp) (a C:aa) (q:Option aa):Prop where
 new:h0.get? a=none
 fr:H a=none
 ex:∃a0 T,h0.get? T=none/\H T=none/\Rec h a C a0 T .none
 c2:q=none->C2 h a
def aB(P:aU)(w:aM):CXT:=fun outer H s E e s'=>∃a C q H',e=.ref a/\s'.os=s.os/\kY s'.gens/\Un (cu outer) [] H H' s.heap s'.heap/\HOk P w H' s'.heap/\Fly s.heap s'.heap H' a C q/\E (.ref C) q H'
def Off(X:Cx)(pins:List (aa×az))(H:Hp)(b:aa):Prop:=
 X.s_0.heap.get? b=none/\H b=none/\b≠X.env.locals/\b∉X.fs/\(∀x c,X.env.cells.lookup x=some c->c≠b)/\∀p∈X.pn++pins,p.1≠b
structure gq (X:Cx) (pins:List (aa×az)) (H:Hp) (h:aA) (a C:aa) (a0:af) (fl:af):Prop where
 na:Off X pins H a
 ex:∃T,Off X pins H T/\Rec h a C a0 T fl
def HeldAt(base:aA)(l:List cg)(e:aa)(cls a0 fl:af)(h:aA):Prop:=
 base.StaysIn h/\base.get? e=none/\h.FunFrames base l/\h.TracedAtW base e cls a0 fl
section
variable{X:Cx}{pins:List (aa×az)}{σ:St}{H H':Hp}{s s':ah}{M:gX}{E:XK}{E':af->ah->Prop}{a C:aa}{a0 fl e:af}{q:Option aa}
theorem frs_in{l:List cg}{as:List aa}(h:∀b∈cu l,b∈as):∀env∈l,∀a,env.frame=some a->a∈as:=fun env he a hf=>h a (pO.mpr ⟨env,he,hf⟩)
structure Own (X:Cx):Prop where
 st:X.stack=X.env ::X.outer
 fr:X.env.frame=some X.env.locals
 ex:X.ex=[]
theorem Own.mem(O:Own X){b:aa}:b∈cu X.stack↔b=X.env.locals\/b∈X.fs:=by
 rw[O.st]
 show b∈cu (X.env ::X.outer)↔_
 unfold cu
 rw[pN,O.fr]
 exact aZ
theorem Inv.off(O:Own X)(I:Inv X pins σ H s){b:aa}(e:s.heap.get? b=none):Off X pins H b:=by
 refine⟨I.old O.ex e,I.aG.none_of e,fun z=>?_,fun z=>?_,fun x c q z=>?_,fun p hp z=>?_⟩
 ·obtain⟨m,⟨o,es,ep,ho,_⟩,_⟩:=I.loc
  rw[<-z,e]at ho;cases ho
 ·obtain⟨_,o',cS,_⟩:=I.stack.mem (O.mem.mpr (.inr z))
  rw[e]at cS;cases cS
 ·obtain⟨v,o,ho,_⟩:=I.cell x c q
  rw[z,e]at ho;cases ho
 ·have:=(I.pin p hp).1
  rw[z,e]at this;cases this
theorem ground(O:Own X)(I:Inv X pins σ H s)(F:gq X pins H s.heap a C a0 fl):∃B:aA,HeldAt B (X.env ::X.outer) a (.ref C) a0 fl s.heap /\ ∀(h2:aA) (fl2:af),B.StaysIn h2->h2.TracedAtW B a (.ref C) a0 fl2->s.heap.UpToSlots h2->Inv X pins σ H {s with heap:=h2}/\gq X pins H h2 a C a0 fl2:=by
 obtain⟨T,oT',oe,vs,oT,ts,g1,g2,g3,g4,g7,g8,g9,g10⟩:=F.ex
 have n1:a∉cu X.stack:=fun z=>(O.mem.mp z).elim F.na.2.2.1 F.na.2.2.2.1
 have n2:T∉cu X.stack:=fun z=>(O.mem.mp z).elim oT'.2.2.1 oT'.2.2.2.1
 have hfl:HeldAt (ik s.heap (a ::T ::cu X.stack)) (X.env ::X.outer) a (.ref C) a0 fl s.heap:=by
  refine⟨fun b o q=>nN _ q,rC _ (by simp),?_,oe,vs,T,oT,ts,g1,g2,g3,g4,rC _ (by simp),g7,g8,g9,g10⟩
  have:=rF (as:=a ::T ::cu X.stack) I.stack (frs_in fun b hb=>by simp[hb])
  rw[O.st]at this ⊢
  exact this
 refine⟨_,hfl,fun h2 fl2 hst htr cJ=>?_⟩
 have hid:∀b o,s.heap.get? b=some o->b∉cu X.stack->b≠a->b≠T->(ik s.heap (a ::T ::cu X.stack)).get? b=some o:=fun b o q m1 m2 m3=>lP _ q (by
  intro z
  rcases aZ.mp z with z|z
  ·exact m2 z
  ·rcases aZ.mp z with z|z
   ·exact m3 z
   ·exact m1 z)
 have sl:∀b o,s.heap.get? b=some o->b∈cu X.stack->(∀vs,o.data≠.fields vs)/\∃sl,h2.get? b=some {o with slots:=sl}:=fun b o q n=>by
  obtain⟨_,o',cS,hd⟩:=I.stack.mem n
  rw[q]at cS;cases cS
  exact⟨hd,cJ b o q hd⟩
 have J2:Inv X pins σ H {s with heap:=h2}:=I.stepN (ch:=[a,T]) (fun b hb=>by
   simp only[aZ,dC,or_false]at hb
   rcases hb with z|z
   ·rw[z];exact F.na
   ·rw[z];exact oT')
  (fun b o m1 m2 m3 q=>hst b o (hid b o q (fun z=>(O.mem.mp z).elim m1 m2) (fun z=>m3 (by simp[z])) fun z=>m3 (by simp[z]))) fun b o hb q=>(sl b o q (O.mem.mpr hb)).2
 refine⟨J2,F.na,?_⟩
 obtain⟨oe',vs',T',oT2,ts',k1,k2,k3,k4,k5,k6,k7,k8,k9⟩:=htr
 refine⟨T',?_,oe',vs',oT2,ts',k1,k2,k3,k4,k6,k7,k8,k9⟩
 by_cases z:T'=T
 ·rw[z];exact oT'
 ·cases q:s.heap.get? T' with
  |none=>exact I.off O q
  |some o=>
   by_cases hT:T'∈cu X.stack
   ·obtain⟨hd,sl',y⟩:=sl T' o q hT
    rw[k7]at y
    cases y
    exact absurd k8 (hd ts')
   ·rw[hid T' o q hT k6 z]at k5
    cases k5
theorem gq.fly(F:gq X pins H s.heap a C a0 .none)(c:q=none->C2 s.heap a):Fly X.s_0.heap s.heap H a C q:=by
 obtain⟨T,oT,r⟩:=F.ex
 exact⟨F.na.1,F.na.2.1,⟨a0,T,oT.1,oT.2.1,r⟩,c⟩
theorem cxe_mk(O:Own X)(I:Inv X pins σ H s)(F:gq X pins H s.heap a C a0 .none)(c:q=none->C2 s.heap a)(hE:E (.ref C) q H):aB X.prog X.w X.outer X.H_0 X.s_0 E (.ref a) s:=by
 have hb:=I.base
 rw[O.ex]at hb
 exact⟨a,C,q,H,rfl,I.os,I.bare,hb,I.aG,F.fly c,hE⟩
theorem came(O:Own X)(I:Inv X pins σ H s)(hc:aB X.prog X.w X.stack H s E e s'):∃a C q H' a0,e=.ref a/\Inv X pins σ H' s'/\gq X pins H' s'.heap a C a0 .none/\(q=none->C2 s'.heap a)/\E (.ref C) q H':=by
 obtain⟨a,C,q,H',rfl,os,bare,un,aG,F,hE⟩:=hc
 have J:Inv X pins σ H' s':=I.call' (ch:=[]) os un aG bare (fun b z=>absurd z (by simp))
 obtain⟨a0,T,hT,hHT,r⟩:=F.ex
 have r':=r
 obtain⟨oe,vs,oT,ts,g1,g2,g3,g4,g7,g8,g9,g10⟩:=r'
 have fa:∀b vs',(∃ob:az,s'.heap.get? b=some ob/\ob.data=.fields vs')->b∉cu X.stack:=fun b vs' ⟨ob,q,d⟩ hb=>by
  obtain⟨_,o',cS,hd⟩:=J.stack.mem hb
  rw[q]at cS;cases cS
  exact hd vs' d
 have own:∀b,s.heap.get? b=none->H' b=none->b∉cu X.stack->Off X pins H' b:=fun b k0 kH kf=>by
  refine⟨I.old O.ex k0,kH,fun z=>kf (O.mem.mpr (.inl z)),fun z=>kf (O.mem.mpr (.inr z)),fun x c q z=>?_,fun p hp z=>?_⟩
  ·obtain⟨v,o,ho,_⟩:=I.cell x c q
   rw[z,k0]at ho;cases ho
  ·have:=(I.pin p hp).1
   rw[z,k0]at this;cases this
 exact⟨a,C,q,H',a0,rfl,J,⟨own a F.new F.fr (fa a vs ⟨oe,g1,g3⟩),T,own T hT hHT (fa T ts ⟨oT,g8,g9⟩),r⟩,F.c2,hE⟩
theorem Inv.frms(O:Own X)(I:Inv X pins σ H s):X.A.frames=some (X.env ::X.outer):=by rw[I.ok.frames,O.st]
theorem pass_leaves(O:Own X)(I:Inv X pins σ H s)(hc:aB X.prog X.w X.stack H s E e s') :wpAny M X.A (leaving X.env e) (fun _ s''=>aB X.prog X.w X.outer X.H_0 X.s_0 E e s'') E' s':=by
 obtain⟨a,C,q,H',a0,rfl,J,F,c,hE⟩:=came O I hc
 obtain⟨B,hB,far⟩:=ground O J F
 refine aW ((mild_leaving X.env (.ref a)).any (wpAny_leaves_onW (Q:=fun _ s2=>∃h2,s2 = {s' with heap:=h2}/\p6 B X.outer a (.ref C) a0 h2/\s'.heap.UpToSlots h2) (J.frms O) O.fr hB fun h2 hf cJ=>⟨h2,rfl,hf,cJ⟩)) fun _ s2 ⟨⟨h2,e2,hf,cJ⟩,k2⟩=>?_
 subst e2
 obtain⟨J2,F2⟩:=far h2 .none hf.1 hf.2.2.2 cJ
 exact cxe_mk O J2 F2 (fun z=>(c z).on k2) hE
theorem held_leaves(O:Own X)(I:Inv X pins σ H s)(F:gq X pins H s.heap a C a0 (rawInt X.env.locals))(c:q=none->C2 s.heap a)(hE:E (.ref C) q H) :wpAny M X.A (leaving X.env (.ref a)) (fun _ s''=>aB X.prog X.w X.outer X.H_0 X.s_0 E (.ref a) s'') E' s:=by
 obtain⟨B,hB,far⟩:=ground O I F
 unfold leaving
 refine aq (wpAny_noteFrame_againW O.fr hB.2.2.2 ?_)
 refine aW (oQ.any (wpAny_landsW (Q:=fun _ s2=>∃h2,s2 = {s with heap:=h2}/\p6 B (X.env ::X.outer) a (.ref C) a0 h2/\s.heap.UpToSlots h2) hB fun h2 hf cJ=>⟨h2,rfl,hf,cJ⟩)) fun _ s2 ⟨⟨h2,e2,hf,cJ⟩,k2⟩=>?_
 subst e2
 obtain⟨J2,F2⟩:=far h2 .none hf.1 hf.2.2.2 cJ
 exact cxe_mk O J2 F2 (fun z=>(c z).on k2) hE
theorem made_leaves(O:Own X)(I:Inv X pins σ H s){hm:aA}(hx:r8 s.heap hm a (.ref C) [])(hE:E (.ref C) none H) :wpAny M X.A (leaving X.env (.ref a)) (fun _ s''=>aB X.prog X.w X.outer X.H_0 X.s_0 E (.ref a) s'') E' {s with heap:=hm}:=by
 have hkb:(ik s.heap (cu X.stack)).StaysIn s.heap:=fun b o q=>nN _ q
 have hl:s.heap.FunFrames (ik s.heap (cu X.stack)) (X.env ::X.outer):=by
  have:=rF (as:=cu X.stack) I.stack (frs_in fun b hb=>hb)
  rw[O.st]at this ⊢
  exact this
 refine aW ((mild_leaving X.env (.ref a)).any (wpAny_leaves_madeW (Q:=fun _ s2=>∃h2 t,s2 = {s with heap:=h2}/\p6 (ik s.heap (cu X.stack)) X.outer a (.ref C) (.ref t) h2/\hm.UpToSlots h2) (I.frms O) O.fr hkb hl hx fun h2 t hfl _ _ cJ=>⟨h2,t,rfl,hfl,cJ⟩)) fun _ s2 ⟨⟨h2,t,e2,hfl,cJ⟩,k2⟩=>?_
 subst e2
 have kp:∀b o,s.heap.get? b=some o->b∉cu X.stack->h2.get? b=some o:=fun b o q n=>hfl.1 b o (lP _ q n)
 have sl:∀b o,s.heap.get? b=some o->b∈cu X.stack->(∀vs,o.data≠.fields vs)/\∃sl,h2.get? b=some {o with slots:=sl}:=fun b o q n=>by
  obtain⟨_,o',cS,hd⟩:=I.stack.mem n
  rw[q]at cS;cases cS
  exact⟨hd,cJ b o (hx.keeps b o q) hd⟩
 have J:Inv X pins σ H {s with heap:=h2}:=I.stepN (ch:=[]) (fun b hb=>absurd hb (by simp)) (fun b o n1 n2 _ q=>kp b o q fun z=>(O.mem.mp z).elim n1 n2) fun b o hb q=>(sl b o q (O.mem.mpr hb)).2
 obtain⟨_,_,_,oe,vs,T,oT,ts,g1,g2,g3,g4,g5,g6,g7,g8,g9⟩:=hfl
 have nT:s.heap.get? T=none:=by
  cases q:s.heap.get? T with
  |none=>rfl
  |some o=>
   by_cases hT:T∈cu X.stack
   ·obtain⟨hd,sl',z⟩:=sl T o q hT
    rw[g7]at z
    cases z
    exact absurd g8 (hd ts)
   ·rw[lP _ q hT]at g5
    cases g5
 obtain⟨t',ht',_,_⟩:=hx.there
 have c0:C2 hm a:=⟨_,_,ht',rfl,rfl⟩
 exact cxe_mk (q:=none) O J (a:=a) (C:=C) (a0:=.ref t) ⟨I.off O hx.new,T,I.off O nT,oe,vs,oT,ts,g1,g2,g3,g4,g6,g7,g8,g9⟩ (fun _=>c0.on k2) hE
end
structure Takes (X:Cx) (E:XK):Prop where
 made:∀(pins:List (aa×az)) (σ:St) (H:Hp) (s:ah) (hm:aA) (a C:aa),Inv X pins σ H s->r8 s.heap hm a (.ref C) []->E (.ref C) none H->X.xe (.ref a) {s with heap:=hm}
 pass:Passes (aB X.prog X.w) X E
 held:∀(pins:List (aa×az)) (σ:St) (H:Hp) (s:ah) (a C:aa) (a0:af) (q:Option aa),Inv X pins σ H s->gq X pins H s.heap a C a0 (rawInt X.env.locals)->(q=none->C2 s.heap a)->E (.ref C) q H->X.xe (.ref a) s
theorem takes_body{P:aU}{w:aM}{K:ay}{mg:ag->Option af}{base:aA}{N:List ag}{qual:ag}{scope:dc}{f:aa}{cd:af}{A:bD}{outer:List cg}{s:ah}{H:Hp}{E:XK} :Takes (cxOf (aB P w) P w K mg base N qual scope f cd A outer s H E) E:=by
 have O:Own (cxOf (aB P w) P w K mg base N qual scope f cd A outer s H E):=⟨rfl,rfl,rfl⟩
 exact⟨fun pins σ H' s' hm a C I hx hE=>made_leaves O I hx hE,fun pins σ H' s' e s'' I hc=>pass_leaves O I hc,fun pins σ H' s' a C a0 q I F c hE=>held_leaves O I F c hE⟩
abbrev ja:List af:=[.type "Exception",.type "BaseException",.type "object"]
structure Xc (K:ay) (mg:ag->Option af) (x:ag) (C:aa):Prop where
 mgx:mg x=some (.ref C)
 exc:ju K C ja "Exception.__new__" = true
theorem Xc.own{K:ay}{mg:ag->Option af}{x:ag}{C:aa}{h:aA}(c:Xc K mg x C)(KX:K.In h):OwnCls x C ja "Exception.__new__" mg h:=by
 refine⟨c.mgx,?_⟩
 have z:=c.exc
 unfold ju at z
 split at z
 ·rename_i dd cl sl lk
  split at z
  ·rename_i C1 bm k0 k1 k2 k3 n1 k5 hm hs
   simp only[gh,beq_iff_eq,Bool.not_eq_true']at z
   obtain⟨⟨⟨⟨⟨rfl,rfl⟩,ndel⟩,tl⟩,okN⟩,noI⟩:=z
   obtain⟨nm,bs,mro,ns,qn,hd,sn,sub,ab,col,del⟩:=cl
   dsimp only at hm ndel okN noI
   subst hm
   subst ndel
   obtain⟨sll⟩:=sl
   have es:sll=[k0,k1,k2,k3,some (.builtin "Exception.__new__"),k5]:=hs
   subst es
   have n1:=PySem.W.isNs_of_in KX okN
   exact⟨bm,ns,nm,qn,bs,hd,sn,sub,ab,col,dd,k0,k1,k2,k3,k5,_,KX _ _ lk,Heap.Ns.of_isNs n1,PySem.W.nsMap_none_of_in KX okN noI,PySem.W.tail_of_in KX tl⟩
  ·cases z
 ·cases z
theorem fO{X:Cx}{E:XK}{x:ag}{C:aa}{np c8 pos:bN}(T:Takes X E)(c:Xc X.K X.mg x C)(hg:Gl X x)(hc:X.calm=true)(hd:(x==("__debug__" :ag))=false:=by decide):
  PS X (.Raise (some (.Call (.Name x np) [] [] c8)) none pos) (fun _ _ H=>E (.ref C) none H):=by
 intro pins s σ H D I h
 have hh:=I.ok.hd hc
 obtain⟨tl,N,nm,q,bs,hdct,sn,sub,ab,col,dd,k0,k1,k2,k3,k5,mN,hC,hN,hni,TL⟩:=(c.own I.kIn).obj
 have ev:wpAny (model X.prog X.w) X.A (evalArgs (.ref C) true (backTo c8 (starEach [] X.env)) []) (fun b s2=>b.kw=[]/\b.pos.length<=sizeLine/\s2.heap.get? C=some (excClassObj nm q C N bs tl hdct sn sub ab col dd k0 k1 k2 k3 k5 "Exception.__new__")/\s2.heap.Ns N mN /\
   OwnTail s2.heap ja tl/\∀hm a,r8 s2.heap hm a (.ref C) b.pos->X.xe (.ref a) {s2 with heap:=hm}) X.xe s:=
  evalArgs_empty ⟨rfl,de _,hC,hN,TL,fun hm a hx=>T.made pins σ H s hm a C I hx h⟩
 exact wpAny_Raise_call_subT sf (mN:=mN) (TL.hasType sf.hasBase) hh rfl hni (iN I hg c.mgx ⟨rfl,ev⟩ hd)
def Cx.fu(X:Cx)(a:aa):Cx:={X with A:=X.A.mark (some (.ref a)),calm:=false,xe:=fun _ _=>False}
section
variable{X:Cx}{pins:List (aa×az)}{σ:St}{H:Hp}{s:ah}{a:aa}
theorem Cx.Ok.fu(ok:X.Ok):(X.fu a).Ok:=
 ⟨ok.mod,ok.kind,ok.glob,ok.blt,ok.above,ok.inj,ok.has,ok.cab,fun z=>yi z,ok.frames,ok.stk,ok.exf,ok.bs,ok.bsz,ok.noex,ok.exfs,ok.funs,ok.frf⟩
theorem Cx.Ok.uncaught(ok:X.Ok):True:=trivial
theorem Inv.fu(I:Inv X pins σ H s):Inv (X.fu a) pins σ H s:=⟨I.ok.fu,I.os,I.bare,I.base,I.loc,I.cell,I.free,I.fR,I.pin,I.aG,I.len⟩
theorem Inv.uncaught(ok:X.Ok)(I:Inv (X.fu a) pins σ H s):Inv X pins σ H s:=⟨ok,I.os,I.bare,I.base,I.loc,I.cell,I.free,I.fR,I.pin,I.aG,I.len⟩
theorem SP.uncaught(ok:X.Ok){D:Ends}{f:Flow}(h:SP (X.fu a) pins D f s):SP X pins D f s:=by
 cases f with
 |next=>obtain⟨σ',H',I,q⟩:=h;exact⟨σ',H',I.uncaught ok,q⟩
 |brk=>obtain⟨σ',H',I,q⟩:=h;exact⟨σ',H',I.uncaught ok,q⟩
 |cont=>obtain⟨σ',H',I,q⟩:=h;exact⟨σ',H',I.uncaught ok,q⟩
 |ret u=>obtain⟨v,σ',H',I,r,q⟩:=h;exact⟨v,σ',H',I.uncaught ok,r,q⟩
end
structure Cl1 (X:Cx) (h:gY) (C:aa) (t:TS):Prop where
 ex:∃x np b0 suite pos,h=.ExceptHandler (some (.Name x np)) none (b0 ::suite) pos/\Gl X x/\X.mg x=some (.ref C)/\(x==("__debug__" :ag))=false/\∀a,PSs (X.fu a) (b0 ::suite) t
section
variable{X:Cx}{pins:List (aa×az)}{σ:St}{H:Hp}{s:ah}{a C C1:aa}{E:af->ah->Prop}{h1:gY}{rest:List gY}{t:TS}{D:Ends}{a0:af}{q:Option aa}
theorem qU{M:gX}{h:aA}{oe:az}(e:h.get? a=some oe):PySem.W.Looks M h (typeOf (.ref a)) oe.cls:=(zg e).andThen .now
theorem handle_no(I:Inv X pins σ H s)(c:Cl1 X h1 C1 t)(hm:bK X.K (.ref C) (.ref C1)=some false)(he:∃oe,s.heap.get? a=some oe/\oe.cls=.ref C)(hr:wpAny (model X.prog X.w) X.A (handleBy (.ref a) X.env rest) (SP X pins D) E s):wpAny (model X.prog X.w) X.A (handleBy (.ref a) X.env (h1 ::rest)) (SP X pins D) E s:=by
 obtain⟨x,np,b0,suite,pos,rfl,hg,hmg,hd,hb⟩:=c.ex
 obtain⟨oe,he,hcl⟩:=he
 refine rq (rz (iN (X:=X.fu a) I.fu hg hmg ?_ hd)) (by intro q;cases q)
 have L:=qU (M:=model X.prog X.w) he
 rw[hcl]at L
 exact(rG I.kIn L hm) _ _ _ _ (fun _ _ q=>q) hr
theorem gq.cls{h:aA}{fl:af}(F:gq X pins H h a C a0 fl):∃oe,h.get? a=some oe/\oe.cls=.ref C:=by
 obtain⟨T,_,oe,vs,oT,ts,g1,g2,_⟩:=F.ex
 exact⟨oe,g1,g2.1⟩
theorem handle_yes(O:Own X)(I:Inv X pins σ H s)(c:Cl1 X h1 C1 t)(hm:bK X.K (.ref C) (.ref C1)=some true)(F:gq X pins H s.heap a C a0 .none)(q:t D σ H) :wpAny (model X.prog X.w) X.A (handleBy (.ref a) X.env (h1 ::rest)) (SP X pins D) E s:=by
 obtain⟨x,np,b0,suite,pos,rfl,hg,hmg,hd,hb⟩:=c.ex
 obtain⟨oe,he,hcl⟩:=F.cls
 refine rq (rz (iN (X:=X.fu a) I.fu hg hmg ?_ hd)) (by intro q;cases q)
 have L:=qU (M:=model X.prog X.w) he
 rw[hcl]at L
 refine(rG I.kIn L hm) _ _ _ _ (fun _ _ q=>q) (xc ?_)
 obtain⟨B,hB,far⟩:=ground O I F
 refine lands_againW hB fun h2 hf2 cJ=>?_
 have J:=(far h2 .none hf2.1 hf2.2.2.2 cJ).1
 exact fD (hb a pins _ σ H D J.fu q) (fun f s2 z=>z.uncaught I.ok) fun _ _ z=>eS z
theorem handle_none(O:Own X)(I:Inv X pins σ H s){E:XK}(T:Takes X E)(F:gq X pins H s.heap a C a0 .none)(c:q=none->C2 s.heap a)(hE:E (.ref C) q H) :wpAny (model X.prog X.w) X.A (handleBy (.ref a) X.env []) (SP X pins D) X.xe s:=by
 obtain⟨T',oT,oe,vs,oT2,ts,g1,g2,g3,g4,g5⟩:=F.ex
 obtain⟨B,hB,far⟩:=ground O I F
 refine wpAny_handleBy_nil ?_
 unfold PySem.passOn
 refine aq (pJ g1 g3 g4 ?_)
 rw[if_neg (show ¬((bO T'==dv)=true) from by simp)]
 rw[O.fr]
 refine aq (aW (oQ.any (PySem.W.setFlight_onW (L:=X.env.locals) (Q:=fun _ s2=>∃h2,s2 = {s with heap:=h2}/\Heap.HeldW B (X.env ::X.outer) a (.ref C) a0 X.env.locals h2/\s.heap.UpToSlots h2) hB fun h2 hf cJ=>⟨h2,rfl,hf,cJ⟩)) fun _ s2 ⟨⟨h2,e2,hf,cJ⟩,k2⟩=>?_)
 subst e2
 obtain⟨J2,F2⟩:=far h2 (rawInt X.env.locals) hf.1 hf.2.2.2 cJ
 exact uG (T.held pins σ H _ a C a0 q J2 F2 (fun z=>(c z).on k2) hE)
end
def tryXe(X:Cx)(pins:List (aa×az))(D:Ends)(hs:List gY):af->ah->Prop:=fun e s1=>
 wpAny (model X.prog X.w) X.A (noteFrame e X.env) (fun _ s2=>wpAny (model X.prog X.w) X.A (setFlight e none) (fun _ s3=>wpAny (model X.prog X.w) X.A (handleBy e X.env hs) (SP X pins D) X.xe s3) X.xe s2) X.xe s1
abbrev Cx.gB(X:Cx)(pins:List (aa×az))(xe:af->ah->Prop):Cx:={X with xe:=xe,pn:=X.pn++pins}
section
variable{X:Cx}{pins pins':List (aa×az)}{σ:St}{H:Hp}{s:ah}{xe:af->ah->Prop}
theorem Cx.Ok.gB(ok:X.Ok):(X.gB pins xe).Ok:=
 ⟨ok.mod,ok.kind,ok.glob,ok.blt,ok.above,ok.inj,ok.has,ok.cab,ok.hd,ok.frames,ok.stk,ok.exf,ok.bs,ok.bsz,ok.noex,ok.exfs,ok.funs,ok.frf⟩
theorem Inv.gB(I:Inv X pins σ H s):Inv (X.gB pins xe) [] σ H s:=⟨I.ok.gB,I.os,I.bare,I.base,I.loc,I.cell,I.free,I.fR,fun p hp=>I.pin p (by
 rw[fV]at hp
 exact hp),I.aG,I.len⟩
theorem Inv.km(ok:X.Ok)(I:Inv (X.gB pins xe) pins' σ H s):Inv X pins σ H s:=⟨ok,I.os,I.bare,I.base,I.loc,I.cell,I.free,I.fR,fun p hp=>I.pin p (dZ _ hp),I.aG,I.len⟩
theorem SP.km(ok:X.Ok){D:Ends}{f:Flow}(h:SP (X.gB pins xe) pins' D f s):SP X pins D f s:=by
 cases f with
 |next=>obtain⟨σ',H',I,q⟩:=h;exact⟨σ',H',I.km ok,q⟩
 |brk=>obtain⟨σ',H',I,q⟩:=h;exact⟨σ',H',I.km ok,q⟩
 |cont=>obtain⟨σ',H',I,q⟩:=h;exact⟨σ',H',I.km ok,q⟩
 |ret u=>obtain⟨v,σ',H',I,r,q⟩:=h;exact⟨v,σ',H',I.km ok,r,q⟩
end
theorem try_comes{X:Cx}{pins pins':List (aa×az)}{σ:St}{H:Hp}{s s2:ah}{e:af}{xe:af->ah->Prop}{E:XK}{D:Ends}{hs:List gY}(O:Own X)(ok:X.Ok)(I1:Inv (X.gB pins xe) pins' σ H s)(hc:aB X.prog X.w X.stack H s E e s2)(k:∀(a C:aa) (q:Option aa) (H':Hp) (a0:af) (h5:aA),Inv X pins σ H' {s2 with heap:=h5}->gq X pins H' h5 a C a0 .none->(q=none->C2 h5 a)->E (.ref C) q H' -> wpAny (model X.prog X.w) X.A (handleBy (.ref a) X.env hs) (SP X pins D) X.xe {s2 with heap:=h5}):tryXe X pins D hs e s2:=by
 have I2:Inv X pins σ H s:=I1.km ok
 obtain⟨a,C,q,H',a0,rfl,J,F,c,hE⟩:=came O I2 hc
 obtain⟨B,hB,far⟩:=ground O J F
 unfold tryXe
 refine aW ((mild_note (.ref a) X.env).any (wpAny_looks_onW (Q:=fun _ s3=>∃h2,s3 = {s2 with heap:=h2}/\Heap.HeldW B (X.env ::X.outer) a (.ref C) a0 X.env.locals h2/\s2.heap.UpToSlots h2) (J.frms O) O.fr hB fun h2 hf cJ=>⟨h2,rfl,hf,cJ⟩)) fun _ s3 ⟨⟨h4,e4,hh4,sm4⟩,k4⟩=>?_
 subst e4
 refine aW (oQ.any (wpAny_landsW (Q:=fun _ s3=>∃h2,s3 = {s2 with heap:=h2}/\p6 B (X.env ::X.outer) a (.ref C) a0 h2/\h4.UpToSlots h2) hh4 fun h2 hf cJ=>⟨h2,rfl,hf,cJ⟩)) fun _ s3 ⟨⟨h5,e5,hf5,sm5⟩,k5⟩=>?_
 subst e5
 obtain⟨J5,F5⟩:=far h5 .none hf5.1 hf5.2.2.2 (sm4.trans sm5)
 exact k a C q H' a0 h5 J5 F5 (fun z=>(c z).on (k4.trans k5)) hE
inductive Cls2 (X:Cx):List gY->List (aa×TS)->Prop
 |nil:Cls2 X [] []
 |cons {h:gY} {C:aa} {t:TS} {hs:List gY} {ts:List (aa×TS)} (c:Cl1 X h C t) (r:Cls2 X hs ts):Cls2 X (h :: hs) ((C,t) :: ts)
def Pick(K:ay)(C:aa)(D:Ends)(H:Hp):List (aa×TS)->Prop
 |[]=>False
 |(C1,t) :: r=>(bK K (.ref C) (.ref C1)=some true/\∀σ,t D σ H)\/(bK K (.ref C) (.ref C1)=some false/\Pick K C D H r)
theorem handle_pick{X:Cx}{pins:List (aa×az)}{σ:St}{H:Hp}{s:ah}{a C:aa}{E:af->ah->Prop}{D:Ends}{a0:af}(O:Own X)(I:Inv X pins σ H s)(F:gq X pins H s.heap a C a0 .none):
  ∀{hs:List gY} {ts:List (aa×TS)},Cls2 X hs ts->Pick X.K C D H ts->wpAny (model X.prog X.w) X.A (handleBy (.ref a) X.env hs) (SP X pins D) E s
 |_,_,.nil,q=>q.elim
 |_,_,.cons c r,.inl ⟨m,q⟩=>handle_yes O I c m F (q σ)
 |_,_,.cons c r,.inr ⟨m,q⟩=>handle_no I c m F.cls (handle_pick O I F r q)
theorem ps_tryN{X:Cx}{body:List a6}{h1:gY}{hs:List gY}{ts:List (aa×TS)}{pos:bN}{tb:(XK->TS)}(O:Own X)(c:Cls2 X (h1 ::hs) ts)(hb:∀(pins:List (aa×az)) (xe:af->ah->Prop) (E:XK),Passes (aB X.prog X.w) (X.gB pins xe) E->PSs (X.gB pins xe) body (tb E)) :PS X (.Try body (h1 ::hs) [] [] pos) (fun D σ H=>tb (fun c _ H'=>∃C,c=.ref C/\Pick X.K C D H' ts) D σ H):=by
 intro pins s σ H D I h
 refine xf ?_
 refine fD (hb pins (tryXe X pins D (h1 ::hs)) _ (fun pins' σ' H1 s1 e s2 I1 hc=>?_) [] s σ H D I.gB h) (fun f s1 q=>?_) fun e s1 q=>q
 ·exact try_comes O I.ok I1 hc fun a C q H' a0 h5 J F _ hE=>by
   obtain⟨C',e1,p⟩:=hE
   obtain rfl:C=C':=by injection e1
   exact handle_pick O J F c p
 ·have q':=SP.km I.ok q
  cases f with
  |next=>exact nK q'
  |brk=>exact q'
  |cont=>exact q'
  |ret v=>exact q'
theorem entry_unchain:entryFor table "proto.unchain" = some iT.«proto.unchain»:=entryFor_of_fast (by kernel_rfl)
section
variable{M:gX}{A:bD}{E:af->ah->Prop}{env:cg}
variable{nm q:ag}{C N:aa}{bs bm:List af}{hdct:Bool}{sn:List ag}{sub:List af}{ab:Bool}{col:Option Bool}{dd:Option aa}{k0 k1 k2 k3 k5:Option af}{newId:String}
theorem raise_from{prog:aU}{w:aM}{s:ah}{x c:dY af}{Q:Flow->ah->Prop}{a:aa}(iD:bm.contains (.type "BaseException")=true)(hh:A.handled=some (.ref a))(hcn:∀(R:af->ah->Prop) (s:ah),R .none s->wpAny (model prog w) A c R E s)(h:wpAny (model prog w) A x (fun v s₁=>∃e t,v=.ref e/\e≠a/\e≠C/\C2 s₁.heap a/\s₁.heap.get? C=some (excClassObj nm q C N bs bm hdct sn sub ab col dd k0 k1 k2 k3 k5 newId) /\ s₁.heap.get? e=some {cls:=.ref C,data:=.fields #[.ref t,.none,.none,.none,.bool false,.none]} /\ ∀h2:aA,iY e s₁.heap h2->h2.get? e=some {cls:=.ref C,data:=.fields #[.ref t,.none,.ref a,.none,.bool true,.none]}->E (.ref e) {s₁ with heap:=h2}) E s) :wpAny (model prog w) A (raiseStmt env (some x) (some c)) Q E s:=by
 have hcB:(bO C ::bm).contains (.type "BaseException")=true:=by rw[List.contains_cons,iD,Bool.or_true]
 unfold raiseStmt
 refine aq (fD h (fun v s₁ h₁=>?_) fun _ _ x=>x)
 obtain⟨e,t,rfl,ha,hc,⟨oa,va,ha1,ha2,ha3⟩,hC,he,hE⟩:=h₁
 refine aq (gy (hcn _ _ ?_))
 obtain⟨hp,g,d,tk,os⟩:=s₁
 repeat (first|with_reducible refine xg he ?_|with_reducible refine xg hC ?_|(with_reducible refine wpAny_isSubtype_exc hC ?_;rw[hcB])|wp_step)
 have ba:(bO a != bO e)=true:=by
  rw[bne_iff_ne]
  intro z
  injection z with z
  exact ha z.symm
 have e1:=iZ (gj fun x=>x.setIfInBounds 3 dv) he rfl
 have e2:=iZ (gj fun x=>x.setIfInBounds 4 (hV true)) e1 rfl
 have a2:((hp.update e (gj fun x=>x.setIfInBounds 3 dv)).update e (gj fun x=>x.setIfInBounds 4 (hV true))).get? a=some oa:=by
  rw[iy _ _ ha,iy _ _ ha]
  exact ha1
 generalize hH:(hp.update e (gj fun x=>x.setIfInBounds 3 dv)).update e (gj fun x=>x.setIfInBounds 4 (hV true))=hq at e2 a2
 unfold raiseNew
 refine aq (wpAny_handled ?_)
 rw[hh]
 simp only[ba,if_true]
 refine aq (gy (wpAny_runValue (js entry_unchain ?_)))
 show wpAny _ _ (iT.«proto.unchain» ⟨[.ref e,.ref a,.ref a,.bool false],[]⟩) _ _ _
 unfold iT.«proto.unchain»
 refine aq (pJ a2 ha2 ha3 ?_)
 rw[if_pos (show(dv==dv)=true from rfl)]
 refine aX ?_
 refine aq ?_
 show wpAny _ _ (setField (.ref e) 2 (.ref a)) _ _ _
 refine rp e2 rfl (by show 2<6;decide) (uG (hE _ ?_ (iZ _ e2 rfl)))
 subst hH
 have s1:=me (h:=hp) (a:=e) (f:=gj fun x=>x.setIfInBounds 3 dv)
 have s2:=me (h:=hp.update e (gj fun x=>x.setIfInBounds 3 dv)) (a:=e) (f:=gj fun x=>x.setIfInBounds 4 (hV true))
 have s3:=me (h:=(hp.update e (gj fun x=>x.setIfInBounds 3 dv)).update e (gj fun x=>x.setIfInBounds 4 (hV true))) (a:=e) (f:=gj fun x=>x.setIfInBounds 2 (bO a))
 exact⟨s3.1.trans (s2.1.trans s1.1),fun b hb=>(s3.2 b hb).trans ((s2.2 b hb).trans (s1.2 b hb))⟩
end
theorem setFlight_at{M:gX}{A:bD}{E:af->ah->Prop}{s:ah}{B:aA}{e L:aa}{cls a0 fl:af}{Q:Unit->ah->Prop}(hkb:B.StaysIn s.heap)(ht:s.heap.TracedAtW B e cls a0 fl)(h:∀h',B.StaysIn h'->h'.TracedAtW B e cls a0 (rawInt L)->s.heap.UpToSlots h'->Q () {s with heap:=h'}):wpAny M A (setFlight (.ref e) (some L)) Q E s:=by
 obtain⟨oe,vs,T,oT,ts,g1,g2,g3,g4,g5,g6,g7,g8,g9⟩:=ht
 have ne:∀b o,s.heap.get? b=some o->(∀vs,o.data≠.fields vs)->T≠b:=fun b o e n z=>by
  rw[<-z,g7]at e;cases e;exact n _ g8
 unfold setFlight
 refine aq (pJ g1 g3 g4 ?_)
 rw[if_pos (by rfl)]
 refine rp g7 g8 (vW.mp g9).1 (h _ (fun b o q=>?_) ?_ fun b o q n=>?_)
 ·rw[iy _ _ (fun z=>by rw[<-z,g5]at q;cases q)]
  exact hkb b o q
 ·have hd:=so g8 (·.setIfInBounds 3 (rawInt L))
  refine⟨oe,vs,T,_,_,?_,g2,g3,g4,g5,g6,iZ _ g7 (vT hd),hd,?_⟩
  ·rw[iy _ _ g6];exact g1
  ·have z:=(vW.mp g9).1
   simp[z]
 ·refine⟨o.slots,?_⟩
  rw[iy _ _ (ne b o q n)]
  exact q
section
variable{X:Cx}{pins:List (aa×az)}{σ:St}{H:Hp}{s:ah}{a C C1 C':aa}{rest:List gY}{D:Ends}{a0:af}{x y:ag}{np np2 c8 p2 rpos hpos:bN}{j:Nat}
theorem handle_raise(O:Own X)(I:Inv X pins σ H s){E:XK}(T:Takes X E)(hg:Gl X x)(hmg:X.mg x=some (.ref C1))(hd:(x==("__debug__" :ag))=false)(hm:bK X.K (.ref C) (.ref C1)=some true)(F:gq X pins H s.heap a C a0 .none)(c2:C2 s.heap a)(cY:Xc X.K X.mg y C')(hgy:Gl X y)(hdy:(y==("__debug__" :ag))=false)(hE:E (.ref C') (some 0) H) :wpAny (model X.prog X.w) X.A (handleBy (.ref a) X.env (.ExceptHandler (some (.Name x np)) none [.Raise (some (.Call (.Name y np2) [] [] c8)) (some (.Constant .none j p2)) rpos] hpos ::rest)) (SP X pins D) X.xe s:=by
 obtain⟨oe,he,hcl⟩:=F.cls
 refine rq (rz (iN (X:=X.fu a) I.fu hg hmg ?_ hd)) (by intro q;cases q)
 have L:=qU (M:=model X.prog X.w) he
 rw[hcl]at L
 refine(rG I.kIn L hm) _ _ _ _ (fun _ _ q=>q) (xc ?_)
 obtain⟨B,hB,far⟩:=ground O I F
 refine aW (oQ.any (lands_againW (Q:=fun _ s2=>∃h2,s2 = {s with heap:=h2}/\p6 B (X.env ::X.outer) a (.ref C) a0 h2/\s.heap.UpToSlots h2) hB fun h2 hf cJ=>⟨h2,rfl,hf,cJ⟩)) fun _ s2 ⟨⟨h2,e2,hf2,cJ⟩,k2⟩=>?_
 subst e2
 have J:=(far h2 .none hf2.1 hf2.2.2.2 cJ).1
 have c3:C2 h2 a:=c2.on k2
 obtain⟨tl,N,nm,q,bs,hdct,sn,sub,ab,col,dd,k0,k1,k2,k3,k5,mN,hC,hN,hni,TL⟩:=(cY.own J.kIn).obj
 have hhd:(X.A.mark (some (.ref a))).handled=some (.ref a):=rfl
 have key:∀(hm:aA) (e t:aa),r8 h2 hm e (.ref C') []->hm.get? e=some {cls:=.ref C',data:=.fields #[.ref t,.none,.none,.none,.bool false,.none]} ->
   ∀h3:aA,iY e hm h3->h3.get? e=some {cls:=.ref C',data:=.fields #[.ref t,.none,.ref a,.none,.bool true,.none]} ->
   notedBy (model X.prog X.w) (X.A.mark (some (.ref a))) X.env (fun x s2=>cameBackBy (model X.prog X.w) X.A X.env X.xe x s2) (.ref e) {s with heap:=h3}:=by
  intro hm e t hx het h3 hsb he3
  have kp3:∀b o,h2.get? b=some o->h3.get? b=some o:=fun b o q=>by
   rw[hsb.2 b (fun z=>by rw[z,hx.new]at q;cases q)]
   exact hx.keeps b o q
  have hfr:(X.A.mark (some (.ref a))).frames=some (X.env ::X.outer):=J.frms O
  have hkb:(ik h2 (cu X.stack)).StaysIn h3:=fun b o q=>kp3 b o (nN _ q)
  have hl:h3.FunFrames (ik h2 (cu X.stack)) (X.env ::X.outer):=by
   have z:=rF (as:=cu X.stack) J.stack (frs_in fun b hb=>hb)
   rw[O.st]at z ⊢
   exact z.of_keeps fun b o q _=>⟨o,kp3 b o q,rfl⟩
  have hen:(ik h2 (cu X.stack)).get? e=none:=by
   cases z:(ik h2 (cu X.stack)).get? e with
   |none=>rfl
   |some o=>
    have z2:=nN _ z
    rw[hx.new]at z2;cases z2
  unfold notedBy noteFrame
  rw[O.fr]
  refine aq (pJ (x:=dv) he3 rfl rfl ?_)
  rw[if_neg (show ¬((dv != dv)=true) by decide)]
  refine wpAny_entryW (a0:=.ref t) hfr hl O.fr he3 hkb hen rfl (by show 1<6;decide) rfl fun h4 hN=>?_
  obtain⟨m1,m2,m3,m4⟩:=hN
  unfold cameBackBy
  have m3':=m3
  obtain⟨oe',vs',T',oT',ts',g1,g2,g3,g4,g5,g6,g7,g8,g9⟩:=m3'
  refine aq (pJ g1 g3 g4 ?_)
  rw[if_neg (show ¬((bO T'==dv)=true) from by simp)]
  rw[O.fr]
  refine setFlight_at m1 m3 fun h5 n1 n3 n4=>?_
  have sl:∀b o,h2.get? b=some o->b∈cu X.stack->(∀vs,o.data≠.fields vs)/\∃sl,h5.get? b=some {o with slots:=sl}:=fun b o q n=>by
   obtain⟨_,o',cS,hd⟩:=J.stack.mem n
   have cS:h2.get? b=some o':=cS
   rw[q]at cS;cases cS
   obtain⟨sl1,y1⟩:=m4 b o (kp3 b o q) hd
   obtain⟨sl2,y2⟩:=n4 b _ y1 hd
   exact⟨hd,sl2,y2⟩
  have J5:Inv X pins σ H {s with heap:=h5}:=Inv.stepN (s:={s with heap:=h2}) (h':=h5) (ch:=[]) J (fun b hb=>absurd hb (by simp)) (fun b o m1 m2 _ q=>n1 b o (lP _ q fun z=>(O.mem.mp z).elim m1 m2)) fun b o hb q=>(sl b o q (O.mem.mpr hb)).2
  obtain⟨oe5,vs5,T5,oT5,ts5,u1,u2,u3,u4,u5,u6,u7,u8,u9⟩:=n3
  have nT:h2.get? T5=none:=by
   cases q:h2.get? T5 with
   |none=>rfl
   |some o=>
    by_cases hT:T5∈cu X.stack
    ·obtain⟨hd,sl',z⟩:=sl T5 o q hT
     rw[u7]at z
     cases z
     exact absurd u8 (hd ts5)
    ·rw[lP _ q hT]at u5
     cases u5
  exact T.held pins σ H _ e C' (.ref t) (some 0) J5 ⟨J.off O hx.new,T5,J.off O nT,oe5,vs5,oT5,ts5,u1,u2,u3,u4,u6,u7,u8,u9⟩ (fun z=>by cases z) hE
 refine uv (fD ?_ (fun f s2 z=>eS z) fun _ _ z=>z)
 rw[arm_exec_Raise]
 refine aq (jr ?_)
 show wpAny _ _ (raiseStmt X.env (some (do let v <-eval (.Call (.Name y np2) [] [] c8) X.env;standAt rpos;pure v)) (some (do let v <-eval (.Constant .none j p2) X.env;standAt rpos;pure v))) _ _ _
 refine raise_from (a:=a) (C:=C') (nm:=nm) (q:=q) (N:=N) (bs:=bs) (hdct:=hdct) (sn:=sn) (sub:=sub) (ab:=ab) (col:=col) (dd:=dd) (k0:=k0) (k1:=k1) (k2:=k2) (k3:=k3) (k5:=k5) (newId:="Exception.__new__") (TL.hasType sf.hasBase) hhd (fun R s hR=>?_) ?_
 ·exact aq (Constant_none (aq (jr (aX hR))))
 ·refine aq (wpAny_Call_ofName (iN (X:=X.fu a) J.fu hgy cY.mgx ?_ hdy))
  unfold callWith
  refine aq (gy (evalArgs_empty (aq (jr ?_))))
  refine aq (wpAny_keeperOf_exc hC ?_)
  refine aq (wpAny_call_exc_subT sf TL hC hN hni fun hm e hx=>aq (gy (wpAny_point (aX (aq (jr (aX ?_)))))))
  obtain⟨t,ht,_,_⟩:=hx.there
  obtain⟨oa,va,ha1,ha2,ha3⟩:=c3
  exact⟨e,t,rfl,(fun z=>by rw[<-z,hx.new]at ha1;cases ha1),(fun z=>by rw[z]at hx;have:=hx.new;rw[hC]at this;cases this),⟨oa,va,hx.keeps _ _ ha1,ha2,ha3⟩,hx.keeps _ _ hC,ht,key hm e t hx ht⟩
end
theorem ps_tryR{X:Cx}{body:List a6}{C1 C':aa}{x y:ag}{np np2 c8 p2 rpos hpos pos:bN}{j:Nat}{tb:(XK->TS)}{E:XK}(O:Own X)(T:Takes X E)(hg:Gl X x)(hmg:X.mg x=some (.ref C1))(hd:(x==("__debug__" :ag))=false)(cY:Xc X.K X.mg y C')(hgy:Gl X y)(hdy:(y==("__debug__" :ag))=false)(hb:∀(pins:List (aa×az)) (xe:af->ah->Prop) (E:XK),Passes (aB X.prog X.w) (X.gB pins xe) E->PSs (X.gB pins xe) body (tb E)) :PS X (.Try body [.ExceptHandler (some (.Name x np)) none [.Raise (some (.Call (.Name y np2) [] [] c8)) (some (.Constant .none j p2)) rpos] hpos] [] [] pos) (fun D σ H=>tb (fun c q H'=>∃C,c=.ref C/\((bK X.K (.ref C) (.ref C1)=some true/\q=none/\E (.ref C') (some 0) H')\/(bK X.K (.ref C) (.ref C1)=some false/\E (.ref C) q H'))) D σ H):=by
 intro pins s σ H D I h
 refine xf ?_
 refine fD (hb pins (tryXe X pins D _) _ (fun pins' σ' H1 s1 e s2 I1 hc=>?_) [] s σ H D I.gB h) (fun f s1 q=>?_) fun e s1 q=>q
 ·exact try_comes O I.ok I1 hc fun a C q H' a0 h5 J F c hE=>by
   obtain⟨C2',e1,p⟩:=hE
   obtain rfl:C=C2':=by injection e1
   rcases p with⟨m,rfl,e2⟩|⟨m,e2⟩
   ·exact handle_raise O J T hg hmg hd m F (c rfl) cY hgy hdy e2
   ·obtain⟨oe,he,hcl⟩:=F.cls
    refine rq (rz (iN (X:=X.fu a) J.fu hg hmg ?_ hd)) (by intro q;cases q)
    have L:=qU (M:=model X.prog X.w) he
    rw[hcl]at L
    exact(rG J.kIn L m) _ _ _ _ (fun _ _ q=>q) (handle_none O J T F c e2)
 ·have q':=SP.km I.ok q
  cases f with
  |next=>exact nK q'
  |brk=>exact q'
  |cont=>exact q'
  |ret v=>exact q'
def cxLam(CX:CXT)(P:aU)(w:aM)(K:ay)(mg:ag->Option af)(base:aA)(N:List ag)(qual:ag)(scope:dc)(f:aa)(cd:af)(cl:List (ag×aa))(A:bD)(outer:List cg)(s:ah)(H:Hp)(E:XK):Cx where
 prog:=P
 w:=w
 K:=K
 mg:=mg
 base:=base
 A:=A.deeper (lQ qual scope s.heap.objs.size f cd cl)
 N:=N
 s_0:=s
 H_0:=H
 env:=lQ qual scope s.heap.objs.size f cd cl
 outer:=outer
 stack:=lQ qual scope s.heap.objs.size f cd cl ::outer
 ex:=[]
 calm:=true
 fn:=fun _=>false
 pn:=[]
 xe:=fun e s'=>wpAny (model P w) (A.deeper (lQ qual scope s.heap.objs.size f cd cl)) (leaving (lQ qual scope s.heap.objs.size f cd cl) e) (fun _ s''=>CX outer H s E e s'') (fun e' s''=>CX outer H s E e' s'') s'
theorem takes_lam{P:aU}{w:aM}{K:ay}{mg:ag->Option af}{base:aA}{N:List ag}{qual:ag}{scope:dc}{f:aa}{cd:af}{cl:List (ag×aa)}{A:bD}{outer:List cg}{s:ah}{H:Hp}{E:XK} :Takes (cxLam (aB P w) P w K mg base N qual scope f cd cl A outer s H E) E:=by
 have O:Own (cxLam (aB P w) P w K mg base N qual scope f cd cl A outer s H E):=⟨rfl,rfl,rfl⟩
 exact⟨fun pins σ H' s' hm a C I hx hE=>made_leaves O I hx hE,fun pins σ H' s' e s'' I hc=>pass_leaves O I hc,fun pins σ H' s' a C a0 q I F c hE=>held_leaves O I F c hE⟩
structure LamAt (base:aA) (f:aa) (qual:ag) (params:pH) (body:aV) (scope:dc) (N:List ag) (vs:List V) (pm:af) (c:aa) (ctv:af) (cl:List (ag×aa)):Prop where
 ob:base.get? f=some (nO "<lambda>" qual params body scope cl pm c ctv)
 code:base.CodeRec (.ref c) qual
 inj:∀x y c,cl.lookup x=some c->cl.lookup y=some c->x=y
 has:∀x,scope.names.lookup x=some .free->∃c,cl.lookup x=some c
 cell:∀x c,cl.lookup x=some c->∃v,base.IsCell c v
 val:∀(i:Nat) (x:ag) (v:V),N[i]?=some x->vs[i]?=some v->∃c u,cl.lookup x=some c/\base.IsCell c (some u)/\RelV v u
 len:vs.length=N.length
structure LamScope (N:List ag) (scope:dc):Prop where
 kind:scope.kind=.function
 co:scope.isCoroutine=false
 gen:scope.isGenerator=false
 nocell:∀x∈scope.names,x.2≠.cell
 freeB:(N.all fun x=>decide (scope.names.lookup x=some .free))=true
theorem LamScope.free{N:List ag}{scope:dc}(S:LamScope N scope):∀x∈N,scope.names.lookup x=some .free:=fun x hx=>of_decide_eq_true (cB.mp S.freeB x hx)
theorem IsCell.keeps{h h':aA}{c:aa}{v:Option af}(x:h.IsCell c v)(k:∀b o,h.get? b=some o->h'.get? b=some o):h'.IsCell c v:=let ⟨o,e,d⟩:=x;⟨o,k _ _ e,d⟩
theorem lam_ok{CX:CXT}{P:aU}{w:aM}{K:ay}{mg:ag->Option af}{base:aA}{k:Nat}{f:aa}{qual:ag}{params:pH}{body:aV}{scope:dc}{N:List ag}{vs:List V}{pm:af}{c:aa}{ctv:af}{cl:List (ag×aa)}{sp:Hp->VK->XK->Prop}(L:LamAt base f qual params body scope N vs pm c ctv cl)(S:LamScope N scope)(hbody:∀(A:bD) (outer:List cg) (s:ah) (H:Hp) (Q:VK) (E:XK),dP k (A.deeper (lQ qual scope s.heap.objs.size f (.ref c) cl))->sp H Q E -> ∃t,PE (cxLam CX P w K mg base N qual scope f (.ref c) cl A outer s H E) body t/\t (vs.map some) H Q) :aD P w K mg base CX (k+1) f (PySem.W.kla_fn "<lambda>" qual params body scope cl pm (.ref c) ctv) [] (fun us H Q E=>us=[]/\sp H Q E):=by
 refine⟨fun us H Q E h=>by rw[h.1];rfl,fun A outer s H args us vs' Q E hr e0 hb r hsp=>?_⟩
 have bk:∀b o,base.get? b=some o->s.heap.get? b=some o:=fun b o e=>(e0.bs b o e).1
 have lim:s.heap.NoLimit:=e0.mod.nolimit.keeps bk
 have hcd:s.heap.CodeRec (.ref c) qual:=L.code.keeps bk
 refine PySem.W.kla_callFunE hr.depth (bk _ _ L.ob) rfl S.co S.gen rfl hcd (hb _ _ _ _ ?_)
 refine wpAny_newFunctionEnv S.nocell (fun x hx=>absurd (show x∈([]:List (ag×af)) from hx) (by simp)) (fun h1 hns hsb=>⟨lim.fresh _ hsb,?_⟩) S.kind
 show codeAny _ _ (.expr body (lQ qual scope s.heap.objs.size f (.ref c) cl)) _ _
 have kp:∀b o,s.heap.get? b=some o->h1.get? b=some o:=fun b o e=>hsb.extBut b o (dR (cy e)) (cD _ e)
 obtain⟨t,ht,hq⟩:=hbody A outer s H Q E (hr.deeper _) hsp.2
 have noA:∀b:aa,b∉(cxLam CX P w K mg base N qual scope f (.ref c) cl A outer s H E).ex:=fun b z=>absurd (show b∈([]:List aa) from z) (by simp)
 have cbase:∀x c',cl.lookup x=some c'->∃o,base.get? c'=some o:=fun x c' e=>by
  obtain⟨v,o,e1,_⟩:=L.cell x c' e
  exact⟨o,e1⟩
 have I:Inv (cxLam CX P w K mg base N qual scope f (.ref c) cl A outer s H E) [] (vs.map some) H {s with heap:=h1,toks:=s.toks+([]:List (ag×af)).length}:=by
  refine⟨⟨e0.mod,S.kind,rfl,rfl,aI _,fun y z c' h1 h2=>L.inj y z c' h1 h2,fun y hy=>?_,fun y c' h=>yi h,fun _=>hr.hd,yQ e0.frames,.inr ⟨rfl,rfl⟩,fun b z=>absurd z (noA b),e0.bs,e0.bsz,fun b _ _=>noA b,fun b z=>absurd z (noA b),e0.funs,e0.frf⟩,
   rfl,e0.bare,Un.kept kp,⟨_,hns,fun i y v h1 h2 h3=>?_⟩,fun y c' h=>?_,e0.aG.fresh (aI _),fun y c' h=>?_,fun p hp=>absurd (show p∈([]:List (aa×az)) from hp) (by simp),e0.aG.kept kp,?_⟩
  ·have hy:scope.names.lookup y=some .cell\/scope.names.lookup y=some .free:=hy
   rcases hy with hy|hy
   ·exact absurd rfl (S.nocell _ (fE hy))
   ·exact L.has y hy
  ·have h2:vs[i]?=some v:=by
    rw[bH]at h2
    cases e:vs[i]? with
    |none=>rw[e]at h2;cases h2
    |some u=>rw[e]at h2;cases h2;rfl
   obtain⟨c',u,e1,e2,e3⟩:=L.val i y v h1 h2
   exact⟨u,e3,.inr ⟨.inr (S.free y (cW h1)),c',e1,IsCell.keeps (IsCell.keeps e2 bk) kp⟩⟩
  ·obtain⟨v,e1⟩:=L.cell y c' h
   exact⟨v,IsCell.keeps (IsCell.keeps e1 bk) kp⟩
  ·obtain⟨o,e1⟩:=cbase y c' h
   exact(e0.bs _ _ e1).2
  ·rw[aP]
   exact L.len
 exact PySem.W.kla_codeExpr (fD (ht [] _ _ H Q I hq) (fun u s' ⟨v,H',J,rv,q⟩=>⟨v,H',J.os,J.bare,J.base,J.aG,rv,q⟩) fun e s' hs=>hs)
theorem pe_callV{X:Cx}{CX:CXT}{k i:Nat}{f:aa}{fd:bh}{o:az}{sp:Sp}{E:XK}{x:ag}{p pos:bN}(F:aD X.prog X.w X.K X.mg X.base CX k f fd [] sp)(hr:dP k X.A)(hN:X.N[i]?=some x)(hv:Vis X.env.scope x)
  (ho:X.base.get? f=some o) (hd:o.data=.func fd) (hb:∀s:ah,nL s fd ⟨[],[]⟩ []) (hx:Passes CX X E) (hdb:(x==("__debug__" :ag))=false:=by decide) (hcd:(x==("__classdict__" :ag))=false:=by decide):
  PE X (.Call (.Name x p) [] [] pos) (fun σ H Q=>σ[i]?=some (some (.ref f))/\sp [] H Q E):=by
 intro pins s σ H Q I ⟨hi,h⟩
 refine kA (aW (pe_var hN hv hdb hcd pins s σ H (fun v H'=>v=.ref f/\H'=H) I ⟨_,hi,rfl,rfl⟩) fun u s1 ⟨v,H1,I1,r,q⟩=>?_)
 obtain⟨rfl,rfl⟩:=q
 obtain rfl:u=.ref f:=r
 refine uQ (P:=fun h=>h.get? f=some o) rfl (fun h e=>⟨.frame,.inl rfl,?_⟩) (evalArgs_nil3 ⟨I1.bk _ _ ho,?_⟩)
 ·refine(zg (part:=none) e).andThen ?_
  simp only[hd]
  exact .now
 ·refine nM (iR (F.run X.A X.stack s1 H1 ⟨[],[]⟩ [] [] Q E hr I1.env0 (hb s1) .nil h) fun r s' hq=>?_)
  cases r with
  |error e=>exact hx pins σ H1 s1 e s' I1 hq
  |ok fl=>
   cases fl with
   |ret u=>exact I1.after hq
   |next=>exact eS hq
   |brk=>exact eS hq
   |cont=>exact eS hq
structure Maker (X:Cx) (c0 P0:aa):Prop where
 code:X.env.code=.ref c0
 hd:xp X.base c0 P0
 bm:∃bm ob,X.mg "__builtins__" = some (.ref bm)/\bm≠builtinsNs/\X.base.get? bm=some ob/\ob.cls=.type "module"/\ob.dict=some builtinsNs/\ob.data=.plain
theorem pe_lamcall{X:Cx}{CX:CXT}{E:XK}{x p0:ag}{f0:aa}{params:pH}{body:aV}{scope:dc}{p pos lpos:bN}{c0 P0:aa}(O:Own X)(M:Maker X c0 P0)(S:LamScope X.N scope)(hg:Gl X x)(hm:X.mg x=some (.ref f0))(hk:bG X.K (.ref f0)=true)(hx:Passes CX X E)
  (hcelB:(scope.names.all fun y=>decide (y.2=.free->X.env.scope.names.lookup y.1=some .cell))=true) (hcellB:(X.N.all fun y=>decide (X.env.scope.names.lookup y=some .cell))=true) (hfn:X.fn=fun _=>true) (hdef:defaultsOf params X.env=([],[]))
  (hdb:(x==("__debug__" :ag))=false:=by decide)
  (he:starEach [Expr.Lambda params body scope lpos] X.env=[(false,eval (.Lambda params body scope lpos) X.env)]:=by rfl):
  PE X (.Call (.Name x p) [.Lambda params body scope lpos] [] pos) (fun σ H Q=>∃vs:List V,σ=vs.map some/\H P0=some (.bz #[]) /\
   ∀(base1:aA) (f c:aa) (ctv pm:af) (cl:List (ag×aa)) (more:Array af),X.K.In base1->base1.Ns mainGlobals X.mg->LamAt base1 f (X.env.qual ++ "<lambda>") params body scope X.N vs pm c ctv cl ->
    ∃k fd sp,aD X.prog X.w X.K X.mg base1 CX k f0 fd [p0] sp/\dP k X.A/\Binds X.K fd [p0] []/\sp [.ref f] (upd H P0 (.bz more)) Q E):=by
 have hcel:∀y∈scope.names,y.2=.free->X.env.scope.names.lookup y.1=some .cell:=fun y hy=>of_decide_eq_true (cB.mp hcelB y hy)
 have hcell:∀y∈X.N,X.env.scope.names.lookup y=some .cell:=fun y hy=>of_decide_eq_true (cB.mp hcellB y hy)
 intro pins s σ H Q I ⟨vs,hσ,hP,hQ⟩
 refine kA (iN I hg hm ?_ hdb)
 refine uO (h₀:=X.base) I.ok.mod.kin hk ?_ he (by rfl)
 rw[he]
 show wpAny _ _ (spliced ((false,eval (.Lambda params body scope lpos) X.env) :: [])) _ _ s
 refine za (PySem.W.kla_eval hdef ?_)
 have aG:=I.aG P0 _ hP
 have hPo:s.heap.get? P0=some (PySem.W.tabObj #[]):=aG
 have hgs:s.heap.Ns mainGlobals X.mg:=I.mod.glob.keeps I.bk
 have nb:∀b o,X.base.get? b=some o->b≠P0:=fun b o e z=>by
  have q:=(I.bs b o e).2
  rw[z,hP]at q;cases q
 have hgP:mainGlobals≠P0:=by
  obtain⟨o,es,ep,e,_⟩:=I.mod.glob
  exact nb _ _ e
 obtain⟨bm,ob,b1,b2,b3,b4,b5,b6⟩:=M.bm
 have hbG:bm≠mainGlobals:=fun q=>by
  obtain⟨o,es,ep,e,hd,_⟩:=I.mod.glob
  rw[q,e]at b3;cases b3;rw[hd]at b6;cases b6
 have hclo:closureFor scope X.env=pure (da X.env.cells scope.names []):=closure_ok fun y hy hf=>I.ok.has y.1 (.inl (hcel y hy hf))
 refine PySem.W.kla_makeFunction (mg:=X.mg) (ps:=#[]) hclo I.ok.glob hgs M.code (M.hd.keeps I.bk) hPo trivial rfl hgP ⟨bm,ob,b1,b2,hbG,nb _ _ b3,I.bk _ _ b3,b4,b5,b6⟩ fun c ctv h1 tk hxt hge aR hrec htb=>?_
 have kp1:∀b o,b≠P0->s.heap.get? b=some o->(h1.push (nO "<lambda>" (X.env.qual ++ "<lambda>") params body scope (da X.env.cells scope.names []) ((X.mg "__name__").getD .none) c ctv)).get? b=some o:=fun b o n e=>cD _ (hxt b o n e)
 have hf0:=df h1 (o:=nO "<lambda>" (X.env.qual ++ "<lambda>") params body scope (da X.env.cells scope.names []) ((X.mg "__name__").getD .none) c ctv) rfl
 have hrec2:(h1.push (nO "<lambda>" (X.env.qual ++ "<lambda>") params body scope (da X.env.cells scope.names []) ((X.mg "__name__").getD .none) c ctv)).CodeRec (.ref c) (X.env.qual ++ "<lambda>"):=hrec.keeps fun b o e=>cD _ e
 have htb2:=cD (nO "<lambda>" (X.env.qual ++ "<lambda>") params body scope (da X.env.cells scope.names []) ((X.mg "__name__").getD .none) c ctv) htb
 have hfs:s.heap.objs.size<=h1.objs.size:=cZ hge (gH aR)
 generalize hNe:h1.push (nO "<lambda>" (X.env.qual ++ "<lambda>") params body scope (da X.env.cells scope.names []) ((X.mg "__name__").getD .none) c ctv)=hN at kp1 hf0 hrec2 htb2
 generalize hm0:(#[] ++ #[rawInt lpos.line,rawInt lpos.col,bO c]:Array af)=more at htb2
 have hu:Un X.fs [] H (upd H P0 (.bz more)) s.heap hN:=by
  have np:∀b,H b=none->b≠P0:=fun b n z=>by rw[z,hP]at n;cases n
  refine⟨fun b o e n _ _=>kp1 b o (np b n) e,fun b o e n _ _=>⟨o.slots,kp1 b o (np b n) e⟩,fun b o e n _=>by rw[ak (np b n)];exact n,fun b o e _=>?_,fun b xs q=>?_,fun b o u q=>?_,fun b ps q=>?_⟩
  ·by_cases z:b=P0
   ·rw[z];exact⟨_,htb2⟩
   ·exact⟨o,kp1 b o z e⟩
  ·rw[ak (dN q hP (by intro z;cases z))];exact q
  ·rw[ak (dN q hP (by intro z;cases z))];exact q
  ·by_cases z:b=P0
   ·rw[z]at q ⊢
    rw[hP]at q
    cases q
    exact⟨more,by rw[ax];simp⟩
   ·exact⟨#[],by rw[ak z,q];simp⟩
 have hk1:HOk X.prog X.w (upd H P0 (.bz more)) hN:=fun b o q=>by
  by_cases z:b=P0
  ·rw[z,ax]at q
   cases q
   rw[z]
   exact htb2
  ·rw[ak z]at q
   refine(I.aG b o q).stay (fun d u hd e=>kp1 d u ?_ e) (fun d e=>?_) fun d xs e=>?_
   ·rcases hd with y|y
    ·rw[y];exact z
    ·exact dN y hP (by intro z;cases z)
   ·rw[ak (dN e hP (by intro z;cases z))];exact e
   ·rw[ak (dN e hP (by intro z;cases z))];exact e
 have I2:Inv X pins σ (upd H P0 (.bz more)) {s with heap:=hN,toks:=tk}:=I.un hu hk1
 have fresh:∀b,s.heap.objs.size<=b->(upd H P0 (.bz more)) b=none/\b∉cu X.stack:=fun b hb=>by
  have hn:s.heap.get? b=none:=yf hb
  refine⟨?_,fun z=>?_⟩
  ·rw[ak (fun z=>by rw[z,hPo]at hn;cases hn)]
   exact I.aG.fresh hb
  ·obtain⟨_,o',cS,_⟩:=I.stack.mem z
   rw[hn]at cS;cases cS
 let B:aA:=ik hN (cu X.stack++trk hN (upd H P0 (.bz more)))
 have inB:∀b o,hN.get? b=some o->(upd H P0 (.bz more)) b=none->b∉cu X.stack->B.get? b=some o:=fun b o e n nf=>lP _ e fun z=>by
  rcases cQ.mp z with z|z
  ·exact nf z
  ·have q:((upd H P0 (.bz more)) b).isSome=true:=(f7.mp z).2
   rw[n]at q;simp at q
 have ofB:∀b o,B.get? b=some o->hN.get? b=some o/\(upd H P0 (.bz more)) b=none:=fun b o e=>by
  have e':hN.get? b=some o:=nN _ e
  refine⟨e',?_⟩
  cases q:(upd H P0 (.bz more)) b with
  |none=>rfl
  |some y=>
   have hm:b∈cu X.stack++trk hN (upd H P0 (.bz more)):=fP _ (f7.mpr ⟨bt.mpr (cy e'),by simp[q]⟩)
   have z:B.get? b=none:=rC _ hm
   rw[z]at e;cases e
 have b0B:∀b o,X.base.get? b=some o->B.get? b=some o:=fun b o e=>inB b o (I2.bs b o e).1 (I2.bs b o e).2 fun z=>by
  have:=(I2.stack.mem z).1
  rw[e]at this;cases this
 have hM:Mod X.K X.mg B:=⟨I.mod.kin.keeps b0B,I.mod.glob.keeps b0B,let ⟨mb,h1,h2⟩:=I.mod.blt;⟨mb,h1.keeps b0B,h2⟩,I.mod.nolimit.keeps b0B⟩
 have e0:Env0 X.prog X.w X.K X.mg B X.A X.stack {s with heap:=hN,toks:=tk} (upd H P0 (.bz more)):=
  ⟨I.ok.frames,hM,ofB,om (xm _ _),rF I2.stack (frs_in fun b hb=>dZ _ hb),I2.stkFree,I2.aG,I2.bare⟩
 have ncell:∀y d,X.env.cells.lookup y=some d->d∉cu X.stack:=fun y d e z=>by
  rcases O.mem.mp z with z|z
  ·exact I.cne y d e z
  ·obtain⟨_,o',cS,_⟩:=I.ok.funs.mem z
   exact absurd (du (cy cS) (I.ok.cab y d (by rw[hfn]) e)) (hG _)
 have cellB:∀y d v,X.env.cells.lookup y=some d->hN.IsCell d v->B.IsCell d v:=fun y d v e ⟨o,ho,hd⟩=>⟨o,inB d o ho (I2.fR y d e) (ncell y d e),hd⟩
 have clo1:∀y d,(da X.env.cells scope.names []).lookup y=some d->X.env.cells.lookup y=some d:=fun y d e=>by
  rcases oY (fE e)with z|⟨z1,z2⟩
  ·simp at z
  ·obtain⟨d',e'⟩:=I.ok.has y (.inl (hcel _ z1 rfl))
   rw[e']at z2 ⊢
   rw[z2];rfl
 have clo2:∀y,scope.names.lookup y=some .free->∃d,(da X.env.cells scope.names []).lookup y=some d:=fun y e=>mem_lookup (qK (acc:=[]) (fE e))
 have LA:LamAt B h1.objs.size (X.env.qual ++ "<lambda>") params body scope X.N vs ((X.mg "__name__").getD .none) c ctv (da X.env.cells scope.names []):=by
  refine⟨inB _ _ hf0 (fresh _ hfs).1 (fresh _ hfs).2,?_,fun y z d e1 e2=>I.ok.inj y z d (clo1 y d e1) (clo1 z d e2),clo2,fun y d e=>?_,fun i y v e1 e2=>?_,?_⟩
  ·obtain⟨c',o,ws,t,e1,e2,e3,e4⟩:=hrec2
   cases e1
   exact⟨c,o,ws,t,rfl,inB c o e2 (fresh c hge).1 (fresh c hge).2,e3,e4⟩
  ·obtain⟨v,hv⟩:=I2.cell y d (clo1 y d e)
   exact⟨v,cellB y d v (clo1 y d e) hv⟩
  ·have hy:=cW e1
   have hc:=hcell y hy
   obtain⟨m,hn,hl⟩:=I2.loc
   obtain⟨u,r,l⟩:=hl i y v e1 (by rw[hσ,bH,e2];rfl) (.inr (.inl hc))
   obtain⟨d,ed⟩:=clo2 y (S.free y hy)
   have ed':=clo1 y d ed
   rcases l with⟨kl,_⟩|⟨_,d',e3,e4⟩
   ·have kl:X.env.scope.names.lookup y=some .local:=kl
    rw[hc]at kl;cases kl
   ·rw[ed']at e3
    cases e3
    exact⟨d,u,ed,cellB y d _ ed' e4,r⟩
  ·have z:=I.len
   rw[hσ,aP]at z
   exact z
 obtain⟨k,fd,sp,F,hr,hbd,hsp⟩:=hQ B h1.objs.size c ctv ((X.mg "__name__").getD .none) (da X.env.cells scope.names []) more hM.kin hM.glob LA
 refine y9 ⟨I2.kIn,?_⟩
 have hb2:=hbd {s with heap:=hN,toks:=tk} [.ref h1.objs.size] I2.kIn rfl
 refine nM (iR (F.run X.A X.stack {s with heap:=hN,toks:=tk} (upd H P0 (.bz more)) ⟨[.ref h1.objs.size],[]⟩ [.ref h1.objs.size] [.ref h1.objs.size] Q E hr e0 hb2 (.cons rfl .nil) hsp) fun r s' hq=>?_)
 cases r with
 |error e=>exact hx pins σ (upd H P0 (.bz more)) {s with heap:=hN,toks:=tk} e s' I2 hq
 |ok fl=>
  cases fl with
  |ret u=>exact I2.after hq
  |next=>exact eS hq
  |brk=>exact eS hq
  |cont=>exact eS hq
end L2
namespace PySem
open Sem (wp)
open AutoSeq1 (wpAny_loadPart')
theorem kwe_typeCall(a v:af):checkTypeCall "enumerate" ⟨[a],[("start",v)]⟩=pure ():=by kernel_rfl
theorem kwe_newCall(a v:af):checkBuiltinCall "enumerate.__new__" ⟨[.type "enumerate",a],[("start",v)]⟩=pure ():=by kernel_rfl
theorem kwe_init(obj a v:af):argsOk "object.__init__" ⟨[obj,a],[("start",v)]⟩:=by
 first|rfl|decide +kernel|(unfold argsOk;kernel_rfl)
theorem kwe_init_meets{self a v:af} :Meets (iT.«object.__init__» ⟨[self,a],[("start",v)]⟩) (fun _ R s=>s.TypeIs self "enumerate"/\R (.ok (.ret .none)) s):=by
 refine Meets.of_wp fun prog w A R s hs=>?_
 obtain⟨hT,hq⟩:=hs
 have hl:=vO.init.lookup
 have hm:=vO.made
 repeat (any_goals (first|assumption|wp_step))
 exact⟨_,rfl,hq⟩
theorem kwe_new(l:aa)(items:Array af)(n:Nat)(dct:Option aa)(sl:Array (Option af))(t:Tok) :Meets (iT.«enumerate.__new__» ⟨[.type "enumerate",.ref l],[("start",.int 1 t)]⟩) (fun _ R s=>s.heap.get? l=some {cls:=.type "list",dict:=dct,data:=.seq items n,slots:=sl} /\ R (.ok (.ret (.ref (s.heap.push {cls:=.type "list_iterator",data:=.fields #[.ref l,.int 0 0]}).objs.size))) {s with heap:=(s.heap.push {cls:=.type "list_iterator",data:=.fields #[.ref l,.int 0 0]}).push {cls:=.type "enumerate",data:=.fields #[.none,.bool false,.ref s.heap.objs.size,rawInt 1,.none,.none]}}):=
 .of_wp fun prog w A R s h=>by
  obtain⟨hp,g,d,tk,os⟩:=s;obtain⟨hl,h⟩:=h
  have hsub:=sub_enumerate
  have hL:Heap.IsList (Shared.heap ⟨hp,g,d,tk,os⟩) l items:=⟨_,hl,rfl,n,rfl⟩
  wp_walk using wpAny_loadPart' hl
  refine wpAny_stack_any fun st=>aX ?_
  split
  ·rename_i c _ _ _ _ _
   cases (c==l5 "enumerate")
   ·wp_walk using wpAny_loadPart' hl,kx hL
    exact⟨_,rfl,h⟩
   ·wp_walk using wpAny_loadPart' hl,kx hL
    exact⟨_,rfl,h⟩
  ·wp_walk using wpAny_loadPart' hl,kx hL
   exact⟨_,rfl,h⟩
end PySem
namespace PySem
open Sem (wp)
section
variable{prog:aU}{w:aM}{A:bD}{E:af->ah->Prop}{s:ah}
theorem kwe_call{l:aa}{items:Array af}{t:Tok}{Q:af->ah->Prop}(hL:s.heap.IsList l items)(h:∀h2,IsEnum h2 (s.heap.objs.size+1) s.heap.objs.size 1 .none->h2.IsListIter s.heap.objs.size l 0->(∀b o,s.heap.get? b=some o->h2.get? b=some o)->Q (.ref (s.heap.objs.size+1)) {s with heap:=h2}) :wpAny (model prog w) A (call (.type "enumerate") [.ref l] [("start",.int 1 t)]) Q E s:=by
 obtain⟨⟨c,dct,dt,sl⟩,hl,hc,n,hd⟩:=hL
 obtain rfl:c=.type "list":=hc
 obtain rfl:dt=.seq items n:=hd
 have ft:=vO
 obtain⟨c,tl,hmro⟩:=ft.mro
 have hmade:=ft.made
 have hsub:=ft.sub
 have hct:=kwe_typeCall (.ref l) (.int 1 t)
 refine nM (codeAny_of_tree ?_)
 show wpAny _ _ (callAny (.type "enumerate") _) _ _ _
 refine aX ⟨yW _ (by decide +kernel),js yy ?_⟩
 rw[yR (xh "enumerate" [.ref l] [("start",.int 1 t)]) (units_type_call_type "enumerate" [.ref l] [("start",.int 1 t)])]
 have h1:=ft.notType
 have h2:=ft.canCreate
 repeat (any_goals (first|assumption|wp_step))
 have hz:(s.heap.push {cls:=.type "list_iterator",data:=.fields #[.ref l,.int 0 0]}).objs.size=s.heap.objs.size+1:=gg ..
 have he:IsEnum ((s.heap.push {cls:=.type "list_iterator",data:=.fields #[.ref l,.int 0 0]}).push
   {cls:=.type "enumerate",data:=.fields #[.none,.bool false,.ref s.heap.objs.size,rawInt 1,.none,.none]}) (s.heap.objs.size+1) s.heap.objs.size 1 .none:=by
  have z:=df (s.heap.push {cls:=.type "list_iterator",data:=.fields #[.ref l,.int 0 0]})
   (o:={cls:=.type "enumerate",data:=.fields #[.none,.bool false,.ref s.heap.objs.size,rawInt 1,.none,.none]}) rfl
  rw[hz]at z
  exact z
 refine iR (uI ft.plain F.entry_enumerate_new (uF (kwe_newCall _ _) (kwe_new l items n dct sl t prog w A.in1 (wants (fun obj s1=>s1.TypeIs obj "enumerate"/\Q obj s1) E) s ⟨hl,?_⟩))) fun r s1 hr=>?_
 ·show _/\_
  rw[hz]
  exact⟨⟨_,he,rfl⟩,h _ he ⟨_,cD _ (df _ rfl),rfl,rfl⟩ fun b o x=>cD _ (cD _ x)⟩
 ·cases r with
  |error e=>exact hr
  |ok fl=>
   cases fl with
   |ret obj=>
    obtain⟨hT,hq⟩:=hr
    have hli:=ft.init.lookup
    have hbi:=ft.init.bind obj
    repeat (any_goals (first|assumption|wp_step))
    refine iR (uI ft.init.plain F.entry_object_init (ft.init.check _ _ _ _ _ _ _ _ hT (kwe_init obj _ _) (kwe_init_meets prog w A.in1 (wants (fun r s2=>r=.none/\Q obj s2) E) s1 ⟨hT,rfl,hq⟩))) fun r2 s2 hr2=>?_
    cases r2 with
    |error e=>exact hr2
    |ok fl2=>
     cases fl2 with
     |ret r=>
      obtain⟨rfl,cG⟩:=hr2
      repeat (any_goals (first|assumption|wp_step))
     |_=>exact hr2.elim
   |_=>exact hr.elim
theorem Draws.shift{it:aa}{fp:List aa}{n:Nat}{P:Nat->af->Prop}{St:Nat->aA->Prop}(D:Draws prog w A it fp n P St):Draws prog w A it fp (n+1) (fun i=>P (i-1)) (fun i h=>1<=i/\St (i-1) h) where
 live:=fun i h st=>D.live _ h st.2
 frame:=fun i h h' st k=>⟨st.1,D.frame _ h h' st.2 k⟩
 item:=fun i s Q E hi st hQ=>D.item (i-1) s Q E (by have:=st.1;omega) st.2 fun x h' tk p bu sb=>hQ x h' tk p ⟨by omega,by
  have e:i+1-1=i-1+1:=by have:=st.1;omega
  rw[e]
  exact bu⟩ sb
 done:=fun s Q E st hE=>D.done s Q E st.2 hE
end
end PySem
namespace L2
open PySem PySem.Spec PyProof.Rows
def Ite1(K:ay)(a:aa):It:=
 ⟨fun i H=>∃(xs:List V) (x:V),ao K H a xs/\xs[i]?=some x,fun i H v H'=>∃T x,v=.ref T/\H T=none/\H'=upd H T (.tup [.int ((i:Nat)+1),x])/\∀xs,ao K H a xs->xs[i]?=some x,fun i H=>∃xs:List V,ao K H a xs/\xs.length=i⟩
theorem turn_enum1{P:aU}{w:aM}{K:ay}{elts:List aV}{kk:Nat}{tpos:bN}(a e it:aa):
  Turn P w K (.Tuple elts kk tpos) (Ite1 K a) [e,it] e (fun i h=>(∃old,IsEnum h e it ((i+1:Nat):Int) old)/\h.IsListIter it a i/\e≠it) where
 mem:=by simp
 obj:=fun i h st b hb=>by
  obtain⟨⟨old,he⟩,⟨o,ho,hc,hd⟩,_⟩:=st
  have e':b=e\/b=it:=by simpa using hb
  rcases e' with z|z
  ·rw[z];exact⟨_,he,fun v q=>nomatch q⟩
  ·rw[z];exact⟨o,ho,fun v q=>by rw[hd]at q;cases q⟩
 keep:=fun i h h' st k=>let ⟨⟨old,he⟩,hi,ba⟩:=st;⟨⟨old,k e (by simp) _ he⟩,hi.at fun o q=>k it (by simp) o q,ba⟩
 item:=by
  intro X hP hw hK hc i pins s σ H E I hf st hg
  subst hP hw hK
  obtain⟨⟨old,he⟩,hit,ba⟩:=st
  obtain⟨xs,x,hq,hx⟩:=hg
  obtain⟨ai,rv,p,hz⟩:=I.list hq
  obtain⟨u,hu,ru⟩:=rv.get hx
  have hel:e<s.heap.objs.size:=cy he
  have b7:it<s.heap.objs.size:=by obtain⟨_,q,_⟩:=hit;exact cy q
  have hae:a≠e:=by
   obtain⟨o,ho,hcl,_⟩:=p.isList
   intro z
   rw[z,he]at ho;cases ho
   have z1:l5 "enumerate" = l5 "list":=hcl
   exact absurd z1 (by decide)
  have hai:a≠it:=by
   obtain⟨o,ho,hcl,_⟩:=p.isList
   obtain⟨o',cS,hc',_⟩:=hit
   intro z
   rw[z,cS]at ho;cases ho;rw[hcl]at hc'
   exact absurd hc' (by decide)
  have aR:i<ai.length:=(bj.mp hu).1
  have D:=(zi (prog:=X.prog) (w:=X.w) (A:=X.A.in1) (I.ok.hd hc) it a hai ai.toArray).shift
  refine wpAny_pyNext_enum_itemD (i:=i+1) D he ⟨by omega,by simpa using ⟨hit,p.isList⟩⟩ (by simp;omega) ba (by simp;exact⟨ba,fun z=>hae z.symm⟩) fun y h' tk hy ho hit' hT hsz hk=>?_
  have hit2:h'.IsListIter it a (i+1):=by
   have z:=hit'.2
   simp only[xX]at z
   exact z.1
  have ey:y=u:=by
   have z:ai.toArray[i+1-1]?=some y:=hy
   simp only[xX,uX]at z
   rw[hu]at z
   exact(cC z).symm
  subst ey
  refine⟨_,rfl,wpAny_letOwnedTupleGo_enum (s:={s with heap:=h',toks:=tk+1}) ho fun h'' he' sb=>?_⟩
  have hT2:h''.get? s.heap.objs.size=some {cls:=.type "tuple",data:=.seq #[.int ((i+1:Nat):Int) tk,y]}:=(sb.2 _ (oj hel)).trans hT
  have new:dk X.prog X.w (upd H s.heap.objs.size (.tup [.int ((i:Nat)+1),x])) h'' s.heap.objs.size (.tup [.int ((i:Nat)+1),x]):=
   ⟨by show 2<=sizeLine;decide,[.int ((i+1:Nat):Int) tk,y],.cons ⟨_,rfl⟩ (.cons ru .nil),⟨_,hT2,rfl,_,rfl⟩⟩
  have I1:Inv X pins σ (upd H s.heap.objs.size (.tup [.int ((i:Nat)+1),x])) {s with heap:=h'',toks:=tk+1}:=
   I.turnedNew (ch:=[e,it]) (fun b ob hb q=>(sb.2 b (fun z=>hb (by simp[z]))).trans (hk b ob (fun z=>hb (by simp[z])) (fun z=>hb (by simp[z])) q)) hf (aI _) new
  refine⟨.ref s.heap.objs.size,_,I1,rfl,⟨_,x,rfl,I.aG.fresh (aI _),rfl,fun ys hy=>by rw[I.list_inj hy hq];exact hx⟩,⟨⟨y,?_⟩,hit2.at fun o q=>(sb.2 it (hW ba)).trans q,ba⟩,fun b hb=>?_⟩
  ·have e1:((i+1+1:Nat):Int)=((i+1:Nat):Int)+1:=by omega
   rw[e1];exact he'
  ·have hb':b<s.heap.objs.size:=by
    have e':b=e\/b=it:=by simpa using hb
    rcases e' with z|z
    ·rw[z];exact hel
    ·rw[z];exact b7
   rw[ak (dR hb')]
   exact(hf b hb).1
 done:=by
  intro X hP hw hK hc i pins s σ H E I hf st hg
  subst hP hw hK
  obtain⟨⟨old,he⟩,hit,ba⟩:=st
  obtain⟨xs,hq,hx⟩:=hg
  obtain⟨ai,rv,p,hz⟩:=I.list hq
  obtain⟨f0,f1,f2,f3,f4,f5⟩:=hf it (by simp)
  have hl:=rv.length
  have hai:a≠it:=by
   obtain⟨o,ho,hcl,_⟩:=p.isList
   obtain⟨o',cS,hc',_⟩:=hit
   intro z
   rw[z,cS]at ho;cases ho;rw[hcl]at hc'
   exact absurd hc' (by decide)
  have D:=(zi (prog:=X.prog) (w:=X.w) (A:=X.A.in1) (I.ok.hd hc) it a hai ai.toArray).shift
  have hi:i=ai.length:=by omega
  subst hi
  exact wpAny_pyNext_enum_endD D he ⟨by omega,by simpa using ⟨hit,p.isList⟩⟩ fun h' eb=>⟨rfl,I.turned (t':=s.toks) (fun b o hb q=>eb b o hb q) f0 f1 f3 f4 f5⟩
 self:=fun A i s Q E st h=>let ⟨⟨_,he⟩,_⟩:=st;xi he h
def iEnum1(K:ay)(ta:TA):TI:=fun σ H R=>ta σ H fun vs H1=>∃a xs,vs=[.ref a]/\ao K H1 a xs/\R (Ite1 K a) H1
theorem pi_enum1{X:Cx}{e:aV}{ta:TA}{p pos tpos kpos c8:bN}{elts:List aV}{kk jj:Nat}(hg:Gl X "enumerate")(hm:X.mg "enumerate" = none)(ha:PA X [e] ta)(hs:starEach [e] X.env=[(false,eval e X.env)]:=by rfl):
  PI X (.Tuple elts kk tpos) (.Call (.Name "enumerate" p) [e] [⟨some "start",.Constant (.int 1) jj c8,kpos⟩] pos) (iEnum1 X.K ta):=by
 intro pins s σ H R I h
 refine kA (kZ I hg hm boot_enumerate ?_)
 refine uQ (P:=fun _=>True) (by rw[hs];rfl) (fun h _=>⟨.machine,.inr (.inl rfl),zh rfl⟩) (evalArgs_kw2 rfl (aW (ha pos pins s σ H _ I h) fun us s1 ⟨vs,H1,I1,r1,q1⟩=>?_) hs)
 obtain⟨a,xs,ex,hq,q⟩:=q1
 subst ex
 show wpAny _ _ (evalAll [(do let v <-eval (.Constant (.int 1) jj c8) X.env;standAt pos;pure v)]) _ _ s1
 refine xj (aq (wV (aq (jr (aX (xk ?_))))))
 cases r1 with
 |cons r rr=>
  cases rr
  cases r
  have I1':=I1.tok (s1.toks+1)
  obtain⟨ai,rv,p',hz⟩:=I1'.list hq
  refine⟨trivial,kwe_call p'.isList fun h' he hit hk=>xi he ?_⟩
  have I2:Inv X pins σ H1 {s1 with heap:=h',toks:=s1.toks+1}:=I1'.kept (t':=s1.toks+1) hk
  refine⟨s1.heap.objs.size+1,[s1.heap.objs.size+1,s1.heap.objs.size],_,_,H1,rfl,I2,turn_enum1 a (s1.heap.objs.size+1) s1.heap.objs.size,⟨⟨.none,he⟩,hit,Nat.succ_ne_self _⟩,fun b hb=>?_,q⟩
  have e':b=s1.heap.objs.size+1\/b=s1.heap.objs.size:=by simpa using hb
  have hle:s1.heap.objs.size<=b:=by
   rcases e' with z|z
   ·rw[z];exact vy _ _
   ·rw[z];exact aI _
  exact I1.fpOk hle (I1.aG.fresh hle)
theorem for_enum1{K:ay}{a:aa}{xs:List V}{g:TG}{tb:TS}{D:Ends}{σ:St}{H:Hp}(Pv:Nat->St->Hp->Prop)(h0:Pv 0 σ H)(hl:∀i σ H,i<=xs.length->Pv i σ H->ao K H a xs)(hs:∀i x σ H T,xs[i]?=some x->Pv i σ H->H T=none->g (.ref T) σ (upd H T (.tup [.int ((i:Nat)+1),x])) fun σ2 H2=>tb {D with nx:=Pv (i+1),ct:=Pv (i+1),bk:=D.nx} σ2 H2)(hd:∀σ H,Pv xs.length σ H->D.nx σ H):∃W:Nat->Nat->St->Hp->Prop,(∃m,W 0 m σ H)/\∀i m σ H,W i m σ H -> ((Ite1 K a).stop i H/\D.nx σ H)\/((Ite1 K a).go i H/\∃N:St->Hp->Prop,(∀σ' H',N σ' H'->∃m',m'<m/\W (i+1) m' σ' H')/\∀x H',(Ite1 K a).yld i H x H'->g x σ H' fun σ2 H2=>tb {D with nx:=N,ct:=N,bk:=D.nx} σ2 H2):=by
 refine⟨fun i m σ H=>m=xs.length-i/\i<=xs.length/\Pv i σ H,⟨xs.length,by simp,de _,h0⟩,?_⟩
 rintro i m σ H ⟨rfl,hi,p⟩
 have q:=hl i σ H hi p
 by_cases aR:i<xs.length
 ·refine .inr ⟨⟨xs,xs[i],q,by simp[aR]⟩,Pv (i+1),fun σ' H' p'=>⟨xs.length-(i+1),by omega,rfl,aR,p'⟩,fun x H' y=>?_⟩
  obtain⟨T,z,rfl,hT,rfl,y⟩:=y
  exact hs i z σ _ T (y xs q) p hT
 ·have e:i=xs.length:=by omega
  subst e
  exact .inl ⟨⟨xs,q,rfl⟩,hd σ H p⟩
section
variable{X:Cx}
theorem call_setL(hc:X.calm=true):gR X (.type "set") (fun xs H Q=>∃(p:aa) (ns:List Int),xs=[.ref p]/\ao X.K H p (ns.map V.int)/\ns.length+1<scanBound /\ ∀l,H l=none->Q (.ref l) (upd H l (.set (fun k=>(firstMet (fun i=>ns.getD i 0) ns.length).any (·==k)) (firstMet (fun i=>ns.getD i 0) ns.length).length))):=by
 intro pins s σ H xs us Q I r h
 obtain⟨p,ns,rfl,hp,hb,q⟩:=h
 obtain⟨u,rfl,ru⟩:=vals1 r
 cases ru
 obtain⟨ai,rv,pl,hz⟩:=I.list hp
 have hi:gM ai ns:=Vals.ints rv
 have hlen:ai.length=ns.length:=hi.length
 refine call_set_list (I.ok.hd hc) pl.isList (by simpa using hi) (by simp only[c4];omega) fun h' tk hS hk=>?_
 simp only[c4,hlen]at hS
 have hf:H s.heap.objs.size=none:=I.aG.fresh (aI _)
 exact⟨.ref s.heap.objs.size,upd H s.heap.objs.size (.set _ _),I.laid (o:=.set _ _) (t':=tk) (fun b ob e=>hk b ob (cy e) e) (aI _) hS,rfl,q _ hf⟩
theorem call_lenS:gR X (.builtin "len") (fun xs H Q=>∃a S n,xs=[V.ref a]/\H a=some (.set S n)/\Q (.int n) H):=by
 intro pins s σ H xs us Q I r h
 obtain⟨a,S,n,rfl,ha,q⟩:=h
 obtain⟨u,rfl,ru⟩:=vals1 r
 cases ru
 obtain⟨o,es,ep,t,ho,hex,hd,_,_,hsz,hf,hn⟩:s.heap.SetOf (intKind X.prog X.w) a S n:=I.aG a _ ha
 subst hn
 refine call_len_set ho hex hd hf (by unfold scanBound at hsz;omega) ?_
 exact⟨.int es.size,H,I.tok _,⟨_,rfl⟩,q⟩
end
structure LArg where
 a:aa
 vs:List af
 ns:List Int
def LArg.Ok(h:aA)(x:LArg):Prop:=h.get? x.a=some {cls:=.type "list",data:=.seq x.vs.toArray}/\gM x.vs x.ns/\x.ns.length<=sizeLine
theorem ints_fun:∀{vs:List af} {ns ms:List Int},gM vs ns->gM vs ms->ns=ms
 |_,_,_,.nil,h2=>by cases h2;rfl
 |_,_,_,.cons n t h,h2=>by
  cases h2 with
  |cons _ _ h'=>rw[ints_fun h h']
def listHp(K:ay)(as:List LArg):Hp:=fun b=>match as.find? fun x=>x.a==b with
 |some x=>if K.lookup b=none then some (.bM {cls:=.type "list",data:=.seq x.vs.toArray} (.lst (x.ns.map V.int)))else none
 |none=>none
theorem listHp_cases(K:ay)(as:List LArg)(b:aa):listHp K as b=none\/∃x∈as,x.a=b/\K.lookup b=none/\listHp K as b=some (.bM {cls:=.type "list",data:=.seq x.vs.toArray} (.lst (x.ns.map V.int))):=by
 unfold listHp
 cases e:as.find? fun x=>x.a==b with
 |none=>exact .inl rfl
 |some x=>
  have hx:=uY e
  have hb:x.a=b:=beq_iff_eq.mp (xC (p:=fun x:LArg=>x.a==b) e)
  cases k:K.lookup b with
  |some o=>exact .inl (by simp)
  |none=>exact .inr ⟨x,hx,hb,rfl,by simp⟩
def fb(K:ay)(as:List LArg)(P0:aa):Hp:=fun b=>if b=P0 then some (.bz #[])else listHp K as b
theorem o4(K:ay)(as:List LArg)(P0 b:aa):fb K as P0 b=none\/(b=P0/\fb K as P0 b=some (.bz #[]))\/(b≠P0/\∃x∈as,x.a=b/\K.lookup b=none/\fb K as P0 b=some (.bM {cls:=.type "list",data:=.seq x.vs.toArray} (.lst (x.ns.map V.int)))):=by
 unfold fb
 by_cases h:b=P0
 ·exact .inr (.inl ⟨h,if_pos h⟩)
 ·rw[if_neg h]
  rcases listHp_cases K as b with q|⟨x,h1,h2,h3,h4⟩
  ·exact .inl q
  ·exact .inr (.inr ⟨h,x,h1,h2,h3,h4⟩)
structure MakerIn (h:aA) (mg:ag->Option af) (c0 P0:aa):Prop where
 hd:xp h c0 P0
 bm:∃bm ob,mg "__builtins__" = some (.ref bm)/\bm≠builtinsNs/\h.get? bm=some ob/\ob.cls=.type "module"/\ob.dict=some builtinsNs/\ob.data=.plain
theorem spec_call{P:aU}{w:aM}{K:ay}{mg mb:ag->Option af}{CX:CXT}{k:Nat}{fa:aa}{fd:bh}{ps:List ag}{sp:Sp}{s₁:ah}{as:List LArg}{us:List af}{vs:List V}{out:List Int}{c0 P0:aa}(KX:K.In s₁.heap)(hns:s₁.heap.Ns mainGlobals mg)(hb:s₁.heap.Ns builtinsNs mb)(hbb:∀x:ag,x ≠ "__name__"->mb x=bootBuiltins x)(hlim:s₁.heap.NoLimit)(hg:s₁.gens = #[])(MI:MakerIn s₁.heap mg c0 P0)(hP:s₁.heap.TableAt c0 P0 #[])(hKP:K.lookup P0=none)(ha:∀x∈as,x.Ok s₁.heap)(rv:Vals vs us)(hr:dP k callerA)(F:∀base:aA,K.In base->base.Ns mainGlobals mg->MakerIn base mg c0 P0->aD P w K mg base CX k fa fd ps sp)(hbind:nL s₁ fd ⟨us,[]⟩ (ps.zip us))(hsp:∀H:Hp,H P0=some (.bz #[])->(∀x∈as,ao K H x.a (x.ns.map V.int))->sp vs H (fun v H'=>∃l,v=.ref l/\H' l=some (.lst (out.map V.int))) fun _ _ _=>False)(hCX:∀H e s',CX [] H s₁ (fun _ _ _=>False) e s'->False) :codeAny (model P w) callerA (.call (.ref fa) ⟨us,[]⟩) (fun r s'=>(∃l ai n,r=.ok (.ret (.ref l))/\s'.heap.get? l=some {cls:=.type "list",data:=.seq ai n}/\gM ai.toList out)/\OldK s₁.heap s'.heap/\s'.os=s₁.os/\kY s'.gens) s₁:=by
 have hPo:s₁.heap.get? P0=some {cls:=.none,data:=.fields #[]}:=hP.2
 have aG:HOk P w (fb K as P0) s₁.heap:=fun b u z=>by
  rcases o4 K as P0 b with q|⟨hb0,q⟩|⟨hb0,x,hx,hxb,hk,q⟩
  ·rw[q]at z;cases z
  ·rw[q]at z
   cases z
   rw[hb0]
   exact hPo
  ·rw[q]at z
   cases z
   obtain⟨h1,h2,h3⟩:=ha x hx
   rw[hxb]at h1
   exact⟨h1,by rw[aP];exact h3,x.vs,_,vals_ints h2,h1⟩
 have nP:∀x∈as,x.a≠P0:=fun x hx z=>by
  obtain⟨h1,_,_⟩:=ha x hx
  rw[z,hPo]at h1
  cases h1
 have hS:∀x∈as,ao K (fb K as P0) x.a (x.ns.map V.int):=fun x hx=>by
  obtain⟨h1,h2,h3⟩:=ha x hx
  have lenV:=h2.length
  cases hk:K.lookup x.a with
  |some o=>
   have e:=KX x.a o hk
   rw[h1]at e
   cases e
   exact .inr ⟨_,x.vs.toArray,_,hk,rfl,rfl,rfl,by rw[c4,lenV];exact h3,by simpa using vals_ints h2⟩
  |none=>
   refine .inl (.inr ⟨{cls:=.type "list",data:=.seq x.vs.toArray},?_⟩)
   unfold fb
   rw[if_neg (nP x hx)]
   unfold listHp
   cases e:as.find? fun y=>y.a==x.a with
   |none=>
    have z:=xD.mp e x hx
    simp at z
   |some y=>
    have hy:=uY e
    have hyb:y.a=x.a:=beq_iff_eq.mp (xC (p:=fun y:LArg=>y.a==x.a) e)
    obtain⟨g1,g2,_⟩:=ha y hy
    rw[hyb,h1]at g1
    have ev:x.vs=y.vs:=by
     have z:x.vs.toArray=y.vs.toArray:=by
      injection g1 with g1
      injection g1 with _ _ g1 _
      injection g1
     simpa using congrArg vV z
    have en:x.ns=y.ns:=ints_fun h2 (by rw[ev];exact g2)
    rw[ev,en]
    exact if_pos hk
 have hPt:fb K as P0 P0=some (.bz #[]):=by unfold fb;rw[if_pos rfl]
 have base_of:∀{b:aa} {o:az},s₁.heap.get? b=some o->fb K as P0 b=none->(hidT s₁.heap (fb K as P0)).get? b=some o:=fun e n=>hidT_get e n
 have noA:∀{b:aa} {o:az},s₁.heap.get? b=some o->o.cls≠.none->o.cls≠.type "list"->fb K as P0 b=none:=fun{b o} e n1 n2=>by
  rcases o4 K as P0 b with q|⟨hb0,_⟩|⟨_,x,hx,hxb,_,_⟩
  ·exact q
  ·rw[hb0,hPo]at e
   cases e
   exact absurd rfl n1
  ·obtain⟨h1,_,_⟩:=ha x hx
   rw[hxb,e]at h1
   cases h1
   exact absurd rfl n2
 have noD:∀{b:aa} {o:az} {es:Array iS} {ep:Nat},s₁.heap.get? b=some o->o.data=.dict es ep->fb K as P0 b=none:=fun{b o es ep} e d=>by
  rcases o4 K as P0 b with q|⟨hb0,_⟩|⟨_,x,hx,hxb,_,_⟩
  ·exact q
  ·rw[hb0,hPo]at e
   cases e
   cases d
  ·obtain⟨h1,_,_⟩:=ha x hx
   rw[hxb,e]at h1
   cases h1
   cases d
 have nsK:∀{b:aa} {m:ag->Option af},s₁.heap.Ns b m->(hidT s₁.heap (fb K as P0)).Ns b m:=fun{b m} ⟨o,es,ep,e,d,r⟩=>⟨o,es,ep,base_of e (noD e d),d,r⟩
 have hKb:K.In (hidT s₁.heap (fb K as P0)):=fun b o e=>base_of (KX b o e) (by
  rcases o4 K as P0 b with q|⟨hb0,_⟩|⟨_,_,_,_,hk,_⟩
  ·exact q
  ·rw[hb0,hKP]at e;cases e
  ·rw[hk]at e;cases e)
 have hM:Mod K mg (hidT s₁.heap (fb K as P0)):=⟨hKb,nsK hns,⟨mb,nsK hb,hbb⟩,let ⟨mc,h1,h2⟩:=hlim;⟨mc,nsK h1,h2⟩⟩
 have MB:MakerIn (hidT s₁.heap (fb K as P0)) mg c0 P0:=by
  obtain⟨⟨o,ws,file,tf,flags,tg,inF,text,tt,e1,e2,r⟩,bm,ob,b1,b2,b3,b4,b5⟩:=MI
  exact⟨⟨o,ws,file,tf,flags,tg,inF,text,tt,base_of e1 (noA e1 (by rw[e2];intro z;cases z) (by rw[e2];decide)),e2,r⟩,bm,ob,b1,b2,base_of b3 (noA b3 (by rw[b4];intro z;cases z) (by rw[b4];decide)),b4,b5⟩
 have e0:Env0 P w K mg (hidT s₁.heap (fb K as P0)) callerA [] s₁ (fb K as P0):=⟨rfl,hM,fun b o e=>of_hidT e,om (hidT_size _ _),trivial,fun b hb=>absurd (show b∈([]:List aa) from hb) (by simp),aG,.of_eq hg⟩
 refine iR ((F _ hKb (nsK hns) MB).run callerA [] s₁ (fb K as P0) ⟨us,[]⟩ us vs _ _ hr e0 hbind rv (hsp _ hPt hS)) fun r s' h=>?_
 cases r with
 |error e=>exact(hCX _ e s' h).elim
 |ok fl=>
  cases fl with
  |next=>exact eS h
  |brk=>exact eS h
  |cont=>exact eS h
  |ret u=>
   obtain⟨v,H',os,bare,un,hok',r',l,rfl,hl⟩:=h
   obtain rfl:u=bO l:=r'
   obtain⟨_,ai,n,rvo,ho⟩:=hok' l _ hl
   refine⟨⟨l,ai.toArray,n,rfl,ho,by simpa using Vals.ints rvo⟩,⟨fun b o e=>?_,fun b o e=>un.there b o e (by simp)⟩,os,bare⟩
   rcases o4 K as P0 b with q|⟨hb0,q⟩|⟨hb0,x,hx,hxb,hk,q⟩
   ·exact .inl (un.keep b o e q (by intro z;exact absurd (show b∈([]:List aa) from z) (by simp)) (by simp))
   ·obtain⟨more,z⟩:=un.tbls b _ q
    have z2:s'.heap.get? b=some {cls:=.none,data:=.fields (#[]++more)}:=hok' b _ z
    rw[hb0,hPo]at e
    cases e
    rw[hb0]at z2 ⊢
    exact .inr (.inl ⟨hP.isCodeTable,rfl,#[],more,rfl,z2⟩)
   ·have z2:=un.frzs b _ _ q
    obtain⟨e1,_⟩:=aG b _ q
    obtain⟨e2,_⟩:=hok' b _ z2
    rw[e]at e1;cases e1
    exact .inl e2
theorem reads_ints{R:PySem.W.WRecords}{cl:ag->Option aa}{h:aA}:∀{vs:List af} {ns:List Int},gM vs ns->PySem.W.ReadsAllW R cl h vs (ns.map qe) []
 |_,_,.nil=>.nil
 |_,_,.cons n t r=>zY (as:=[]) (bs:=[]) (.int n t) (reads_ints r)
theorem walk_os{r:PySem.W.OpenSpec}{k:Nat}{q:aU}{loose:List ag}{XP:(ag->Option af)->aA->Prop}{YP:aM->aA->Prop}{d:DefRec}{K:Params->ay}{CX:aM->CXT}{sp:aM->aa->Sp}{ps:List ag}(hdf:d.params.defaults=[])(hr:dP k callerA)(hrec:(recsOf q).find? (fun e=>e.name==d.name)=some d)(hnt:∀p:Params,PySem.W.noTabs (K p)=true)(hY:∀(w:aM) (h:aA),YP w h->(K w.params).In h)(F:∀(w:aM) (mg:ag->Option af) (fa:aa) (h:aA),(K w.params).In h->h.Ns mainGlobals mg->mg d.name=some (.ref fa) -> ∃fd:bh,(∃oc od osl,(K w.params).lookup fa=some ⟨oc,od,.func fd,osl⟩)/\(∀(s:ah) (us:List af),(K w.params).In s.heap->us.length=ps.length->nL s fd ⟨us,[]⟩ (ps.zip us)) /\ ∀(base:aA) (c0 P0:aa),(K w.params).In base->base.Ns mainGlobals mg->MakerIn base mg c0 P0->fd.code=.ref c0->aD r.prog w (K w.params) mg base (CX w) k fa fd ps (sp w P0))(hargs:∀(P:Params) (h:aA) (args:List PySem.W.WData) (vals:List af),r.pre args=true->xq P h vals args -> ∃(as:List LArg) (vs:List V) (out:List Int),(∀x∈as,x.Ok h)/\Vals vs vals/\vals.length=ps.length/\r.post args (.list (out.map qe))=true /\ ∀(w:aM) (H:Hp) (P0:aa),H P0=some (.bz #[])->(∀x∈as,ao (K w.params) H x.a (x.ns.map V.int))->sp w P0 vs H (fun v H'=>∃l,v=.ref l/\H' l=some (.lst (out.map V.int))) fun _ _ _=>False)(hCX:∀(w:aM) (H:Hp) (s:ah) (e:af) (s':ah),CX w [] H s (fun _ _ _=>False) e s'->False) :PySem.W.WalkOS q loose XP YP r d [] (fun f vs=>PySem.call f vs):=by
 intro w s₀ s₁ mg mb G Y fa o pm cd doc dV kV ho hd hcd hD hmg hg args vals as' hpre hlay hrd hwl hlo
 have KX:=hY w _ Y
 obtain⟨fd,⟨oc,od,osl,hlk⟩,hb,hF⟩:=F w mg fa _ KX G.T.g hmg
 obtain⟨as,vs,out,ha,rv,hlen,hpost,hsp⟩:=hargs w.params s₁.heap args vals hpre hwl
 obtain⟨fa',o',fd',c0,P0,h1,h2,h3,h4,h5,h6⟩:=G.T.tab d (uY hrec)
 obtain rfl:fa=fa':=by
  rw[hmg]at h1
  injection h1 with h1
  injection h1
 have hfd:fd=fd':=by
  have e:=KX _ _ hlk
  rw[h2]at e
  cases e
  injection h3
 subst hfd
 have hKP:(K w.params).lookup P0=none:=by
  cases e:(K w.params).lookup P0 with
  |none=>rfl
  |some o2=>
   have z:=KX _ _ e
   rw[h6.2]at z
   cases z
   have z2:=cB.mp (hnt w.params) (P0,_) (PySem.W.mem_of_lookupK e)
   exact absurd (show false=true from z2) dw
 refine PySem.W.enter_call (iR (spec_call KX G.T.g G.T.b G.T.builtins G.T.nolimit hg ⟨zZ h5 h6,G.T.bmain⟩ h6 hKP ha rv hr (fun base k1 k2 k3=>hF base c0 P0 k1 k2 k3 h4) (hb _ _ KX hlen) (fun H hO hS=>hsp w H P0 hO hS) fun H e s'=>hCX w H s₁ e s') fun res s' hq=>?_)
 obtain⟨⟨l,ai,n,rfl,hl,hi⟩,h2,h3,h4⟩:=hq
 exact⟨.inl ⟨.ref l,.list (out.map qe),[l],rfl,PySem.W.osNone,.list hl rfl rfl (reads_ints hi),PySem.W.osPost hpost,fun z=>absurd z dw⟩,h2,h3,h4⟩
theorem cxe_none(P:aU)(w:aM)(H:Hp)(s:ah)(e:af)(s':ah):aB P w [] H s (fun _ _ _=>False) e s'->False:=by
 rintro⟨_,_,_,_,_,_,_,_,_,_,z⟩
 exact z
end L2
namespace L2
open PySem PySem.W PyProof.Rows PySem.Calls
theorem top_of_seg{tb:String->Option iT}{p:aU}{w:aM}{n0:Nat}{ann:Option af}:∀{n:Nat} {s s':ah} {t:Thread} {f:Flow} {c:Code} {q:bN},segRun tb p w n0 ann 0 n s t=some (f,s',c,q)->topRun tb p w n0 ann n s t=some s'
 | 0,_,_,_,_,_,_,h=>by cases h
 |n+1,s,s',t,f,c,q,h=>by
  unfold segRun at h
  unfold topRun
  cases he:endAt 0 t with
  |some x=>
   rw[he]at h;cases h
   have:through t=true:=by
    unfold endAt at he
    unfold through
    split at he
    ·rename_i h1 h2
     rw[h2]
     have h3:t.stack.isEmpty=true:=by
      have:=eq_of_beq h1
      cases ht:t.stack with
      |nil=>rfl
      |cons a l=>rw[ht]at this;cases this
     rw[h3];rfl
    ·cases he
   rw[this]
  |none=>
   rw[he]at h
   have ht:through t=false:=by
    cases hh:through t with
    |false=>rfl
    |true=>
     unfold through at hh
     obtain⟨a,b⟩:=oy.mp hh
     unfold endAt at he
     have a2:(t.stack.length==0)=true:=by
      cases h5:t.stack with
      |nil=>rfl
      |cons x l=>rw[h5]at a;cases a
     rw[a2]at he
     cases hc:t.cur with
     |pure x=>cases x with
      |done y=>rw[hc]at he;cases he
      |again y=>rw[hc]at b;cases b
     |_=>rw[hc]at b;cases b
   rw[ht]
   cases hk:stepOk n0 ann t with
   |false=>rw[hk]at h;cases h
   |true=>
    rw[hk]at h
    cases hs:step (denote tb) p w s t with
    |halt _ _=>rw[hs]at h;cases h
    |go s2 t2=>rw[hs]at h;exact top_of_seg h
def treeOf:List az->Nat->BT->BT
 |[],_,t=>t
 |o :: l,n,t=>treeOf l (n+1) (t.ins n o)
noncomputable def boot(w:aM)(os:kC):SharedT:=⟨treeOf (boot_heap w.params).objs.toList 0 .nil,11,{},Array.mk [],boot_drawn,boot_toks,os⟩
theorem boot_abs(w:aM)(os:kC):(boot w os).abs=⟨boot_heap w.params,Array.mk [],boot_drawn,boot_toks,os⟩:=by kernel_rfl
theorem boot_size(w:aM):((boot_heap w.params).isNs mainGlobals&&(Array.mk []:Array pF).size==0,(boot_heap w.params).objs.size,(boot_heap w.params).nsMap mainGlobals "__annotations__")=(true,11,some (.ref 6)):=by kernel_rfl
noncomputable def topT(p:aU)(M:Nat)(w:aM)(os:kC):Option SharedT:=(Fast.tw10110043849684766642 Fast.tw14364793385576792824 p w 11 (some (.ref 6)) 0 M (boot w os) (topStub p)).map fun r=>r.2.1
abbrev xOf(q:aU)(s:ah):Bool:=xlAt q [] s&&recOk [] s
noncomputable def fc(p q:aU)(s:SharedT):=Fast.tw4187177175401517315 q [] (Fast.tw5923862056798008813 p.main.body) (xOf q) true s.abs
theorem left_parts{p q:aU}{al:Type}{Yf:ah->al}{Ya:aM->al}{N M:Nat}(e:opening p=plainProg p.main.scope.names)(hN:Nat.ble 600 N=true)(hM:Nat.ble M N=true)(f:∀s,fenceModules? p s=some s)(hA:∀(w:aM) (os:kC),(topT p M w os).map (fun s=>((fc p q s).1,(fc p q s).2.1,(fc p q s).2.2.2.1,(fc p q s).2.2.2.2.1))=some (expectedOf q,bltViewBooted,true,pinGoodD (drecsOf q)))(hB:∀(w:aM) (os:kC),(topT p M w os).map (fun s=>(fc p q s).2.2.1)=some true)(hC:∀(w:aM) (os:kC),(topT p M w os).map (fun s=>((fc p q s).2.2.2.2.2.1,(fc p q s).2.2.2.2.2.2.1))=some (plainGoodE q (looseW q []),plainGoodD q []))(hD:∀(w:aM) (os:kC),(topT p M w os).map (fun s=>((fc p q s).2.2.2.2.2.2.2.1,(fc p q s).2.2.2.2.2.2.2.2,staticsOk (Fast.tw5923862056798008813 p.main.body) (boot_heap w.params) s.abs.heap&&namesBound p s.abs.heap&&gensDone s.abs&&laidKept (boot_heap w.params) s.abs.heap))=some (wideGood q,clsGoodW q [],true))(hY:∀(w:aM) (os:kC),(topT p M w os).map (fun s=>Yf s.abs)=some (Ya w)):LeftO p q [] (fun s=>xlAt q [] s&&recOk [] s) Yf Ya N:=fun w=>by
 obtain⟨⟨h,gs,d,k,os⟩,ea,eb⟩:=qb.mp (boot_open (p:=p) (N:=N) e hN f w)
 obtain⟨rfl,rfl,rfl,rfl⟩:h=boot_heap w.params/\gs=Array.mk []/\d=boot_drawn/\k=boot_toks:=by simpa using eb
 obtain⟨s,h1,a⟩:=qb.mp (hA w os)
 have b:=hB w os;rw[h1]at b
 have c:=hC w os;rw[h1]at c
 have dd:=hD w os;rw[h1]at dd
 have y:=hY w os;rw[h1]at y
 obtain⟨⟨fl,s0,cc,ps⟩,h2,h3⟩:=qb.mp h1
 obtain rfl:s0=s:=h3
 have a:=a
 have b:=cC b
 have c:=cC c
 have dd:=cC dd
 have y:=cC y
 obtain⟨a1,a2,a4,a5⟩:_/\_/\_/\_:=by simpa only[sy]using a
 obtain⟨c6,c7⟩:_/\_:=by simpa only[sy]using c
 obtain⟨d8,d9,d0⟩:_/\_/\_:=by simpa only[sy]using dd
 rw[<-Fast.te5923862056798008813]at d0
 have z:fc p q s0=openGood q []:=i7 a1 (i7 a2 (i7 b (i7 a4 (i7 a5 (i7 c6 (i7 c7 (i7 d8 d9)))))))
 unfold fc at z
 rw[<-Fast.te5923862056798008813,<-Fast.te4187177175401517315]at z
 rw[<-Fast.te10110043849684766642,<-Fast.te14364793385576792824]at h2
 obtain⟨z1,z2,z3⟩:_/\_/\_:=by simpa only[sy]using boot_size w
 have r0:=top_of_seg (segRun_of h2)
 rw[boot_abs]at r0
 have r:=topRun_mono (N-M) _ _ _ _ r0
 rw[show M+(N-M)=N by have:=Nat.le_of_ble_eq_true hM;omega]at r
 have t:topFrom treeTable p w N ⟨boot_heap w.params,Array.mk [],boot_drawn,boot_toks,os⟩=some s0.abs:=by
  unfold topFrom
  dsimp only
  rw[z1,z2,z3,r]
  show(match staticsOk (importedModules p.main.body) (boot_heap w.params) s0.abs.heap&&namesBound p s0.abs.heap&&gensDone s0.abs&&laidKept (boot_heap w.params) s0.abs.heap with|true=>_|false=>_)=_
  rw[d0]
 unfold openEnds
 rw[ea]
 show(topFrom treeTable p w N _).map _=_
 rw[t]
 exact congrArg some (i7 z y)
end L2
namespace Gw
open PySem L2
def top(i:Nat):Stmt:=PySem.Challenge.pw_tablegroups_s03_gw_count.main.body.getD i (.Pass ⟨0,0,0,0⟩)
abbrev m9:a6:=top 26
abbrev mr:a6:=top 27
abbrev mG:a6:=top 28
abbrev ml:a6:=top 29
abbrev mw:a6:=top 30
abbrev mX:a6:=top 31
abbrev mq:a6:=top 32
abbrev mY:a6:=top 33
abbrev nu:a6:=top 34
abbrev my:a6:=top 35
abbrev ny:a6:=top 36
abbrev mM:a6:=top 37
abbrev mO:a6:=top 38
abbrev nz:a6:=top 39
abbrev mQ:a6:=top 40
abbrev mH:a6:=top 41
abbrev mR:a6:=top 42
abbrev nA:a6:=top 43
abbrev mS:a6:=top 48
abbrev mT:a6:=top 49
abbrev mz:a6:=top 50
abbrev mZ:a6:=top 51
abbrev mU:a6:=top 52
abbrev nc:a6:=top 53
abbrev mB:a6:=top 54
abbrev nB:a6:=top 55
abbrev ng:a6:=top 56
abbrev m5:a6:=top 57
abbrev mC:a6:=top 58
abbrev nD:a6:=top 59
abbrev mD:a6:=top 60
abbrev mI:a6:=top 61
abbrev nE:a6:=top 62
abbrev lq:a6:=top 63
abbrev nh:a6:=top 64
abbrev ni:a6:=top 65
abbrev lb:a6:=top 66
abbrev nF:a6:=top 85
abbrev mi:a6:=top 86
abbrev mJ:a6:=top 87
abbrev nj:a6:=top 88
abbrev mK:a6:=top 89
abbrev mV:a6:=top 90
abbrev mj:a6:=top 91
abbrev nG:a6:=top 92
abbrev sGroup:a6:=inClass (top 24) 0
abbrev sLevel:a6:=inClass (top 25) 0
def cX(mg:ag->Option af)(x:ag)(n:Int):Prop:=∃t,mg x=some (.int n t)
theorem bV{X:Cx}{x:ag}{n:Int}{pos:bN}(h:cX X.mg x n)(hg:Gl X x:=by rfl)(hd:(x==("__debug__" :ag))=false:=by decide):PE X (.Name x pos) (tC (.int n)):=by
 obtain⟨t,e⟩:=h
 exact pe_glob hg e ⟨t,rfl⟩ hd
structure GTup (K:ay) (mg:ag->Option af) (x:ag) (ns:List Int) (t:aa):Prop where
 mg:mg x=some (.ref t)
 sq:∀H:Hp,cz K H t (ns.map V.int)
structure cq (K:ay) (mg:ag->Option af) (x:ag) (st:a6) (ps:List ag) (f:aa) (fd:bh):Prop where
 fn:Fun K x x st f fd
 bd:Binds K fd ps []
 mg:mg x=some (.ref f)
structure GCls (K:ay) (mg:ag->Option af) (x qi:ag) (st:a6) (ps:List ag) (C f:aa) (fd:bh):Prop where
 cl:Cls K C
 mak:Mk K C f
 fn:Fun K "__init__" qi st f fd
 bd:Binds K fd ps []
 mg:mg x=some (.ref C)
set_option genInjectivity false in
set_option genSizeOfSpec false in
structure AD where
 dU:aa
 cE:aa
 eX:aa
 d7:aa
 eF:aa
 eY:aa
 e6:aa
 dJ:aa
 jC:aa
 dGroup:bh
 bb:aa
 jb:aa
 dLevel:bh
 j4:aa
 dReadText:bh
 jG:aa
 tD:bh
 jd:aa
 qC:bh
 jE:aa
 sT:bh
 jH:aa
 tE:bh
 jX:aa
 dReadWords:bh
 jF:aa
 sU:bh
 jY:aa
 dTakeComma:bh
 iI:aa
 pD:bh
 jI:aa
 tF:bh
 j9:aa
 dEndPart:bh
 jQ:aa
 ue:bh
 jR:aa
 uf:bh
 ji:aa
 dInverse:bh
 jS:aa
 ug:bh
 jN:aa
 tV:bh
 jT:aa
 uh:bh
 ka:aa
 dAddPart:bh
 jU:aa
 ui:bh
 jV:aa
 uj:bh
 jJ:aa
 tG:bh
 jZ:aa
 dShortened:bh
 jW:aa
 uk:bh
 gw:aa
 jh:bh
 jK:aa
 tH:bh
 kb:aa
 dAllWays:bh
 j5:aa
 dWithStep:bh
 j0:aa
 dWithPlace:bh
 jL:aa
 tI:bh
 kc:aa
 dMovedTo:bh
 jM:aa
 tJ:bh
 je:aa
 qD:bh
 kd:aa
 dMetFrom:bh
 jf:aa
 um:bh
 j6:aa
 dIsNormal:bh
 j7:aa
 dCountAll:bh
 jc:aa
 tK:bh
 iJ:aa
 dGwCount:bh
 la:aa
 wC:bh
 jO:aa
 tW:bh
 j8:aa
 dOfPlaces:bh
 jP:aa
 tX:bh
 iF:aa
 o5:bh
 jD:aa
 sN:bh
 ke:aa
 dGroupOf:bh
 tY:aa
 tORDERS:aa
structure Tx (K:ay) (mg:ag->Option af) (a:AD):Prop where
 gk:Xc K mg "Wrong" a.dU
 xTooLong:Xc K mg "TooLong" a.cE
 xLongerThanMost:Xc K mg "LongerThanMost" a.eX
 wD:Xc K mg "WrongArguments" a.d7
 xWrongText:Xc K mg "WrongText" a.eF
 xWrongWord:Xc K mg "WrongWord" a.eY
 xNoSuch:Xc K mg "NoSuch" a.e6
 zr:bK K (.ref a.eX) (.ref a.eX)=some true
 zt:bK K (.ref a.d7) (.ref a.eX)=some false
 zu:bK K (.ref a.d7) (.ref a.d7)=some true
 zv:bK K (.ref a.eF) (.ref a.eX)=some false
 zw:bK K (.ref a.eF) (.ref a.d7)=some false
 zD:bK K (.ref a.eF) (.ref a.eF)=some true
 zx:bK K (.ref a.eY) (.ref a.eX)=some false
 zy:bK K (.ref a.eY) (.ref a.d7)=some false
 zE:bK K (.ref a.eY) (.ref a.eF)=some false
 zF:bK K (.ref a.eY) (.ref a.eY)=some true
 zB:bK K (.ref a.e6) (.ref a.eX)=some false
 zC:bK K (.ref a.e6) (.ref a.d7)=some false
 m_NoSuch_WrongText:bK K (.ref a.e6) (.ref a.eF)=some false
 m_NoSuch_WrongWord:bK K (.ref a.e6) (.ref a.eY)=some false
 m_NoSuch_NoSuch:bK K (.ref a.e6) (.ref a.e6)=some true
 zz:bK K (.ref a.cE) (.ref a.eX)=some false
 zA:bK K (.ref a.cE) (.ref a.d7)=some false
 m_TooLong_WrongText:bK K (.ref a.cE) (.ref a.eF)=some false
 m_TooLong_WrongWord:bK K (.ref a.cE) (.ref a.eY)=some false
 m_TooLong_NoSuch:bK K (.ref a.cE) (.ref a.e6)=some false
 m_TooLong_TooLong:bK K (.ref a.cE) (.ref a.cE)=some true
 m_Wrong_Wrong:bK K (.ref a.dU) (.ref a.dU)=some true
 m_TooLong_Wrong:bK K (.ref a.cE) (.ref a.dU)=some false
 iB:GCls K mg "Group" "Group.__init__" sGroup ["self","letters","signs","words"] a.dJ a.jC a.dGroup
 qk:gO K a.dJ "letters"
 nGroup_signs:gO K a.dJ "signs"
 nGroup_words:gO K a.dJ "words"
 dM:GCls K mg "Level" "Level.__init__" sLevel ["self","bracket"] a.bb a.jb a.dLevel
 oR:gO K a.bb "bracket"
 oX:gO K a.bb "ended"
 oS:gO K a.bb "written"
 oO:gO K a.bb "has_part"
 gReadText:cq K mg "read_text" m9 ["text"] a.j4 a.dReadText
 qu:cq K mg "words_by_order" mr ["group","order"] a.jG a.tD
 lh:cq K mg "words_of_text" mG ["signs","letters","order"] a.jd a.qC
 ql:cq K mg "without_blanks" ml ["text"] a.jE a.sT
 qv:cq K mg "check_letters" mw ["letters"] a.jH a.tE
 qV:cq K mg "read_words" mX ["signs","letters","outside","order"] a.jX a.dReadWords
 qm:cq K mg "letter_numbers" mq ["letters"] a.jF a.sU
 qW:cq K mg "take_comma" mY ["level"] a.jY a.dTakeComma
 iK:cq K mg "end_word" nu ["level"] a.iI a.pD
 qw:cq K mg "begin_bracket" my ["levels","sign"] a.jI a.tF
 gEndPart:cq K mg "end_part" ny ["levels","sign","numbers"] a.j9 a.dEndPart
 lr:cq K mg "end_bracket" mM ["levels","bracket"] a.jQ a.ue
 qL:cq K mg "commutator" mO ["left","right"] a.jR a.uf
 iL:cq K mg "inverse" nz ["word"] a.ji a.dInverse
 qM:cq K mg "power_signs" mQ ["signs","start"] a.jS a.ug
 qE:cq K mg "power_number" mH ["signs"] a.jN a.tV
 qN:cq K mg "least_power" mR ["power","order"] a.jT a.uh
 gAddPart:cq K mg "add_part" nA ["level","part","power"] a.ka a.dAddPart
 qO:cq K mg "most_places" mS ["group"] a.jU a.ui
 qP:cq K mg "whole_moves" mT ["group","most"] a.jV a.uj
 qx:cq K mg "telling_words" mz ["words"] a.jJ a.tG
 qX:cq K mg "shortened" mZ ["word"] a.jZ a.dShortened
 qQ:cq K mg "first_moves" mU ["letters"] a.jW a.uk
 eP:cq K mg "places_of" nc ["moves"] a.gw a.jh
 qy:cq K mg "first_unknown" mB ["moves"] a.jK a.tH
 gAllWays:cq K mg "all_ways" nB ["moves","place","number","most"] a.kb a.dAllWays
 lz:cq K mg "with_step" ng ["moves","place","number","target"] a.j5 a.dWithStep
 qY:cq K mg "with_place" m5 ["moves"] a.j0 a.dWithPlace
 qz:cq K mg "no_place_moved" mC ["words","moves"] a.jL a.tI
 gMovedTo:cq K mg "moved_to" nD ["word","moves","place"] a.kc a.dMovedTo
 qA:cq K mg "table_numbers" mD ["moves"] a.jM a.tJ
 lj:cq K mg "numbers_from" mI ["moves","start"] a.je a.qD
 gMetFrom:cq K mg "met_from" nE ["moves","start"] a.kd a.dMetFrom
 qR:cq K mg "least_alike" lq ["moves"] a.jf a.um
 gIsNormal:cq K mg "is_normal" nh ["moves"] a.j6 a.dIsNormal
 gCountAll:cq K mg "count_all" ni ["whole","places"] a.j7 a.dCountAll
 qB:cq K mg "count_unalike" lb ["whole"] a.jc a.tK
 gGwCount:cq K mg "gw_count" nF ["n","what","text"] a.iJ a.dGwCount
 qg:cq K mg "answer_or_refusal" mi ["find_answer"] a.la a.wC
 qF:cq K mg "count_answer" mJ ["n","what","text"] a.jO a.tW
 gOfPlaces:cq K mg "of_places" nj ["whole","n"] a.j8 a.dOfPlaces
 qG:cq K mg "check_length" mK ["signs"] a.jP a.tX
 gC:cq K mg "check_range" mV ["number","least","most"] a.iF a.o5
 qh:cq K mg "group_with_places" mj ["n","text"] a.jD a.sN
 gGroupOf:cq K mg "group_of" nG ["text"] a.ke a.dGroupOf
 iMOST_LETTERS:cX mg "MOST_LETTERS" (8)
 iMOST_WORDS:cX mg "MOST_WORDS" (32)
 iMOST_BRACKETS:cX mg "MOST_BRACKETS" (32)
 iMOST_WRITTEN:cX mg "MOST_WRITTEN" (4096)
 iMOST_DIGITS:cX mg "MOST_DIGITS" (3)
 iBLANK:cX mg "BLANK" (32)
 iROUND:cX mg "ROUND" (40)
 iROUND_END:cX mg "ROUND_END" (41)
 iCOMMA:cX mg "COMMA" (44)
 iMINUS:cX mg "MINUS" (45)
 iZERO:cX mg "ZERO" (48)
 iNINE:cX mg "NINE" (57)
 iSQUARE:cX mg "SQUARE" (91)
 iSQUARE_END:cX mg "SQUARE_END" (93)
 iSMALL_A:cX mg "SMALL_A" (97)
 iSMALL_Z:cX mg "SMALL_Z" (122)
 iBAR:cX mg "BAR" (124)
 iWORDS_OF_TEXT:cX mg "WORDS_OF_TEXT" (0)
 iWORD_ALONE:cX mg "WORD_ALONE" (1)
 iGREAT_TO_SMALL:cX mg "GREAT_TO_SMALL" (32)
 iNO_ORDER:cX mg "NO_ORDER" (0)
 kg:cX mg "NOWHERE" (-1)
 iLONGEST:cX mg "LONGEST" (4096)
 iMOST_PLACES_AT_ALL:cX mg "MOST_PLACES_AT_ALL" (8)
 iCOUNT_WHOLE:cX mg "COUNT_WHOLE" (0)
 iCOUNT_UNALIKE:cX mg "COUNT_UNALIKE" (1)
 iCOUNT_NORMAL:cX mg "COUNT_NORMAL" (2)
 iCOUNT_ALL:cX mg "COUNT_ALL" (3)
 iMOST_REFUSED:cX mg "MOST_REFUSED" (-1)
 iARGUMENTS_REFUSED:cX mg "ARGUMENTS_REFUSED" (-2)
 iTEXT_REFUSED:cX mg "TEXT_REFUSED" (-3)
 iWORD_REFUSED:cX mg "WORD_REFUSED" (-4)
 iNO_SUCH_REFUSED:cX mg "NO_SUCH_REFUSED" (-5)
 iTOO_LONG_REFUSED:cX mg "TOO_LONG_REFUSED" (-6)
 ll:GTup K mg "MOST_PLACES" [8,7,5,4,3,3,3,3] a.tY
 lF:GTup K mg "ORDERS" [1,2,6,12,60,60,420,840] a.tORDERS
 b_abs:mg "abs" = none
 b_all:mg "all" = none
 o6:mg "enumerate" = none
 dh:mg "len" = none
 b_list:mg "list" = none
 b_min:mg "min" = none
 gW:mg "range" = none
 pb:mg "reversed" = none
 b_set:mg "set" = none
 pE:mg "sorted" = none
 b_tuple:mg "tuple" = none
theorem txt_mk{K:ay}{h:aA}{mg:ag->Option af}(X:K.In h)(G:h.Ns mainGlobals mg){dU cE eX d7 eF eY e6 dJ jC bb jb j4 jG jd jE jH jX jF jY iI jI j9 jQ jR ji jS jN jT ka jU jV jJ jZ jW gw jK kb j5 j0 jL kc jM je kd jf j6 j7 jc iJ la jO j8 jP iF jD ke ll lF:aa}{od_52 an_52 od_53 an_53 od_34 an_34 od_6 an_6 od_14 an_14 od_4 an_4 od_7 an_7 od_30 an_30 od_5 an_5 od_31 an_31 od_41 an_41 od_8 an_8 od_42 an_42 od_19 an_19 od_20 an_20 od_43 an_43 od_21 an_21 od_15 an_15 od_22 an_22 od_44 an_44 od_23 an_23 od_24 an_24 od_9 an_9 od_32 an_32 od_25 an_25 od_35 an_35 od_10 an_10 od_45 an_45 od_36 an_36 od_33 an_33 od_11 an_11 od_46 an_46 od_12 an_12 od_16 an_16 od_47 an_47 od_26 an_26 od_37 an_37 od_38 an_38 od_13 an_13 od_48 an_48 od_0 an_0 od_17 an_17 od_39 an_39 od_18 an_18 od_27 an_27 od_1 an_1 od_49 an_49 od_MOST_PLACES od_ORDERS:Option aa}{sl_52 sl_53 sl_34 sl_6 sl_14 sl_4 sl_7 sl_30 sl_5 sl_31 sl_41 sl_8 sl_42 sl_19 sl_20 sl_43 sl_21 sl_15 sl_22 sl_44 sl_23 sl_24 sl_9 sl_32 sl_25 sl_35 sl_10 sl_45 sl_36 sl_33 sl_11 sl_46 sl_12 sl_16 sl_47 sl_26 sl_37 sl_38 sl_13 sl_48 sl_0 sl_17 sl_39 sl_18 sl_27 sl_1 sl_49 sl_MOST_PLACES sl_ORDERS:Array (Option af)}{oc_52 kV_52 dc_52 pm_52 cd_52 ct_52 oc_53 kV_53 dc_53 pm_53 cd_53 ct_53 oc_34 kV_34 dc_34 pm_34 cd_34 ct_34 oc_6 kV_6 dc_6 pm_6 cd_6 ct_6 oc_14 kV_14 dc_14 pm_14 cd_14 ct_14 oc_4 kV_4 dc_4 pm_4 cd_4 ct_4 oc_7 kV_7 dc_7 pm_7 cd_7 ct_7 oc_30 kV_30 dc_30 pm_30 cd_30 ct_30 oc_5 kV_5 dc_5 pm_5 cd_5 ct_5 oc_31 kV_31 dc_31 pm_31 cd_31 ct_31 oc_41 kV_41 dc_41 pm_41 cd_41 ct_41 oc_8 kV_8 dc_8 pm_8 cd_8 ct_8 oc_42 kV_42 dc_42 pm_42 cd_42 ct_42 oc_19 kV_19 dc_19 pm_19 cd_19 ct_19 oc_20 kV_20 dc_20 pm_20 cd_20 ct_20 oc_43 kV_43 dc_43 pm_43 cd_43 ct_43 oc_21 kV_21 dc_21 pm_21 cd_21 ct_21 oc_15 kV_15 dc_15 pm_15 cd_15 ct_15 oc_22 kV_22 dc_22 pm_22 cd_22 ct_22 oc_44 kV_44 dc_44 pm_44 cd_44 ct_44 oc_23 kV_23 dc_23 pm_23 cd_23 ct_23 oc_24 kV_24 dc_24 pm_24 cd_24 ct_24 oc_9 kV_9 dc_9 pm_9 cd_9 ct_9 oc_32 kV_32 dc_32 pm_32 cd_32 ct_32 oc_25 kV_25 dc_25 pm_25 cd_25 ct_25 oc_35 kV_35 dc_35 pm_35 cd_35 ct_35 oc_10 kV_10 dc_10 pm_10 cd_10 ct_10 oc_45 kV_45 dc_45 pm_45 cd_45 ct_45 oc_36 kV_36 dc_36 pm_36 cd_36 ct_36 oc_33 kV_33 dc_33 pm_33 cd_33 ct_33 oc_11 kV_11 dc_11 pm_11 cd_11 ct_11 oc_46 kV_46 dc_46 pm_46 cd_46 ct_46 oc_12 kV_12 dc_12 pm_12 cd_12 ct_12 oc_16 kV_16 dc_16 pm_16 cd_16 ct_16 oc_47 kV_47 dc_47 pm_47 cd_47 ct_47 oc_26 kV_26 dc_26 pm_26 cd_26 ct_26 oc_37 kV_37 dc_37 pm_37 cd_37 ct_37 oc_38 kV_38 dc_38 pm_38 cd_38 ct_38 oc_13 kV_13 dc_13 pm_13 cd_13 ct_13 oc_48 kV_48 dc_48 pm_48 cd_48 ct_48 oc_0 kV_0 dc_0 pm_0 cd_0 ct_0 oc_17 kV_17 dc_17 pm_17 cd_17 ct_17 oc_39 kV_39 dc_39 pm_39 cd_39 ct_39 oc_18 kV_18 dc_18 pm_18 cd_18 ct_18 oc_27 kV_27 dc_27 pm_27 cd_27 ct_27 oc_1 kV_1 dc_1 pm_1 cd_1 ct_1 oc_49 kV_49 dc_49 pm_49 cd_49 ct_49:af}{t_MOST_LETTERS t_MOST_WORDS t_MOST_BRACKETS t_MOST_WRITTEN t_MOST_DIGITS t_BLANK t_ROUND t_ROUND_END t_COMMA t_MINUS t_ZERO t_NINE t_SQUARE t_SQUARE_END t_SMALL_A t_SMALL_Z t_BAR t_WORDS_OF_TEXT t_WORD_ALONE t_GREAT_TO_SMALL t_NO_ORDER t_NOWHERE t_LONGEST zG t_COUNT_WHOLE t_COUNT_UNALIKE t_COUNT_NORMAL t_COUNT_ALL t_MOST_REFUSED t_ARGUMENTS_REFUSED t_TEXT_REFUSED t_WORD_REFUSED t_NO_SUCH_REFUSED t_TOO_LONG_REFUSED wF wG wI wJ wK wL wM wN t_ORDERS_0 t_ORDERS_1 t_ORDERS_2 t_ORDERS_3 t_ORDERS_4 t_ORDERS_5 t_ORDERS_6 t_ORDERS_7:Tok}{nn_MOST_PLACES nn_ORDERS:Nat}(a_51:aN K mainGlobals "Wrong" = some (some (.ref dU)))(e_51:ju K dU ja "Exception.__new__" = true)(a_40:aN K mainGlobals "TooLong" = some (some (.ref cE)))(e_40:ju K cE ja "Exception.__new__" = true)(a_2:aN K mainGlobals "LongerThanMost" = some (some (.ref eX)))(e_2:ju K eX ja "Exception.__new__" = true)(a_3:aN K mainGlobals "WrongArguments" = some (some (.ref d7)))(e_3:ju K d7 ja "Exception.__new__" = true)(a_28:aN K mainGlobals "WrongText" = some (some (.ref eF)))(e_28:ju K eF ja "Exception.__new__" = true)(a_29:aN K mainGlobals "WrongWord" = some (some (.ref eY)))(e_29:ju K eY ja "Exception.__new__" = true)(a_50:aN K mainGlobals "NoSuch" = some (some (.ref e6)))(e_50:ju K e6 ja "Exception.__new__" = true)(m_2_2:bK K (.ref eX) (.ref eX)=some true)(m_3_2:bK K (.ref d7) (.ref eX)=some false)(m_3_3:bK K (.ref d7) (.ref d7)=some true)(m_28_2:bK K (.ref eF) (.ref eX)=some false)(m_28_3:bK K (.ref eF) (.ref d7)=some false)(m_28_28:bK K (.ref eF) (.ref eF)=some true)(m_29_2:bK K (.ref eY) (.ref eX)=some false)(m_29_3:bK K (.ref eY) (.ref d7)=some false)(m_29_28:bK K (.ref eY) (.ref eF)=some false)(m_29_29:bK K (.ref eY) (.ref eY)=some true)(m_50_2:bK K (.ref e6) (.ref eX)=some false)(m_50_3:bK K (.ref e6) (.ref d7)=some false)(m_50_28:bK K (.ref e6) (.ref eF)=some false)(m_50_29:bK K (.ref e6) (.ref eY)=some false)(m_50_50:bK K (.ref e6) (.ref e6)=some true)(m_40_2:bK K (.ref cE) (.ref eX)=some false)(m_40_3:bK K (.ref cE) (.ref d7)=some false)(m_40_28:bK K (.ref cE) (.ref eF)=some false)(m_40_29:bK K (.ref cE) (.ref eY)=some false)(m_40_50:bK K (.ref cE) (.ref e6)=some false)(m_40_40:bK K (.ref cE) (.ref cE)=some true)(m_51_51:bK K (.ref dU) (.ref dU)=some true)(m_40_51:bK K (.ref cE) (.ref dU)=some false)(a_52:aN K mainGlobals "Group" = some (some (.ref dJ)))(fi_52:fF K (.ref dJ) "__init__" = some (some (.ref jC)))(if_52:uP K (.ref jC)=true)(l_52:K.lookup jC=some ⟨oc_52,od_52,.func (bJ "__init__" "Group.__init__" (bS sGroup) (bI sGroup) (aK sGroup) .none kV_52 dc_52 pm_52 an_52 cd_52 ct_52),sl_52⟩)(cd__52:bW K cd_52 "Group.__init__" = true)(k_52:bG K (.ref jC)=true)(pg_52:pL K dJ wb=true)(hd_52:pM K dJ=true)(po_52:rD K dJ=true)(sa_52:fF K (.ref dJ) "__setattr__" = some (some (.builtin "object.__setattr__")))(mk_52:rE K dJ=true)(kc_52:bG K (.ref dJ)=true)(tL:fF K (.ref dJ) "letters" = some none)(uo:fF K (.ref dJ) "signs" = some none)(uq:fF K (.ref dJ) "words" = some none)(a_53:aN K mainGlobals "Level" = some (some (.ref bb)))(fi_53:fF K (.ref bb) "__init__" = some (some (.ref jb)))(if_53:uP K (.ref jb)=true)(l_53:K.lookup jb=some ⟨oc_53,od_53,.func (bJ "__init__" "Level.__init__" (bS sLevel) (bI sLevel) (aK sLevel) .none kV_53 dc_53 pm_53 an_53 cd_53 ct_53),sl_53⟩)(cd__53:bW K cd_53 "Level.__init__" = true)(k_53:bG K (.ref jb)=true)(pg_53:pL K bb wb=true)(hd_53:pM K bb=true)(po_53:rD K bb=true)(sa_53:fF K (.ref bb) "__setattr__" = some (some (.builtin "object.__setattr__")))(mk_53:rE K bb=true)(kc_53:bG K (.ref bb)=true)(tM:fF K (.ref bb) "bracket" = some none)(na_53_ended:fF K (.ref bb) "ended" = some none)(tN:fF K (.ref bb) "written" = some none)(sV:fF K (.ref bb) "has_part" = some none)(a_34:aN K mainGlobals "read_text" = some (some (.ref j4)))(l_34:K.lookup j4=some ⟨oc_34,od_34,.func (bJ "read_text" "read_text" (bS m9) (bI m9) (aK m9) .none kV_34 dc_34 pm_34 an_34 cd_34 ct_34),sl_34⟩)(cd__34:bW K cd_34 "read_text" = true)(k_34:bG K (.ref j4)=true)(a_6:aN K mainGlobals "words_by_order" = some (some (.ref jG)))(l_6:K.lookup jG=some ⟨oc_6,od_6,.func (bJ "words_by_order" "words_by_order" (bS mr) (bI mr) (aK mr) .none kV_6 dc_6 pm_6 an_6 cd_6 ct_6),sl_6⟩)(cd__6:bW K cd_6 "words_by_order" = true)(k_6:bG K (.ref jG)=true)(a_14:aN K mainGlobals "words_of_text" = some (some (.ref jd)))(l_14:K.lookup jd=some ⟨oc_14,od_14,.func (bJ "words_of_text" "words_of_text" (bS mG) (bI mG) (aK mG) .none kV_14 dc_14 pm_14 an_14 cd_14 ct_14),sl_14⟩)(cd__14:bW K cd_14 "words_of_text" = true)(k_14:bG K (.ref jd)=true)(a_4:aN K mainGlobals "without_blanks" = some (some (.ref jE)))(l_4:K.lookup jE=some ⟨oc_4,od_4,.func (bJ "without_blanks" "without_blanks" (bS ml) (bI ml) (aK ml) .none kV_4 dc_4 pm_4 an_4 cd_4 ct_4),sl_4⟩)(cd__4:bW K cd_4 "without_blanks" = true)(k_4:bG K (.ref jE)=true)(a_7:aN K mainGlobals "check_letters" = some (some (.ref jH)))(l_7:K.lookup jH=some ⟨oc_7,od_7,.func (bJ "check_letters" "check_letters" (bS mw) (bI mw) (aK mw) .none kV_7 dc_7 pm_7 an_7 cd_7 ct_7),sl_7⟩)(cd__7:bW K cd_7 "check_letters" = true)(k_7:bG K (.ref jH)=true)(a_30:aN K mainGlobals "read_words" = some (some (.ref jX)))(l_30:K.lookup jX=some ⟨oc_30,od_30,.func (bJ "read_words" "read_words" (bS mX) (bI mX) (aK mX) .none kV_30 dc_30 pm_30 an_30 cd_30 ct_30),sl_30⟩)(cd__30:bW K cd_30 "read_words" = true)(k_30:bG K (.ref jX)=true)(a_5:aN K mainGlobals "letter_numbers" = some (some (.ref jF)))(l_5:K.lookup jF=some ⟨oc_5,od_5,.func (bJ "letter_numbers" "letter_numbers" (bS mq) (bI mq) (aK mq) .none kV_5 dc_5 pm_5 an_5 cd_5 ct_5),sl_5⟩)(cd__5:bW K cd_5 "letter_numbers" = true)(k_5:bG K (.ref jF)=true)(a_31:aN K mainGlobals "take_comma" = some (some (.ref jY)))(l_31:K.lookup jY=some ⟨oc_31,od_31,.func (bJ "take_comma" "take_comma" (bS mY) (bI mY) (aK mY) .none kV_31 dc_31 pm_31 an_31 cd_31 ct_31),sl_31⟩)(cd__31:bW K cd_31 "take_comma" = true)(k_31:bG K (.ref jY)=true)(a_41:aN K mainGlobals "end_word" = some (some (.ref iI)))(l_41:K.lookup iI=some ⟨oc_41,od_41,.func (bJ "end_word" "end_word" (bS nu) (bI nu) (aK nu) .none kV_41 dc_41 pm_41 an_41 cd_41 ct_41),sl_41⟩)(cd__41:bW K cd_41 "end_word" = true)(k_41:bG K (.ref iI)=true)(a_8:aN K mainGlobals "begin_bracket" = some (some (.ref jI)))(l_8:K.lookup jI=some ⟨oc_8,od_8,.func (bJ "begin_bracket" "begin_bracket" (bS my) (bI my) (aK my) .none kV_8 dc_8 pm_8 an_8 cd_8 ct_8),sl_8⟩)(cd__8:bW K cd_8 "begin_bracket" = true)(k_8:bG K (.ref jI)=true)(a_42:aN K mainGlobals "end_part" = some (some (.ref j9)))(l_42:K.lookup j9=some ⟨oc_42,od_42,.func (bJ "end_part" "end_part" (bS ny) (bI ny) (aK ny) .none kV_42 dc_42 pm_42 an_42 cd_42 ct_42),sl_42⟩)(cd__42:bW K cd_42 "end_part" = true)(k_42:bG K (.ref j9)=true)(a_19:aN K mainGlobals "end_bracket" = some (some (.ref jQ)))(l_19:K.lookup jQ=some ⟨oc_19,od_19,.func (bJ "end_bracket" "end_bracket" (bS mM) (bI mM) (aK mM) .none kV_19 dc_19 pm_19 an_19 cd_19 ct_19),sl_19⟩)(cd__19:bW K cd_19 "end_bracket" = true)(k_19:bG K (.ref jQ)=true)(a_20:aN K mainGlobals "commutator" = some (some (.ref jR)))(l_20:K.lookup jR=some ⟨oc_20,od_20,.func (bJ "commutator" "commutator" (bS mO) (bI mO) (aK mO) .none kV_20 dc_20 pm_20 an_20 cd_20 ct_20),sl_20⟩)(cd__20:bW K cd_20 "commutator" = true)(k_20:bG K (.ref jR)=true)(a_43:aN K mainGlobals "inverse" = some (some (.ref ji)))(l_43:K.lookup ji=some ⟨oc_43,od_43,.func (bJ "inverse" "inverse" (bS nz) (bI nz) (aK nz) .none kV_43 dc_43 pm_43 an_43 cd_43 ct_43),sl_43⟩)(cd__43:bW K cd_43 "inverse" = true)(k_43:bG K (.ref ji)=true)(a_21:aN K mainGlobals "power_signs" = some (some (.ref jS)))(l_21:K.lookup jS=some ⟨oc_21,od_21,.func (bJ "power_signs" "power_signs" (bS mQ) (bI mQ) (aK mQ) .none kV_21 dc_21 pm_21 an_21 cd_21 ct_21),sl_21⟩)(cd__21:bW K cd_21 "power_signs" = true)(k_21:bG K (.ref jS)=true)(a_15:aN K mainGlobals "power_number" = some (some (.ref jN)))(l_15:K.lookup jN=some ⟨oc_15,od_15,.func (bJ "power_number" "power_number" (bS mH) (bI mH) (aK mH) .none kV_15 dc_15 pm_15 an_15 cd_15 ct_15),sl_15⟩)(cd__15:bW K cd_15 "power_number" = true)(k_15:bG K (.ref jN)=true)(a_22:aN K mainGlobals "least_power" = some (some (.ref jT)))(l_22:K.lookup jT=some ⟨oc_22,od_22,.func (bJ "least_power" "least_power" (bS mR) (bI mR) (aK mR) .none kV_22 dc_22 pm_22 an_22 cd_22 ct_22),sl_22⟩)(cd__22:bW K cd_22 "least_power" = true)(k_22:bG K (.ref jT)=true)(a_44:aN K mainGlobals "add_part" = some (some (.ref ka)))(l_44:K.lookup ka=some ⟨oc_44,od_44,.func (bJ "add_part" "add_part" (bS nA) (bI nA) (aK nA) .none kV_44 dc_44 pm_44 an_44 cd_44 ct_44),sl_44⟩)(cd__44:bW K cd_44 "add_part" = true)(k_44:bG K (.ref ka)=true)(a_23:aN K mainGlobals "most_places" = some (some (.ref jU)))(l_23:K.lookup jU=some ⟨oc_23,od_23,.func (bJ "most_places" "most_places" (bS mS) (bI mS) (aK mS) .none kV_23 dc_23 pm_23 an_23 cd_23 ct_23),sl_23⟩)(cd__23:bW K cd_23 "most_places" = true)(k_23:bG K (.ref jU)=true)(a_24:aN K mainGlobals "whole_moves" = some (some (.ref jV)))(l_24:K.lookup jV=some ⟨oc_24,od_24,.func (bJ "whole_moves" "whole_moves" (bS mT) (bI mT) (aK mT) .none kV_24 dc_24 pm_24 an_24 cd_24 ct_24),sl_24⟩)(cd__24:bW K cd_24 "whole_moves" = true)(k_24:bG K (.ref jV)=true)(a_9:aN K mainGlobals "telling_words" = some (some (.ref jJ)))(l_9:K.lookup jJ=some ⟨oc_9,od_9,.func (bJ "telling_words" "telling_words" (bS mz) (bI mz) (aK mz) .none kV_9 dc_9 pm_9 an_9 cd_9 ct_9),sl_9⟩)(cd__9:bW K cd_9 "telling_words" = true)(k_9:bG K (.ref jJ)=true)(a_32:aN K mainGlobals "shortened" = some (some (.ref jZ)))(l_32:K.lookup jZ=some ⟨oc_32,od_32,.func (bJ "shortened" "shortened" (bS mZ) (bI mZ) (aK mZ) .none kV_32 dc_32 pm_32 an_32 cd_32 ct_32),sl_32⟩)(cd__32:bW K cd_32 "shortened" = true)(k_32:bG K (.ref jZ)=true)(a_25:aN K mainGlobals "first_moves" = some (some (.ref jW)))(l_25:K.lookup jW=some ⟨oc_25,od_25,.func (bJ "first_moves" "first_moves" (bS mU) (bI mU) (aK mU) .none kV_25 dc_25 pm_25 an_25 cd_25 ct_25),sl_25⟩)(cd__25:bW K cd_25 "first_moves" = true)(k_25:bG K (.ref jW)=true)(a_35:aN K mainGlobals "places_of" = some (some (.ref gw)))(l_35:K.lookup gw=some ⟨oc_35,od_35,.func (bJ "places_of" "places_of" (bS nc) (bI nc) (aK nc) .none kV_35 dc_35 pm_35 an_35 cd_35 ct_35),sl_35⟩)(cd__35:bW K cd_35 "places_of" = true)(k_35:bG K (.ref gw)=true)(a_10:aN K mainGlobals "first_unknown" = some (some (.ref jK)))(l_10:K.lookup jK=some ⟨oc_10,od_10,.func (bJ "first_unknown" "first_unknown" (bS mB) (bI mB) (aK mB) .none kV_10 dc_10 pm_10 an_10 cd_10 ct_10),sl_10⟩)(cd__10:bW K cd_10 "first_unknown" = true)(k_10:bG K (.ref jK)=true)(a_45:aN K mainGlobals "all_ways" = some (some (.ref kb)))(l_45:K.lookup kb=some ⟨oc_45,od_45,.func (bJ "all_ways" "all_ways" (bS nB) (bI nB) (aK nB) .none kV_45 dc_45 pm_45 an_45 cd_45 ct_45),sl_45⟩)(cd__45:bW K cd_45 "all_ways" = true)(k_45:bG K (.ref kb)=true)(a_36:aN K mainGlobals "with_step" = some (some (.ref j5)))(l_36:K.lookup j5=some ⟨oc_36,od_36,.func (bJ "with_step" "with_step" (bS ng) (bI ng) (aK ng) .none kV_36 dc_36 pm_36 an_36 cd_36 ct_36),sl_36⟩)(cd__36:bW K cd_36 "with_step" = true)(k_36:bG K (.ref j5)=true)(a_33:aN K mainGlobals "with_place" = some (some (.ref j0)))(l_33:K.lookup j0=some ⟨oc_33,od_33,.func (bJ "with_place" "with_place" (bS m5) (bI m5) (aK m5) .none kV_33 dc_33 pm_33 an_33 cd_33 ct_33),sl_33⟩)(cd__33:bW K cd_33 "with_place" = true)(k_33:bG K (.ref j0)=true)(a_11:aN K mainGlobals "no_place_moved" = some (some (.ref jL)))(l_11:K.lookup jL=some ⟨oc_11,od_11,.func (bJ "no_place_moved" "no_place_moved" (bS mC) (bI mC) (aK mC) .none kV_11 dc_11 pm_11 an_11 cd_11 ct_11),sl_11⟩)(cd__11:bW K cd_11 "no_place_moved" = true)(k_11:bG K (.ref jL)=true)(a_46:aN K mainGlobals "moved_to" = some (some (.ref kc)))(l_46:K.lookup kc=some ⟨oc_46,od_46,.func (bJ "moved_to" "moved_to" (bS nD) (bI nD) (aK nD) .none kV_46 dc_46 pm_46 an_46 cd_46 ct_46),sl_46⟩)(cd__46:bW K cd_46 "moved_to" = true)(k_46:bG K (.ref kc)=true)(a_12:aN K mainGlobals "table_numbers" = some (some (.ref jM)))(l_12:K.lookup jM=some ⟨oc_12,od_12,.func (bJ "table_numbers" "table_numbers" (bS mD) (bI mD) (aK mD) .none kV_12 dc_12 pm_12 an_12 cd_12 ct_12),sl_12⟩)(cd__12:bW K cd_12 "table_numbers" = true)(k_12:bG K (.ref jM)=true)(a_16:aN K mainGlobals "numbers_from" = some (some (.ref je)))(l_16:K.lookup je=some ⟨oc_16,od_16,.func (bJ "numbers_from" "numbers_from" (bS mI) (bI mI) (aK mI) .none kV_16 dc_16 pm_16 an_16 cd_16 ct_16),sl_16⟩)(cd__16:bW K cd_16 "numbers_from" = true)(k_16:bG K (.ref je)=true)(a_47:aN K mainGlobals "met_from" = some (some (.ref kd)))(l_47:K.lookup kd=some ⟨oc_47,od_47,.func (bJ "met_from" "met_from" (bS nE) (bI nE) (aK nE) .none kV_47 dc_47 pm_47 an_47 cd_47 ct_47),sl_47⟩)(cd__47:bW K cd_47 "met_from" = true)(k_47:bG K (.ref kd)=true)(a_26:aN K mainGlobals "least_alike" = some (some (.ref jf)))(l_26:K.lookup jf=some ⟨oc_26,od_26,.func (bJ "least_alike" "least_alike" (bS lq) (bI lq) (aK lq) .none kV_26 dc_26 pm_26 an_26 cd_26 ct_26),sl_26⟩)(cd__26:bW K cd_26 "least_alike" = true)(k_26:bG K (.ref jf)=true)(a_37:aN K mainGlobals "is_normal" = some (some (.ref j6)))(l_37:K.lookup j6=some ⟨oc_37,od_37,.func (bJ "is_normal" "is_normal" (bS nh) (bI nh) (aK nh) .none kV_37 dc_37 pm_37 an_37 cd_37 ct_37),sl_37⟩)(cd__37:bW K cd_37 "is_normal" = true)(k_37:bG K (.ref j6)=true)(a_38:aN K mainGlobals "count_all" = some (some (.ref j7)))(l_38:K.lookup j7=some ⟨oc_38,od_38,.func (bJ "count_all" "count_all" (bS ni) (bI ni) (aK ni) .none kV_38 dc_38 pm_38 an_38 cd_38 ct_38),sl_38⟩)(cd__38:bW K cd_38 "count_all" = true)(k_38:bG K (.ref j7)=true)(a_13:aN K mainGlobals "count_unalike" = some (some (.ref jc)))(l_13:K.lookup jc=some ⟨oc_13,od_13,.func (bJ "count_unalike" "count_unalike" (bS lb) (bI lb) (aK lb) .none kV_13 dc_13 pm_13 an_13 cd_13 ct_13),sl_13⟩)(cd__13:bW K cd_13 "count_unalike" = true)(k_13:bG K (.ref jc)=true)(a_48:aN K mainGlobals "gw_count" = some (some (.ref iJ)))(l_48:K.lookup iJ=some ⟨oc_48,od_48,.func (bJ "gw_count" "gw_count" (bS nF) (bI nF) (aK nF) .none kV_48 dc_48 pm_48 an_48 cd_48 ct_48),sl_48⟩)(cd__48:bW K cd_48 "gw_count" = true)(k_48:bG K (.ref iJ)=true)(a_0:aN K mainGlobals "answer_or_refusal" = some (some (.ref la)))(l_0:K.lookup la=some ⟨oc_0,od_0,.func (bJ "answer_or_refusal" "answer_or_refusal" (bS mi) (bI mi) (aK mi) .none kV_0 dc_0 pm_0 an_0 cd_0 ct_0),sl_0⟩)(cd__0:bW K cd_0 "answer_or_refusal" = true)(k_0:bG K (.ref la)=true)(a_17:aN K mainGlobals "count_answer" = some (some (.ref jO)))(l_17:K.lookup jO=some ⟨oc_17,od_17,.func (bJ "count_answer" "count_answer" (bS mJ) (bI mJ) (aK mJ) .none kV_17 dc_17 pm_17 an_17 cd_17 ct_17),sl_17⟩)(cd__17:bW K cd_17 "count_answer" = true)(k_17:bG K (.ref jO)=true)(a_39:aN K mainGlobals "of_places" = some (some (.ref j8)))(l_39:K.lookup j8=some ⟨oc_39,od_39,.func (bJ "of_places" "of_places" (bS nj) (bI nj) (aK nj) .none kV_39 dc_39 pm_39 an_39 cd_39 ct_39),sl_39⟩)(cd__39:bW K cd_39 "of_places" = true)(k_39:bG K (.ref j8)=true)(a_18:aN K mainGlobals "check_length" = some (some (.ref jP)))(l_18:K.lookup jP=some ⟨oc_18,od_18,.func (bJ "check_length" "check_length" (bS mK) (bI mK) (aK mK) .none kV_18 dc_18 pm_18 an_18 cd_18 ct_18),sl_18⟩)(cd__18:bW K cd_18 "check_length" = true)(k_18:bG K (.ref jP)=true)(a_27:aN K mainGlobals "check_range" = some (some (.ref iF)))(l_27:K.lookup iF=some ⟨oc_27,od_27,.func (bJ "check_range" "check_range" (bS mV) (bI mV) (aK mV) .none kV_27 dc_27 pm_27 an_27 cd_27 ct_27),sl_27⟩)(cd__27:bW K cd_27 "check_range" = true)(k_27:bG K (.ref iF)=true)(a_1:aN K mainGlobals "group_with_places" = some (some (.ref jD)))(l_1:K.lookup jD=some ⟨oc_1,od_1,.func (bJ "group_with_places" "group_with_places" (bS mj) (bI mj) (aK mj) .none kV_1 dc_1 pm_1 an_1 cd_1 ct_1),sl_1⟩)(cd__1:bW K cd_1 "group_with_places" = true)(k_1:bG K (.ref jD)=true)(a_49:aN K mainGlobals "group_of" = some (some (.ref ke)))(l_49:K.lookup ke=some ⟨oc_49,od_49,.func (bJ "group_of" "group_of" (bS nG) (bI nG) (aK nG) .none kV_49 dc_49 pm_49 an_49 cd_49 ct_49),sl_49⟩)(cd__49:bW K cd_49 "group_of" = true)(k_49:bG K (.ref ke)=true)(sW:aN K mainGlobals "MOST_LETTERS" = some (some (.int (8) t_MOST_LETTERS)))(tZ:aN K mainGlobals "MOST_WORDS" = some (some (.int (32) t_MOST_WORDS)))(sP:aN K mainGlobals "MOST_BRACKETS" = some (some (.int (32) t_MOST_BRACKETS)))(sX:aN K mainGlobals "MOST_WRITTEN" = some (some (.int (4096) t_MOST_WRITTEN)))(tO:aN K mainGlobals "MOST_DIGITS" = some (some (.int (3) t_MOST_DIGITS)))(v_BLANK:aN K mainGlobals "BLANK" = some (some (.int (32) t_BLANK)))(v_ROUND:aN K mainGlobals "ROUND" = some (some (.int (40) t_ROUND)))(v_ROUND_END:aN K mainGlobals "ROUND_END" = some (some (.int (41) t_ROUND_END)))(v_COMMA:aN K mainGlobals "COMMA" = some (some (.int (44) t_COMMA)))(v_MINUS:aN K mainGlobals "MINUS" = some (some (.int (45) t_MINUS)))(v_ZERO:aN K mainGlobals "ZERO" = some (some (.int (48) t_ZERO)))(v_NINE:aN K mainGlobals "NINE" = some (some (.int (57) t_NINE)))(v_SQUARE:aN K mainGlobals "SQUARE" = some (some (.int (91) t_SQUARE)))(t4:aN K mainGlobals "SQUARE_END" = some (some (.int (93) t_SQUARE_END)))(v_SMALL_A:aN K mainGlobals "SMALL_A" = some (some (.int (97) t_SMALL_A)))(v_SMALL_Z:aN K mainGlobals "SMALL_Z" = some (some (.int (122) t_SMALL_Z)))(v_BAR:aN K mainGlobals "BAR" = some (some (.int (124) t_BAR)))(sQ:aN K mainGlobals "WORDS_OF_TEXT" = some (some (.int (0) t_WORDS_OF_TEXT)))(t5:aN K mainGlobals "WORD_ALONE" = some (some (.int (1) t_WORD_ALONE)))(sO:aN K mainGlobals "GREAT_TO_SMALL" = some (some (.int (32) t_GREAT_TO_SMALL)))(v_NO_ORDER:aN K mainGlobals "NO_ORDER" = some (some (.int (0) t_NO_ORDER)))(v_NOWHERE:aN K mainGlobals "NOWHERE" = some (some (.int (-1) t_NOWHERE)))(v_LONGEST:aN K mainGlobals "LONGEST" = some (some (.int (4096) t_LONGEST)))(sI:aN K mainGlobals "MOST_PLACES_AT_ALL" = some (some (.int (8) zG)))(tP:aN K mainGlobals "COUNT_WHOLE" = some (some (.int (0) t_COUNT_WHOLE)))(sR:aN K mainGlobals "COUNT_UNALIKE" = some (some (.int (1) t_COUNT_UNALIKE)))(sY:aN K mainGlobals "COUNT_NORMAL" = some (some (.int (2) t_COUNT_NORMAL)))(v_COUNT_ALL:aN K mainGlobals "COUNT_ALL" = some (some (.int (3) t_COUNT_ALL)))(sZ:aN K mainGlobals "MOST_REFUSED" = some (some (.int (-1) t_MOST_REFUSED)))(sJ:aN K mainGlobals "ARGUMENTS_REFUSED" = some (some (.int (-2) t_ARGUMENTS_REFUSED)))(tj:aN K mainGlobals "TEXT_REFUSED" = some (some (.int (-3) t_TEXT_REFUSED)))(tm:aN K mainGlobals "WORD_REFUSED" = some (some (.int (-4) t_WORD_REFUSED)))(sM:aN K mainGlobals "NO_SUCH_REFUSED" = some (some (.int (-5) t_NO_SUCH_REFUSED)))(sL:aN K mainGlobals "TOO_LONG_REFUSED" = some (some (.int (-6) t_TOO_LONG_REFUSED)))(tQ:aN K mainGlobals "MOST_PLACES" = some (some (.ref ll)))(tR:K.lookup ll=some ⟨.type "tuple",od_MOST_PLACES,.seq #[.int 8 wF,.int 7 wG,.int 5 wI,.int 4 wJ,.int 3 wK,.int 3 wL,.int 3 wM,.int 3 wN] nn_MOST_PLACES,sl_MOST_PLACES⟩)(a_ORDERS:aN K mainGlobals "ORDERS" = some (some (.ref lF)))(l_ORDERS:K.lookup lF=some ⟨.type "tuple",od_ORDERS,.seq #[.int 1 t_ORDERS_0,.int 2 t_ORDERS_1,.int 6 t_ORDERS_2,.int 12 t_ORDERS_3,.int 60 t_ORDERS_4,.int 60 t_ORDERS_5,.int 420 t_ORDERS_6,.int 840 t_ORDERS_7] nn_ORDERS,sl_ORDERS⟩)(b_abs:aN K mainGlobals "abs" = some none)(b_all:aN K mainGlobals "all" = some none)(o6:aN K mainGlobals "enumerate" = some none)(dh:aN K mainGlobals "len" = some none)(b_list:aN K mainGlobals "list" = some none)(b_min:aN K mainGlobals "min" = some none)(gW:aN K mainGlobals "range" = some none)(pb:aN K mainGlobals "reversed" = some none)(b_set:aN K mainGlobals "set" = some none)(pE:aN K mainGlobals "sorted" = some none)(b_tuple:aN K mainGlobals "tuple" = some none):∃a,Tx K mg a/\mg "gw_count" = some (.ref a.iJ):=by
 have F_52:=cf (st:=sGroup) l_52 cd__52 k_52
 have F_53:=cf (st:=sLevel) l_53 cd__53 k_53
 have F_34:=cf (st:=m9) l_34 cd__34 k_34
 have F_6:=cf (st:=mr) l_6 cd__6 k_6
 have F_14:=cf (st:=mG) l_14 cd__14 k_14
 have F_4:=cf (st:=ml) l_4 cd__4 k_4
 have F_7:=cf (st:=mw) l_7 cd__7 k_7
 have F_30:=cf (st:=mX) l_30 cd__30 k_30
 have F_5:=cf (st:=mq) l_5 cd__5 k_5
 have F_31:=cf (st:=mY) l_31 cd__31 k_31
 have F_41:=cf (st:=nu) l_41 cd__41 k_41
 have F_8:=cf (st:=my) l_8 cd__8 k_8
 have F_42:=cf (st:=ny) l_42 cd__42 k_42
 have F_19:=cf (st:=mM) l_19 cd__19 k_19
 have F_20:=cf (st:=mO) l_20 cd__20 k_20
 have F_43:=cf (st:=nz) l_43 cd__43 k_43
 have F_21:=cf (st:=mQ) l_21 cd__21 k_21
 have F_15:=cf (st:=mH) l_15 cd__15 k_15
 have F_22:=cf (st:=mR) l_22 cd__22 k_22
 have F_44:=cf (st:=nA) l_44 cd__44 k_44
 have F_23:=cf (st:=mS) l_23 cd__23 k_23
 have F_24:=cf (st:=mT) l_24 cd__24 k_24
 have F_9:=cf (st:=mz) l_9 cd__9 k_9
 have F_32:=cf (st:=mZ) l_32 cd__32 k_32
 have F_25:=cf (st:=mU) l_25 cd__25 k_25
 have F_35:=cf (st:=nc) l_35 cd__35 k_35
 have F_10:=cf (st:=mB) l_10 cd__10 k_10
 have F_45:=cf (st:=nB) l_45 cd__45 k_45
 have F_36:=cf (st:=ng) l_36 cd__36 k_36
 have F_33:=cf (st:=m5) l_33 cd__33 k_33
 have F_11:=cf (st:=mC) l_11 cd__11 k_11
 have F_46:=cf (st:=nD) l_46 cd__46 k_46
 have F_12:=cf (st:=mD) l_12 cd__12 k_12
 have F_16:=cf (st:=mI) l_16 cd__16 k_16
 have F_47:=cf (st:=nE) l_47 cd__47 k_47
 have F_26:=cf (st:=lq) l_26 cd__26 k_26
 have F_37:=cf (st:=nh) l_37 cd__37 k_37
 have F_38:=cf (st:=ni) l_38 cd__38 k_38
 have F_13:=cf (st:=lb) l_13 cd__13 k_13
 have F_48:=cf (st:=nF) l_48 cd__48 k_48
 have F_0:=cf (st:=mi) l_0 cd__0 k_0
 have F_17:=cf (st:=mJ) l_17 cd__17 k_17
 have F_39:=cf (st:=nj) l_39 cd__39 k_39
 have F_18:=cf (st:=mK) l_18 cd__18 k_18
 have F_27:=cf (st:=mV) l_27 cd__27 k_27
 have F_1:=cf (st:=mj) l_1 cd__1 k_1
 have F_49:=cf (st:=nG) l_49 cd__49 k_49
 have B_52:=F_52.binds (ps:=["self","letters","signs","words"]) fun _ _ _ _ _ _ us hl=>match us,hl with|[_,_,_,_],_=>rfl
 have B_53:=F_53.binds (ps:=["self","bracket"]) fun _ _ _ _ _ _ us hl=>match us,hl with|[_,_],_=>rfl
 have B_34:=F_34.binds (ps:=["text"]) fun _ _ _ _ _ _ us hl=>match us,hl with|[_],_=>rfl
 have B_6:=F_6.binds (ps:=["group","order"]) fun _ _ _ _ _ _ us hl=>match us,hl with|[_,_],_=>rfl
 have B_14:=F_14.binds (ps:=["signs","letters","order"]) fun _ _ _ _ _ _ us hl=>match us,hl with|[_,_,_],_=>rfl
 have B_4:=F_4.binds (ps:=["text"]) fun _ _ _ _ _ _ us hl=>match us,hl with|[_],_=>rfl
 have B_7:=F_7.binds (ps:=["letters"]) fun _ _ _ _ _ _ us hl=>match us,hl with|[_],_=>rfl
 have B_30:=F_30.binds (ps:=["signs","letters","outside","order"]) fun _ _ _ _ _ _ us hl=>match us,hl with|[_,_,_,_],_=>rfl
 have B_5:=F_5.binds (ps:=["letters"]) fun _ _ _ _ _ _ us hl=>match us,hl with|[_],_=>rfl
 have B_31:=F_31.binds (ps:=["level"]) fun _ _ _ _ _ _ us hl=>match us,hl with|[_],_=>rfl
 have B_41:=F_41.binds (ps:=["level"]) fun _ _ _ _ _ _ us hl=>match us,hl with|[_],_=>rfl
 have B_8:=F_8.binds (ps:=["levels","sign"]) fun _ _ _ _ _ _ us hl=>match us,hl with|[_,_],_=>rfl
 have B_42:=F_42.binds (ps:=["levels","sign","numbers"]) fun _ _ _ _ _ _ us hl=>match us,hl with|[_,_,_],_=>rfl
 have B_19:=F_19.binds (ps:=["levels","bracket"]) fun _ _ _ _ _ _ us hl=>match us,hl with|[_,_],_=>rfl
 have B_20:=F_20.binds (ps:=["left","right"]) fun _ _ _ _ _ _ us hl=>match us,hl with|[_,_],_=>rfl
 have B_43:=F_43.binds (ps:=["word"]) fun _ _ _ _ _ _ us hl=>match us,hl with|[_],_=>rfl
 have B_21:=F_21.binds (ps:=["signs","start"]) fun _ _ _ _ _ _ us hl=>match us,hl with|[_,_],_=>rfl
 have B_15:=F_15.binds (ps:=["signs"]) fun _ _ _ _ _ _ us hl=>match us,hl with|[_],_=>rfl
 have B_22:=F_22.binds (ps:=["power","order"]) fun _ _ _ _ _ _ us hl=>match us,hl with|[_,_],_=>rfl
 have B_44:=F_44.binds (ps:=["level","part","power"]) fun _ _ _ _ _ _ us hl=>match us,hl with|[_,_,_],_=>rfl
 have B_23:=F_23.binds (ps:=["group"]) fun _ _ _ _ _ _ us hl=>match us,hl with|[_],_=>rfl
 have B_24:=F_24.binds (ps:=["group","most"]) fun _ _ _ _ _ _ us hl=>match us,hl with|[_,_],_=>rfl
 have B_9:=F_9.binds (ps:=["words"]) fun _ _ _ _ _ _ us hl=>match us,hl with|[_],_=>rfl
 have B_32:=F_32.binds (ps:=["word"]) fun _ _ _ _ _ _ us hl=>match us,hl with|[_],_=>rfl
 have B_25:=F_25.binds (ps:=["letters"]) fun _ _ _ _ _ _ us hl=>match us,hl with|[_],_=>rfl
 have B_35:=F_35.binds (ps:=["moves"]) fun _ _ _ _ _ _ us hl=>match us,hl with|[_],_=>rfl
 have B_10:=F_10.binds (ps:=["moves"]) fun _ _ _ _ _ _ us hl=>match us,hl with|[_],_=>rfl
 have B_45:=F_45.binds (ps:=["moves","place","number","most"]) fun _ _ _ _ _ _ us hl=>match us,hl with|[_,_,_,_],_=>rfl
 have B_36:=F_36.binds (ps:=["moves","place","number","target"]) fun _ _ _ _ _ _ us hl=>match us,hl with|[_,_,_,_],_=>rfl
 have B_33:=F_33.binds (ps:=["moves"]) fun _ _ _ _ _ _ us hl=>match us,hl with|[_],_=>rfl
 have B_11:=F_11.binds (ps:=["words","moves"]) fun _ _ _ _ _ _ us hl=>match us,hl with|[_,_],_=>rfl
 have B_46:=F_46.binds (ps:=["word","moves","place"]) fun _ _ _ _ _ _ us hl=>match us,hl with|[_,_,_],_=>rfl
 have B_12:=F_12.binds (ps:=["moves"]) fun _ _ _ _ _ _ us hl=>match us,hl with|[_],_=>rfl
 have B_16:=F_16.binds (ps:=["moves","start"]) fun _ _ _ _ _ _ us hl=>match us,hl with|[_,_],_=>rfl
 have B_47:=F_47.binds (ps:=["moves","start"]) fun _ _ _ _ _ _ us hl=>match us,hl with|[_,_],_=>rfl
 have B_26:=F_26.binds (ps:=["moves"]) fun _ _ _ _ _ _ us hl=>match us,hl with|[_],_=>rfl
 have B_37:=F_37.binds (ps:=["moves"]) fun _ _ _ _ _ _ us hl=>match us,hl with|[_],_=>rfl
 have B_38:=F_38.binds (ps:=["whole","places"]) fun _ _ _ _ _ _ us hl=>match us,hl with|[_,_],_=>rfl
 have B_13:=F_13.binds (ps:=["whole"]) fun _ _ _ _ _ _ us hl=>match us,hl with|[_],_=>rfl
 have B_48:=F_48.binds (ps:=["n","what","text"]) fun _ _ _ _ _ _ us hl=>match us,hl with|[_,_,_],_=>rfl
 have B_0:=F_0.binds (ps:=["find_answer"]) fun _ _ _ _ _ _ us hl=>match us,hl with|[_],_=>rfl
 have B_17:=F_17.binds (ps:=["n","what","text"]) fun _ _ _ _ _ _ us hl=>match us,hl with|[_,_,_],_=>rfl
 have B_39:=F_39.binds (ps:=["whole","n"]) fun _ _ _ _ _ _ us hl=>match us,hl with|[_,_],_=>rfl
 have B_18:=F_18.binds (ps:=["signs"]) fun _ _ _ _ _ _ us hl=>match us,hl with|[_],_=>rfl
 have B_27:=F_27.binds (ps:=["number","least","most"]) fun _ _ _ _ _ _ us hl=>match us,hl with|[_,_,_],_=>rfl
 have B_1:=F_1.binds (ps:=["n","text"]) fun _ _ _ _ _ _ us hl=>match us,hl with|[_,_],_=>rfl
 have B_49:=F_49.binds (ps:=["text"]) fun _ _ _ _ _ _ us hl=>match us,hl with|[_],_=>rfl
 have S_MOST_PLACES:∀H:Hp,cz K H ll (([8,7,5,4,3,3,3,3]:List Int).map V.int):=fun H=>.inr ⟨_,_,_,tR,rfl,rfl,(by show 8<=sizeLine;decide),.cons ⟨wF,rfl⟩ (.cons ⟨wG,rfl⟩ (.cons ⟨wI,rfl⟩ (.cons ⟨wJ,rfl⟩ (.cons ⟨wK,rfl⟩ (.cons ⟨wL,rfl⟩ (.cons ⟨wM,rfl⟩ (.cons ⟨wN,rfl⟩ (.nil))))))))⟩
 have S_ORDERS:∀H:Hp,cz K H lF (([1,2,6,12,60,60,420,840]:List Int).map V.int):=fun H=>.inr ⟨_,_,_,l_ORDERS,rfl,rfl,(by show 8<=sizeLine;decide),.cons ⟨t_ORDERS_0,rfl⟩ (.cons ⟨t_ORDERS_1,rfl⟩ (.cons ⟨t_ORDERS_2,rfl⟩ (.cons ⟨t_ORDERS_3,rfl⟩ (.cons ⟨t_ORDERS_4,rfl⟩ (.cons ⟨t_ORDERS_5,rfl⟩ (.cons ⟨t_ORDERS_6,rfl⟩ (.cons ⟨t_ORDERS_7,rfl⟩ (.nil))))))))⟩
 exact⟨⟨dU,cE,eX,d7,eF,eY,e6,dJ,jC,_,bb,jb,_,j4,_,jG,_,jd,_,jE,_,jH,_,jX,_,jF,_,jY,_,iI,_,jI,_,j9,_,jQ,_,jR,_,ji,_,jS,_,jN,_,jT,_,ka,_,jU,_,jV,_,jJ,_,jZ,_,jW,_,gw,_,jK,_,kb,_,j5,_,j0,_,jL,_,kc,_,jM,_,je,_,kd,_,jf,_,j6,_,j7,_,jc,_,iJ,_,la,_,jO,_,j8,_,jP,_,iF,_,jD,_,ke,_,ll,lF⟩,⟨⟨aS X G a_51,e_51⟩,⟨aS X G a_40,e_40⟩,⟨aS X G a_2,e_2⟩,⟨aS X G a_3,e_3⟩,⟨aS X G a_28,e_28⟩,⟨aS X G a_29,e_29⟩,⟨aS X G a_50,e_50⟩,m_2_2,m_3_2,m_3_3,m_28_2,m_28_3,m_28_28,m_29_2,m_29_3,m_29_28,m_29_29,m_50_2,m_50_3,m_50_28,m_50_29,m_50_50,m_40_2,m_40_3,m_40_28,m_40_29,m_40_50,m_40_40,m_51_51,m_40_51,⟨⟨pg_52,hd_52,po_52,sa_52⟩,⟨mk_52,fi_52,if_52,kc_52⟩,F_52,B_52,aS X G a_52⟩,tL,uo,uq,⟨⟨pg_53,hd_53,po_53,sa_53⟩,⟨mk_53,fi_53,if_53,kc_53⟩,F_53,B_53,aS X G a_53⟩,tM,na_53_ended,tN,sV,⟨F_34,B_34,aS X G a_34⟩,⟨F_6,B_6,aS X G a_6⟩,⟨F_14,B_14,aS X G a_14⟩,⟨F_4,B_4,aS X G a_4⟩,⟨F_7,B_7,aS X G a_7⟩,⟨F_30,B_30,aS X G a_30⟩,⟨F_5,B_5,aS X G a_5⟩,⟨F_31,B_31,aS X G a_31⟩,⟨F_41,B_41,aS X G a_41⟩,⟨F_8,B_8,aS X G a_8⟩,⟨F_42,B_42,aS X G a_42⟩,⟨F_19,B_19,aS X G a_19⟩,⟨F_20,B_20,aS X G a_20⟩,⟨F_43,B_43,aS X G a_43⟩,⟨F_21,B_21,aS X G a_21⟩,⟨F_15,B_15,aS X G a_15⟩,⟨F_22,B_22,aS X G a_22⟩,⟨F_44,B_44,aS X G a_44⟩,⟨F_23,B_23,aS X G a_23⟩,⟨F_24,B_24,aS X G a_24⟩,⟨F_9,B_9,aS X G a_9⟩,⟨F_32,B_32,aS X G a_32⟩,⟨F_25,B_25,aS X G a_25⟩,⟨F_35,B_35,aS X G a_35⟩,⟨F_10,B_10,aS X G a_10⟩,⟨F_45,B_45,aS X G a_45⟩,⟨F_36,B_36,aS X G a_36⟩,⟨F_33,B_33,aS X G a_33⟩,⟨F_11,B_11,aS X G a_11⟩,⟨F_46,B_46,aS X G a_46⟩,⟨F_12,B_12,aS X G a_12⟩,⟨F_16,B_16,aS X G a_16⟩,⟨F_47,B_47,aS X G a_47⟩,⟨F_26,B_26,aS X G a_26⟩,⟨F_37,B_37,aS X G a_37⟩,⟨F_38,B_38,aS X G a_38⟩,⟨F_13,B_13,aS X G a_13⟩,⟨F_48,B_48,aS X G a_48⟩,⟨F_0,B_0,aS X G a_0⟩,⟨F_17,B_17,aS X G a_17⟩,⟨F_39,B_39,aS X G a_39⟩,⟨F_18,B_18,aS X G a_18⟩,⟨F_27,B_27,aS X G a_27⟩,⟨F_1,B_1,aS X G a_1⟩,⟨F_49,B_49,aS X G a_49⟩,⟨_,aS X G sW⟩,⟨_,aS X G tZ⟩,⟨_,aS X G sP⟩,⟨_,aS X G sX⟩,⟨_,aS X G tO⟩,⟨_,aS X G v_BLANK⟩,⟨_,aS X G v_ROUND⟩,⟨_,aS X G v_ROUND_END⟩,⟨_,aS X G v_COMMA⟩,⟨_,aS X G v_MINUS⟩,⟨_,aS X G v_ZERO⟩,⟨_,aS X G v_NINE⟩,⟨_,aS X G v_SQUARE⟩,⟨_,aS X G t4⟩,⟨_,aS X G v_SMALL_A⟩,⟨_,aS X G v_SMALL_Z⟩,⟨_,aS X G v_BAR⟩,⟨_,aS X G sQ⟩,⟨_,aS X G t5⟩,⟨_,aS X G sO⟩,⟨_,aS X G v_NO_ORDER⟩,⟨_,aS X G v_NOWHERE⟩,⟨_,aS X G v_LONGEST⟩,⟨_,aS X G sI⟩,⟨_,aS X G tP⟩,⟨_,aS X G sR⟩,⟨_,aS X G sY⟩,⟨_,aS X G v_COUNT_ALL⟩,⟨_,aS X G sZ⟩,⟨_,aS X G sJ⟩,⟨_,aS X G tj⟩,⟨_,aS X G tm⟩,⟨_,aS X G sM⟩,⟨_,aS X G sL⟩,⟨aS X G tQ,S_MOST_PLACES⟩,⟨aS X G a_ORDERS,S_ORDERS⟩,ip X G b_abs,ip X G b_all,ip X G o6,ip X G dh,ip X G b_list,ip X G b_min,ip X G gW,ip X G pb,ip X G b_set,ip X G pE,ip X G b_tuple⟩,aS X G a_48⟩
end Gw
namespace L2
open PySem PySem.Spec PyProof.Rows
abbrev EF:XK:=fun _ _ _=>False
theorem passF{P:aU}{w:aM}{X:Cx}:Passes (aB P w) X EF:=fun _ _ _ _ _ _ _ ⟨_,_,_,_,_,_,_,_,_,_,z⟩=>z.elim
section
variable{X:Cx}{tg:aV}
def iSeq(K:ay)(tl:TE):TI:=fun σ H R=>tl σ H fun x H1=>∃a,x=.ref a/\(((∃xs,ao K H1 a xs)/\R (Itl K a) H1)\/((∃xs,cz K H1 a xs)/\R (Itt K a) H1))
theorem pi_seq{l:aV}{tl:TE}(hl:PE X l tl):PI X tg l (iSeq X.K tl):=by
 intro pins s σ H R I h
 refine aW (hl pins s σ H _ I h) fun v s1 ⟨x,H1,I1,r1,q1⟩=>?_
 obtain⟨a,e,q1⟩:=q1
 subst e
 cases r1
 have fp:∀b∈[s1.heap.objs.size],FpOk X pins H1 b:=fun b hb=>by
  rw[aO.mp hb]
  exact I1.fpOk (aI _) (I1.aG.fresh (aI _))
 rcases q1 with⟨⟨xs,hq⟩,q⟩|⟨⟨xs,hq⟩,q⟩
 ·obtain⟨ai,rv,p,hz⟩:=I1.list hq
  refine kx p.isList ?_
  exact⟨s1.heap.objs.size,[s1.heap.objs.size],_,_,H1,rfl,I1.kept (t':=s1.toks) fun b o e=>cD _ e,turn_list a _,⟨_,df _ rfl,rfl,rfl⟩,fp,q⟩
 ·obtain⟨ai,rv,p,hz⟩:=I1.tuple hq
  refine wpAny_pyIter_tuple (show s1.heap.IsTuple a ai.toArray from p) ?_
  exact⟨s1.heap.objs.size,[s1.heap.objs.size],_,_,H1,rfl,I1.kept (t':=s1.toks) fun b o e=>cD _ e,turn_tuple a _,⟨_,df _ rfl,rfl,rfl⟩,fp,q⟩
end
abbrev ForW(J:It)(g:TG)(tb:TS)(D:Ends)(σ:St)(H:Hp):Prop:=∃W:Nat->Nat->St->Hp->Prop,(∃m,W 0 m σ H)/\∀i m σ H,W i m σ H ->
 (J.stop i H/\D.nx σ H)\/(J.go i H/\∃N:St->Hp->Prop,(∀σ' H',N σ' H'->∃m',m'<m/\W (i+1) m' σ' H')/\∀x H',J.yld i H x H'->g x σ H' fun σ2 H2=>tb {D with nx:=N,ct:=N,bk:=D.nx} σ2 H2)
theorem for_seq{K:ay}{a:aa}{xs:List V}{g:TG}{tb:TS}{D:Ends}{σ:St}{H:Hp}(hq:ao K H a xs\/cz K H a xs)(Pv:Nat->St->Hp->Prop)(h0:Pv 0 σ H)(hl:∀i σ H',i<=xs.length->Pv i σ H'->(ao K H a xs->ao K H' a xs)/\(cz K H a xs->cz K H' a xs))(hs:∀i x σ H,xs[i]?=some x->Pv i σ H->g x σ H fun σ2 H2=>tb {D with nx:=Pv (i+1),ct:=Pv (i+1),bk:=D.nx} σ2 H2)(hd:∀σ H,Pv xs.length σ H->D.nx σ H) :((∃xs,ao K H a xs)/\ForW (Itl K a) g tb D σ H)\/((∃xs,cz K H a xs)/\ForW (Itt K a) g tb D σ H):=by
 rcases hq with hq|hq
 ·exact .inl ⟨⟨_,hq⟩,lB Pv h0 (fun i σ H' hi p=>(hl i σ H' hi p).1 hq) hs hd⟩
 ·exact .inr ⟨⟨_,hq⟩,for_tup Pv h0 (fun i σ H' hi p=>(hl i σ H' hi p).2 hq) hs hd⟩
abbrev rv(n:Nat):List V:=(aT n).map fun(i:Nat)=>V.int (i:Int)
theorem pe_bmK {X:Cx} {K:ay} {o e:aV} {es:List aV} {to:TE} {t:TA} {name:ag} {apos c8:bN} {T id:String} {r:V->List V->Hp->VK->Prop} (hK:X.K=K) (pa:uA T) (slot:Slot T name id) (hty:typeOf (.builtin id)=pure (.type "method_descriptor")) (hm:MtR X id r) (ho:PE X o to) (ha:PA X (e :: es) t)
  (iD:attributeBase o name X.env (eval o X.env)=eval o X.env:=by rfl)
  (hfew:((backTo c8 (starEach (e :: es) X.env)).all (fun x=>!x.1)&&(backToKw c8 (keywordEach [] X.env)).all (fun x=>x.1.isSome)
   && decide ((e :: es).length+([]:List rg).length+(if ([]:List rg).isEmpty then 0 else 1)<30))=true:=by rfl)
  (hline:(apos.endLine==c8.line)=true:=by rfl) (hs:starEach (e :: es) X.env=(false,eval e X.env) :: starEach es X.env:=by rfl) (hplain:(backTo c8 (starEach es X.env)).any (·.1)=false:=by rfl) :
  PE X (.Call (.Attribute o name apos) (e :: es) [] c8) (tBM K T r to t):=by
 subst hK
 exact gp pa slot hty hm ho ha iD hfew hline hs hplain
theorem pq{d:aa}{o:az}{kvs:List (Key×V)}{g:TG}{tb:TS}{D:Ends}{σ:St}{H:Hp}(Pv:Nat->St->Hp->Prop)(h0:Pv 0 σ H)(hl:∀i σ H,i<=kvs.length->Pv i σ H->H d=some (.bM o (.dK kvs)))(hs:∀i k v σ H T,kvs[i]?=some (k,v)->Pv i σ H->H T=none->g (.ref T) σ (upd H T (.tup [kV k,v])) fun σ2 H2=>tb {D with nx:=Pv (i+1),ct:=Pv (i+1),bk:=D.nx} σ2 H2)(hd:∀σ H,Pv kvs.length σ H->D.nx σ H):∃W:Nat->Nat->St->Hp->Prop,(∃m,W 0 m σ H)/\∀i m σ H,W i m σ H -> ((Iti d o kvs).stop i H/\D.nx σ H)\/((Iti d o kvs).go i H/\∃N:St->Hp->Prop,(∀σ' H',N σ' H'->∃m',m'<m/\W (i+1) m' σ' H')/\∀x H',(Iti d o kvs).yld i H x H'->g x σ H' fun σ2 H2=>tb {D with nx:=N,ct:=N,bk:=D.nx} σ2 H2):=by
 refine⟨fun i m σ H=>m=kvs.length-i/\i<=kvs.length/\Pv i σ H,⟨kvs.length,by simp,de _,h0⟩,?_⟩
 rintro i m σ H ⟨rfl,hi,p⟩
 have q:=hl i σ H hi p
 by_cases aR:i<kvs.length
 ·refine .inr ⟨⟨q,aR⟩,Pv (i+1),fun σ' H' p'=>⟨kvs.length-(i+1),by omega,rfl,aR,p'⟩,fun x H' y=>?_⟩
  obtain⟨T,k,v,e,rfl,hT,rfl⟩:=y
  exact hs i k v σ _ T e p hT
 ·have e:i=kvs.length:=by omega
  subst e
  exact .inl ⟨⟨q,aI _⟩,hd σ H p⟩
theorem lc_keysT{d :aa}{o :az}{kvs :List (List Key×V)}{g :TG}{tt :TT}{te :TE}{vs :List Nat}{σ :St}{H1 :Hp}{D :aa}{Qd :Hp -> Prop}(Pv :Nat -> Hp -> Prop)(h0 :Pv 0 (upd H1 D (.lst [])))(hl:∀i H,i <= kvs.length -> Pv i H -> H d = some (.bM o (.dT kvs)))(hs:∀i k v q H,kvs[i]? = some (k,v) -> H q = some (.tup (k.map kV)) -> Pv i H -> g (.ref q) (wipe σ vs) H fun σ2 H2 => wipe σ2 vs = wipe σ vs /\ tt σ2 H2 fun b H3 => if b = true then te σ2 H3 fun y H4 => ∃acc,H4 D = some (.lst acc) /\ acc.length < sizeLine /\ Pv (i + 1) (upd H4 D (.lst (acc ++ [y])))else Pv (i + 1) H3)(hd:∀H,Pv kvs.length H -> Qd H):∃W :Nat -> Nat -> Hp -> Prop,(∃m,W 0 m (upd H1 D (.lst []))) /\ ∀i m H,W i m H -> ((Itkt d o kvs).stop i H /\ Qd H) \/ ((Itkt d o kvs).go i H /\ ∃Nx :Hp -> Prop,(∀H',Nx H' -> ∃m',m' < m /\ W (i + 1) m' H') /\ ∀x H',(Itkt d o kvs).yld i H x H' -> g x (wipe σ vs) H' fun σ2 H2 => wipe σ2 vs = wipe σ vs /\ tt σ2 H2 fun b H3 => if b = true then te σ2 H3 fun y H4 => ∃acc,H4 D = some (.lst acc) /\ acc.length < sizeLine /\ Nx (upd H4 D (.lst (acc ++ [y])))else Nx H3):= by
  refine⟨fun i m H => m = kvs.length - i /\ i <= kvs.length /\ Pv i H,⟨kvs.length,by simp,de _,h0⟩,?_⟩
  rintro i m H ⟨rfl,hi,p⟩
  have q := hl i H hi p
  by_cases aR :i < kvs.length
  · refine .inr ⟨⟨q,aR⟩,Pv (i + 1),fun H' p' => ⟨kvs.length - (i + 1),by omega,rfl,aR,p'⟩,fun x H' y => ?_⟩
    obtain⟨rfl,k,v,q2,e,rfl,e2⟩ := y
    exact hs i k v q2 _ e e2 p
  · have e :i = kvs.length := by omega
    subst e
    exact .inl ⟨⟨q,aI _⟩,hd H p⟩
def tTruK(K:ay)(ta:TE):TT:=fun σ H Q=>ta σ H fun x H'=>∃k,TruV K x H' k/\Q k H'
theorem pt_truthK{X:Cx}{K:ay}{a:aV}{ta:TE}(hK:X.K=K)(ha:PE X a ta)(he:∀whole,isTrue a X.env whole=(do let v <-whole;standAt a.pos;holding [v] (truthy v))):
  PT X a (tTruK K ta):=by
 subst hK
 exact nr ha he
section
variable{X:Cx}
def allBut(h:aA)(L:aa):List (aa×az):=(aT h.objs.size).filterMap fun b=>if b=L then none else(h.get? b).map fun o=>(b,o)
theorem qZ{h:aA}{L b:aa}{o:az}:(b,o)∈allBut h L↔b≠L/\h.get? b=some o:=by
 unfold allBut
 rw[pO]
 constructor
 ·rintro⟨c,_,e⟩
  split at e
  ·cases e
  ·rename_i hc
   cases q:h.get? c with
   |none=>rw[q]at e;cases e
   |some u=>
    rw[q]at e
    cases e
    exact⟨hc,q⟩
 ·rintro⟨h1,h2⟩
  exact⟨b,bt.mpr (cy h2),by rw[if_neg h1,h2];rfl⟩
theorem ns_same{h:aA}{a:aa}{m m':ag->Option af}(x:h.Ns a m)(y:h.Ns a m'):m=m':=by
 obtain⟨o,es,ep,e1,e2,_,e3⟩:=x
 obtain⟨o',es',ep',f1,f2,_,f3⟩:=y
 rw[e1]at f1
 cases f1
 rw[e2]at f2
 cases f2
 funext n
 rw[<-e3,<-f3]
theorem vals_refs:∀{qs:List aa} {us:List af},Vals (qs.map V.ref) us->us=qs.map bO
 |[],_,.nil=>rfl
 |q :: qs,_,.cons r t=>by
  cases r
  rw[vals_refs t]
  rfl
theorem refs_vals:∀(qs:List aa),Vals (qs.map V.ref) (qs.map bO)
 |[]=>.nil
 |q :: qs=>.cons rfl (refs_vals qs)
def refOf':af->aa
 |.ref a=>a
 |_=>0
theorem perm_refs{out:List af}{qs:List aa}(h:out.Perm (qs.map bO)):∃qs':List aa,qs'.Perm qs/\out=qs'.map bO:=by
 refine⟨out.map refOf',?_,?_⟩
 ·have:=h.map refOf'
  rw[fG]at this
  have e:(refOf'∘bO)=id:=rfl
  rw[e,kL]at this
  exact this
 ·rw[fG]
  conv=>lhs;rw[<-kL out]
  refine pR fun v hv=>?_
  obtain⟨a,_,rfl⟩:=bc.mp (h.mem_iff.mp hv)
  rfl
def tSortLen(K:ay)(ta:TA):TE:=fun σ H Q=>ta σ H fun vs H1=>∃(a:aa) (qs:List aa),vs=[V.ref a]/\ao K H1 a (qs.map V.ref)/\(∀q∈qs,∃ys,cz K H1 q ys) /\
 ∀(qs':List aa) (D:aa),qs'.Perm qs->H1 D=none->Q (.ref D) (upd H1 D (.lst (qs'.map V.ref)))
theorem bootSorted':bootBuiltins "sorted" = some (.builtin "sorted"):=by decide +kernel
theorem pe_sortedLen {e:aV} {ta:TA} {p p2 pos kpos:bN} (hg:Gl X "sorted") (hm:X.mg "sorted" = none) (hg2:Gl X "len") (hm2:X.mg "len" = none) (ha:PA X [e] ta) (hs:starEach [e] X.env=[(false,eval e X.env)]:=by rfl) :
  PE X (.Call (.Name "sorted" p) [e] [⟨some "key",.Name "len" p2,kpos⟩] pos) (tSortLen X.K ta):=by
 intro pins s σ H Q I h
 refine kA (kZ I hg hm bootSorted' ?_)
 refine uQ (P:=fun _=>True) (by rw [hs];rfl) (fun h _=>⟨.machine,.inr (.inl rfl),zh rfl⟩) (evalArgs_kw2 rfl (aW (ha pos pins s σ H _ I h) fun us s1 ⟨vs,H1,I1,r1,q1⟩=>?_) hs)
 obtain ⟨a,qs,ex,hq,hT,q⟩:=q1
 subst ex
 show wpAny _ _ (evalAll [(do let v <-eval (.Name "len" p2) X.env;standAt pos;pure v)]) _ _ s1
 refine xj (aq (kZ I1 hg2 hm2 dG (aq (jr (aX (xk ?_))))))
 refine ⟨trivial,?_⟩
 cases r1 with
 | cons r rr=>
  cases rr
  cases r
  obtain ⟨ai,rv,pl,hz⟩:=I1.list hq
  have eits:=vals_refs rv
  obtain ⟨m,hns,_⟩:=id I1.loc
  have hn63:=line63
  have lens:∀ q:aa,∃ k:Int,q∈qs->∃ items:List af,IsTup s1.heap q items.toArray/\k=items.toArray.size/\(items.toArray.size:Int)<2 ^ 63:=fun q=>by
   by_cases hm:q∈qs
   ·obtain ⟨ys,hy⟩:=hT q hm
    obtain ⟨it2,rv2,tp,hz2⟩:=I1.tuple hy
    have hl:=rv2.length
    exact ⟨it2.toArray.size,fun _=>⟨it2,tp,rfl,by simp only [c4]<;>omega⟩⟩
   ·exact ⟨0,fun z=>absurd z hm⟩
  obtain ⟨kf,hkf⟩:=vR lens
  refine ksk_sortedAny (h₀:=(⟨#[],{}⟩:aA)) (L:=X.env.locals) (m:=m) (news:=allBut s1.heap X.env.locals) (b:=false) (vs:=ai) (kz:=qs.map kf) (f:=.builtin "len") (kw:=[(wc "key",.builtin "len")])
   ⟨hns,(fun b o e=>by have z:(⟨#[],{}⟩:aA).get? b=none:=rfl;rw [z] at e;cases e),de _⟩
   (fun pr hp=>by
    obtain ⟨b,o⟩:=pr
    have z:=qZ.mp hp
    exact ⟨z.2,z.1,rfl⟩)
   pl.isList (by rw [eits];simp) (by have:=rv.length;omega) (ksk_s1 _ _) (fun x=>ksk_l1 _ _) (fun x=>ksk_t4 _ _) ?turn ?fin
  case turn=>
   intro i v k hv hk hh tk own F N
   rw [eits,bH] at hv
   rw [bH] at hk
   cases hqi:qs[i]? with
   | none=>rw [hqi] at hv;cases hv
   | some c=>
    rw [hqi] at hv hk
    cases hv
    cases hk
    obtain ⟨items,⟨ob,hob,hc⟩,hk2,hk3⟩:=hkf c (cW hqi)
    have hcL:c≠X.env.locals:=fun z=>by
     obtain ⟨o',es',ep',g1,g2,_⟩:=hns
     rw [z,g1] at hob
     cases hob
     obtain ⟨_,n,hd⟩:=hc
     rw [g2] at hd
     cases hd
    have hob2:hh.get? c=some ob:=(N (c,ob) (dZ _ (qZ.mpr ⟨hcL,hob⟩))).1
    refine len_tuple (s:={s1 with heap:=hh,toks:=tk}) ⟨ob,hob2,hc⟩ hk3 ?_
    rw [<-hk2]
    exact KskEnd.intro (news':=allBut s1.heap X.env.locals++own) F N fun _ z=>z
  case fin=>
   intro D h' tk out c F N hD ho
   have keep:∀ b o,b≠X.env.locals->s1.heap.get? b=some o->h'.get? b=some o:=fun b o hb e=>(N (b,o) (cb _ (qZ.mpr ⟨hb,e⟩))).1
   have hDo:=(N (D,_) (b9 ..)).1
   have hDL:D≠X.env.locals:=(N (D,_) (b9 ..)).2.1
   have noD:∀ o,s1.heap.get? D≠some o:=fun o e=>hG _ (hD (D,o) (qZ.mpr ⟨hDL,e⟩))
   have hHD:H1 D=none:=by
    cases z:H1 D with
    | none=>rfl
    | some u=>
     have:=I1.aG D u z
     exfalso
     cases e:s1.heap.get? D with
     | some o=>exact noD o e
     | none=>exact absurd (dk.there this) (by rw [e];simp)
   obtain ⟨ps,hp1,hp2,_⟩:=ho
   have hperm:out.toList.Perm (qs.map bO):=by
    rw [hp2]
    refine (hp1.map Prod.snd).trans ?_
    rw [List.map_snd_zip (by rw [eits];simp),eits]
   obtain ⟨qs',e1,e2⟩:=perm_refs hperm
   have ntr:∀ b u,H1 b=some u->b≠X.env.locals:=fun b u e z=>by rw [z,I1.free] at e;cases e
   have ntD:∀ b u,H1 b=some u->b≠D:=fun b u e z=>by rw [z,hHD] at e;cases e
   refine ⟨.ref D,upd H1 D (.lst (qs'.map V.ref)),?_,rfl,q qs' D e1 hHD⟩
   refine I1.step (g':=s1.gens) (d':=s1.drawn) (t':=tk) (ch:=[]) (fun _ z=>nomatch z) (fun b o hb _ _ e _=>keep b o hb e) (fun b o hb _ _ e _=>⟨o.slots,keep b o hb e⟩) (fun b o _ e n=>?_) (fun b o _ e=>?_) (fun b xs e=>by rw [ak (ntD b _ e)];exact e) (fun b o u e=>by rw [ak (ntD b _ e)];exact e) (fun b ps e=>⟨#[],by rw [ak (ntD b _ e),e];simp⟩) (fun m' hm'=>?_) (fun b u e=>?_) I1.bare
   ·have:b≠D:=fun z=>noD o (z ▸ e)
    rw [ak this]
    exact n
   ·by_cases hb:b=X.env.locals
    ·obtain ⟨o',_,_,g1,_⟩:=F.ns
     exact ⟨o',hb ▸ g1⟩
    ·exact ⟨o,keep b o hb e⟩
   ·rw [ns_same hm' hns]
    exact F.ns
   ·by_cases hb:b=D
    ·subst hb
     rw [ax] at e
     cases e
     refine ⟨by rw [aP,e1.length_eq];simpa using hz,out.toList,c,?_,hDo⟩
     rw [e2]
     exact refs_vals qs'
    ·rw [ak hb] at e
     refine (I1.aG b u e).stay (fun c2 v hc q=>keep c2 v ?_ q) (fun c2 q=>by rw [ak (ntD c2 _ q)];exact q) fun c2 xs q=>by rw [ak (ntD c2 _ q)];exact q
     rcases hc with z | z
     ·rw [z];exact ntr b u e
     ·exact ntr c2 _ z
end
end L2
namespace Gw
open Sa54
structure Lv where
 br:Nat
 ended:List Word
 wr:Word
 hp:Bool
def dj(l:Lv):Got Lv:=if l.hp=true then .ok ⟨l.br,l.ended++[l.wr],[],false⟩else .error .wrong
def fg(l:Lv):Got Lv:=if l.br=40\/l.br=1 then .error .wrong else if l.br=91/\l.ended≠[]then .error .wrong else dj l
def eZ(ls:Bytes)(c:Nat):Option Letter:=match ls.idxOf? (if great c=true then c+32 else c)with
 |some i=>some (i,great c)
 |none=>none
def comm(x y:Word):Got Word:=if MOST<2*(x.length+y.length)then .error .full else .ok (x++y++inverse x++inverse y)
def gu(br:Nat):List Lv->Got (List Word×List Lv)
 |[]=>.error .wrong
 |l :: st=>if l.br=br then(dj l).bind fun m=>.ok (m.ended,st)else .error .wrong
def cM(ls:Bytes)(st:List Lv)(c:Nat):Got (Word×List Lv):=match eZ ls c with
 |some l=>.ok ([l],st)
 |none=>if c=41 then(gu 40 st).bind fun p=>.ok (p.1.headD [],p.2)
  else if c=93 then(gu 91 st).bind fun p=>match p.1 with
   |x :: y :: _=>(comm x y).bind fun v=>.ok (v,p.2)
   |_=>.error .wrong
  else .error .wrong
def rep(n:Nat)(w:Word):Word:=(eI n w).flatten
def addPart(st:List Lv)(p:Word)(n:Nat)(neg:Bool):Got (List Lv):=match st with
 |[]=>.error .wrong
 |l :: r=>if MOST<l.wr.length+p.length*n then .error .full else .ok (⟨l.br,l.ended,l.wr++rep n (if neg=true then inverse p else p),true⟩ :: r)
def begin_(st:List Lv)(c:Nat):Got (List Lv):=if 32<st.length then .error .wrong else .ok (⟨c,[],[],false⟩ ::st)
def dA(n:Nat)(neg:Bool):Int:=if neg=true then -(n:Int)else n
def gm(o:Nat)(z:Int):Int:=if 2*(z%(o:Int)) > (o:Int)then z%(o:Int)-(o:Int)else z%(o:Int)
def least:Nat->Nat×Bool->Nat×Bool
 | 0,q=>q
 |o+1,q=>((gm (o+1) (dA q.1 q.2)).natAbs,decide (gm (o+1) (dA q.1 q.2)<0))
def turn(ls:Bytes)(o:Nat)(st:List Lv)(c:Nat)(r:Bytes):Got (List Lv×Bytes):=
 if c=44 then(match st with
  |[]=>.error .wrong
  |l :: t=>(fg l).bind fun m=>.ok (m :: t,r))
 else if c=40\/c=91 then(begin_ st c).bind fun t=>.ok (t,r)
 else(cM ls st c).bind fun p=>(power r).bind fun q=>(addPart p.2 p.1 (least o q.1).1 (least o q.1).2).bind fun t=>.ok (t,q.2)
def fin:List Lv->Got (List Word)
 |[l]=>(dj l).bind fun m=>.ok m.ended
 |_=>.error .wrong
def run(ls:Bytes)(o:Nat):Nat->List Lv->Bytes->Got (List Word)
 |_,st,[]=>fin st
 | 0,_,_ :: _=>.error .wrong
 |f+1,st,c :: r=>(turn ls o st c r).bind fun p=>run ls o f p.1 p.2
theorem pow_len{b:Bytes}{n:Nat×Bool}{q:Bytes}(h:power b=.ok (n,q)):q.length<=b.length:=by
 have key:∀(no:Bool) (r:Bytes),r.length<=b.length->(if r.takeWhile digit=[]then(if no=true then(.error .wrong:Got ((Nat×Bool)×Bytes))else .ok ((1,false),b))
   else if 3<(r.takeWhile digit).length then .error .wrong
   else .ok (((r.takeWhile digit).foldl (fun n c=>10*n+(c-48)) 0,no),r.drop (r.takeWhile digit).length))=.ok (n,q)->q.length<=b.length:=by
  intro no r hr h
  by_cases h1:r.takeWhile digit=[]
  ·rw[if_pos h1]at h
   cases no with
   |true=>cases h
   |false=>cases h;exact aI _
  ·rw[if_neg h1]at h
   by_cases h2:3<(r.takeWhile digit).length
   ·rw[if_pos h2]at h;cases h
   ·rw[if_neg h2]at h
    cases h
    rw[kI]
    omega
 refine key (b.head?==some 45) (if (b.head?==some 45)=true then b.drop 1 else b) ?_ h
 split
 ·rw[kI];omega
 ·exact aI _
theorem turn_len{ls:Bytes}{o:Nat}{st t:List Lv}{c:Nat}{r q:Bytes}(h:turn ls o st c r=.ok (t,q)):q.length<=r.length:=by
 unfold turn at h
 split at h
 ·cases st with
  |nil=>cases h
  |cons l u=>
   simp only at h
   cases e:fg l with
   |error _=>rw[e]at h;cases h
   |ok m=>rw[e]at h;cases h;exact aI _
 ·split at h
  ·cases e:begin_ st c with
   |error _=>rw[e]at h;cases h
   |ok m=>rw[e]at h;cases h;exact aI _
  ·cases e:cM ls st c with
   |error _=>rw[e]at h;cases h
   |ok p=>
    rw[e]at h
    cases e2:power r with
    |error _=>simp only[wm,e2]at h;cases h
    |ok n=>
     simp only[wm,e2]at h
     cases e3:addPart p.2 p.1 (least o n.1).1 (least o n.1).2 with
     |error _=>rw[e3]at h;cases h
     |ok u=>rw[e3]at h;cases h;exact pow_len e2
theorem run_more(ls:Bytes)(o:Nat):∀(f g:Nat) (st:List Lv) (b:Bytes),b.length<=f->b.length<=g->run ls o f st b=run ls o g st b
 |_,_,st,[],_,_=>by unfold run;rfl
 | 0,_,_,_ :: _,h,_=>by simp at h
 |_,0,_,_ :: _,_,h=>by simp at h
 |f+1,g+1,st,c :: r,h1,h2=>by
  simp only[run]
  cases e:turn ls o st c r with
  |error _=>rfl
  |ok p=>
   have hl:=turn_len (t:=p.1) (q:=p.2) (by rw[e])
   simp only[cI]at h1 h2
   exact run_more ls o f g p.1 p.2 (by omega) (by omega)
def go(ls:Bytes)(o:Nat)(st:List Lv)(b:Bytes):Got (List Word):=run ls o b.length st b
theorem go_nil(ls:Bytes)(o:Nat)(st:List Lv):go ls o st []=fin st:=by unfold go run;rfl
theorem iO(ls:Bytes)(o:Nat)(st:List Lv)(c:Nat)(r:Bytes):go ls o st (c ::r)=(turn ls o st c r).bind fun p=>go ls o p.1 p.2:=by
 show run ls o (r.length+1) st (c ::r)=_
 simp only[run]
 cases e:turn ls o st c r with
 |error _=>rfl
 |ok p=>exact run_more ls o _ _ p.1 p.2 (turn_len (by rw[e])) (aI _)
theorem turn0(ls:Bytes)(st:List Lv)(c:Nat)(r:Bytes):turn ls 0 st c r=if c=44 then(match st with
  |[]=>.error .wrong
  |l :: t=>(fg l).bind fun m=>.ok (m :: t,r))
 else if c=40\/c=91 then(begin_ st c).bind fun t=>.ok (t,r)
 else(cM ls st c).bind fun p=>(power r).bind fun q=>(addPart p.2 p.1 q.1.1 q.1.2).bind fun t=>.ok (t,q.2):=rfl
theorem times_eq:∀(n:Nat) (w:Word),times n w=if MOST<w.length*n then .error .full else .ok (rep n w)
 | 0,w=>by simp[times,rep,MOST]
 |n+1,w=>by
  simp only[times]
  rw[times_eq n w]
  by_cases h:MOST<w.length*n
  ·have h2:MOST<w.length*(n+1):=by rw[lW];omega
   rw[if_pos h,if_pos h2];rfl
  ·rw[if_neg h]
   have hl:(rep n w).length=w.length*n:=by simp[rep,gI]
   simp only[wm,held,cx,hl]
   rw[lW]
   have e:rep n w++w=rep (n+1) w:=by
    unfold rep
    rw[uZ,xE]
    simp
   split
   ·rfl
   ·rw[e]
theorem rep_len(n:Nat)(w:Word):(rep n w).length=w.length*n:=by simp[rep,gI]
theorem ig(w:Word):(inverse w).length=w.length:=by simp[inverse]
def starts(c:Nat):Prop:=small c=true\/great c=true\/c=40\/c=91
instance (c:Nat):Decidable (starts c):=by unfold starts;infer_instance
theorem letter_starts{ls:Bytes}(hs:ls.all small=true){c:Nat}{l:Letter}(h:eZ ls c=some l):small c=true\/great c=true:=by
 unfold eZ at h
 by_cases g:great c=true
 ·exact .inr g
 ·rw[if_neg g]at h
  cases e:ls.idxOf? c with
  |none=>rw[e]at h;cases h
  |some i=>
   left
   have hm:c∈ls:=by
    have:=xF (l:=ls) (a:=c)
    apply fX
    intro hn
    rw[this.mpr hn]at e
    cases e
   exact cB.mp hs c hm
theorem eQ{α β:Type}(x:α)(f:α->Got β):(yX x:Got α).bind f=f x:=rfl
theorem bind_err{α β:Type}(e:Fault)(f:α->Got β):(Except.error e:Got α).bind f=.error e:=rfl
theorem map_ok{α β:Type}(x:α)(f:α->β):(yX x:Got α).map f=.ok (f x):=rfl
theorem held_full{w:Word}(h:MOST<w.length):held w=.error .full:=by unfold held;rw[if_pos h]
theorem held_ok{w:Word}(h:¬MOST<w.length):held w=.ok w:=by unfold held;rw[if_neg h]
theorem bad_first{ls:Bytes}(hs:ls.all small=true){lv:Lv}{st:List Lv}{c:Nat}{r:Bytes}(hp:lv.hp=false)(hc:¬starts c):go ls 0 (lv ::st) (c ::r)=.error .wrong:=by
 have hew:dj lv=.error .wrong:=by unfold dj;rw[if_neg (by rw[hp];decide)]
 have hl:eZ ls c=none:=by
  cases e:eZ ls c with
  |none=>rfl
  |some l=>rcases letter_starts hs e with h|h<;>exact absurd (by unfold starts;simp[h]) hc
 have h40:¬(c=40\/c=91):=fun h=>hc (by unfold starts;rcases h with h|h<;>simp[h])
 have heb:∀br,gu br (lv ::st)=.error .wrong:=by
  intro br
  show(if lv.br=br then(dj lv).bind (fun m=>.ok (m.ended,st))else .error .wrong)=_
  split
  ·rw[hew];rfl
  ·rfl
 rw[iO]
 rw[turn0]
 by_cases h44:c=44
 ·rw[if_pos h44]
  have:fg lv=.error .wrong:=by
   unfold fg
   rw[hew]
   split
   ·rfl
   ·split<;>rfl
  simp only[this,bind_err]
 ·rw[if_neg h44,if_neg h40]
  have:cM ls (lv ::st) c=.error .wrong:=by
   unfold cM
   rw[hl]
   simp only
   split
   ·rw[heb];rfl
   ·split
    ·rw[heb];rfl
    ·rfl
  rw[this];rfl
theorem bad_end{lv:Lv}{st:List Lv}{ls:Bytes}(h:lv.hp=false\/st≠[]):go ls 0 (lv ::st) []=.error .wrong:=by
 rw[go_nil]
 cases st with
 |nil=>
  rcases h with h|h
  ·simp only[fin,dj,h];rfl
  ·exact absurd rfl h
 |cons a t=>rfl
theorem part_unfold(f d:Nat)(ls:Bytes)(c:Nat)(r:Bytes):part (f+1) d ls (c ::r) =
  (if c=40 then(if d=0 then .error .wrong else(word f (d-1) ls r).bind fun x=>match x.2 with
    | 41 :: q=>.ok (x.1,q)
    |_=>.error .wrong)
   else if c=91 then(if d=0 then .error .wrong else(word f (d-1) ls r).bind fun x=>match x.2 with
    | 44 :: q=>(word f (d-1) ls q).bind fun y=>(match y.2 with
     | 93 :: p=>(held (x.1++(y.1++(inverse x.1++inverse y.1)))).map fun v=>(v,p)
     |_=>.error .wrong)
    |_=>.error .wrong)
   else match ls.idxOf? (if great c=true then c+32 else c)with
    |some i=>.ok ([(i,great c)],r)
    |none=>.error .wrong:Got (Word×Bytes)).bind fun x=>(power x.2).bind fun n=>(times n.1.1 (if n.1.2=true then inverse x.1 else x.1)).map fun v=>(v,n.2):=by
 rw[part]
 rfl
def Stops(b:Bytes):Prop:=∀c r,b=c ::r->¬starts c
theorem close_part{ls:Bytes}{lv:Lv}{st:List Lv}{x:Word}{q:Bytes}{K:Got (List Word)}
  (hK:K=((power q).bind fun n=>(addPart (lv ::st) x n.1.1 n.1.2).bind fun t=>.ok (t,n.2)).bind fun p=>go ls 0 p.1 p.2):
  K=match ((power q).bind fun n=>(times n.1.1 (if n.1.2=true then inverse x else x)).map fun v=>(v,n.2):Got (Word×Bytes))with
   |.error e=>.error e
   |.ok (y,b')=>if MOST<lv.wr.length+y.length then .error .full else go ls 0 (⟨lv.br,lv.ended,lv.wr++y,true⟩ :: st) b':=by
 rw[hK]
 cases e:power q with
 |error z=>rfl
 |ok n=>
  simp only[eQ]
  rw[times_eq]
  have hi:(if n.1.2=true then inverse x else x).length=x.length:=by split<;>simp[ig]
  simp only[hi,addPart]
  by_cases h1:MOST<x.length*n.1.1
  ·rw[if_pos h1,if_pos (by omega)];rfl
  ·rw[if_neg h1]
   simp only[map_ok,rep_len,hi]
   by_cases h2:MOST<lv.wr.length+x.length*n.1.1
   ·rw[if_pos h2,if_pos h2];rfl
   ·rw[if_neg h2,if_neg h2];rfl
structure Eqv (ls:Bytes) (f:Nat):Prop where
 wd:∀ (d:Nat) (b:Bytes) (br:Nat) (en:List Word) (st:List Lv),2*b.length+2<=f->st.length+1+d=33 ->
  (go ls 0 (⟨br,en,[],false⟩ :: st) b=match word f d ls b with
   | .error e=>.error e
   | .ok (w,b')=>go ls 0 (⟨br,en,w,true⟩ :: st) b') /\
  ∀ w b',word f d ls b=.ok (w,b')->b'.length<b.length/\Stops b'/\w.length<=MOST
 mo:∀ (d:Nat) (b:Bytes) (br:Nat) (en:List Word) (v:Word) (st:List Lv),2*b.length+2<=f->st.length+1+d=33->v.length<=MOST ->
  (go ls 0 (⟨br,en,v,true⟩ :: st) b=match more f d ls v b with
   | .error e=>.error e
   | .ok (w,b')=>go ls 0 (⟨br,en,w,true⟩ :: st) b') /\
  ∀ w b',more f d ls v b=.ok (w,b')->b'.length<=b.length/\Stops b'/\w.length<=MOST
 pa:∀ (d:Nat) (b:Bytes) (lv:Lv) (st:List Lv),2*b.length+1<=f->st.length+1+d=33->(lv.hp=false\/∃ c r,b=c :: r/\starts c) ->
  (go ls 0 (lv :: st) b=match part f d ls b with
   | .error e=>.error e
   | .ok (x,b')=>if MOST<lv.wr.length+x.length then .error .full else go ls 0 (⟨lv.br,lv.ended,lv.wr++x,true⟩ :: st) b') /\
  ∀ w b',part f d ls b=.ok (w,b')->b'.length<b.length/\w.length<=MOST
theorem lA{ls:Bytes}(hs:ls.all small=true){c:Nat}(hc:¬starts c):eZ ls c=none:=by
 cases e:eZ ls c with
 |none=>rfl
 |some l=>rcases letter_starts hs e with h|h<;>exact absurd (by unfold starts;simp[h]) hc
theorem ns_ne{c:Nat}(hc:¬starts c):¬(c=40\/c=91):=fun h=>hc (by unfold starts;rcases h with h|h<;>simp[h])
theorem nH{ls:Bytes}(hs:ls.all small=true){st:List Lv}{c:Nat}{r:Bytes}(hc:¬starts c)(h44:c≠44) :go ls 0 st (c ::r)=((cM ls st c).bind fun p=>(power r).bind fun q=>(addPart p.2 p.1 q.1.1 q.1.2).bind fun t=>.ok (t,q.2)).bind fun p=>go ls 0 p.1 p.2:=by
 rw[iO]
 rw[turn0]
 rw[if_neg h44,if_neg (ns_ne hc)]
theorem after_round{ls:Bytes}(hs:ls.all small=true){en:List Word}{w:Word}{st:List Lv}(h0:st≠[]):∀{b:Bytes},Stops b->(∀q,b≠41 ::q)->go ls 0 (⟨40,en,w,true⟩ ::st) b=.error .wrong
 |[],_,_=>bad_end (.inr h0)
 |c :: r,hb,hn=>by
  have hc:=hb c r rfl
  by_cases h44:c=44
  ·subst h44
   rw[iO]
   rfl
  ·rw[nH hs hc h44]
   have:cM ls (⟨40,en,w,true⟩ ::st) c=.error .wrong:=by
    unfold cM
    rw[lA hs hc]
    have h41:c≠41:=fun e=>hn r (by rw[e])
    simp only[if_neg h41]
    split
    ·rfl
    ·rfl
   rw[this];rfl
theorem after_sq1{ls:Bytes}(hs:ls.all small=true){w:Word}{st:List Lv}(h0:st≠[]):∀{b:Bytes},Stops b->(∀q,b≠44 ::q)->go ls 0 (⟨91,[],w,true⟩ ::st) b=.error .wrong
 |[],_,_=>bad_end (.inr h0)
 |c :: r,hb,hn=>by
  have hc:=hb c r rfl
  have h44:c≠44:=fun e=>hn r (by rw[e])
  rw[nH hs hc h44]
  have:cM ls (⟨91,[],w,true⟩ ::st) c=.error .wrong:=by
   unfold cM
   rw[lA hs hc]
   simp only
   split
   ·rfl
   ·split
    ·rfl
    ·rfl
  rw[this];rfl
theorem after_sq2{ls:Bytes}(hs:ls.all small=true){x w:Word}{st:List Lv}(h0:st≠[]):∀{b:Bytes},Stops b->(∀q,b≠93 ::q)->go ls 0 (⟨91,[x],w,true⟩ ::st) b=.error .wrong
 |[],_,_=>bad_end (.inr h0)
 |c :: r,hb,hn=>by
  have hc:=hb c r rfl
  by_cases h44:c=44
  ·subst h44
   rw[iO]
   rfl
  ·rw[nH hs hc h44]
   have:cM ls (⟨91,[x],w,true⟩ ::st) c=.error .wrong:=by
    unfold cM
    rw[lA hs hc]
    have h93:c≠93:=fun e=>hn r (by rw[e])
    simp only[if_neg h93]
    split
    ·rfl
    ·rfl
   rw[this];rfl
theorem after_top{ls:Bytes}(hs:ls.all small=true){en:List Word}{w:Word}:∀{b:Bytes},Stops b->b≠[]->(∀q,b≠44 ::q)->go ls 0 [⟨0,en,w,true⟩] b=.error .wrong
 |[],_,h,_=>absurd rfl h
 |c :: r,hb,_,hn=>by
  have hc:=hb c r rfl
  have h44:c≠44:=fun e=>hn r (by rw[e])
  rw[nH hs hc h44]
  have:cM ls [⟨0,en,w,true⟩] c=.error .wrong:=by
   unfold cM
   rw[lA hs hc]
   simp only
   split
   ·rfl
   ·split
    ·rfl
    ·rfl
  rw[this];rfl
theorem pow_part{x:Word}{q b':Bytes}{w:Word}(h:((power q).bind fun n=>(times n.1.1 (if n.1.2=true then inverse x else x)).map fun v=>(v,n.2):Got (Word×Bytes))=.ok (w,b')) :b'.length<=q.length/\w.length<=MOST:=by
 cases e:power q with
 |error z=>rw[e]at h;cases h
 |ok n=>
  rw[e,eQ,times_eq]at h
  by_cases hl:MOST<(if n.1.2=true then inverse x else x).length*n.1.1
  ·rw[if_pos hl]at h;cases h
  ·rw[if_neg hl]at h
   cases h
   exact⟨pow_len (n:=n.1) e,by rw[rep_len];omega⟩
theorem eqv_zero(ls:Bytes):Eqv ls 0:=⟨fun _ _ _ _ _ h=>by omega,fun _ _ _ _ _ _ h=>by omega,fun _ _ _ _ h=>by omega⟩
theorem part_step {ls:Bytes} (hs:ls.all small=true) {f:Nat} (ih:Eqv ls f) (d:Nat) (b:Bytes) (lv:Lv) (st:List Lv) (hf:2*b.length+1<=f+1) (hd:st.length+1+d=33) (hb:lv.hp=false\/∃ c r,b=c :: r/\starts c) :
  (go ls 0 (lv :: st) b=match part (f+1) d ls b with
   | .error e=>.error e
   | .ok (x,b')=>if MOST<lv.wr.length+x.length then .error .full else go ls 0 (⟨lv.br,lv.ended,lv.wr++x,true⟩ :: st) b') /\
  ∀ w b',part (f+1) d ls b=.ok (w,b')->b'.length<b.length/\w.length<=MOST:=by
 cases b with
 | nil=>
  have e:part (f+1) d ls []=.error .wrong:=by rw [part];rfl
  rw [e]
  refine ⟨?_,fun _ _ h=>by cases h⟩
  rcases hb with hb | ⟨c,r,h,_⟩
  ·exact bad_end (.inl hb)
  ·cases h
 | cons c r=>
  rw [part_unfold]
  simp only [cI] at hf
  by_cases h40:c=40
  ·subst h40
   rw [if_pos rfl,iO]
   have et:turn ls 0 (lv :: st) 40 r=(begin_ (lv :: st) 40).bind fun t=>.ok (t,r):=rfl
   rw [et]
   by_cases hd0:d=0
   ·rw [if_pos hd0]
    have:begin_ (lv :: st) 40=.error .wrong:=by unfold begin_;rw [if_pos (by simp;omega)]
    rw [this]
    exact ⟨rfl,fun _ _ h=>by cases h⟩
   ·rw [if_neg hd0]
    have:begin_ (lv :: st) 40=.ok (⟨40,[],[],false⟩ :: lv :: st):=by unfold begin_;rw [if_neg (by simp;omega)]
    rw [this,eQ,eQ]
    obtain ⟨h1,h2⟩:=ih.wd (d-1) r 40 [] (lv :: st) (by omega) (by simp;omega)
    show go ls 0 (⟨40,[],[],false⟩ :: lv :: st) r=_/\_
    rw [h1]
    cases ew:word f (d-1) ls r with
    | error e=>exact ⟨rfl,fun _ _ h=>by cases h⟩
    | ok x=>
     obtain ⟨w,b'⟩:=x
     obtain ⟨l1,l2,l3⟩:=h2 w b' ew
     simp only [eQ]
     by_cases hq:∃ q,b'=41 :: q
     ·obtain ⟨q,rfl⟩:=hq
      simp only [eQ]
      refine ⟨close_part ?_,fun w' b'' h=>?_⟩
      ·rw [nH hs (by decide) (by decide)]
       have:cM ls (⟨40,[],w,true⟩ :: lv :: st) 41=.ok (w,lv :: st):=by
        unfold cM
        rw [lA hs (by decide)]
        rfl
       rw [this];rfl
      ·obtain ⟨k1,k2⟩:=pow_part h
       simp only [cI] at l1 ⊢
       exact ⟨by omega,k2⟩
     ·have hn:∀ q,b'≠41 :: q:=fun q e=>hq ⟨q,e⟩
      rw [after_round hs (by simp) l2 hn]
      have em:(match b' with
        | 41 :: q=>(.ok (w,q):Got (Word × Bytes))
        | _=>.error .wrong)=.error .wrong:=by
       split
       ·rename_i q;exact absurd rfl (hn q)
       ·rfl
      rw [em]
      exact ⟨rfl,fun _ _ h=>by cases h⟩
  ·rw [if_neg h40]
   by_cases h91:c=91
   ·subst h91
    rw [if_pos rfl,iO]
    have et:turn ls 0 (lv :: st) 91 r=(begin_ (lv :: st) 91).bind fun t=>.ok (t,r):=rfl
    rw [et]
    by_cases hd0:d=0
    ·rw [if_pos hd0]
     have:begin_ (lv :: st) 91=.error .wrong:=by unfold begin_;rw [if_pos (by simp;omega)]
     rw [this]
     exact ⟨rfl,fun _ _ h=>by cases h⟩
    ·rw [if_neg hd0]
     have:begin_ (lv :: st) 91=.ok (⟨91,[],[],false⟩ :: lv :: st):=by unfold begin_;rw [if_neg (by simp;omega)]
     rw [this,eQ,eQ]
     obtain ⟨h1,h2⟩:=ih.wd (d-1) r 91 [] (lv :: st) (by omega) (by simp;omega)
     show go ls 0 (⟨91,[],[],false⟩ :: lv :: st) r=_/\_
     rw [h1]
     cases ew:word f (d-1) ls r with
     | error e=>exact ⟨rfl,fun _ _ h=>by cases h⟩
     | ok x=>
      obtain ⟨w,b'⟩:=x
      obtain ⟨l1,l2,l3⟩:=h2 w b' ew
      simp only [eQ]
      by_cases hq:∃ q,b'=44 :: q
      ·obtain ⟨q,rfl⟩:=hq
       simp only [cI] at l1
       simp only
       obtain ⟨h3,h4⟩:=ih.wd (d-1) q 91 [w] (lv :: st) (by omega) (by simp;omega)
       have e44:go ls 0 (⟨91,[],w,true⟩ :: lv :: st) (44 :: q)=go ls 0 (⟨91,[w],[],false⟩ :: lv :: st) q:=by
        rw [iO]
        rfl
       rw [e44,h3]
       cases ey:word f (d-1) ls q with
       | error e=>exact ⟨rfl,fun _ _ h=>by cases h⟩
       | ok y=>
        obtain ⟨v,b2⟩:=y
        obtain ⟨m1,m2,m3⟩:=h4 v b2 ey
        simp only [eQ]
        by_cases hp:∃ p,b2=93 :: p
        ·obtain ⟨p,rfl⟩:=hp
         simp only [cI] at m1
         simp only
         have hl:(w++(v++(inverse w++inverse v))).length=2*(w.length+v.length):=by simp [ig];omega
         rw [nH hs (by decide) (by decide)]
         have e93:cM ls (⟨91,[w],v,true⟩ :: lv :: st) 93=(comm w v).bind fun z=>.ok (z,lv :: st):=by
          unfold cM
          rw [lA hs (by decide)]
          rfl
         rw [e93]
         by_cases hm:MOST<2*(w.length+v.length)
         ·have:comm w v=.error .full:=by unfold comm;rw [if_pos hm]
          rw [this,held_full (by rw [hl];exact hm)]
          exact ⟨rfl,fun _ _ h=>by cases h⟩
         ·have:comm w v=.ok (w++(v++(inverse w++inverse v))):=by unfold comm;rw [if_neg hm];simp
          rw [this,held_ok (by rw [hl];exact hm)]
          simp only [eQ,map_ok]
          refine ⟨close_part rfl,fun w' b'' h=>?_⟩
          obtain ⟨k1,k2⟩:=pow_part h
          simp only [cI]
          exact ⟨by omega,k2⟩
        ·have hn:∀ p,b2≠93 :: p:=fun p e=>hp ⟨p,e⟩
         rw [after_sq2 hs (by simp) m2 hn]
         have em:(match b2 with
           | 93 :: p=>(held (w++(v++(inverse w++inverse v)))).map fun z=>(z,p)
           | _=>(.error .wrong:Got (Word × Bytes)))=.error .wrong:=by
          split
          ·rename_i p;exact absurd rfl (hn p)
          ·rfl
         rw [em]
         exact ⟨rfl,fun _ _ h=>by cases h⟩
      ·have hn:∀ q,b'≠44 :: q:=fun q e=>hq ⟨q,e⟩
       rw [after_sq1 hs (by simp) l2 hn]
       have em:(match b' with
         | 44 :: q=>(word f (d-1) ls q).bind fun y=>(match y.2 with
          | 93 :: p=>(held (w++(y.1++(inverse w++inverse y.1)))).map fun v=>(v,p)
          | _=>(.error .wrong:Got (Word × Bytes)))
         | _=>.error .wrong)=.error .wrong:=by
        split
        ·rename_i q;exact absurd rfl (hn q)
        ·rfl
       rw [em]
       exact ⟨rfl,fun _ _ h=>by cases h⟩
   ·rw [if_neg h91]
    by_cases hst:starts c
    ·have h44:c≠44:=fun e=>by subst e;exact absurd hst (by decide)
     rw [iO]
     rw [turn0]
     rw [if_neg h44,if_neg (by omega)]
     cases ei:ls.idxOf? (if great c=true then c+32 else c) with
     | some i=>
      have:cM ls (lv :: st) c=.ok ([(i,great c)],lv :: st):=by unfold cM eZ;rw [ei]
      rw [this]
      simp only [eQ]
      refine ⟨close_part rfl,fun w' b'' h=>?_⟩
      obtain ⟨k1,k2⟩:=pow_part h
      simp only [cI]
      exact ⟨by omega,k2⟩
     | none=>
      have h41:c≠41:=fun e=>by subst e;exact absurd hst (by decide)
      have h93:c≠93:=fun e=>by subst e;exact absurd hst (by decide)
      have:cM ls (lv :: st) c=.error .wrong:=by unfold cM eZ;rw [ei];simp only [if_neg h41,if_neg h93]
      rw [this]
      exact ⟨rfl,fun _ _ h=>by cases h⟩
    ·have hp:lv.hp=false:=by
      rcases hb with hb | ⟨c',r',h,h'⟩
      ·exact hb
      ·cases h;exact absurd h' hst
     rw [bad_first hs hp hst]
     have:=lA hs hst
     unfold eZ at this
     cases ei:ls.idxOf? (if great c=true then c+32 else c) with
     | some i=>rw [ei] at this;cases this
     | none=>exact ⟨rfl,fun _ _ h=>by cases h⟩
theorem eqv_succ{ls:Bytes}(hs:ls.all small=true){f:Nat}(ih:Eqv ls f):Eqv ls (f+1):=by
 refine⟨fun d b br en st hf hd=>?_,fun d b br en v st hf hd hv=>?_,fun d b lv st hf hd hb=>part_step hs ih d b lv st hf hd hb⟩
 ·have eu:word (f+1) d ls b=(part f d ls b).bind fun x=>more f d ls x.1 x.2:=by rw[word]
  rw[eu]
  obtain⟨h1,h2⟩:=ih.pa d b ⟨br,en,[],false⟩ st (by omega) hd (.inl rfl)
  rw[h1]
  cases ep:part f d ls b with
  |error e=>exact⟨rfl,fun _ _ h=>by cases h⟩
  |ok x=>
   obtain⟨x,b'⟩:=x
   obtain⟨l1,l2⟩:=h2 x b' ep
   simp only[eQ,xA,fW,nW]
   rw[if_neg (by omega)]
   obtain⟨h3,h4⟩:=ih.mo d b' br en x st (by omega) hd l2
   refine⟨h3,fun w b2 h=>?_⟩
   obtain⟨k1,k2,k3⟩:=h4 w b2 h
   exact⟨by omega,k2,k3⟩
 ·cases b with
  |nil=>
   have eu:more (f+1) d ls v []=.ok (v,[]):=by rw[more]
   rw[eu]
   exact⟨rfl,fun w b' h=>by cases h;exact⟨aI _,(fun c r h=>by cases h),hv⟩⟩
  |cons c r=>
   have eu:more (f+1) d ls v (c ::r)=if small c=true\/great c=true\/c=40\/c=91 then(part f d ls (c ::r)).bind fun x=>(held (v++x.1)).bind fun u=>more f d ls u x.2 else .ok (v,c ::r):=by rw[more]
   rw[eu]
   by_cases hst:starts c
   ·rw[if_pos (show small c=true\/great c=true\/c=40\/c=91 from hst)]
    obtain⟨h1,h2⟩:=ih.pa d (c ::r) ⟨br,en,v,true⟩ st (by omega) hd (.inr ⟨c,r,rfl,hst⟩)
    rw[h1]
    cases ep:part f d ls (c ::r)with
    |error e=>exact⟨rfl,fun _ _ h=>by cases h⟩
    |ok x=>
     obtain⟨x,b'⟩:=x
     obtain⟨l1,l2⟩:=h2 x b' ep
     simp only[eQ]
     by_cases hm:MOST<v.length+x.length
     ·rw[if_pos hm,held_full (by rw[cx];exact hm)]
      exact⟨rfl,fun _ _ h=>by cases h⟩
     ·rw[if_neg hm,held_ok (by rw[cx];exact hm)]
      simp only[eQ]
      obtain⟨h3,h4⟩:=ih.mo d b' br en (v++x) st (by omega) hd (by rw[cx];omega)
      refine⟨h3,fun w b2 h=>?_⟩
      obtain⟨k1,k2,k3⟩:=h4 w b2 h
      exact⟨by omega,k2,k3⟩
   ·rw[if_neg (show ¬(small c=true\/great c=true\/c=40\/c=91) from hst)]
    refine⟨rfl,fun w b' h=>?_⟩
    cases h
    exact⟨aI _,(fun c' r' h=>by cases h;exact hst),hv⟩
theorem eqv{ls:Bytes}(hs:ls.all small=true):∀f,Eqv ls f
 | 0=>eqv_zero ls
 |f+1=>eqv_succ hs (eqv hs f)
theorem words_eq{ls:Bytes}(hs:ls.all small=true):∀(f:Nat) (b:Bytes) (acc:List Word),b.length<f ->
  go ls 0 [⟨0,acc,[],false⟩] b=(words f ls b).map fun l=>acc++l
 | 0,_,_,h=>by omega
 |f+1,b,acc,h=>by
  have eu:words (f+1) ls b=(word (4*b.length+4) 32 ls b).bind fun x=>match x.2 with
   |[]=>.ok [x.1]
   | 44 :: r=>(words f ls r).map fun l=>x.1 :: l
   |_=>.error .wrong:=by
   rw[words]
   rfl
  rw[eu]
  obtain⟨h1,h2⟩:=(eqv hs (4*b.length+4)).wd 32 b 0 acc [] (by omega) rfl
  rw[h1]
  cases ew:word (4*b.length+4) 32 ls b with
  |error e=>rfl
  |ok x=>
   obtain⟨w,b'⟩:=x
   obtain⟨l1,l2,l3⟩:=h2 w b' ew
   simp only[eQ]
   cases b' with
   |nil=>rfl
   |cons c r=>
    by_cases h44:c=44
    ·subst h44
     simp only
     have e44:go ls 0 [⟨0,acc,w,true⟩] (44 ::r)=go ls 0 [⟨0,acc++[w],[],false⟩] r:=by rw[iO];rfl
     simp only[cI]at l1
     rw[e44,words_eq hs f r (acc++[w]) (by omega)]
     cases words f ls r with
     |error e=>rfl
     |ok l=>simp[map_ok]
    ·rw[after_top hs l2 (by simp) (fun q e=>h44 (by cases e;rfl))]
     split
     ·cases ‹_=[]›
     ·rename_i e;cases e;exact absurd rfl h44
     ·rfl
abbrev Rows:=List (List (Option Nat))
def ixL(l:Letter):Nat:=2*l.1+(if l.2=true then 1 else 0)
def getM(M:Rows)(j p:Nat):Option Nat:=(M.getD j []).getD p none
def stepP(M:Rows)(o:Option Nat)(l:Letter):Option Nat:=o.bind fun q=>getM M (ixL l) q
def eN(M:Rows)(w:Word)(p:Nat):Option Nat:=w.foldl (stepP M) (some p)
def npm(M:Rows)(m:Nat)(ws:List Word):Bool:=ws.all fun w=>(aT m).all fun p=>decide (eN M w p=none)||decide (eN M w p=some p)
structure cR (M:Rows) (k m:Nat):Prop where
 len:M.length=2*k
 row:∀r∈M,r.length=m
 lt:∀r∈M,∀q,some q∈r->q<m
def bA(k:Nat)(w:Word):Prop:=∀l∈w,l.1<k
theorem fS{M:Rows}{j:Nat}{r:List (Option Nat)}(h:M[j]?=some r)(p:Nat):getM M j p=(r[p]?).getD none:=by
 have e:M.getD j []=r:=by rw[bT,h];rfl
 unfold getM
 rw[e,bT]
theorem lG{M:Rows}{j:Nat}(h:M[j]?=none)(p:Nat):getM M j p=none:=by
 have e:M.getD j []=[]:=by rw[bT,h];rfl
 unfold getM
 rw[e];rfl
theorem lH{M:Rows}{k m:Nat}(h:cR M k m){j p q:Nat}(e:getM M j p=some q):q<m:=by
 cases hj:M[j]? with
 |none=>rw[lG hj]at e;cases e
 |some r=>
  rw[fS hj]at e
  cases e2:r[p]? with
  |none=>rw[e2]at e;cases e
  |some o=>
   rw[e2]at e
   have e:o=some q:=e
   subst e
   exact h.lt r (cW hj) q (cW e2)
theorem foldl_none(M:Rows):∀w:Word,w.foldl (stepP M) none=none
 |[]=>rfl
 |_ :: r=>by rw[kK];exact foldl_none M r
def bY(u:Table)(n:Nat):Rows:=u.flatMap fun r=>[r.map some,(aT n).map fun p=>some (r.idxOf p)]
theorem fullM_len(u:Table)(n:Nat):(bY u n).length=2*u.length:=by
 unfold bY
 induction u with
 |nil=>rfl
 |cons r t ih=>rw[rH,cx,ih];simp;omega
theorem fullM_at(n:Nat):∀(u:Table) (i:Nat) (r:List Nat),u[i]?=some r->(bY u n)[2*i]?=some (r.map some)/\(bY u n)[2*i+1]?=some ((aT n).map fun p=>some (r.idxOf p))
 |[],i,r,h=>by simp at h
 |x :: t,0,r,h=>by
  simp at h
  subst h
  exact⟨rfl,rfl⟩
 |x :: t,i+1,r,h=>by
  have h:t[i]?=some r:=by simpa using h
  obtain⟨h1,h2⟩:=fullM_at n t i r h
  have e:bY (x ::t) n=x.map some ::((aT n).map fun p=>some (x.idxOf p)) ::bY t n:=by unfold bY;rw[rH];rfl
  rw[e]
  exact⟨by rw[show 2*(i+1)=2*i+2 by omega];simpa using h1,by rw[show 2*(i+1)+1=2*i+1+2 by omega];simpa using h2⟩
theorem ib{k n:Nat}{u:Table}(h:isTable k n u=true):u.length=k/\∀r∈u,r.length=n/\∀p,p<n->p∈r:=by
 unfold isTable at h
 simp only[gh,beq_iff_eq,cB,bt,xG]at h
 exact⟨h.1,fun r hr=>⟨(h.2 r hr).1,fun p hp=>(h.2 r hr).2 p hp⟩⟩
theorem qo:∀{l1 l2:List Nat},l1.Nodup->(∀x∈l1,x∈l2)->l2.length<=l1.length->l1.Perm l2
 |[],l2,_,_,h=>by
  have:l2=[]:=kM.mp (by simpa using h)
  rw[this]
 |x :: t,l2,nd,hs,hl=>by
  have hx:x∈l2:=hs x (b9 ..)
  obtain⟨a,b,rfl⟩:=u0 hx
  have nd':=eD.mp nd
  have p:t.Perm (a++b):=qo nd'.2 (fun y hy=>by
   have hy2:=hs y (cb _ hy)
   rcases cQ.mp hy2 with z|z
   ·exact dZ _ z
   ·rcases aZ.mp z with z|z
    ·subst z;exact absurd hy nd'.1
    ·exact fP _ z) (by simp at hl ⊢;omega)
  exact(p.cons x).trans rJ.symm
theorem row_perm{n:Nat}{r:List Nat}(hl:r.length=n)(h:∀p,p<n->p∈r):r.Perm (aT n):=
 (qo jx (fun x hx=>h x (bt.mp hx)) (by simp[hl])).symm
theorem row_nodup{n:Nat}{r:List Nat}(p:r.Perm (aT n)):r.Nodup:=p.nodup_iff.mpr jx
theorem row_lt{n:Nat}{r:List Nat}(p:r.Perm (aT n)){q:Nat}(h:q∈r):q<n:=bt.mp (p.mem_iff.mp h)
theorem lI{n:Nat}{r:List Nat}(p:r.Perm (aT n)):r.length=n:=by rw[p.length_eq,fH]
theorem table_perm{k n:Nat}{u:Table}(h:isTable k n u=true):∀r∈u,r.Perm (aT n):=fun r hr=>row_perm ((ib h).2 r hr).1 ((ib h).2 r hr).2
theorem gv{k n:Nat}{u:Table}:isTable k n u=true↔u.length=k/\∀r∈u,r.Perm (aT n):=by
 refine⟨fun h=>⟨(ib h).1,table_perm h⟩,fun⟨h1,h2⟩=>?_⟩
 unfold isTable
 simp only[gh,beq_iff_eq,cB,bt,xG]
 exact⟨h1,fun r hr=>⟨lI (h2 r hr),fun p hp=>(h2 r hr).mem_iff.mpr (bt.mpr hp)⟩⟩
theorem gE{k n:Nat}{u:Table}(h:isTable k n u=true):cR (bY u n) k n:=by
 obtain⟨h1,h2⟩:=gv.mp h
 refine⟨by rw[fullM_len,h1],fun r hr=>?_,fun r hr q hq=>?_⟩
 ·obtain⟨x,hx,hr⟩:=fk.mp hr
  simp only[aZ,dC,or_false]at hr
  rcases hr with z|z
  ·rw[z,aP,lI (h2 x hx)]
  ·rw[z,aP,fH]
 ·obtain⟨x,hx,hr⟩:=fk.mp hr
  simp only[aZ,dC,or_false]at hr
  rcases hr with z|z
  ·rw[z]at hq
   obtain⟨y,hy,e⟩:=bc.mp hq
   cases e
   exact row_lt (h2 x hx) hy
  ·rw[z]at hq
   obtain⟨y,hy,e⟩:=bc.mp hq
   cases e
   have:List.idxOf y x<x.length:=iq.mpr ((h2 x hx).mem_iff.mpr hy)
   rw[lI (h2 x hx)]at this
   exact this
theorem getM_full{k n:Nat}{u:Table}(h:isTable k n u=true){l:Letter}(hl:l.1<k){p:Nat}(hp:p<n):getM (bY u n) (ixL l) p=some (moveBy u l p):=by
 obtain⟨h1,h2⟩:=gv.mp h
 have hi:l.1<u.length:=by rw[h1];exact hl
 have e1:u[l.1]?=some u[l.1]:=aH hi
 have hr:=h2 u[l.1] (cN hi)
 obtain⟨f1,f2⟩:=fullM_at n u l.1 _ e1
 have hd:u.getD l.1 []=u[l.1]:=by rw[bT,e1];rfl
 unfold moveBy ixL
 rw[hd]
 cases hb:l.2 with
 |true=>
  simp only[if_true]
  rw[fS f2,bH,fI hp]
  rfl
 |false=>
  simp only[dH,if_false,rR]
  have hp2:p<u[l.1].length:=by rw[lI hr];exact hp
  rw[fS f1,bH,aH hp2,bT,aH hp2]
  rfl
theorem moveBy_lt{k n:Nat}{u:Table}(h:isTable k n u=true){l:Letter}(hl:l.1<k){p:Nat}(hp:p<n):moveBy u l p<n:=lH (gE h) (getM_full h hl hp)
theorem ko{k n:Nat}{u:Table}(h:isTable k n u=true):∀{w:Word},bA k w->∀{p:Nat},p<n->move u w p<n
 |[],_,p,hp=>hp
 |l :: r,hw,p,hp=>by
  show move u r (moveBy u l p)<n
  exact ko h (fun x hx=>hw x (cb _ hx)) (moveBy_lt h (hw l (b9 ..)) hp)
theorem moveP_full{k n:Nat}{u:Table}(h:isTable k n u=true):∀{w:Word},bA k w->∀{p:Nat},p<n->eN (bY u n) w p=some (move u w p)
 |[],_,p,_=>rfl
 |l :: r,hw,p,hp=>by
  show r.foldl (stepP (bY u n)) (getM (bY u n) (ixL l) p)=some (move u r (moveBy u l p))
  rw[getM_full h (hw l (b9 ..)) hp]
  exact moveP_full h (fun x hx=>hw x (cb _ hx)) (moveBy_lt h (hw l (b9 ..)) hp)
theorem npm_full{k n:Nat}{u:Table}(h:isTable k n u=true){ws:List Word}(hw:∀w∈ws,bA k w):npm (bY u n) n ws=ws.all (still u n):=by
 unfold npm
 rw[i4,cB,cB]
 refine forall_congr' fun w=>forall_congr' fun hm=>?_
 unfold still
 rw[cB,cB]
 refine forall_congr' fun p=>forall_congr' fun hp=>?_
 rw[moveP_full h (hw w hm) (bt.mp hp)]
 simp
structure LvOk (k:Nat) (v:Lv):Prop where
 en:∀w∈v.ended,bA k w
 wr:bA k v.wr
theorem bA.app{k:Nat}{a b:Word}(h1:bA k a)(h2:bA k b):bA k (a++b):=fun l hl=>(cQ.mp hl).elim (h1 l) (h2 l)
theorem bA.inv{k:Nat}{a:Word}(h:bA k a):bA k (inverse a):=fun l hl=>by
 unfold inverse at hl
 obtain⟨x,hx,rfl⟩:=bc.mp hl
 exact h x (List.mem_reverse.mp hx)
theorem bA.rep{k:Nat}{a:Word}(h:bA k a)(n:Nat):bA k (rep n a):=fun l hl=>by
 unfold Gw.rep at hl
 obtain⟨x,hx,hl⟩:=List.mem_flatten.mp hl
 rw[lT hx]at hl
 exact h l hl
theorem letterOf_lt{ls:Bytes}{c:Nat}{l:Letter}(h:eZ ls c=some l):l.1<ls.length:=by
 unfold eZ at h
 cases e:ls.idxOf? (if great c=true then c+32 else c)with
 |none=>rw[e]at h;cases h
 |some i=>
  rw[e]at h
  cases h
  have:=List.findIdx?_eq_some_iff_findIdx_eq.mp e
  exact this.1
theorem endWord_wok{k:Nat}{v v':Lv}(h:LvOk k v)(e:dj v=.ok v'):LvOk k v':=by
 unfold dj at e
 split at e
 ·cases e
  exact⟨fun w hw=>(cQ.mp hw).elim (h.en w) fun z=>by rw[aO.mp z];exact h.wr,fun l hl=>absurd hl (by simp)⟩
 ·cases e
theorem endBr_wok{k br:Nat}{st:List Lv}{p:List Word×List Lv}(h:∀v∈st,LvOk k v)(e:gu br st=.ok p):(∀w∈p.1,bA k w)/\∀v∈p.2,LvOk k v:=by
 cases st with
 |nil=>cases e
 |cons l t=>
  have e:(if l.br=br then(dj l).bind (fun m=>.ok (m.ended,t))else .error .wrong)=.ok p:=e
  split at e
  ·cases e2:dj l with
   |error f=>rw[e2]at e;cases e
   |ok m=>
    rw[e2]at e
    cases e
    exact⟨(endWord_wok (h l (b9 ..)) e2).en,fun v hv=>h v (cb _ hv)⟩
  ·cases e
theorem endPart_wok{ls:Bytes}{st:List Lv}{c:Nat}{p:Word×List Lv}(h:∀v∈st,LvOk ls.length v)(e:cM ls st c=.ok p):bA ls.length p.1/\∀v∈p.2,LvOk ls.length v:=by
 unfold cM at e
 cases el:eZ ls c with
 |some l=>
  rw[el]at e
  cases e
  exact⟨fun x hx=>by rw[aO.mp hx];exact letterOf_lt el,h⟩
 |none=>
  rw[el]at e
  simp only at e
  split at e
  ·cases e2:gu 40 st with
   |error f=>rw[e2]at e;cases e
   |ok q=>
    rw[e2]at e
    cases e
    obtain⟨h1,h2⟩:=endBr_wok h e2
    refine⟨?_,h2⟩
    cases hq:q.1 with
    |nil=>intro l hl;simp at hl
    |cons a t=>exact h1 a (by rw[hq];simp)
  ·split at e
   ·cases e2:gu 91 st with
    |error f=>rw[e2]at e;cases e
    |ok q=>
     rw[e2]at e
     obtain⟨h1,h2⟩:=endBr_wok h e2
     simp only[eQ]at e
     split at e
     ·rename_i x y t hq
      cases e3:comm x y with
      |error f=>rw[e3]at e;cases e
      |ok v=>
       rw[e3]at e
       cases e
       unfold comm at e3
       split at e3
       ·cases e3
       ·cases e3
        have hx:=h1 x (by rw[hq];simp)
        have hy:=h1 y (by rw[hq];simp)
        exact⟨((hx.app hy).app hx.inv).app hy.inv,h2⟩
     ·cases e
   ·cases e
theorem turn_wok{ls:Bytes}{o:Nat}{st bu:List Lv}{c:Nat}{r q:Bytes}(h:∀v∈st,LvOk ls.length v)(e:turn ls o st c r=.ok (bu,q)):∀v∈bu,LvOk ls.length v:=by
 unfold turn at e
 split at e
 ·cases st with
  |nil=>cases e
  |cons l t=>
   simp only at e
   cases e2:fg l with
   |error f=>rw[e2]at e;cases e
   |ok m=>
    rw[e2]at e
    cases e
    unfold fg at e2
    split at e2
    ·cases e2
    ·split at e2
     ·cases e2
     ·intro v hv
      rcases aZ.mp hv with z|z
      ·rw[z];exact endWord_wok (h l (b9 ..)) e2
      ·exact h v (cb _ z)
 ·split at e
  ·unfold begin_ at e
   split at e
   ·cases e
   ·cases e
    intro v hv
    rcases aZ.mp hv with z|z
    ·rw[z];exact⟨fun _ z=>absurd z (by simp),fun _ z=>absurd z (by simp)⟩
    ·exact h v z
  ·cases e2:cM ls st c with
   |error f=>rw[e2]at e;cases e
   |ok p=>
    rw[e2]at e
    obtain⟨h1,h2⟩:=endPart_wok h e2
    simp only[eQ]at e
    cases e3:power r with
    |error f=>rw[e3]at e;cases e
    |ok n=>
     rw[e3]at e
     simp only[eQ]at e
     cases e4:addPart p.2 p.1 (least o n.1).1 (least o n.1).2 with
     |error f=>rw[e4]at e;cases e
     |ok t=>
      rw[e4]at e
      cases e
      unfold addPart at e4
      split at e4
      ·cases e4
      ·rename_i l t' hp
       split at e4
       ·cases e4
       ·cases e4
        intro v hv
        rcases aZ.mp hv with z|z
        ·rw[z]
         have hl:=h2 l (by rw[hp];simp)
         refine⟨hl.en,hl.wr.app (bA.rep ?_ _)⟩
         split
         ·exact h1.inv
         ·exact h1
        ·exact h2 v (by rw[hp];exact cb _ z)
theorem run_wok{ls:Bytes}{o:Nat}:∀(f:Nat) (st:List Lv) (b:Bytes) (ws:List Word),(∀v∈st,LvOk ls.length v)->run ls o f st b=.ok ws->∀w∈ws,bA ls.length w
 |_,st,[],ws,h,e=>by
  unfold run at e
  unfold fin at e
  split at e
  ·rename_i l
   cases e2:dj l with
   |error f=>rw[e2]at e;cases e
   |ok m=>
    rw[e2]at e
    cases e
    exact(endWord_wok (h l (by simp)) e2).en
  ·cases e
 | 0,_,_ :: _,_,_,e=>by unfold run at e;cases e
 |f+1,st,c :: r,ws,h,e=>by
  simp only[run]at e
  cases e2:turn ls o st c r with
  |error z=>rw[e2]at e;cases e
  |ok p=>
   rw[e2]at e
   exact run_wok f p.1 p.2 ws (turn_wok h e2) e
theorem go_wok{ls:Bytes}{o br:Nat}{b:Bytes}{ws:List Word}(e:go ls o [⟨br,[],[],false⟩] b=.ok ws):∀w∈ws,bA ls.length w:=
 run_wok _ _ _ _ (fun v hv=>by rw[aO.mp hv];exact⟨fun _ z=>absurd z (by simp),fun _ z=>absurd z (by simp)⟩) e
def bar(j:Nat):Nat:=if j%2=0 then j+1 else j-1
theorem bar_bar(j:Nat):bar (bar j)=j:=by unfold bar;split<;>split<;>omega
theorem bar_ne(j:Nat):bar j≠j:=by unfold bar;split<;>omega
theorem bar_lt{j k:Nat}(h:j<2*k):bar j<2*k:=by unfold bar;split<;>omega
def fe(j:Nat):Letter:=(j/2,j%2==1)
theorem ixL_letr(j:Nat):ixL (fe j)=j:=by
 unfold ixL fe
 by_cases h:j%2=1
 ·simp[h];omega
 ·have:j%2=0:=by omega
  simp[this];omega
theorem letr_lt{j k:Nat}(h:j<2*k):(fe j).1<k:=by show j/2<k;omega
def cell(u:Table)(j p:Nat):Nat:=moveBy u (fe j) p
theorem letr_bar(j:Nat):fe (bar j)=((fe j).1,!(fe j).2):=by
 unfold fe bar
 by_cases h:j%2=0
 ·rw[if_pos h]
  have h1:(j+1)%2=1:=by omega
  have h2:(j+1)/2=j/2:=by omega
  simp[h,h1,h2]
 ·rw[if_neg h]
  have h0:j%2=1:=by omega
  have h1:(j-1)%2=0:=by omega
  have h2:(j-1)/2=j/2:=by omega
  simp[h0,h1,h2]
theorem moveBy_inv{k n:Nat}{u:Table}(h:isTable k n u=true){l:Letter}(hl:l.1<k){p:Nat}(hp:p<n):moveBy u (l.1,!l.2) (moveBy u l p)=p:=by
 obtain⟨h1,h2⟩:=gv.mp h
 have hi:l.1<u.length:=by rw[h1];exact hl
 have hd:u.getD l.1 []=u[l.1]:=by rw[bT,aH hi];rfl
 have hr:=h2 u[l.1] (cN hi)
 have hrl:=lI hr
 unfold moveBy
 rw[hd]
 cases l.2 with
 |true=>
  simp only[p7,dH,if_false,if_true]
  have aR:u[l.1].idxOf p<u[l.1].length:=iq.mpr (hr.mem_iff.mpr (bt.mpr hp))
  rw[bT,aH aR]
  exact xH aR
 |false=>
  simp only[vJ,dH,if_false,if_true]
  have aR:p<u[l.1].length:=by rw[hrl];exact hp
  rw[bT,aH aR]
  have nd:=row_nodup hr
  exact nd.idxOf_getElem p aR
theorem jn{k n:Nat}{u:Table}(h:isTable k n u=true){j:Nat}(hj:j<2*k){p:Nat}(hp:p<n):cell u j p<n:=moveBy_lt h (letr_lt hj) hp
theorem kh{k n:Nat}{u:Table}(h:isTable k n u=true){j:Nat}(hj:j<2*k){p:Nat}(hp:p<n):cell u (bar j) (cell u j p)=p:=by
 unfold cell
 rw[letr_bar]
 exact moveBy_inv h (letr_lt hj) hp
theorem cell_inj{k n:Nat}{u:Table}(h:isTable k n u=true){j:Nat}(hj:j<2*k){p q:Nat}(hp:p<n)(hq:q<n)(e:cell u j p=cell u j q):p=q:=by
 rw[<-kh h hj hp,e,kh h hj hq]
theorem getM_cell{k n:Nat}{u:Table}(h:isTable k n u=true){j:Nat}(hj:j<2*k){p:Nat}(hp:p<n):getM (bY u n) j p=some (cell u j p):=by
 have:=getM_full h (letr_lt hj) hp
 rw[ixL_letr]at this
 exact this
def pl(M:Rows):Nat:=(M.getD 0 []).length
theorem cR.pl{M:Rows}{k m:Nat}(h:cR M k m)(hk:0<k):pl M=m:=by
 have h0:0<M.length:=by rw[h.len];omega
 unfold Gw.pl
 rw[bT,aH h0]
 exact h.row _ (cN h0)
def setM(M:Rows)(j p q:Nat):Rows:=M.set j ((M.getD j []).set p (some q))
def dn(M:Rows)(j p q:Nat):Rows:=setM (setM M j p q) (bar j) q p
def d6(M:Rows):Rows:=M.map fun r=>r++[none]
theorem getM_set{M:Rows}{k m:Nat}(h:cR M k m){j p q:Nat}(hj:j<2*k)(hp:p<m)(j' p':Nat):getM (setM M j p q) j' p'=if j'=j/\p'=p then some q else getM M j' p':=by
 have cw:j<M.length:=by rw[h.len];exact hj
 have e0:M.getD j []=M[j]:=by rw[bT,aH cw];rfl
 have hrl:M[j].length=m:=h.row _ (cN cw)
 unfold setM
 rw[e0]
 by_cases h1:j'=j
 ·subst h1
  rw[fS (by rw[nR cw]) p',fS (aH cw) p']
  by_cases h2:p'=p
  ·subst h2
   rw[nR (by rw[hrl];exact hp),if_pos ⟨rfl,rfl⟩]
   rfl
  ·rw[lR (fun z=>h2 z.symm),if_neg (fun z=>h2 z.2)]
 ·rw[if_neg (fun z=>h1 z.1)]
  cases e:M[j']? with
  |none=>rw[lG e,lG (by rw[lR (fun z=>h1 z.symm)];exact e)]
  |some r=>rw[fS e,fS (by rw[lR (fun z=>h1 z.symm)];exact e)]
theorem setM_ok{M:Rows}{k m:Nat}(h:cR M k m){j p q:Nat}(hj:j<2*k)(hq:q<m):cR (setM M j p q) k m:=by
 have cw:j<M.length:=by rw[h.len];exact hj
 have e0:M.getD j []=M[j]:=by rw[bT,aH cw];rfl
 unfold setM
 rw[e0]
 refine⟨by rw[pP];exact h.len,fun r hr=>?_,fun r hr x hx=>?_⟩
 ·rcases vb hr with z|z
  ·exact h.row r z
  ·rw[z,pP];exact h.row _ (cN cw)
 ·rcases vb hr with z|z
  ·exact h.lt r z x hx
  ·rw[z]at hx
   rcases vb hx with y|y
   ·exact h.lt _ (cN cw) x y
   ·cases y;exact hq
theorem stepM_ok{M:Rows}{k m:Nat}(h:cR M k m){j p q:Nat}(hj:j<2*k)(hp:p<m)(hq:q<m):cR (dn M j p q) k m:=setM_ok (setM_ok h hj hq) (bar_lt hj) hp
theorem px{M:Rows}{k m:Nat}(h:cR M k m){j p q:Nat}(hj:j<2*k)(hp:p<m)(hq:q<m)(j' p':Nat) :getM (dn M j p q) j' p'=if j'=bar j/\p'=q then some p else if j'=j/\p'=p then some q else getM M j' p':=by
 unfold dn
 rw[getM_set (setM_ok h hj hq) (bar_lt hj) hq,getM_set h hj hp]
theorem placeM_ok{M:Rows}{k m:Nat}(h:cR M k m):cR (d6 M) k (m+1):=by
 refine⟨by unfold d6;rw[aP];exact h.len,fun r hr=>?_,fun r hr x hx=>?_⟩
 ·obtain⟨y,hy,rfl⟩:=bc.mp hr
  rw[cx,h.row y hy];rfl
 ·obtain⟨y,hy,rfl⟩:=bc.mp hr
  rcases cQ.mp hx with z|z
  ·have:=h.lt y hy x z;omega
  ·simp at z
theorem j1{M:Rows}{k m:Nat}(h:cR M k m)(j p:Nat):getM (d6 M) j p=if p<m then getM M j p else none:=by
 unfold d6
 cases e:M[j]? with
 |none=>rw[lG (by rw[bH,e];rfl),lG e];split<;>rfl
 |some r=>
  have hr:=h.row r (cW e)
  rw[fS (by rw[bH,e];rfl),fS e]
  by_cases hp:p<m
  ·rw[if_pos hp,dQ (by rw[hr];exact hp)]
  ·rw[if_neg hp,e9 (by rw[hr];omega)]
   cases hq:p-r.length with
   |zero=>rfl
   |succ x=>rfl
theorem getM_big{M:Rows}{k m:Nat}(h:cR M k m){j p:Nat}(hp:m<=p):getM M j p=none:=by
 cases e:M[j]? with
 |none=>exact lG e p
 |some r=>
  have hr:=h.row r (cW e)
  rw[fS e,d3 (by omega)]
  rfl
def mx(v:Nat->Option Nat):Nat->Nat
 | 0=>1
 |c+1=>match v c with
  |some q=>max (mx v c) (q+1)
  |none=>mx v c
theorem jk{v v':Nat->Option Nat}:∀{c:Nat},(∀x,x<c->v x=v' x)->mx v c=mx v' c
 | 0,_=>rfl
 |c+1,h=>by
  have ih:=jk (c:=c) fun x hx=>h x (by omega)
  simp only[mx]
  rw[ih,h c (by omega)]
def cv(M:Rows)(k c:Nat):Option Nat:=getM M (c%(2*k)) (c/(2*k))
def cvT(u:Table)(k c:Nat):Option Nat:=some (cell u (c%(2*k)) (c/(2*k)))
def Ord(v:Nat->Option Nat)(k c0:Nat):Prop:=∀c,c<c0->c<2*k*mx v c/\∃q,v c=some q/\q<=mx v c
def InOrd(u:Table)(k n:Nat):Prop:=Ord (cvT u k) k (2*k*n)/\mx (cvT u k) (2*k*n)=n
structure Good (M:Rows) (k m most:Nat):Prop where
 ok:cR M k m
 m1:1<=m
 le:m<=most
 inv:∀j p q,j<2*k->getM M j p=some q->getM M (bar j) q=some p
 ord:∃c0,c0<=2*k*m/\Ord (cv M k) k c0/\mx (cv M k) c0=m
theorem Good.on{M:Rows}{k m most:Nat}(G:Good M k m most){c1:Nat}(h1:c1<=2*k*m)(hkn:∀c,c<c1->cv M k c≠none)(hc:∀c0,c0<=2*k*m->Ord (cv M k) k c0->mx (cv M k) c0=m->c0<=c1):Ord (cv M k) k c1/\mx (cv M k) c1=m:=by
 obtain⟨c0,h0,ho,hm⟩:=G.ord
 have hle:=hc c0 h0 ho hm
 have key:∀d,c0+d<=c1->Ord (cv M k) k (c0+d)/\mx (cv M k) (c0+d)=m:=by
  intro d
  induction d with
  |zero=>intro _;exact⟨ho,hm⟩
  |succ d ih=>
   intro hd
   obtain⟨i1,i2⟩:=ih (by omega)
   cases e:cv M k (c0+d)with
   |none=>exact absurd e (hkn _ (by omega))
   |some q=>
    have hq:q<m:=lH G.ok e
    refine⟨fun c hc=>?_,?_⟩
    ·by_cases z:c<c0+d
     ·exact i1 c z
     ·have z2:c=c0+d:=by omega
      subst z2
      exact⟨by rw[i2];omega,q,e,by rw[i2];omega⟩
    ·show mx (cv M k) (c0+d+1)=m
     simp only[mx]
     rw[e,i2]
     simp only
     omega
 have:=key (c1-c0) (by omega)
 rw[show c0+(c1-c0)=c1 by omega]at this
 exact this
theorem Ord.before{v:Nat->Option Nat}{k c0 c1:Nat}(h:Ord v k c0)(e:v c1=none):c0<=c1:=by
 refine gJ fun z=>?_
 obtain⟨_,q,hq,_⟩:=h c1 z
 rw[e]at hq
 cases hq
structure Ext (u:Table) (k n:Nat) (M:Rows):Prop where
 le:pl M<=n
 at_:∀j p q,j<2*k->getM M j p=some q->cell u j p=q
structure Sol (ws:List Word) (k most:Nat) (u:Table) (n:Nat):Prop where
 tb:isTable k n u=true
 n1:1<=n
 le:n<=most
 ord:InOrd u k n
 st:ws.all (still u n)=true
theorem ext_move{u:Table}{k n:Nat}{M:Rows}(h:Ext u k n M):∀{w:Word},bA k w->∀{p q:Nat},eN M w p=some q->move u w p=q
 |[],_,p,q,e=>by cases e;rfl
 |l :: r,hw,p,q,e=>by
  have e:r.foldl (stepP M) (getM M (ixL l) p)=some q:=e
  cases eg:getM M (ixL l) p with
  |none=>rw[eg,foldl_none]at e;cases e
  |some x=>
   rw[eg]at e
   have hl:=hw l (b9 ..)
   have hx:moveBy u l p=x:=by
    have z:=h.at_ (ixL l) p x (by unfold ixL;split<;>omega) eg
    unfold cell at z
    have el:fe (ixL l)=l:=by
     unfold fe ixL
     obtain⟨i,b⟩:=l
     cases b
     ·simp
     ·have:(2*i+1)/2=i:=by omega
      simp[this]
    rw[el]at z
    exact z
   show move u r (moveBy u l p)=q
   rw[hx]
   exact ext_move h (fun y hy=>hw y (cb _ hy)) e
theorem no_sol{ws:List Word}{k most n m:Nat}{u:Table}{M:Rows}(S:Sol ws k most u n)(hM:cR M k m)(hk:0<k)(hw:∀w∈ws,bA k w)(hn:npm M m ws=false):¬Ext u k n M:=fun h=>by
 have hmn:m<=n:=by rw[<-hM.pl hk];exact h.le
 have z:npm M m ws=true:=by
  unfold npm
  rw[cB]
  intro w hwm
  rw[cB]
  intro p hp
  have hp:=bt.mp hp
  cases e:eN M w p with
  |none=>simp
  |some q=>
   have e2:=ext_move h (hw w hwm) e
   have e3:=cB.mp (cB.mp S.st w hwm) p (bt.mpr (by omega))
   have e3:move u w p=p:=by simpa using e3
   rw[e2]at e3
   simp[e3]
 rw[hn]at z
 cases z
def bz(M:Rows)(k:Nat):Table:=(aT k).map fun i=>(M.getD (2*i) []).map fun o=>o.getD 0
theorem full_of{M:Rows}{k m most:Nat}(G:Good M k m most)(hc:∀j p,j<2*k->p<m->getM M j p≠none):isTable k m (bz M k)=true/\bY (bz M k) m=M:=by
 have rowAt:∀j,j<2*k->∃r,M[j]?=some r/\r.length=m/\∀p,p<m->∃q,r[p]?=some (some q)/\getM M j p=some q:=fun j hj=>by
  have cw:j<M.length:=by rw[G.ok.len];exact hj
  refine⟨M[j],aH cw,G.ok.row _ (cN cw),fun p hp=>?_⟩
  have hr:=G.ok.row _ (cN cw)
  have e1:=fS (aH cw) p
  have hpl:p<M[j].length:=by rw[hr];exact hp
  cases e:getM M j p with
  |none=>exact absurd e (hc j p hj hp)
  |some q=>
   rw[e,aH hpl]at e1
   refine⟨q,?_,rfl⟩
   rw[aH hpl]
   exact congrArg some e1.symm
 have rowT:∀i,i<k->∃r,(bz M k)[i]?=some r/\M[2*i]?=some (r.map some)/\r.length=m/\∀p q,p<m->(r[p]?=some q↔getM M (2*i) p=some q):=fun i hi=>by
  obtain⟨r,h1,h2,h3⟩:=rowAt (2*i) (by omega)
  have e0:M.getD (2*i) []=r:=by rw[bT,h1];rfl
  have e1:(bz M k)[i]?=some (r.map fun o=>o.getD 0):=by
   unfold bz
   rw[bH,fI hi]
   show some ((M.getD (2*i) []).map _)=_
   rw[e0]
  refine⟨_,e1,?_,by rw[aP,h2],fun p q hp=>?_⟩
  ·rw[h1,fG]
   congr 1
   conv=>lhs;rw[<-kL r]
   refine pR fun o ho=>?_
   obtain⟨p,hp⟩:=fm ho
   have hpl:=(bj.mp hp).1
   obtain⟨q,hq,_⟩:=h3 p (by omega)
   rw[hp]at hq
   cases hq
   rfl
  ·obtain⟨x,hx,hg⟩:=h3 p hp
   rw[bH,hx,hg]
   simp
 have htb:isTable k m (bz M k)=true:=by
  rw[gv]
  refine⟨by unfold bz;simp,fun r hr=>?_⟩
  obtain⟨i,hi⟩:=fm hr
  have hik:i<k:=by
   have:=(bj.mp hi).1
   unfold bz at this
   simpa using this
  obtain⟨r',e1,e2,e3,e4⟩:=rowT i hik
  rw[hi]at e1
  cases e1
  refine row_perm e3 fun p hp=>?_
  cases e:getM M (2*i+1) p with
  |none=>exact absurd e (hc _ _ (by omega) hp)
  |some q=>
   have z:=G.inv (2*i+1) p q (by omega) e
   have hb:bar (2*i+1)=2*i:=by unfold bar;split<;>omega
   rw[hb]at z
   exact cW ((e4 q p (lH G.ok e)).mpr z)
 refine⟨htb,?_⟩
 obtain⟨t1,t2⟩:=gv.mp htb
 apply iV
 intro j
 by_cases hj:j<2*k
 ·have hi:j/2<k:=by omega
  obtain⟨r,e1,e2,e3,e4⟩:=rowT (j/2) hi
  obtain⟨f1,f2⟩:=fullM_at m (bz M k) (j/2) r e1
  by_cases hp:j%2=0
  ·rw[show j=2*(j/2) by omega,f1,e2]
  ·have hj2:j=2*(j/2)+1:=by omega
   rw[hj2,f2]
   obtain⟨r',g1,g2,g3⟩:=rowAt (2*(j/2)+1) (by omega)
   rw[g1]
   congr 1
   apply iV
   intro p
   by_cases hp2:p<m
   ·rw[bH,fI hp2]
    obtain⟨q,x1,x2⟩:=g3 p hp2
    rw[x1]
    have z:=G.inv _ p q (by omega) x2
    have hb:bar (2*(j/2)+1)=2*(j/2):=by unfold bar;split<;>omega
    rw[hb]at z
    have z2:=(e4 q p (lH G.ok x2)).mpr z
    have hmem:r∈bz M k:=cW e1
    have nd:=row_nodup (t2 r hmem)
    obtain⟨hql,hqe⟩:=bj.mp z2
    have e5:=nd.idxOf_getElem q hql
    rw[hqe]at e5
    show some (some (r.idxOf p))=some (some q)
    rw[e5]
   ·rw[d3 (by simpa using gJ hp2),d3 (by rw[g2];omega)]
 ·rw[d3 (by rw[fullM_len,t1];omega),d3 (by rw[G.ok.len];omega)]
def fZ(M:Rows)(k m:Nat):Option (Nat×Nat):=(aT m).findSome? fun p=>(aT (2*k)).findSome? fun j=>if getM M j p=none then some (p,j)else none
theorem oV{α β:Type}{f:α->Option β}{l:List α}(h:l.findSome? f=none):∀x∈l,f x=none:=by
 simpa using h
theorem find_range{β:Type}{f:Nat->Option β}{n:Nat}{b:β}(h:(aT n).findSome? f=some b):∃i,i<n/\f i=some b/\∀i',i'<i->f i'=none:=by
 induction n with
 |zero=>simp at h
 |succ n ih=>
  rw[f9,List.findSome?_append]at h
  cases e:(aT n).findSome? f with
  |some c=>
   rw[e]at h
   obtain⟨i,h1,h2,h3⟩:=ih (by rw[e];exact h)
   exact⟨i,by omega,h2,h3⟩
  |none=>
   rw[e]at h
   simp only[Option.none_or,List.findSome?_cons,List.findSome?_nil]at h
   refine⟨n,by omega,?_,fun i' hi=>oV e i' (bt.mpr hi)⟩
   cases e2:f n with
   |none=>rw[e2]at h;simp at h
   |some c=>rw[e2]at h;simpa using h
theorem firstU_none{M:Rows}{k m:Nat}(h:fZ M k m=none):∀j p,j<2*k->p<m->getM M j p≠none:=fun j p hj hp e=>by
 have h1:=oV h p (bt.mpr hp)
 have h2:=oV h1 j (bt.mpr hj)
 rw[if_pos e]at h2
 cases h2
theorem o7{M:Rows}{k m p j:Nat}(h:fZ M k m=some (p,j)):p<m/\j<2*k/\getM M j p=none/\∀c,c<2*k*p+j->cv M k c≠none:=by
 obtain⟨p',h1,h2,h3⟩:=find_range h
 obtain⟨j',g1,g2,g3⟩:=find_range h2
 have hj:j'=j/\p'=p/\getM M j' p'=none:=by
  by_cases z:getM M j' p'=none
  ·rw[if_pos z]at g2
   cases g2
   exact⟨rfl,rfl,z⟩
  ·rw[if_neg z]at g2
   cases g2
 obtain⟨rfl,rfl,hn⟩:=hj
 refine⟨h1,g1,hn,fun c hc=>?_⟩
 have hk:0<2*k:=by omega
 have hdm:=vz c (2*k)
 have hmod:=gK c hk
 unfold cv
 by_cases hp:c/(2*k)<p'
 ·intro e
  have z:=oV (h3 _ hp) (c%(2*k)) (bt.mpr hmod)
  rw[if_pos e]at z
  cases z
 ·have hle:c/(2*k)<=p':=by
   refine gJ fun z=>?_
   have:2*k*(p'+1)<=2*k*(c/(2*k)):=hJ _ z
   rw[lW]at this
   omega
  have he:c/(2*k)=p':=by omega
  rw[he]at hdm ⊢
  intro e
  have z:=g3 (c%(2*k)) (by omega)
  rw[if_pos e]at z
  cases z
theorem fT{k p j:Nat}(hj:j<2*k):(2*k*p+j)%(2*k)=j/\(2*k*p+j)/(2*k)=p:=by
 constructor
 ·rw[Nat.mul_add_mod,vA hj]
 ·rw[Nat.mul_add_div (by omega),xY hj];omega
theorem ix_lt{k p j m:Nat}(hj:j<2*k)(hp:p<m):2*k*p+j<2*k*m:=by
 have:2*k*(p+1)<=2*k*m:=hJ _ hp
 rw[lW]at this
 omega
theorem step_good{B:Rows}{k m m' most p j q:Nat}(ok:cR B k m')(inv:∀j p q,j<2*k->getM B j p=some q->getM B (bar j) q=some p)(hj:j<2*k)(hp:p<m)(hmm:m<=m')(hle:m'<=most)(h1:1<=m')(hq:q<m')(hqm:q<=m)(hmax:max m (q+1)=m')(n1:getM B j p=none)(n2:getM B (bar j) q=none)(ho:Ord (cv B k) k (2*k*p+j))(hm:mx (cv B k) (2*k*p+j)=m):Good (dn B j p q) k m' most:=by
 have hp':p<m':=by omega
 have gs:=px ok hj hp' hq
 have ci:=fT (p:=p) hj
 have same:∀c,c<2*k*p+j->cv (dn B j p q) k c=cv B k c:=fun c hc=>by
  unfold cv
  rw[gs]
  have hk:0<2*k:=by omega
  have hdm:=vz c (2*k)
  obtain⟨_,x,hx,_⟩:=ho c hc
  have ne:getM B (c%(2*k)) (c/(2*k))≠none:=by
   have hx:getM B (c%(2*k)) (c/(2*k))=some x:=hx
   rw[hx];simp
  rw[if_neg (fun z=>ne (by rw[z.1,z.2];exact n2)),if_neg (fun z=>ne (by rw[z.1,z.2];exact n1))]
 have at1:cv (dn B j p q) k (2*k*p+j)=some q:=by
  unfold cv
  rw[ci.1,ci.2,gs,if_neg (fun z=>bar_ne j z.1.symm),if_pos ⟨rfl,rfl⟩]
 have mxe:mx (cv (dn B j p q) k) (2*k*p+j)=m:=by rw[jk same];exact hm
 refine⟨stepM_ok ok hj hp' hq,h1,hle,fun j' p' q' hj' e=>?_,2*k*p+j+1,?_,fun c hc=>?_,?_⟩
 ·rw[gs]at e ⊢
  by_cases c1:j'=bar j/\p'=q
  ·rw[if_pos c1]at e
   cases e
   rw[c1.1,bar_bar,if_neg (fun z=>bar_ne j z.1.symm),if_pos ⟨rfl,rfl⟩,c1.2]
  ·rw[if_neg c1]at e
   by_cases c2:j'=j/\p'=p
   ·rw[if_pos c2]at e
    cases e
    rw[c2.1,if_pos ⟨rfl,rfl⟩,c2.2]
   ·rw[if_neg c2]at e
    have z:=inv j' p' q' hj' e
    have d1:¬(bar j'=bar j/\q'=q):=fun y=>by
     rw[y.1,y.2,n2]at z;cases z
    have d2:¬(bar j'=j/\q'=p):=fun y=>by
     rw[y.1,y.2,n1]at z;cases z
    rw[if_neg d1,if_neg d2]
    exact z
 ·have:=ix_lt hj hp
  have:2*k*m<=2*k*m':=hJ _ hmm
  omega
 ·by_cases z:c<2*k*p+j
  ·obtain⟨a1,x,a2,a3⟩:=ho c z
   have e:mx (cv (dn B j p q) k) c=mx (cv B k) c:=jk fun y hy=>same y (by omega)
   rw[e,same c z]
   exact⟨a1,x,a2,a3⟩
  ·have z2:c=2*k*p+j:=by omega
   subst z2
   rw[mxe,at1]
   exact⟨ix_lt hj hp,q,rfl,hqm⟩
 ·simp only[mx]
  rw[at1,mxe]
  simp only
  exact hmax
def kids(M:Rows)(k m most p j:Nat):List Rows:=((aT m).filter fun t=>decide (getM M (bar j) t=none)).map (fun t=>dn M j p t)++(if m<most then[dn (d6 M) j p m]else[])
theorem place_cv{M:Rows}{k m:Nat}(h:cR M k m){c:Nat}(hc:c<2*k*m)(hk:0<k):cv (d6 M) k c=cv M k c:=by
 unfold cv
 rw[j1 h,if_pos]
 exact kO hc
theorem kids_good{M:Rows}{k m most p j:Nat}(G:Good M k m most)(hf:fZ M k m=some (p,j)):∀K∈kids M k m most p j,∃m',Good K k m' most/\∀c,c<=2*k*p+j->cv K k c≠none:=by
 obtain⟨hp,hj,hn,hkn⟩:=o7 hf
 have hk:0<k:=by omega
 have hc1:=ix_lt hj hp
 have hb:∀c0,c0<=2*k*m->Ord (cv M k) k c0->mx (cv M k) c0=m->c0<=2*k*p+j:=fun c0 _ ho _=>ho.before (by
  unfold cv
  rw[(fT hj).1,(fT hj).2]
  exact hn)
 obtain⟨o1,o2⟩:=G.on (gH hc1) hkn hb
 have m1:=G.m1
 have le:=G.le
 have known:∀(B:Rows) (m' q:Nat),Good (dn B j p q) k m' most->cR B k m'->q<m'->p<m'->(∀c,c<2*k*p+j->cv B k c≠none)->getM B (bar j) q=none->getM B j p=none->∀c,c<=2*k*p+j->cv (dn B j p q) k c≠none:=by
  intro B m' q _ okB hq hp' hkB n2 n1 c hc
  unfold cv
  rw[px okB hj hp' hq]
  by_cases z:c=2*k*p+j
  ·rw[z,(fT hj).1,(fT hj).2,if_neg (fun z=>bar_ne j z.1.symm),if_pos ⟨rfl,rfl⟩]
   simp
  ·have ne:=hkB c (by omega)
   unfold cv at ne
   rw[if_neg (fun z=>ne (by rw[z.1,z.2];exact n2)),if_neg (fun z=>ne (by rw[z.1,z.2];exact n1))]
   exact ne
 intro K hK
 unfold kids at hK
 rcases cQ.mp hK with hK|hK
 ·obtain⟨t,ht,rfl⟩:=bc.mp hK
  obtain⟨ht1,ht2⟩:=f7.mp ht
  have ht1:=bt.mp ht1
  have ht2:getM M (bar j) t=none:=of_decide_eq_true ht2
  have g:=step_good (most:=most) G.ok G.inv hj hp (aI m) le m1 ht1 (by omega) (by omega) hn ht2 o1 o2
  exact⟨m,g,known M m t g G.ok ht1 hp hkn ht2 hn⟩
 ·split at hK
  ·rename_i aR
   rw[aO.mp hK]
   have okP:=placeM_ok G.ok
   have invP:∀j p q,j<2*k->getM (d6 M) j p=some q->getM (d6 M) (bar j) q=some p:=fun j' p' q' hj' e=>by
    rw[j1 G.ok]at e ⊢
    split at e
    ·have z:=G.inv j' p' q' hj' e
     rw[if_pos (lH G.ok e)]
     exact z
    ·cases e
   have nP:getM (d6 M) j p=none:=by rw[j1 G.ok,if_pos hp];exact hn
   have nQ:getM (d6 M) (bar j) m=none:=by rw[j1 G.ok,if_neg (by omega)]
   have sameP:∀c,c<2*k*p+j->cv (d6 M) k c=cv M k c:=fun c hc=>place_cv G.ok (by omega) hk
   have oP:Ord (cv (d6 M) k) k (2*k*p+j):=fun c hc=>by
    obtain⟨a1,x,a2,a3⟩:=o1 c hc
    have e:mx (cv (d6 M) k) c=mx (cv M k) c:=jk fun y hy=>sameP y (by omega)
    rw[e,sameP c hc]
    exact⟨a1,x,a2,a3⟩
   have mP:mx (cv (d6 M) k) (2*k*p+j)=m:=by rw[jk sameP];exact o2
   have g:=step_good (m:=m) (most:=most) okP invP hj hp (by omega) aR (by omega) (by omega:m<m+1) (aI m) (by omega) nP nQ oP mP
   exact⟨m+1,g,known (d6 M) (m+1) m g okP (by omega) (by omega) (fun c hc=>by rw[sameP c hc];exact hkn c hc) nQ nP⟩
  ·simp at hK
theorem ext_step{u:Table}{k n m':Nat}{B:Rows}{j p q:Nat}(htb:isTable k n u=true)(ok:cR B k m')(hk:0<k)(hj:j<2*k)(hp:p<m')(hq:q<m')(hn:m'<=n)(hB:∀j p q,j<2*k->getM B j p=some q->cell u j p=q)(hc:cell u j p=q):Ext u k n (dn B j p q):=by
 refine⟨by rw[(stepM_ok ok hj hp hq).pl hk];exact hn,fun j' p' q' hj' e=>?_⟩
 rw[px ok hj hp hq]at e
 split at e
 ·rename_i h
  cases e
  rw[h.1,h.2,<-hc]
  exact kh htb hj (by omega)
 ·split at e
  ·rename_i h
   cases e
   rw[h.1,h.2]
   exact hc
  ·exact hB j' p' q' hj' e
theorem step_ext{u:Table}{k n m':Nat}{B:Rows}{j p q:Nat}(ok:cR B k m')(hj:j<2*k)(hp:p<m')(hq:q<m')(h:Ext u k n (dn B j p q)):cell u j p=q:=
 h.at_ j p q hj (by rw[px ok hj hp hq,if_neg (fun z=>bar_ne j z.1.symm),if_pos ⟨rfl,rfl⟩])
theorem sub_ext{u:Table}{k n m':Nat}{B:Rows}{j p q:Nat}(ok:cR B k m')(hj:j<2*k)(hp:p<m')(hq:q<m')(n1:getM B j p=none)(n2:getM B (bar j) q=none)(h:Ext u k n (dn B j p q)):∀j p q,j<2*k->getM B j p=some q->cell u j p=q:=fun j' p' q' hj' e=>by
 refine h.at_ j' p' q' hj' ?_
 rw[px ok hj hp hq]
 have d1:¬(j'=bar j/\p'=q):=fun y=>by rw[y.1,y.2,n2]at e;cases e
 have d2:¬(j'=j/\p'=p):=fun y=>by rw[y.1,y.2,n1]at e;cases e
 rw[if_neg d1,if_neg d2]
 exact e
theorem count_range_one(m q:Nat):(aT m).countP (fun t=>decide (t=q))=if q<m then 1 else 0:=by
 induction m with
 |zero=>simp
 |succ m ih=>
  rw[f9,nZ,ih]
  by_cases h1:q<m
  ·rw[if_pos h1,if_pos (by omega)]
   have:m≠q:=by omega
   simp[this]
  ·rw[if_neg h1]
   by_cases h2:q=m
   ·subst h2
    simp
   ·have:m≠q:=by omega
    rw[if_neg (by omega)]
    simp[this]
open Classical in
theorem kids_count{ws:List Word}{M:Rows}{k m most p j n:Nat}{u:Table}(S:Sol ws k most u n)(G:Good M k m most)(hf:fZ M k m=some (p,j)) :(kids M k m most p j).countP (fun K=>decide (Ext u k n K))=if Ext u k n M then 1 else 0:=by
 obtain⟨hp,hj,hn,hkn⟩:=o7 hf
 have hk:0<k:=by omega
 have hc1:=ix_lt hj hp
 have okP:=placeM_ok G.ok
 have nP:getM (d6 M) j p=none:=by rw[j1 G.ok,if_pos hp];exact hn
 have nQ:getM (d6 M) (bar j) m=none:=by rw[j1 G.ok,if_neg (by omega)]
 have back1:∀t,t<m->getM M (bar j) t=none->Ext u k n (dn M j p t)->Ext u k n M:=fun t ht h2 h=>by
  refine⟨?_,sub_ext G.ok hj hp ht hn h2 h⟩
  have:=h.le
  rw[(stepM_ok G.ok hj hp ht).pl hk]at this
  rw[G.ok.pl hk]
  exact this
 have back2:Ext u k n (dn (d6 M) j p m)->Ext u k n M/\cell u j p=m:=fun h=>by
  have z:=sub_ext okP hj (by omega) (by omega) nP nQ h
  refine⟨⟨?_,fun j' p' q' hj' e=>z j' p' q' hj' ?_⟩,step_ext okP hj (by omega) (by omega) h⟩
  ·have:=h.le
   rw[(stepM_ok okP hj (by omega) (by omega)).pl hk]at this
   rw[G.ok.pl hk]
   omega
  ·rw[j1 G.ok]
   have:p'<m:=by
    refine xZ fun y=>?_
    rw[getM_big G.ok y]at e
    cases e
   rw[if_pos this]
   exact e
 unfold kids
 rw[nZ,List.countP_map,List.countP_filter]
 by_cases hE:Ext u k n M
 ·rw[if_pos hE]
  have hmn:m<=n:=by rw[<-G.ok.pl hk];exact hE.le
  obtain⟨q,hq⟩:∃q,q=cell u j p:=⟨_,rfl⟩
  have hqn:q<n:=by rw[hq];exact jn S.tb hj (by omega)
  have e1:(aT m).countP (fun t=>((fun K=>decide (Ext u k n K))∘fun t=>dn M j p t) t&&decide (getM M (bar j) t=none))=(aT m).countP (fun t=>decide (t=q)):=by
   refine List.countP_congr fun t ht=>?_
   have ht:=bt.mp ht
   simp only[zj,gh,decide_eq_true_eq]
   constructor
   ·rintro⟨h1,h2⟩
    rw[hq]
    exact(step_ext G.ok hj hp ht h1).symm
   ·rintro rfl
    have hfree:getM M (bar j) t=none:=by
     cases e:getM M (bar j) t with
     |none=>rfl
     |some p'=>
      have z:=G.inv (bar j) t p' (bar_lt hj) e
      rw[bar_bar]at z
      have z2:=hE.at_ j p' t hj z
      have hp':p'<m:=lH G.ok e
      have:=cell_inj S.tb hj (by omega) (by omega) (z2.trans hq)
      subst this
      rw[hn]at z
      cases z
    exact⟨ext_step S.tb G.ok hk hj hp ht hmn hE.at_ hq.symm,hfree⟩
  rw[e1,count_range_one]
  by_cases hqm:q<m
  ·rw[if_pos hqm]
   have e2:(if m<most then[dn (d6 M) j p m]else[]).countP (fun K=>decide (Ext u k n K))=0:=by
    rw[vc]
    intro K hK
    split at hK
    ·rw[aO.mp hK]
     simp only[decide_eq_true_eq]
     intro h
     have:=(back2 h).2
     omega
    ·simp at hK
   rw[e2]
  ·rw[if_neg hqm]
   have hb:∀c0,c0<=2*k*m->Ord (cv M k) k c0->mx (cv M k) c0=m->c0<=2*k*p+j:=fun c0 _ ho _=>ho.before (by
    unfold cv
    rw[(fT hj).1,(fT hj).2]
    exact hn)
   obtain⟨o1,o2⟩:=G.on (gH hc1) hkn hb
   have agree:∀c,c<2*k*p+j->cvT u k c=cv M k c:=fun c hc=>by
    cases e:cv M k c with
    |none=>exact absurd e (hkn c hc)
    |some x=>
     unfold cvT
     rw[hE.at_ _ _ x (gK _ (by omega)) e]
   have hmx:mx (cvT u k) (2*k*p+j)=m:=by rw[jk agree];exact o2
   have aR:2*k*p+j<2*k*n:=ix_lt hj (by omega)
   obtain⟨_,x,hx,hxle⟩:=S.ord.1 _ aR
   unfold cvT at hx
   rw[(fT hj).1,(fT hj).2,<-hq]at hx
   cases hx
   rw[hmx]at hxle
   have hqe:q=m:=by omega
   have hmost:m<most:=by have:=S.le;omega
   rw[if_pos hmost]
   have hx:Ext u k n (dn (d6 M) j p m):=ext_step S.tb okP hk hj (by omega) (by omega) (by omega) (fun j' p' q' hj' e=>by
    rw[j1 G.ok]at e
    split at e
    ·exact hE.at_ j' p' q' hj' e
    ·cases e) (by rw[<-hq];exact hqe)
   simp[hx]
 ·rw[if_neg hE]
  have e1:(aT m).countP (fun t=>((fun K=>decide (Ext u k n K))∘fun t=>dn M j p t) t&&decide (getM M (bar j) t=none))=0:=by
   rw[vc]
   intro t ht
   have ht:=bt.mp ht
   simp only[zj,gh,decide_eq_true_eq]
   rintro⟨h1,h2⟩
   exact hE (back1 t ht h2 h1)
  have e2:(if m<most then[dn (d6 M) j p m]else[]).countP (fun K=>decide (Ext u k n K))=0:=by
   rw[vc]
   intro K hK
   split at hK
   ·rw[aO.mp hK]
    simp only[decide_eq_true_eq]
    intro h
    exact hE (back2 h).1
   ·simp at hK
  rw[e1,e2]
open Classical in
structure SI (ws:List Word) (k most:Nat) (found begun:List Rows):Prop where
 good:∀x∈begun,∃m,Good x k m most
 fnd:∀x∈found,∃u n,Sol ws k most u n/\x=bY u n
 one:∀u n,Sol ws k most u n->(found++begun).countP (fun K=>decide (Ext u k n K))=1
def firstM(k:Nat):Rows:=eI (2*k) [none]
theorem firstM_ok(k:Nat):cR (firstM k) k 1:=by
 refine⟨by simp[firstM],fun r hr=>?_,fun r hr q hq=>?_⟩
 ·rw[lT hr];rfl
 ·rw[lT hr]at hq;simp at hq
theorem firstM_none(k j p:Nat):getM (firstM k) j p=none:=by
 cases e:(firstM k)[j]? with
 |none=>exact lG e p
 |some r=>
  rw[fS e]
  rw[lT (cW e)]
  cases p with
  |zero=>rfl
  |succ p=>rfl
theorem SI.first{ws:List Word}{k most:Nat}(hk:0<k)(hm:1<=most):SI ws k most [] [firstM k]:=by
 refine⟨fun x hx=>⟨1,?_⟩,fun x hx=>absurd hx (by simp),fun u n S=>?_⟩
 ·rw[aO.mp hx]
  exact⟨firstM_ok k,aI _,hm,(fun j p q _ e=>by rw[firstM_none]at e;cases e),0,de _,(fun c hc=>by omega),rfl⟩
 ·have:Ext u k n (firstM k):=⟨by rw[(firstM_ok k).pl hk];exact S.n1,fun j p q _ e=>by rw[firstM_none]at e;cases e⟩
  simp[this]
theorem SI.drop{ws:List Word}{k most:Nat}{found bs:List Rows}{M:Rows}{m:Nat}(h:SI ws k most found (bs++[M]))(hk:0<k)(hw:∀w∈ws,bA k w)(hM:cR M k m)(hn:npm M m ws=false):SI ws k most found bs:=by
 refine⟨fun x hx=>h.good x (dZ _ hx),h.fnd,fun u n S=>?_⟩
 have z:=h.one u n S
 rw[<-jw,nZ]at z
 have:=no_sol S hM hk hw hn
 simpa[this]using z
theorem complete_sol{ws:List Word}{M:Rows}{k m most:Nat}(G:Good M k m most)(hk:0<k)(hw:∀w∈ws,bA k w)(hf:fZ M k m=none)(hn:npm M m ws=true):Sol ws k most (bz M k) m/\bY (bz M k) m=M:=by
 have hc:=firstU_none hf
 obtain⟨t1,t2⟩:=full_of G hc
 have hkn:∀c,c<2*k*m->cv M k c≠none:=fun c hc2=>hc _ _ (gK _ (by omega)) (kO hc2)
 obtain⟨o1,o2⟩:=G.on (aI _) hkn fun c0 h _ _=>h
 have agree:∀c,c<2*k*m->cvT (bz M k) k c=cv M k c:=fun c hc2=>by
  have z:=getM_cell t1 (j:=c%(2*k)) (gK _ (by omega)) (p:=c/(2*k)) (kO hc2)
  rw[t2]at z
  unfold cvT cv
  exact z.symm
 refine⟨⟨t1,G.m1,G.le,⟨fun c hc2=>?_,?_⟩,?_⟩,t2⟩
 ·obtain⟨a1,q,a2,a3⟩:=o1 c hc2
  have e:mx (cvT (bz M k) k) c=mx (cv M k) c:=jk fun x hx=>agree x (by omega)
  rw[e,agree c hc2]
  exact⟨a1,q,a2,a3⟩
 ·rw[jk agree];exact o2
 ·rw[<-npm_full t1 hw,t2];exact hn
theorem SI.take{ws:List Word}{k most:Nat}{found bs:List Rows}{M:Rows}{m:Nat}(h:SI ws k most found (bs++[M]))(hk:0<k)(hw:∀w∈ws,bA k w)(G:Good M k m most)(hf:fZ M k m=none)(hn:npm M m ws=true):SI ws k most (found++[M]) bs:=by
 refine⟨fun x hx=>h.good x (dZ _ hx),fun x hx=>?_,fun u n S=>?_⟩
 ·rcases cQ.mp hx with z|z
  ·exact h.fnd x z
  ·obtain⟨s1,s2⟩:=complete_sol G hk hw hf hn
   exact⟨_,_,s1,by rw[aO.mp z,s2]⟩
 ·have z:=h.one u n S
  rw[<-z]
  simp only[nZ]
  omega
theorem SI.kids{ws:List Word}{k most:Nat}{found bs:List Rows}{M:Rows}{m p j:Nat}(h:SI ws k most found (bs++[M]))(G:Good M k m most)(hf:fZ M k m=some (p,j)):SI ws k most found (bs++Gw.kids M k m most p j):=by
 refine⟨fun x hx=>?_,h.fnd,fun u n S=>?_⟩
 ·rcases cQ.mp hx with z|z
  ·exact h.good x (dZ _ z)
  ·obtain⟨m',g,_⟩:=kids_good G hf x z
   exact⟨m',g⟩
 ·have z:=h.one u n S
  rw[<-jw,nZ]at z ⊢
  rw[kids_count S G hf]
  by_cases hE:Ext u k n M
  ·rw[if_pos hE]
   simpa[hE]using z
  ·rw[if_neg hE]
   simpa[hE]using z
def fidx(M:Rows)(k most:Nat):Nat:=match fZ M k (pl M)with
 |some (p,j)=>2*k*p+j
 |none=>2*k*most
def wt(k most:Nat)(M:Rows):Nat:=(most+2)^(2*k*most-fidx M k most)
theorem wt_pos(k most:Nat)(M:Rows):0<wt k most M:=Nat.pow_pos (by omega)
theorem kids_len(M:Rows)(k m most p j:Nat):(kids M k m most p j).length<=m+1:=by
 unfold kids
 rw[cx,aP]
 have h1:((aT m).filter fun t=>decide (getM M (bar j) t=none)).length<=m:=by
  have:=n6 (fun t=>decide (getM M (bar j) t=none)) (aT m)
  rwa[fH]at this
 split<;>simp<;>omega
theorem sum_le{α:Type}(f:α->Nat)(b:Nat):∀l:List α,(∀x∈l,f x<=b)->(l.map f).sum<=l.length*b
 |[],_=>by simp
 |x :: t,h=>by
  have:=sum_le f b t fun y hy=>h y (cb _ hy)
  have h2:=h x (b9 ..)
  rw[dB,xI,cI,rP]
  omega
theorem kids_wt{M:Rows}{k m most p j:Nat}(G:Good M k m most)(hk:0<k)(hf:fZ M k m=some (p,j)):((kids M k m most p j).map (wt k most)).sum<wt k most M:=by
 obtain⟨hp,hj,hn,hkn⟩:=o7 hf
 have hpl:=G.ok.pl hk
 have e0:fidx M k most=2*k*p+j:=by unfold fidx;rw[hpl,hf]
 have aR:2*k*p+j<2*k*most:=by
  have:=ix_lt hj hp
  have:2*k*m<=2*k*most:=hJ _ G.le
  omega
 have hb:∀K∈kids M k m most p j,wt k most K<=(most+2)^(2*k*most-(2*k*p+j)-1):=fun K hK=>by
  obtain⟨m',g,hkn'⟩:=kids_good G hf K hK
  unfold wt
  refine rS (by omega) ?_
  have hf':2*k*p+j+1<=fidx K k most:=by
   unfold fidx
   rw[g.ok.pl hk]
   cases e:fZ K k m' with
   |none=>simp only;omega
   |some x=>
    obtain⟨p',j'⟩:=x
    obtain⟨a1,a2,a3,_⟩:=o7 e
    simp only
    refine xZ fun z=>hkn' _ z ?_
    unfold cv
    rw[(fT a2).1,(fT a2).2]
    exact a3
  omega
 have h1:=sum_le (wt k most) _ _ hb
 have h2:=kids_len M k m most p j
 have h3:wt k most M=(most+2)^(2*k*most-(2*k*p+j)-1)*(most+2):=by
  unfold wt
  rw[e0,<-gz]
  congr 1
  omega
 rw[h3]
 have hpos:0<(most+2)^(2*k*most-(2*k*p+j)-1):=Nat.pow_pos (by omega)
 have h4:(kids M k m most p j).length<=most+1:=by have:=G.le;omega
 refine iu (cZ h1 (Nat.mul_le_mul_right _ h4)) ?_
 rw[gI]
 exact vB (by omega) hpos
theorem nk{k n:Nat}{u u':Table}(h:isTable k n u=true)(h':isTable k n u'=true)(e:∀i p,i<k->p<n->cell u (2*i) p=cell u' (2*i) p):u=u':=by
 obtain⟨a1,a2⟩:=gv.mp h
 obtain⟨b1,b2⟩:=gv.mp h'
 apply iV
 intro i
 by_cases hi:i<k
 ·have hiu:i<u.length:=by omega
  have hiu':i<u'.length:=by omega
  rw[aH hiu,aH hiu']
  congr 1
  have l1:=lI (a2 _ (cN hiu))
  have l2:=lI (b2 _ (cN hiu'))
  apply iV
  intro p
  by_cases hp:p<n
  ·have z:=e i p hi hp
   unfold cell moveBy fe at z
   have z1:2*i/2=i:=by omega
   have z2:(2*i%2==1)=false:=by
    have:2*i%2=0:=by omega
    rw[this];rfl
   simp only[z1,z2,dH,if_false]at z
   have g1:u.getD i []=u[i]:=by rw[bT,aH hiu];rfl
   have g2:u'.getD i []=u'[i]:=by rw[bT,aH hiu'];rfl
   rw[g1,g2]at z
   have hp1:p<u[i].length:=by omega
   have hp2:p<u'[i].length:=by omega
   rw[bT,aH hp1,bT,aH hp2]at z
   rw[aH hp1,aH hp2]
   exact congrArg some z
  ·rw[d3 (by omega),d3 (by omega)]
 ·rw[d3 (by omega),d3 (by omega)]
theorem ext_full{ws ws':List Word}{k most n n':Nat}{u u':Table}(hk:0<k)(S:Sol ws k most u n)(S':Sol ws' k most u' n')(h:Ext u k n (bY u' n')):u=u'/\n=n':=by
 have hle:n'<=n:=by
  have:=h.le
  rw[(gE S'.tb).pl hk]at this
  exact this
 have agree:∀j p,j<2*k->p<n'->cell u j p=cell u' j p:=fun j p hj hp=>h.at_ j p _ hj (getM_cell S'.tb hj hp)
 have en:n=n':=by
  refine Nat.le_antisymm (gJ fun z=>?_) hle
  have e:∀c,c<2*k*n'->cvT u k c=cvT u' k c:=fun c hc=>by
   unfold cvT
   rw[agree _ _ (gK _ (by omega)) (kO hc)]
  have m1:mx (cvT u k) (2*k*n')=n':=by rw[jk e];exact S'.ord.2
  have aR:2*k*n'<2*k*n:=vB z (by omega)
  have:=(S.ord.1 _ aR).1
  rw[m1]at this
  omega
 subst en
 exact⟨nk S.tb S'.tb fun i p hi hp=>agree _ _ (by omega) hp,rfl⟩
theorem ext_self{ws:List Word}{k most n:Nat}{u:Table}(hk:0<k)(S:Sol ws k most u n):Ext u k n (bY u n):=by
 refine⟨by rw[(gE S.tb).pl hk];exact aI _,fun j p q hj e=>?_⟩
 by_cases hp:p<n
 ·rw[getM_cell S.tb hj hp]at e
  exact cC e
 ·rw[getM_big (gE S.tb) (gJ hp)]at e
  cases e
theorem SI.all{ws:List Word}{k most:Nat}{found:List Rows}(hk:0<k)(h:SI ws k most found []){u:Table}{n:Nat}(S:Sol ws k most u n):bY u n∈found:=by
 have z:=h.one u n S
 rw[fV]at z
 have hp:0<found.countP (fun K=>@decide (Ext u k n K) (yC _)):=by rw[z];exact Nat.one_pos
 obtain⟨K,hK,hE⟩:=List.countP_pos_iff.mp hp
 have hE:Ext u k n K:=by simpa using hE
 obtain⟨u',n',S',rfl⟩:=h.fnd K hK
 obtain⟨e1,e2⟩:=ext_full hk S S' hE
 subst e1 e2
 exact hK
inductive P2 {α β:Type} (F:α->β->Prop):List α->List β->Prop
 |nil:P2 F [] []
 |cons {a:α} {b:β} {l:List α} {m:List β}:F a b->P2 F l m->P2 F (a :: l) (b :: m)
theorem P2.app{α β:Type}{F:α->β->Prop}:∀{a:List α} {b:List β} {c:List α} {d:List β},P2 F a b->P2 F c d->P2 F (a++c) (b++d)
 |_,_,_,_,.nil,h=>h
 |_,_,_,_,.cons x y,h=>.cons x (P2.app y h)
theorem P2.len{α β:Type}{F:α->β->Prop}:∀{a:List α} {b:List β},P2 F a b->a.length=b.length
 |_,_,.nil=>rfl
 |_,_,.cons _ y=>congrArg (·+1) (P2.len y)
theorem P2.left{α β:Type}{F:α->β->Prop}:∀{a:List α} {b:List β},P2 F a b->∀x∈a,∃y∈b,F x y
 |_,_,.nil,x,h=>absurd h (by simp)
 |_,_,.cons f t,x,h=>by
  rcases aZ.mp h with z|z
  ·exact⟨_,b9 ..,z▸f⟩
  ·obtain⟨y,h1,h2⟩:=P2.left t x z
   exact⟨y,cb _ h1,h2⟩
theorem P2.right{α β:Type}{F:α->β->Prop}:∀{a:List α} {b:List β},P2 F a b->∀y∈b,∃x∈a,F x y
 |_,_,.nil,x,h=>absurd h (by simp)
 |_,_,.cons f t,x,h=>by
  rcases aZ.mp h with z|z
  ·exact⟨_,b9 ..,z▸f⟩
  ·obtain⟨y,h1,h2⟩:=P2.right t x z
   exact⟨y,cb _ h1,h2⟩
theorem ki(u:Table)(a b:Word)(p:Nat):move u (a++b) p=move u b (move u a p):=by unfold move;rw[n8]
theorem move_one(u:Table)(l:Letter)(p:Nat):move u [l] p=moveBy u l p:=rfl
theorem inverse_cons(l:Letter)(w:Word):inverse (l ::w)=inverse w++[(l.1,!l.2)]:=by unfold inverse;simp
theorem inverse_inverse(w:Word):inverse (inverse w)=w:=by
 unfold inverse
 rw[<-xJ,List.reverse_reverse,fG]
 conv=>rhs;rw[<-kL w]
 refine pR fun l _=>?_
 simp
theorem move_inv{k n:Nat}{u:Table}(h:isTable k n u=true):∀{w:Word},bA k w->∀{p:Nat},p<n->move u (inverse w) (move u w p)=p
 |[],_,p,_=>rfl
 |l :: r,hw,p,hp=>by
  have hl:=hw l (b9 ..)
  rw[inverse_cons,ki,move_one]
  have e:move u (l ::r) p=move u r (moveBy u l p):=rfl
  rw[e,move_inv h (fun x hx=>hw x (cb _ hx)) (moveBy_lt h hl hp)]
  exact moveBy_inv h hl hp
theorem move_inv'{k n:Nat}{u:Table}(h:isTable k n u=true){w:Word}(hw:bA k w){p:Nat}(hp:p<n):move u w (move u (inverse w) p)=p:=by
 have:=move_inv h hw.inv hp
 rwa[inverse_inverse]at this
def it(f:Nat->Nat):Nat->Nat->Nat
 | 0,p=>p
 |n+1,p=>it f n (f p)
theorem it_add(f:Nat->Nat):∀(a b p:Nat),it f (a+b) p=it f b (it f a p)
 | 0,b,p=>by rw[fW];rfl
 |a+1,b,p=>by rw[Nat.succ_add];exact it_add f a b (f p)
theorem it_lt{f:Nat->Nat}{n:Nat}(h:∀p,p<n->f p<n):∀(a:Nat) {p:Nat},p<n->it f a p<n
 | 0,_,hp=>hp
 |a+1,_,hp=>it_lt h a (h _ hp)
theorem it_inj{f:Nat->Nat}{n:Nat}(h:∀p,p<n->f p<n)(hi:∀p q,p<n->q<n->f p=f q->p=q):∀(a:Nat) {p q:Nat},p<n->q<n->it f a p=it f a q->p=q
 | 0,_,_,_,_,e=>e
 |a+1,p,q,hp,hq,e=>hi p q hp hq (it_inj h hi a (h _ hp) (h _ hq) e)
theorem move_rep(u:Table)(w:Word):∀(a p:Nat),move u (rep a w) p=it (move u w) a p
 | 0,p=>rfl
 |a+1,p=>by
  have e:rep (a+1) w=w++rep a w:=by unfold rep;rw[nU,jv]
  rw[e,ki,move_rep u w a]
  rfl
def OrdOk(o n:Nat):Prop:=∀d,1<=d->d<=n->d∣o
theorem orbit{f:Nat->Nat}{n:Nat}(h:∀p,p<n->f p<n)(hi:∀p q,p<n->q<n->f p=f q->p=q){p:Nat}(hp:p<n):∃d,1<=d/\d<=n/\it f d p=p:=by
 apply fX
 intro hno
 have ne:∀i j,i<j->j<=n->it f i p≠it f j p:=fun i j hij hj e=>by
  rw[show j=(j-i)+i by omega,it_add]at e
  have:=it_inj h hi i hp (it_lt h (j-i) hp) e
  exact hno ⟨j-i,by omega,by omega,this.symm⟩
 have nd:((aT (n+1)).map fun i=>it f i p).Nodup:=by
  rw[List.nodup_iff_pairwise_ne,gZ]
  refine jB ?_ (vd (n:=n+1))
  intro a b ha hb hab
  exact ne a b hab (by have:=bt.mp hb;omega)
 have pm:=qo (l2:=aT n) nd (fun x hx=>by
  obtain⟨i,_,rfl⟩:=bc.mp hx
  exact bt.mpr (it_lt h i hp)) (by simp)
 have:=pm.length_eq
 simp at this
theorem it_mul{f:Nat->Nat}{d p:Nat}(h:it f d p=p):∀t,it f (d*t) p=p
 | 0=>rfl
 |t+1=>by rw[lW,it_add,it_mul h t,h]
theorem it_ord{f:Nat->Nat}{n o:Nat}(h:∀p,p<n->f p<n)(hi:∀p q,p<n->q<n->f p=f q->p=q)(ho:OrdOk o n)(t:Nat){p:Nat}(hp:p<n):it f (o*t) p=p:=by
 obtain⟨d,h1,h2,h3⟩:=orbit h hi hp
 obtain⟨e,he⟩:=ho d h1 h2
 rw[he,oq]
 exact it_mul h3 _
def zpow(w:Word)(z:Int):Word:=rep z.natAbs (if z<0 then inverse w else w)
theorem inv_it{k n:Nat}{u:Table}(h:isTable k n u=true){w:Word}(hw:bA k w):∀(a:Nat) {p:Nat},p<n->it (move u w) a (it (move u (inverse w)) a p)=p
 | 0,_,_=>rfl
 |a+1,p,hp=>by
  have e1:it (move u (inverse w)) (a+1) p=move u (inverse w) (it (move u (inverse w)) a p):=by rw[it_add];rfl
  have aR:∀q,q<n->move u (inverse w) q<n:=fun q hq=>ko h hw.inv hq
  rw[e1]
  show it (move u w) a (move u w (move u (inverse w) (it (move u (inverse w)) a p)))=p
  rw[move_inv' h hw (it_lt aR a hp)]
  exact inv_it h hw a hp
theorem move_zpow{k n o:Nat}{u:Table}(h:isTable k n u=true){w:Word}(hw:bA k w)(ho:OrdOk o n)(h0:0<o)(z:Int){p:Nat}(hp:p<n):move u (zpow w z) p=it (move u w) (z%(o:Int)).toNat p:=by
 have aR:∀q,q<n->move u w q<n:=fun q hq=>ko h hw hq
 have hinj:∀p q,p<n->q<n->move u w p=move u w q->p=q:=fun p q hp hq e=>by
  rw[<-move_inv h hw hp,e,move_inv h hw hq]
 have hm1:=p8 z (show(o:Int)≠0 by omega)
 have hdm:=yD z (o:Int)
 unfold zpow
 rw[move_rep]
 by_cases hz:z<0
 ·rw[if_pos hz]
  obtain⟨q,hq⟩:∃q,q=it (move u (inverse w)) z.natAbs p:=⟨_,rfl⟩
  have hqn:q<n:=by rw[hq];exact it_lt (fun q hq=>ko h hw.inv hq) _ hp
  have e1:it (move u w) z.natAbs q=p:=by rw[hq];exact inv_it h hw _ hp
  have ht:z/(o:Int)<=0:=by
   have:z/(o:Int)<0:=Int.ediv_neg_of_neg_of_pos hz (by omega)
   omega
  obtain⟨t,ht2⟩:∃t:Nat,z/(o:Int) = -(t:Int):=⟨(z/(o:Int)).natAbs,by omega⟩
  have e2:z.natAbs+(z%(o:Int)).toNat=o*t:=by
   rw[ht2,Int.mul_neg]at hdm
   have:(z.natAbs:Int)+((z%(o:Int)).toNat:Int)=(o:Int)*(t:Int):=by omega
   exact_mod_cast this
  rw[<-hq,<-e1,<-it_add,e2,it_ord aR hinj ho t hqn]
 ·rw[if_neg hz]
  obtain⟨t,ht2⟩:∃t:Nat,z/(o:Int)=(t:Int):=⟨(z/(o:Int)).toNat,by have:=Int.ediv_nonneg (show 0<=z by omega) (show(0:Int)<=o by omega);omega⟩
  have e2:z.natAbs=o*t+(z%(o:Int)).toNat:=by
   rw[ht2]at hdm
   have:(z.natAbs:Int)=(o:Int)*(t:Int)+((z%(o:Int)).toNat:Int):=by omega
   exact_mod_cast this
  rw[e2,it_add,it_ord aR hinj ho t hp]
structure Rw (k o most:Nat) (w w':Word):Prop where
 len:w'.length<=w.length
 ok:bA k w
 ok':bA k w'
 mv:∀(u:Table) (n:Nat),isTable k n u=true->n<=most->∀p,p<n->move u w' p=move u w p
section
variable{k o most:Nat}
theorem Rw.nil:Rw k o most [] []:=⟨aI _,fun _ h=>absurd h (by simp),fun _ h=>absurd h (by simp),fun _ _ _ _ _ _=>rfl⟩
theorem Rw.app{a a' b b':Word}(h:Rw k o most a a')(g:Rw k o most b b'):Rw k o most (a++b) (a'++b'):=
 ⟨by have:=h.len;have:=g.len;simp only[cx];omega,h.ok.app g.ok,h.ok'.app g.ok',fun u n ht hn p hp=>by rw[ki,ki,h.mv u n ht hn p hp,g.mv u n ht hn _ (ko ht h.ok hp)]⟩
theorem Rw.inv{a a':Word}(h:Rw k o most a a'):Rw k o most (inverse a) (inverse a'):=
 ⟨by rw[ig,ig];exact h.len,h.ok.inv,h.ok'.inv,fun u n ht hn p hp=>by
  have hq:move u (inverse a) p<n:=ko ht h.ok.inv hp
  have e1:=move_inv' ht h.ok hp
  have e2:=h.mv u n ht hn _ hq
  rw[e1]at e2
  have e3:=move_inv ht h.ok' hq
  rw[e2]at e3
  exact e3⟩
theorem least_abs(o:Nat)(z:Int)(h:0<o):(gm o z).natAbs<=z.natAbs:=by
 have h1:=p8 z (show(o:Int)≠0 by omega)
 have h2:=sk z (show(0:Int)<o by omega)
 have h3:=yD z (o:Int)
 unfold gm
 generalize hr:z%(o:Int)=r at *
 generalize hq:z/(o:Int)=q at *
 by_cases hq0:q=0
 ·subst hq0
  simp only[Int.mul_zero,Int.add_zero]at h3
  split<;>omega
 ·by_cases hq1:q = -1
  ·subst hq1
   rw[Int.mul_neg,Int.mul_one]at h3
   split<;>omega
  ·have:(o:Int)<=z.natAbs:=by
    by_cases hp:0<q
    ·have:(o:Int)*1<=(o:Int)*q:=yE (by omega) (by omega)
     omega
    ·have:(o:Int)*q<=(o:Int)*(-2):=yE (by omega) (by omega)
     omega
   split<;>omega
theorem least_mod(o:Nat)(z:Int):gm o z%(o:Int)=z%(o:Int):=by
 unfold gm
 split
 ·rw[Int.sub_emod_right,yF]
 ·rw[yF]
theorem Rw.pow{a a':Word}(h:Rw k o most a a')(h0:0<o)(ho:∀n,n<=most->OrdOk o n)(q:Nat×Bool):Rw k o most (rep q.1 (if q.2=true then inverse a else a)) (rep (least o q).1 (if (least o q).2=true then inverse a' else a')):=by
 obtain⟨x,y⟩:=q
 obtain⟨o,rfl⟩:∃o',o=o'+1:=⟨o-1,by omega⟩
 have hl:(least (o+1) (x,y)).1=(gm (o+1) (dA x y)).natAbs:=rfl
 have hs:(least (o+1) (x,y)).2=decide (gm (o+1) (dA x y)<0):=rfl
 have ex:(dA x y).natAbs=x:=by unfold dA;split<;>omega
 have e2:rep (least (o+1) (x,y)).1 (if (least (o+1) (x,y)).2=true then inverse a' else a')=zpow a' (gm (o+1) (dA x y)):=by
  rw[hl,hs]
  unfold zpow
  simp only[decide_eq_true_eq]
 have e1:rep x (if y=true then inverse a else a)=zpow a (dA x y):=by
  unfold zpow
  rw[ex]
  by_cases h1:x=0
  ·subst h1;rfl
  ·unfold dA
   cases y with
   |true=>rw[if_pos rfl,if_pos rfl,if_pos (by omega)]
   |false=>simp only[dH,if_false];rw[if_neg (by omega)]
 rw[e2]
 show Rw k (o+1) most (rep x (if y=true then inverse a else a)) _
 rw[e1]
 have hz:∀(b:Word) (z:Int),(zpow b z).length=b.length*z.natAbs:=fun b z=>by
  unfold zpow
  rw[rep_len]
  split
  ·rw[ig]
  ·rfl
 have wz:∀(b:Word) (z:Int),bA k b->bA k (zpow b z):=fun b z hb=>by
  unfold zpow
  refine bA.rep ?_ _
  split
  ·exact hb.inv
  ·exact hb
 refine⟨?_,wz _ _ h.ok,wz _ _ h.ok',fun u n ht hn p hp=>?_⟩
 ·rw[hz,hz]
  exact ot h.len (least_abs _ _ (by omega))
 ·rw[move_zpow ht h.ok' (ho n hn) (by omega) _ hp,move_zpow ht h.ok (ho n hn) (by omega) _ hp,least_mod]
  have ee:∀(x:Nat) (q:Nat),q<n->it (move u a') x q=it (move u a) x q:=fun x=>by
   induction x with
   |zero=>intro q _;rfl
   |succ x ih=>
    intro q hq
    show it (move u a') x (move u a' q)=it (move u a) x (move u a q)
    rw[h.mv u n ht hn q hq]
    exact ih _ (ko ht h.ok hq)
  exact ee _ _ hp
structure RLv (k o most:Nat) (v v':Lv):Prop where
 br:v.br=v'.br
 hp:v.hp=v'.hp
 en:P2 (Rw k o most) v.ended v'.ended
 wr:Rw k o most v.wr v'.wr
theorem endWord_sim{v v' m:Lv}(h:RLv k o most v v')(e:dj v=.ok m):∃m',dj v'=.ok m'/\RLv k o most m m':=by
 unfold dj at e ⊢
 rw[h.hp]at e
 split at e
 ·rename_i z
  cases e
  rw[if_pos z]
  exact⟨_,rfl,h.br,rfl,h.en.app (.cons h.wr .nil),Rw.nil⟩
 ·cases e
theorem endBr_sim{br:Nat}{st bu:List Lv}{p:List Word×List Lv}(h:P2 (RLv k o most) st bu)(e:gu br st=.ok p):∃p',gu br bu=.ok p'/\P2 (Rw k o most) p.1 p'.1/\P2 (RLv k o most) p.2 p'.2:=by
 cases h with
 |nil=>cases e
 | @cons l l' t t' hl ht=>
  have e:(if l.br=br then(dj l).bind (fun m=>.ok (m.ended,t))else .error .wrong)=.ok p:=e
  show ∃p',(if l'.br=br then(dj l').bind (fun m=>.ok (m.ended,t'))else .error .wrong)=.ok p'/\_
  rw[hl.br]at e
  split at e
  ·rename_i z
   rw[if_pos z]
   cases e2:dj l with
   |error f=>rw[e2]at e;cases e
   |ok m=>
    rw[e2]at e
    cases e
    obtain⟨m',h1,h2⟩:=endWord_sim hl e2
    exact⟨_,by rw[h1];rfl,h2.en,ht⟩
  ·cases e
theorem endPart_sim{ls:Bytes}{st bu:List Lv}{c:Nat}{p:Word×List Lv}(h:P2 (RLv ls.length o most) st bu)(e:cM ls st c=.ok p):∃p',cM ls bu c=.ok p'/\Rw ls.length o most p.1 p'.1/\P2 (RLv ls.length o most) p.2 p'.2:=by
 unfold cM at e ⊢
 cases el:eZ ls c with
 |some l=>
  rw[el]at e
  cases e
  have hw:bA ls.length [l]:=fun x hx=>by rw[aO.mp hx];exact letterOf_lt el
  exact⟨_,rfl,⟨aI _,hw,hw,fun _ _ _ _ _ _=>rfl⟩,h⟩
 |none=>
  rw[el]at e
  simp only at e ⊢
  split at e
  ·rename_i z
   rw[if_pos z]
   cases e2:gu 40 st with
   |error f=>rw[e2]at e;cases e
   |ok q=>
    rw[e2]at e
    cases e
    obtain⟨q',h1,h2,h3⟩:=endBr_sim h e2
    refine⟨_,by rw[h1];rfl,?_,h3⟩
    obtain⟨q1,q2⟩:=q
    obtain⟨q1',q2'⟩:=q'
    cases h2 with
    |nil=>exact Rw.nil
    |cons a _=>exact a
  ·rename_i z
   rw[if_neg z]
   split at e
   ·rename_i z2
    rw[if_pos z2]
    cases e2:gu 91 st with
    |error f=>rw[e2]at e;cases e
    |ok q=>
     rw[e2]at e
     obtain⟨q',h1,h2,h3⟩:=endBr_sim h e2
     simp only[eQ]at e
     split at e
     ·rename_i x y t hq
      rw[hq]at h2
      obtain⟨q1',q2'⟩:=q'
      cases h2 with
      | @cons _ x' _ _ a r=>
       cases r with
       | @cons _ y' _ _ b r=>
        cases e3:comm x y with
        |error f=>rw[e3]at e;cases e
        |ok v=>
         rw[e3]at e
         cases e
         unfold comm at e3
         split at e3
         ·cases e3
         ·rename_i hlen
          cases e3
          refine⟨(x'++y'++inverse x'++inverse y',q2'),?_,((a.app b).app a.inv).app b.inv,h3⟩
          rw[h1]
          show(comm x' y').bind (fun v=>(.ok (v,q2'):Got (Word×List Lv)))=_
          unfold comm
          rw[if_neg (by have:=a.len;have:=b.len;omega)]
          rfl
     ·cases e
   ·cases e
theorem turn_sim{ls:Bytes}{st bu t:List Lv}{c:Nat}{r q:Bytes}(h0:0<o)(ho:∀n,n<=most->OrdOk o n)(h:P2 (RLv ls.length o most) st bu)(e:turn ls 0 st c r=.ok (t,q)):∃t',turn ls o bu c r=.ok (t',q)/\P2 (RLv ls.length o most) t t':=by
 unfold turn at e ⊢
 split at e
 ·rename_i z
  rw[if_pos z]
  cases h with
  |nil=>cases e
  | @cons l l' s s' hl hs=>
   simp only at e ⊢
   cases e2:fg l with
   |error f=>rw[e2]at e;cases e
   |ok m=>
    rw[e2]at e
    cases e
    unfold fg at e2 ⊢
    rw[hl.br]at e2
    have ba:(l.ended≠[])↔(l'.ended≠[]):=by
     have:=hl.en.len
     rw[<-ve,<-ve,this]
    split at e2
    ·cases e2
    ·rename_i z1
     rw[if_neg z1]
     split at e2
     ·cases e2
     ·rename_i z2
      rw[if_neg (fun y=>z2 ⟨y.1,ba.mpr y.2⟩)]
      obtain⟨m',h1,h2⟩:=endWord_sim hl e2
      exact⟨_,by rw[h1];rfl,.cons h2 hs⟩
 ·rename_i z
  rw[if_neg z]
  split at e
  ·rename_i z2
   rw[if_pos z2]
   unfold begin_ at e ⊢
   split at e
   ·cases e
   ·rename_i hl
    cases e
    rw[if_neg (by rw[<-h.len];exact hl)]
    exact⟨_,rfl,.cons ⟨rfl,rfl,.nil,Rw.nil⟩ h⟩
  ·rename_i z2
   rw[if_neg z2]
   cases e2:cM ls st c with
   |error f=>rw[e2]at e;cases e
   |ok p=>
    rw[e2]at e
    obtain⟨p',h1,h2,h3⟩:=endPart_sim h e2
    rw[h1]
    simp only[eQ]at e ⊢
    cases e3:power r with
    |error f=>rw[e3]at e;cases e
    |ok n=>
     rw[e3]at e
     simp only[eQ]at e ⊢
     have hl0:least 0 n.1=n.1:=rfl
     rw[hl0]at e
     cases e4:addPart p.2 p.1 n.1.1 n.1.2 with
     |error f=>rw[e4]at e;cases e
     |ok v=>
      rw[e4]at e
      cases e
      have hp:=h2.pow h0 ho n.1
      unfold addPart at e4 ⊢
      obtain⟨p1,p2⟩:=p
      obtain⟨p1',p2'⟩:=p'
      cases h3 with
      |nil=>cases e4
      | @cons l l' s s' hl hs=>
       simp only at e4 ⊢
       split at e4
       ·cases e4
       ·rename_i hlen
        cases e4
        have len1:=hp.len
        rw[rep_len,rep_len]at len1
        have i1:∀(b:Bool) (x:Word),(if b=true then inverse x else x).length=x.length:=fun b x=>by split;exact ig x;rfl
        rw[i1,i1]at len1
        have len2:=hl.wr.len
        rw[if_neg (pV.mpr (cZ (Nat.add_le_add len2 len1) (gJ hlen)))]
        exact⟨_,rfl,.cons ⟨hl.br,rfl,hl.en,hl.wr.app hp⟩ hs⟩
theorem run_sim{ls:Bytes}(h0:0<o)(ho:∀n,n<=most->OrdOk o n):∀(f:Nat) (st bu:List Lv) (b:Bytes) (ws:List Word),P2 (RLv ls.length o most) st bu->run ls 0 f st b=.ok ws->∃ws',run ls o f bu b=.ok ws'/\P2 (Rw ls.length o most) ws ws'
 |_,st,bu,[],ws,h,e=>by
  unfold run at e ⊢
  cases h with
  |nil=>cases e
  | @cons l l' s s' hl hs=>
   cases hs with
   |cons _ _=>cases e
   |nil=>
    have e:(dj l).bind (fun m=>.ok m.ended)=.ok ws:=e
    show ∃ws',(dj l').bind (fun m=>.ok m.ended)=.ok ws'/\_
    cases e2:dj l with
    |error f=>rw[e2]at e;cases e
    |ok m=>
     rw[e2]at e
     cases e
     obtain⟨m',h1,h2⟩:=endWord_sim hl e2
     exact⟨_,by rw[h1];rfl,h2.en⟩
 | 0,_,_,_ :: _,_,_,e=>by unfold run at e;cases e
 |f+1,st,bu,c :: r,ws,h,e=>by
  simp only[run]at e ⊢
  cases e2:turn ls 0 st c r with
  |error z=>rw[e2]at e;cases e
  |ok p=>
   rw[e2]at e
   obtain⟨t',h1,h2⟩:=turn_sim h0 ho h e2
   rw[h1]
   exact run_sim h0 ho f p.1 t' p.2 ws h2 e
theorem go_sim{ls:Bytes}{br:Nat}{b:Bytes}{ws:List Word}(h0:0<o)(ho:∀n,n<=most->OrdOk o n)(e:go ls 0 [⟨br,[],[],false⟩] b=.ok ws):∃ws',go ls o [⟨br,[],[],false⟩] b=.ok ws'/\P2 (Rw ls.length o most) ws ws':=
 run_sim h0 ho _ _ _ _ _ (.cons ⟨rfl,rfl,.nil,Rw.nil⟩ .nil) e
end
theorem List.wy{α:Type}{x:α}{l:List α}(h:x∈l.dropLast):x∈l:=by
 rw[List.dropLast_eq_take]at h
 exact rK h
def bars(l:Letter):Letter:=(l.1,!l.2)
def gP(s:Word)(l:Letter):Word:=match s.getLast? with
 |some m=>if m=bars l then s.dropLast else s++[l]
 |none=>s++[l]
def cp(w:Word):Word:=w.foldl gP []
theorem short1_ok{k:Nat}{s:Word}{l:Letter}(hs:bA k s)(hl:l.1<k):bA k (gP s l):=by
 have hx:bA k (s++[l]):=hs.app fun x hx=>by rw[aO.mp hx];exact hl
 unfold gP
 split
 ·split
  ·exact fun x hx=>hs x (List.wy hx)
  ·exact hx
 ·exact hx
theorem short1_mv{k n:Nat}{u:Table}(ht:isTable k n u=true){s:Word}{l:Letter}(hs:bA k s)(hl:l.1<k){p:Nat}(hp:p<n):move u (gP s l) p=move u (s++[l]) p:=by
 unfold gP
 split
 ·rename_i m hm
  split
  ·rename_i e
   have e2:s=s.dropLast++[m]:=by
    have ba:s≠[]:=by intro z;rw[z]at hm;cases hm
    have h3:=List.dropLast_concat_getLast ba
    rw[List.getLast?_eq_some_getLast ba]at hm
    cases hm
    exact h3.symm
   have hd:bA k s.dropLast:=fun x hx=>hs x (List.wy hx)
   have hm1:m.1<k:=hs m (by rw[e2];simp)
   conv=>rhs;rw[e2]
   rw[ki,ki,move_one,move_one]
   have e3:l=(m.1,!m.2):=by rw[e];unfold bars;simp
   rw[e3,moveBy_inv ht hm1 (ko ht hd hp)]
  ·rfl
 ·rfl
theorem t6{k:Nat}:∀(w s:Word),bA k w->bA k s->bA k (w.foldl gP s)/\∀(u:Table) (n:Nat),isTable k n u=true->∀p,p<n->move u (w.foldl gP s) p=move u (s++w) p
 |[],s,_,hs=>⟨hs,fun u n _ p _=>by rw[fV];rfl⟩
 |l :: r,s,hw,hs=>by
  have hl:=hw l (b9 ..)
  obtain⟨h1,h2⟩:=t6 r (gP s l) (fun x hx=>hw x (cb _ hx)) (short1_ok hs hl)
  refine⟨h1,fun u n ht p hp=>?_⟩
  rw[kK,h2 u n ht p hp,ki,short1_mv ht hs hl hp,<-ki,jw]
  rfl
theorem shorten_ok{k:Nat}{w:Word}(h:bA k w):bA k (cp w):=(t6 w [] h fun _ z=>absurd z (by simp)).1
theorem shorten_mv{k n:Nat}{u:Table}{w:Word}(h:bA k w)(ht:isTable k n u=true){p:Nat}(hp:p<n):move u (cp w) p=move u w p:=(t6 w [] h fun _ z=>absurd z (by simp)).2 u n ht p hp
structure Tells (ws' ts:List Word):Prop where
 of:∀t∈ts,∃w∈ws',t=cp w
 all:∀w∈ws',cp w=[]\/cp w∈ts
theorem still_congr{u:Table}{n:Nat}{w w':Word}(h:∀p,p<n->move u w' p=move u w p):still u n w'=still u n w:=by
 unfold still
 rw[i4,cB,cB]
 exact⟨fun z p hp=>by rw[<-h p (bt.mp hp)];exact z p hp,fun z p hp=>by rw[h p (bt.mp hp)];exact z p hp⟩
theorem tells_still{k o most n:Nat}{ws ws' ts:List Word}(h:P2 (Rw k o most) ws ws')(T:Tells ws' ts){u:Table}(ht:isTable k n u=true)(hn:n<=most):ts.all (still u n)=ws.all (still u n):=by
 have hsh:∀w w',Rw k o most w w'->still u n (cp w')=still u n w:=fun w w' r=>by
  rw[still_congr (w:=w') (fun p hp=>shorten_mv r.ok' ht hp)]
  exact still_congr fun p hp=>r.mv u n ht hn p hp
 rw[i4,cB,cB]
 constructor
 ·intro z w hw
  obtain⟨w',h1,h2⟩:=h.left w hw
  rw[<-hsh w w' h2]
  rcases T.all w' h1 with y|y
  ·rw[y]
   unfold still
   simp[move]
  ·exact z _ y
 ·intro z t ht2
  obtain⟨w',h1,rfl⟩:=T.of t ht2
  obtain⟨w,h3,h4⟩:=h.right w' h1
  rw[hsh w w' h4]
  exact z w h3
theorem tells_ok{k o most:Nat}{ws ws' ts:List Word}(h:P2 (Rw k o most) ws ws')(T:Tells ws' ts):∀t∈ts,bA k t:=fun t ht=>by
 obtain⟨w',h1,rfl⟩:=T.of t ht
 obtain⟨w,_,h4⟩:=h.right w' h1
 exact shorten_ok h4.ok'
def aJ(u:Table)(k p0:Nat):Nat->List Nat
 | 0=>[p0]
 |c+1=>if cell u (c%(2*k)) ((aJ u k p0 c).getD (c/(2*k)) 0)∈aJ u k p0 c then aJ u k p0 c else aJ u k p0 c++[cell u (c%(2*k)) ((aJ u k p0 c).getD (c/(2*k)) 0)]
theorem scan_pre(u:Table)(k p0 c:Nat):∀d,∃t,aJ u k p0 (c+d)=aJ u k p0 c++t
 | 0=>⟨[],by simp⟩
 |d+1=>by
  obtain⟨t,ht⟩:=scan_pre u k p0 c d
  rw[<-rT]
  simp only[aJ]
  split
  ·exact⟨t,ht⟩
  ·exact⟨t++[_],by rw[ht,jw]⟩
theorem lJ(u:Table)(k p0:Nat){c d:Nat}(h:c<=d):∃t,aJ u k p0 d=aJ u k p0 c++t:=by
 obtain⟨t,ht⟩:=scan_pre u k p0 c (d-c)
 rw[show c+(d-c)=d by omega]at ht
 exact⟨t,ht⟩
theorem scan_len(u:Table)(k p0:Nat){c d:Nat}(h:c<=d):(aJ u k p0 c).length<=(aJ u k p0 d).length:=by
 obtain⟨t,ht⟩:=lJ u k p0 h
 rw[ht,cx]
 omega
theorem scan_ne(u:Table)(k p0 c:Nat):0<(aJ u k p0 c).length:=scan_len u k p0 (de c)
theorem getD_app{l t:List Nat}{i:Nat}(h:i<l.length):(l++t).getD i 0=l.getD i 0:=by
 rw[bT,bT,dQ h]
theorem fh{l:List Nat}{i:Nat}(h:i<l.length):l.getD i 0∈l:=by
 rw[bT,aH h]
 exact cN h
section
variable{u:Table}{k n p0:Nat}(ht:isTable k n u=true)(hk:0<k)(hp:p0<n)
include ht hk hp
theorem scan_lt:∀c,∀x∈aJ u k p0 c,x<n
 | 0,x,h=>by rw[aO.mp h];exact hp
 |c+1,x,h=>by
  have ih:=scan_lt c
  simp only[aJ]at h
  split at h
  ·exact ih x h
  ·rcases cQ.mp h with z|z
   ·exact ih x z
   ·rw[aO.mp z]
    refine jn ht (gK _ (by omega)) ?_
    by_cases hi:c/(2*k)<(aJ u k p0 c).length
    ·exact ih _ (fh hi)
    ·rw[bT,d3 (gJ hi)]
     show 0<n
     omega
omit ht hk hp in
theorem scan_nodup:∀c,(aJ u k p0 c).Nodup
 | 0=>by simp[aJ]
 |c+1=>by
  have ih:=scan_nodup c
  simp only[aJ]
  split
  ·exact ih
  ·rename_i h
   rw[ir]
   refine⟨ih,by simp,fun a ha b hb=>?_⟩
   rw[aO.mp hb]
   intro e
   exact h (e▸ha)
theorem scan_small(c:Nat):(aJ u k p0 c).length<=n:=by
 refine gJ fun h=>?_
 have pm:=qo (l2:=aT n) (scan_nodup (u:=u) (k:=k) (p0:=p0) c) (fun x hx=>bt.mpr (scan_lt ht hk hp c x hx)) (by rw[fH];omega)
 have:=pm.length_eq
 rw[fH]at this
 omega
theorem scan_end:∃m,1<=m/\m<=n/\(aJ u k p0 (2*k*m)).length=m/\∀i,i<m->i<(aJ u k p0 (2*k*i)).length:=by
 have key:∀j,(∃m,1<=m/\m<=j/\(aJ u k p0 (2*k*m)).length=m/\∀i,i<m->i<(aJ u k p0 (2*k*i)).length)\/∀i,i<=j->i<(aJ u k p0 (2*k*i)).length:=by
  intro j
  induction j with
  |zero=>exact .inr fun i hi=>by rw[show i=0 by omega];exact scan_ne u k p0 _
  |succ j ih=>
   rcases ih with⟨m,h1,h2,h3⟩|h
   ·exact .inl ⟨m,h1,by omega,h3⟩
   ·by_cases hj:j+1<(aJ u k p0 (2*k*(j+1))).length
    ·refine .inr fun i hi=>?_
     by_cases e:i=j+1
     ·rw[e];exact hj
     ·exact h i (by omega)
    ·have h1:=h j (aI _)
     have h2:=scan_len u k p0 (show 2*k*j<=2*k*(j+1) from hJ _ (by omega))
     exact .inl ⟨j+1,by omega,aI _,by omega,fun i hi=>h i (by omega)⟩
 rcases key n with⟨m,h1,h2,h3⟩|h
 ·exact⟨m,h1,h2,h3⟩
 ·have h1:=h n (aI _)
  have h2:=scan_small ht hk hp (2*k*n)
  omega
end
def cP(u:Table)(k m:Nat)(L:List Nat):Table:=(aT k).map fun i=>(aT m).map fun a=>L.idxOf (cell u (2*i) (L.getD a 0))
structure Cl (u:Table) (k n m:Nat) (L:List Nat):Prop where
 len:L.length=m
 lt:∀x∈L,x<n
 nd:L.Nodup
 cl:∀j a,j<2*k->a<m->cell u j (L.getD a 0)∈L
structure Met (u:Table) (k n p0 m:Nat) (L:List Nat):Prop extends Cl u k n m L where
 m1:1<=m
 mn:m<=n
 zero:L.getD 0 0=p0
 scan:L=aJ u k p0 (2*k*m)
 on:∀i,i<m->i<(aJ u k p0 (2*k*i)).length
theorem met_ex{u:Table}{k n p0:Nat}(ht:isTable k n u=true)(hk:0<k)(hp:p0<n):∃m L,Met u k n p0 m L:=by
 obtain⟨m,h1,h2,h3,h4⟩:=scan_end ht hk hp
 refine⟨m,aJ u k p0 (2*k*m),⟨h3,scan_lt ht hk hp _,scan_nodup _,fun j a hj ha=>?_⟩,h1,h2,(by
  obtain⟨t,e⟩:=lJ u k p0 (de (2*k*m))
  rw[e]
  rfl),rfl,h4⟩
 ·have hc:2*k*a+j<2*k*m:=ix_lt hj ha
  obtain⟨e1,e2⟩:=fT (p:=a) hj
  have hlen:a<(aJ u k p0 (2*k*a+j)).length:=du (h4 a ha) (scan_len u k p0 (by omega))
  obtain⟨t0,e0⟩:=lJ u k p0 (gH hc)
  have eg:(aJ u k p0 (2*k*m)).getD a 0=(aJ u k p0 (2*k*a+j)).getD a 0:=by rw[e0];exact getD_app hlen
  obtain⟨t,et⟩:=lJ u k p0 (show 2*k*a+j+1<=2*k*m from hc)
  rw[eg,et]
  refine dZ _ ?_
  simp only[aJ]
  rw[e1,e2]
  split
  ·assumption
  ·simp
theorem letr_ixL(l:Letter):fe (ixL l)=l:=by
 unfold fe ixL
 obtain⟨i,b⟩:=l
 cases b
 ·simp
 ·have:(2*i+1)/2=i:=by omega
  simp[this]
section
variable{u:Table}{k n p0 m:Nat}{L:List Nat}(ht:isTable k n u=true)(hk:0<k)(M:Cl u k n m L)
theorem iP{L:List Nat}(nd:L.Nodup){a:Nat}(h:a<L.length):L.idxOf (L.getD a 0)=a:=by
 rw[bT,aH h]
 exact nd.idxOf_getElem a h
theorem gF{L:List Nat}{x:Nat}(h:x∈L):L.getD (L.idxOf x) 0=x:=by
 have hl:=iq.mpr h
 rw[bT,aH hl]
 exact xH hl
include M in
theorem Cl.idx_lt{x:Nat}(h:x∈L):L.idxOf x<m:=by rw[<-M.len];exact iq.mpr h
include M in
theorem Cl.get_lt{a:Nat}(h:a<m):L.getD a 0<n:=M.lt _ (fh (by rw[M.len];exact h))
include M in
theorem reT_row{i:Nat}(hi:i<k):(cP u k m L)[i]?=some ((aT m).map fun a=>L.idxOf (cell u (2*i) (L.getD a 0))):=by
 unfold cP
 rw[bH,fI hi]
 rfl
include ht M in
theorem reT_back{i p:Nat}(hi:i<k)(hp:p<m):L.idxOf (cell u (2*i) (L.getD (L.idxOf (cell u (2*i+1) (L.getD p 0))) 0))=p:=by
 have hb:bar (2*i+1)=2*i:=by unfold bar;split<;>omega
 rw[gF (M.cl _ _ (by omega) hp)]
 have:=kh ht (j:=2*i+1) (by omega) (M.get_lt hp)
 rw[hb]at this
 rw[this,iP M.nd (by rw[M.len];exact hp)]
include ht M in
theorem ic:isTable k m (cP u k m L)=true:=by
 rw[gv]
 refine⟨by unfold cP;simp,fun r hr=>?_⟩
 unfold cP at hr
 obtain⟨i,hi,rfl⟩:=bc.mp hr
 have hi:=bt.mp hi
 refine row_perm (by simp) fun p hp=>?_
 refine bc.mpr ⟨L.idxOf (cell u (2*i+1) (L.getD p 0)),bt.mpr (M.idx_lt (M.cl _ _ (by omega) hp)),?_⟩
 exact reT_back ht M hi hp
include ht M in
theorem lD{j a:Nat}(hj:j<2*k)(ha:a<m):cell (cP u k m L) j a=L.idxOf (cell u j (L.getD a 0)):=by
 have hi:j/2<k:=by omega
 have er:=reT_row M hi
 have ed:(cP u k m L).getD (j/2) []=(aT m).map fun a=>L.idxOf (cell u (2*(j/2)) (L.getD a 0)):=by rw[bT,er];rfl
 have hperm:=(gv.mp (ic ht M)).2 _ (cW er)
 by_cases hp:j%2=0
 ·have ej:2*(j/2)=j:=by omega
  have l2:(j%2==1)=false:=by rw[hp];rfl
  show(if (j%2==1)=true then _ else _)=_
  rw[l2]
  simp only[dH,if_false]
  show((cP u k m L).getD (j/2) []).getD a 0=_
  rw[ed,bT,bH,fI ha,ej]
  rfl
 ·have ej:2*(j/2)+1=j:=by omega
  have l2:(j%2==1)=true:=by rw[show j%2=1 by omega];rfl
  show(if (j%2==1)=true then _ else _)=_
  rw[l2]
  simp only[if_true]
  show((cP u k m L).getD (j/2) []).idxOf a=_
  rw[ed]
  have hb:=reT_back ht M hi ha
  rw[ej]at hb
  have aR:L.idxOf (cell u j (L.getD a 0))<m:=M.idx_lt (M.cl _ _ hj ha)
  have nd:=row_nodup hperm
  have bZ:L.idxOf (cell u j (L.getD a 0))<((aT m).map fun a=>L.idxOf (cell u (2*(j/2)) (L.getD a 0))).length:=by simpa using aR
  have z:=nd.idxOf_getElem _ bZ
  have e5:((aT m).map fun a=>L.idxOf (cell u (2*(j/2)) (L.getD a 0)))[L.idxOf (cell u j (L.getD a 0))]=a:=by
   rw[List.getElem_map,List.getElem_range]
   exact hb
  rw[e5]at z
  exact z
include ht M in
include ht M in
end
section
variable{u:Table}{k n p0 m:Nat}{L:List Nat}(ht:isTable k n u=true)(hk:0<k)(M:Met u k n p0 m L)
include ht hk M in
theorem reT_mx:∀c,c<=2*k*m->mx (cvT (cP u k m L) k) c=(aJ u k p0 c).length
 | 0,_=>rfl
 |c+1,hc=>by
  have ih:=reT_mx c (by omega)
  have hi:c/(2*k)<m:=kO hc
  have hj:c%(2*k)<2*k:=gK _ (by omega)
  have hlen:c/(2*k)<(aJ u k p0 c).length:=du (M.on _ hi) (scan_len u k p0 (by have:=vC c (2*k);rw[gI]at this;exact this))
  obtain⟨t,et⟩:=lJ u k p0 (show c<=2*k*m by omega)
  have eg:L.getD (c/(2*k)) 0=(aJ u k p0 c).getD (c/(2*k)) 0:=by rw[M.scan,et];exact getD_app hlen
  have ec:cvT (cP u k m L) k c=some (L.idxOf (cell u (c%(2*k)) ((aJ u k p0 c).getD (c/(2*k)) 0))):=by
   unfold cvT
   rw[lD ht M.toCl hj hi,eg]
  simp only[mx]
  rw[ec,ih]
  simp only[aJ]
  generalize hq:cell u (c%(2*k)) ((aJ u k p0 c).getD (c/(2*k)) 0)=q
  have eL:L=aJ u k p0 c++t:=by rw[M.scan,et]
  split
  ·rename_i h
   have:L.idxOf q<(aJ u k p0 c).length:=by
    rw[eL,rL,if_pos h]
    exact iq.mpr h
   omega
  ·rename_i h
   obtain⟨t2,et2⟩:=lJ u k p0 (show c+1<=2*k*m from hc)
   have e1:aJ u k p0 (c+1)=aJ u k p0 c++[q]:=by
    simp only[aJ]
    rw[hq,if_neg h]
   have:L.idxOf q=(aJ u k p0 c).length:=by
    rw[M.scan,et2,e1,jw,rL,if_neg h]
    simp
   rw[this,cx]
   simp
include ht hk M in
theorem reT_ord:InOrd (cP u k m L) k m:=by
 have e0:mx (cvT (cP u k m L) k) (2*k*m)=m:=by
  rw[reT_mx ht hk M _ (aI _),<-M.scan,M.len]
 refine⟨fun c hc=>?_,e0⟩
 have hi:c/(2*k)<m:=kO hc
 have hj:c%(2*k)<2*k:=gK _ (by omega)
 have hlen:c/(2*k)<(aJ u k p0 c).length:=du (M.on _ hi) (scan_len u k p0 (by have:=vC c (2*k);rw[gI]at this;exact this))
 have h1:=reT_mx ht hk M c (by omega)
 have h2:=reT_mx ht hk M (c+1) hc
 refine⟨?_,cell (cP u k m L) (c%(2*k)) (c/(2*k)),rfl,?_⟩
 ·rw[h1]
  have hdm:=vz c (2*k)
  have:2*k*(c/(2*k)+1)<=2*k*(aJ u k p0 c).length:=hJ _ hlen
  rw[lW]at this
  omega
 ·have h3:mx (cvT (cP u k m L) k) (c+1)=max (mx (cvT (cP u k m L) k) c) (cell (cP u k m L) (c%(2*k)) (c/(2*k))+1):=rfl
  have h4:(aJ u k p0 (c+1)).length<=(aJ u k p0 c).length+1:=by
   simp only[aJ]
   split
   ·omega
   ·simp
  rw[h1]at h3 ⊢
  omega
end
theorem oW(x:Nat):∀(r y:List Nat),y∈insertAll x r↔∃a b,r=a++b/\y=a++x ::b
 |[],y=>by
  simp only[insertAll,aO]
  constructor
  ·rintro rfl
   exact⟨[],[],rfl,rfl⟩
  ·rintro⟨a,b,h1,rfl⟩
   have h2:=List.append_eq_nil_iff.mp h1.symm
   rw[h2.1,h2.2];rfl
 |z :: r,y=>by
  simp only[insertAll,aZ,bc]
  constructor
  ·rintro(rfl|⟨l,hl,rfl⟩)
   ·exact⟨[],z ::r,rfl,rfl⟩
   ·obtain⟨a,b,h1,rfl⟩:=(oW x r l).mp hl
    exact⟨z ::a,b,by rw[h1];rfl,rfl⟩
  ·rintro⟨a,b,h1,rfl⟩
   cases a with
   |nil=>left;rw[nW]at h1;rw[<-h1];rfl
   |cons c a=>
    right
    injection h1 with h2 h3
    subst h2
    exact⟨a++x ::b,(oW x r _).mpr ⟨a,b,h3,rfl⟩,rfl⟩
theorem m6:∀(r y:List Nat),y∈orders r↔y.Perm r
 |[],y=>by
  simp only[orders,aO]
  exact⟨fun h=>by rw[h],fun h=>List.perm_nil.mp h⟩
 |x :: r,y=>by
  simp only[orders,fk]
  constructor
  ·rintro⟨l,hl,hy⟩
   obtain⟨a,b,h1,rfl⟩:=(oW x l y).mp hy
   have h2:=(m6 r l).mp hl
   rw[h1]at h2
   exact rJ.trans (h2.cons x)
  ·intro h
   have hx:x∈y:=h.mem_iff.mpr (b9 ..)
   obtain⟨a,b,rfl⟩:=u0 hx
   have h2:(a++b).Perm r:=(rJ.symm.trans h).cons_inv
   exact⟨a++b,(m6 r _).mpr h2,(oW x _ _).mpr ⟨a,b,rfl,rfl⟩⟩
theorem pd(n:Nat):∀(k:Nat) (t:Table),t∈tables n k↔isTable k n t=true
 | 0,t=>by
  simp only[tables,aO]
  rw[gv]
  constructor
  ·rintro rfl
   exact⟨rfl,fun r hr=>absurd hr (by simp)⟩
  ·rintro⟨h,_⟩
   exact kM.mp h
 |k+1,t=>by
  simp only[tables,fk,bc]
  rw[gv]
  constructor
  ·rintro⟨r,hr,s,hs,rfl⟩
   obtain⟨h1,h2⟩:=gv.mp ((pd n k s).mp hs)
   refine⟨by rw[cI,h1],fun x hx=>?_⟩
   rcases aZ.mp hx with z|z
   ·rw[z];exact(m6 _ _).mp hr
   ·exact h2 x z
  ·rintro⟨h1,h2⟩
   cases t with
   |nil=>simp at h1
   |cons r s=>
    exact⟨r,(m6 _ _).mpr (h2 r (b9 ..)),s,(pd n k s).mpr (gv.mpr ⟨by simpa using h1,fun x hx=>h2 x (cb _ hx)⟩),rfl⟩
theorem mem_every{g:Group}{n:Nat}{t:Table}:t∈every g n↔isTable g.letters.length n t=true/\g.nothing.all (still t n)=true:=by
 unfold every
 rw[f7,pd]
 rfl
structure BI (k most:Nat) (Bs:List Rows) (cs:List Nat):Prop where
 len:Bs.length=cs.length
 mono:cs.Pairwise (·<=·)
 pos:∀(i c:Nat),cs[i]?=some c->i<(most+1)*(c+1)
 kn:∀(i:Nat) (M:Rows) (c:Nat),Bs[i]?=some M->cs[i]?=some c->∀x,x<c->cv M k x≠none
theorem BI.first(k most:Nat):BI k most [firstM k] [0]:=by
 refine⟨rfl,by simp,fun i c h=>?_,fun i M c _ h x hx=>?_⟩
 ·cases i with
  |zero=>rw[ou];omega
  |succ i=>simp at h
 ·cases i with
  |zero=>cases h;omega
  |succ i=>simp at h
theorem BI.pop{k most:Nat}{bs:List Rows}{M:Rows}{cs:List Nat}(h:BI k most (bs++[M]) cs):∃cs' c,BI k most bs cs'/\(∀x∈cs',x<=c)/\bs.length<(most+1)*(c+1)/\∀x,x<c->cv M k x≠none:=by
 have hl:=h.len
 rw[cx]at hl
 rcases vf cs with z|⟨cs',c,z⟩
 ·rw[z]at hl;simp at hl
 ·have z:cs=cs'++[c]:=by rw[z];simp
  subst z
  have bZ:bs.length=cs'.length:=by simp at hl;exact hl
  have hm:=vg.mp h.mono
  refine⟨cs',c,⟨bZ,hm.1,fun i d hd=>?_,fun i N d hN hd=>?_⟩,fun x hx=>hm.2.2 x hx c (by simp),?_,?_⟩
  ·have:=(bj.mp hd).1
   exact h.pos i d (by rw[dQ this];exact hd)
  ·have h1:=(bj.mp hN).1
   have h2:=(bj.mp hd).1
   exact h.kn i N d (by rw[dQ h1];exact hN) (by rw[dQ h2];exact hd)
  ·exact h.pos bs.length c (by rw[bZ];simp)
  ·exact h.kn bs.length M c (by simp) (by rw[bZ];simp)
theorem BI.push{k most:Nat}{bs Ks:List Rows}{cs:List Nat}{c c1:Nat}(h:BI k most bs cs)(hc:∀x∈cs,x<=c)(hb:bs.length<(most+1)*(c+1))(hcc:c<=c1)(hK:Ks.length<=most+1)(hkn:∀K∈Ks,∀x,x<=c1->cv K k x≠none):BI k most (bs++Ks) (cs++eI Ks.length (c1+1)):=by
 refine⟨by simp[h.len],?_,fun i d hd=>?_,fun i N d hN hd=>?_⟩
 ·rw[vg]
  refine⟨h.mono,?_,fun x hx y hy=>?_⟩
  ·rw[List.pairwise_replicate]
   right;omega
  ·rw[lT hy]
   have:=hc x hx
   omega
 ·by_cases hi:i<cs.length
  ·rw[dQ hi]at hd
   exact h.pos i d hd
  ·have b7:=(bj.mp hd).1
   rw[e9 (by omega)]at hd
   have e:=lT (cW hd)
   rw[cx,xu,<-h.len]at b7
   subst e
   have h1:(most+1)*(c+2)<=(most+1)*(c1+2):=hJ _ (by omega)
   have h2:(most+1)*(c+2)=(most+1)*(c+1)+(most+1):=by rw[<-lW]
   show i<(most+1)*(c1+2)
   omega
 ·by_cases hi:i<cs.length
  ·rw[dQ hi]at hd
   rw[dQ (by rw[h.len];exact hi)]at hN
   exact h.kn i N d hN hd
  ·rw[e9 (by omega)]at hd
   rw[e9 (by rw[h.len];omega)]at hN
   have e:=lT (cW hd)
   subst e
   exact fun x hx=>hkn N (cW hN) x (by omega)
theorem known_le{M:Rows}{k m most c:Nat}(hk:0<k)(G:Good M k m most)(h:∀x,x<c->cv M k x≠none):c<=2*k*most:=by
 have h1:c<=2*k*m:=by
  refine gJ fun z=>h (2*k*m) z ?_
  unfold cv
  rw[Nat.mul_div_cancel_left _ (by omega)]
  exact getM_big G.ok (aI _)
 exact cZ h1 (hJ _ G.le)
theorem BI.bound{k most:Nat}{Bs:List Rows}{cs:List Nat}(hk:0<k)(h:BI k most Bs cs)(hg:∀x∈Bs,∃m,Good x k m most):Bs.length<=(most+1)*(2*k*most+1):=by
 cases hl:Bs.length with
 |zero=>omega
 |succ n=>
  have h1:n<Bs.length:=by omega
  have h2:n<cs.length:=by rw[<-h.len];exact h1
  obtain⟨m,G⟩:=hg _ (cN h1)
  have h3:=known_le hk G (h.kn n _ _ (aH h1) (aH h2))
  have h4:=h.pos n _ (aH h2)
  have h5:(most+1)*(cs[n]+1)<=(most+1)*(2*k*most+1):=hJ _ (by omega)
  omega
def fac:Nat->Nat
 | 0=>1
 |n+1=>(n+1)*fac n
theorem insertAll_len(x:Nat):∀r:List Nat,(insertAll x r).length=r.length+1
 |[]=>rfl
 |y :: r=>by simp[insertAll,insertAll_len x r]
theorem mW{α β:Type}(f:α->List β)(n:Nat):∀l:List α,(∀x∈l,(f x).length=n)->(l.flatMap f).length=l.length*n
 |[],_=>by simp
 |x :: t,h=>by
  rw[rH,cx,h x (b9 ..),mW f n t (fun y hy=>h y (cb _ hy)),cI,rP]
  omega
theorem orders_len:∀r:List Nat,(orders r).length=fac r.length
 |[]=>rfl
 |x :: r=>by
  simp only[orders]
  rw[mW _ (r.length+1) _ (fun l hl=>by rw[insertAll_len,((m6 r l).mp hl).length_eq]),orders_len r,cI]
  show _=(r.length+1)*fac r.length
  rw[gI]
theorem tables_len(n:Nat):∀k:Nat,(tables n k).length=fac n^k
 | 0=>rfl
 |k+1=>by
  simp only[tables]
  rw[mW _ (fac n^k) _ (fun r _=>by rw[aP,tables_len n k]),orders_len,fH,gz,gI]
theorem fac_mono{a b:Nat}(h:a<=b):fac a<=fac b:=by
 induction b with
 |zero=>rw[show a=0 by omega];exact aI _
 |succ b ih=>
  by_cases e:a=b+1
  ·rw[e];exact aI _
  ·have:=ih (by omega)
   show fac a<=(b+1)*fac b
   exact cZ this (Nat.le_mul_of_pos_left _ (by omega))
theorem nodup_le{α:Type}:∀{l1 l2:List α},l1.Nodup->(∀x∈l1,x∈l2)->l1.length<=l2.length
 |[],l2,_,_=>by simp
 |x :: t,l2,nd,hs=>by
  have hx:x∈l2:=hs x (b9 ..)
  obtain⟨a,b,rfl⟩:=u0 hx
  have nd':=eD.mp nd
  have:=nodup_le (l1:=t) (l2:=a++b) nd'.2 (fun y hy=>by
   rcases cQ.mp (hs y (cb _ hy))with z|z
   ·exact dZ _ z
   ·rcases aZ.mp z with z|z
    ·subst z;exact absurd hy nd'.1
    ·exact fP _ z)
  simp at this ⊢
  omega
theorem SI.nodup{ws:List Word}{k most:Nat}{found begun:List Rows}(hk:0<k)(h:SI ws k most found begun):found.Nodup:=by
 rw[List.nodup_iff_count]
 intro M
 by_cases hM:M∈found
 ·obtain⟨u,n,S,rfl⟩:=h.fnd M hM
  have h1:=h.one u n S
  rw[nZ]at h1
  have h2:found.count (bY u n)<=found.countP (fun K=>@decide (Ext u k n K) (yC _)):=by
   unfold List.count
   refine List.countP_mono_left fun x _ hx=>?_
   have:x=bY u n:=by simpa using hx
   rw[this]
   simp only[decide_eq_true_eq]
   exact ext_self hk S
  omega
 ·rw[List.count_eq_zero.mpr hM]
  omega
theorem SI.bound{ws:List Word}{k most:Nat}{found begun:List Rows}(hk:0<k)(h:SI ws k most found begun):found.length<=most*fac most^k:=by
 have h1:=nodup_le (l2:=(aT most).flatMap fun i=>(tables (i+1) k).map fun u=>bY u (i+1)) (h.nodup hk) (fun M hM=>by
  obtain⟨u,n,S,rfl⟩:=h.fnd M hM
  have n1:=S.n1
  refine fk.mpr ⟨n-1,bt.mpr (by have:=S.le;omega),?_⟩
  rw[show n-1+1=n by omega]
  exact bc.mpr ⟨u,(pd n k u).mpr S.tb,rfl⟩)
 refine cZ h1 ?_
 have key:∀m,m<=most->((aT m).flatMap fun i=>(tables (i+1) k).map fun u=>bY u (i+1)).length<=m*fac most^k:=by
  intro m
  induction m with
  |zero=>intro _;simp
  |succ m ih=>
   intro hm
   rw[f9,xK,cx]
   have h2:=ih (by omega)
   simp only[rH,List.flatMap_nil,fV,aP]
   rw[tables_len,rP]
   have h3:fac (m+1)^k<=fac most^k:=Nat.pow_le_pow_left (fac_mono hm) k
   omega
 exact key most (aI _)
end Gw
namespace Gw
open PySem PyProof.Rows PySem.SeqAt
open AutoSeq1 (wpAny_loadPart')
open MeetsSeq MeetsSeq2 MeetsSeq3
inductive Nums:List af->List Int->Prop
 |nil:Nums [] []
 |cons {a:Int} {t:Tok} {ps:List af} {xs:List Int}:Nums ps xs->Nums (.int a t :: ps) (a :: xs)
def ltI:List Int->List Int->Bool
 |[],[]=>false
 |[],_ :: _=>true
 |_ :: _,[]=>false
 |x :: xs,y :: ys=>if x=y then ltI xs ys else decide (x<y)
theorem lt_loop(l b:aa)(items gQ:Array af)(n n2:Nat)(dd dd2:Option aa)(sl sl2:Array (Option af)):∀(ps qs:List af) (xs ys:List Int) (i:Nat),items.toList.drop i=ps->gQ.toList.drop i=qs->items.size=i+ps.length->gQ.size=i+qs.length -> Nums ps xs->Nums qs ys->Meets (iT.«list.__eq__.loop» ⟨[.ref l,.ref b,rawInt i,rawInt 0],[]⟩) (fun A R s=>s.heap.get? l=some {cls:=.type "list",dict:=dd,data:=.seq items n,slots:=sl}/\s.heap.get? b=some {cls:=.type "list",dict:=dd2,data:=.seq gQ n2,slots:=sl2} /\ R (.ok (.ret (.bool (ltI xs ys)))) s):=by
 intro ps
 induction ps with
 |nil=>
  intro qs xs ys i e1 e2 z1 z2 k1 k2 prog w A R s h
  obtain⟨hp,g,d,tk,os⟩:=s;obtain⟨hl,hb,h⟩:=h
  wp_walk using wpAny_loadPart' hl,wpAny_loadPart' hb
  have hi1:items[((i:Nat):Int).toNat]?=none:=by simp at z1 ⊢;omega
  rw[hi1]
  have c:ltI xs ys=decide (items.size<gQ.size):=by
   cases k1
   cases k2 with
   |nil=>simp at z1 z2;simp[ltI];omega
   |cons k=>simp at z1 z2;simp[ltI];omega
  rw[c]at h
  wp_walk using wpAny_loadPart' hl,wpAny_loadPart' hb
  exact h
 |cons v ps ih=>
  intro qs xs ys i e1 e2 z1 z2 k1 k2 prog w A R s h
  obtain⟨hp,g,d,tk,os⟩:=s;obtain⟨hl,hb,h⟩:=h
  have hi1:items[((i:Nat):Int).toNat]?=some v:=by
   have e:=congrArg List.head? e1
   rw[rM]at e
   simpa using e
  cases k2 with
  |nil=>
   have hi2:gQ[((i:Nat):Int).toNat]?=none:=by simp at z2 ⊢;omega
   cases k1 with
   | @cons a t _ xs k1=>
    have c:ltI (a ::xs) []=decide (items.size<gQ.size):=by simp at z1 z2;simp[ltI];omega
    rw[c]at h
    wp_walk using wpAny_loadPart' hl,wpAny_loadPart' hb
    rw[hi1,hi2]
    wp_walk using wpAny_loadPart' hl,wpAny_loadPart' hb
    exact h
  | @cons c u qs ys k2=>
   have hi2:gQ[((i:Nat):Int).toNat]?=some (.int c u):=by
    have e:=congrArg List.head? e2
    rw[rM]at e
    simpa using e
   cases k1 with
   | @cons a t ps xs k1=>
    wp_walk using wpAny_loadPart' hl,wpAny_loadPart' hb
    rw[hi1,hi2]
    refine aq (EqAt.int_int a t c u prog w _ _ ?_)
    have hc:((i:Int)+1)=((i+1:Nat):Int):=by push_cast;rfl
    by_cases ac:a=c
    ·have e:(a==c)=true:=by simpa using ac
     rw[ltI,if_pos ac]at h
     rw[e]
     wp_walk
     rw[hc]
     refine⟨lO plain_eq_loop _,js entry_eq_loop ?_⟩
     rw[oJ plain_eq_loop _]
     exact ih qs xs ys (i+1) (by rw[<-rN,e1];rfl) (by rw[<-rN,e2];rfl) (by simp at z1;omega) (by simp at z2;omega) k1 k2 prog w A R _ ⟨hl,hb,h⟩
    ·have e:(a==c)=false:=by simpa using ac
     rw[ltI,if_neg ac]at h
     rw[e]
     wp_walk using wpAny_loadPart' hl,wpAny_loadPart' hb
     rw[hi1,hi2]
     exact aq (show wpAny (model prog w) _ (richCompare .Lt (.int a t) (.int c u)) _ _ _ from P.lt_int (aX h))
theorem list_lt(l b:aa)(items gQ:Array af)(n n2:Nat)(dd dd2:Option aa)(sl sl2:Array (Option af)){xs ys:List Int}(k1:Nums items.toList xs)(k2:Nums gQ.toList ys) :Meets (iT.«list.__lt__» ⟨[.ref l,.ref b],[]⟩) (fun A R s=>s.heap.get? l=some {cls:=.type "list",dict:=dd,data:=.seq items n,slots:=sl}/\s.heap.get? b=some {cls:=.type "list",dict:=dd2,data:=.seq gQ n2,slots:=sl2} /\ R (.ok (.ret (.bool (ltI xs ys)))) s):=by
 intro prog w A R s h
 obtain⟨hp,g,d,tk,os⟩:=s;obtain⟨hl,hb,h⟩:=h
 have f3:=AutoSeq1.sub_list_list
 wp_walk using wpAny_loadPart' hl,wpAny_loadPart' hb
 refine⟨lO plain_eq_loop _,js entry_eq_loop ?_⟩
 rw[oJ plain_eq_loop _]
 exact lt_loop l b items gQ n n2 dd dd2 sl sl2 _ _ xs ys 0 rfl rfl (by simp) (by simp) k1 k2 prog w A R _ ⟨hl,hb,h⟩
section
variable{prog:aU}{w:aM}{A:bD}{E:af->ah->Prop}{s:ah}
def NumsAt(h:aA)(v:af)(xs:List Int):Prop:=∃(a:aa) (items:Array af),v=.ref a/\h.IsList a items/\Nums items.toList xs
end
end Gw
namespace Gw
open Sa54
theorem steps_succ(k:Nat):steps (k+1)=steps k++[(k,false),(k,true)]:=by
 unfold steps
 rw[f9,xK]
 rfl
theorem steps_map:∀k,steps k=(aT (2*k)).map fe
 | 0=>rfl
 |k+1=>by
  rw[steps_succ,steps_map k,show 2*(k+1)=2*k+1+1 by omega,f9,f9,dD,dD,jw]
  have e1:fe (2*k)=(k,false):=by unfold fe;rw[show 2*k/2=k by omega,show 2*k%2=0 by omega];rfl
  have e2:fe (2*k+1)=(k,true):=by unfold fe;rw[show(2*k+1)/2=k by omega,show(2*k+1)%2=1 by omega];rfl
  simp[e1,e2]
theorem fold_scan(u:Table)(k p0 i:Nat)(hk:0<k)(hi:i<(aJ u k p0 (2*k*i)).length):∀j,j<=2*k ->
  ((aT j).map fe).foldl (fun l s=>let q:=moveBy u s ((aJ u k p0 (2*k*i)).getD i 0);if l.contains q=true then l else l++[q]) (aJ u k p0 (2*k*i))=aJ u k p0 (2*k*i+j)
 | 0,_=>rfl
 |j+1,hj=>by
  rw[f9,dD,n8,fold_scan u k p0 i hk hi j (by omega)]
  obtain⟨e1,e2⟩:=fT (k:=k) (p:=i) (j:=j) (by omega)
  obtain⟨t,et⟩:=scan_pre u k p0 (2*k*i) j
  have eg:(aJ u k p0 (2*k*i+j)).getD i 0=(aJ u k p0 (2*k*i)).getD i 0:=by rw[et];exact getD_app hi
  show(if (aJ u k p0 (2*k*i+j)).contains (cell u j ((aJ u k p0 (2*k*i)).getD i 0))=true then _ else _)=aJ u k p0 (2*k*i+j+1)
  simp only[aJ]
  rw[e1,e2,eg,List.contains_eq_mem]
  simp only[decide_eq_true_eq]
  rfl
theorem met_run{u:Table}{k n p0 m:Nat}{L:List Nat}(ht:isTable k n u=true)(hk:0<k)(M:Met u k n p0 m L):∀f i,i<=m->m<=i+f->metFrom u f (aJ u k p0 (2*k*i)) i=L
 | 0,i,h1,h2=>by
  have:i=m:=by omega
  subst this
  exact M.scan.symm
 |f+1,i,h1,h2=>by
  rw[metFrom]
  by_cases e:i=m
  ·subst e
   rw[<-M.scan,d3 (by rw[M.len];omega)]
  ·have hi:=M.on i (by omega)
   have eg:(aJ u k p0 (2*k*i))[i]?=some ((aJ u k p0 (2*k*i)).getD i 0):=by
    rw[bT,aH hi];rfl
   rw[eg,(ib ht).1,steps_map]
   show metFrom u f (nV _ _ _) (i+1)=L
   rw[fold_scan u k p0 i hk hi (2*k) (aI _)]
   have e2:2*k*i+2*k=2*k*(i+1):=by rw[rV,rW]
   rw[e2]
   exact met_run ht hk M f (i+1) (by omega) (by omega)
theorem met_is{u:Table}{k n p0 m:Nat}{L:List Nat}(ht:isTable k n u=true)(hk:0<k)(M:Met u k n p0 m L):met u n p0=L:=
 met_run ht hk M n 0 (de _) (by have:=M.mn;omega)
theorem scan_ord{u:Table}{k n:Nat}(ho:Ord (cvT u k) k (2*k*n)):∀c,c<=2*k*n->aJ u k 0 c=aT (mx (cvT u k) c)
 | 0,_=>rfl
 |c+1,h=>by
  have ih:=scan_ord ho c (by omega)
  obtain⟨h1,q,h2,h3⟩:=ho c (by omega)
  have hk:0<2*k:=by
   rcases Nat.eq_zero_or_pos (2*k)with z|z
   ·rw[z,Nat.zero_mul]at h1;omega
   ·exact z
  have hd:c/(2*k)<mx (cvT u k) c:=kO h1
  have eg:(aT (mx (cvT u k) c)).getD (c/(2*k)) 0=c/(2*k):=by
   rw[bT,fI hd];rfl
  have eq:cell u (c%(2*k)) (c/(2*k))=q:=cC h2
  simp only[aJ,mx]
  rw[ih,eg,eq,h2]
  dsimp only
  by_cases z:q<mx (cvT u k) c
  ·rw[if_pos (bt.mpr z),Nat.max_eq_left (by omega)]
  ·rw[if_neg (fun e=>z (bt.mp e)),show q=mx (cvT u k) c by omega,Nat.max_eq_right (by omega),f9]
theorem range_idx{n a:Nat}(h:a<n):(aT n).idxOf a=a:=by
 have e:=iP (L:=aT n) jx (a:=a) (by simpa using h)
 rwa[bT,fI h]at e
theorem range_get{n a:Nat}(h:a<n):(aT n).getD a 0=a:=by rw[bT,fI h];rfl
theorem ordered_iff{u:Table}{k n:Nat}(ht:isTable k n u=true)(hk:0<k)(hn:1<=n):(whole u n&&inOrder u n)=true↔InOrd u k n:=by
 obtain⟨m,L,M⟩:=met_ex ht hk (p0:=0) hn
 have e:=met_is ht hk M
 have hw:(whole u n&&inOrder u n)=true↔L=aT n:=by
  unfold whole inOrder
  rw[e]
  simp only[gh,beq_iff_eq]
  exact⟨fun h=>h.2,fun h=>⟨by rw[h];simp,h⟩⟩
 rw[hw]
 constructor
 ·intro h
  have hm:m=n:=by rw[<-M.len,h];simp
  subst hm
  subst h
  have ho:=reT_ord ht hk M
  have eu:cP u k m (aT m)=u:=by
   refine nk (ic ht M.toCl) ht fun i p hi hp=>?_
   rw[lD ht M.toCl (by omega) hp,range_get hp,range_idx (jn ht (by omega) hp)]
  rwa[eu]at ho
 ·intro ho
  have hm:m=n:=by
   rcases gA m n with z|z
   ·exfalso
    have h1:=(ho.1 (2*k*m) (vB z (by omega))).1
    have h2:=congrArg xt (scan_ord ho.1 (2*k*m) (hJ _ (gH z)))
    rw[<-M.scan,M.len,fH]at h2
    rw[<-h2]at h1
    omega
   ·have:=M.mn;omega
  subst hm
  rw[M.scan,scan_ord ho.1 _ (aI _),ho.2]
theorem wO{x:Nat}:∀{r y:List Nat},x∉r->y∈insertAll x r->y.erase x=r:=by
 intro r y hx hy
 obtain⟨a,b,rfl,rfl⟩:=(oW x r y).mp hy
 have ha:x∉a:=fun h=>hx (dZ _ h)
 rw[List.erase_append_right _ ha,List.erase_cons_head]
theorem wQ{x:Nat}:∀{r:List Nat},x∉r->(insertAll x r).Nodup
 |[],_=>by simp[insertAll]
 |y :: r,h=>by
  have hy:x≠y:=fun e=>h (by simp[e])
  rw[insertAll,eD]
  refine⟨fun m=>?_,?_⟩
  ·obtain⟨l,_,e⟩:=bc.mp m
   exact hy (iA e).1.symm
  ·exact gZ.mpr ((wQ fun m=>h (.tail _ m)).imp fun ba e=>ba (iA e).2)
theorem orders_nodup:∀{r:List Nat},r.Nodup->(orders r).Nodup
 |[],_=>by simp[orders]
 |x :: r,h=>by
  obtain⟨hx,hr⟩:=eD.mp h
  have out:∀l∈orders r,x∉l:=fun l hl m=>hx (((m6 r l).mp hl).mem_iff.mp m)
  refine n9.mpr ⟨fun l hl=>wQ (out l hl),?_⟩
  refine(jB (fun{a b} ha hb ba y hy z hz e=>?_) (orders_nodup hr))
  subst e
  exact ba ((wO (out a ha) hy).symm.trans (wO (out b hb) hz))
theorem qH(n:Nat):∀k,(tables n k).Nodup
 | 0=>by simp[tables]
 |k+1=>by
  refine n9.mpr ⟨fun r _=>gZ.mpr ((qH n k).imp fun ba e=>ba (iA e).2),?_⟩
  refine(orders_nodup jx).imp fun ba y hy z hz e=>?_
  obtain⟨_,_,rfl⟩:=bc.mp hy
  obtain⟨_,_,rfl⟩:=bc.mp hz
  exact ba (iA e).1
theorem ltI_cons(x y:Int)(xs ys:List Int):ltI (x ::xs) (y ::ys)=if x=y then ltI xs ys else decide (x<y):=rfl
theorem ltI_anti:∀{x y:List Int},ltI x y=false->ltI y x=false->x=y
 |[],[],_,_=>rfl
 |[],_ :: _,h,_=>by cases h
 |_ :: _,[],_,h=>by cases h
 |x :: xs,y :: ys,h1,h2=>by
  rw[ltI_cons]at h1 h2
  by_cases e:x=y
  ·subst e
   rw[if_pos rfl]at h1 h2
   rw[ltI_anti h1 h2]
  ·rw[if_neg e,decide_eq_false_iff_not]at h1
   rw[if_neg (hW e),decide_eq_false_iff_not]at h2
   omega
theorem ltI_asym:∀{x y:List Int},ltI x y=true->ltI y x=false
 |[],[],h=>by cases h
 |[],_ :: _,_=>rfl
 |_ :: _,[],h=>by cases h
 |x :: xs,y :: ys,h=>by
  rw[ltI_cons]at h ⊢
  by_cases e:x=y
  ·subst e
   rw[if_pos rfl]at h ⊢
   exact ltI_asym h
  ·rw[if_neg e,decide_eq_true_eq]at h
   rw[if_neg (hW e),decide_eq_false_iff_not]
   omega
theorem ltI_trans:∀{x y z:List Int},ltI y x=false->ltI z y=false->ltI z x=false
 |[],_,[],_,_=>rfl
 |_ :: _,[],[],h,_=>by cases h
 |_ :: _,_ :: _,[],_,h=>by cases h
 |[],_,_ :: _,_,_=>rfl
 |x :: xs,[],z :: zs,h,_=>by cases h
 |x :: xs,y :: ys,z :: zs,h1,h2=>by
  rw[ltI_cons]at h1 h2 ⊢
  by_cases e1:y=x
  ·subst e1
   rw[if_pos rfl]at h1
   by_cases e2:z=y
   ·subst e2
    rw[if_pos rfl]at h2 ⊢
    exact ltI_trans h1 h2
   ·rw[if_neg e2]at h2 ⊢
    exact h2
  ·rw[if_neg e1,decide_eq_false_iff_not]at h1
   by_cases e2:z=y
   ·subst e2
    rw[if_neg e1,decide_eq_false_iff_not];exact h1
   ·rw[if_neg e2,decide_eq_false_iff_not]at h2
    rw[if_neg (by omega),decide_eq_false_iff_not];omega
def fv(l:List Nat):List Int:=l.map Int.ofNat
theorem before_is:∀{x y:List Nat},x.length=y.length->before x y=ltI (fv x) (fv y)
 |[],[],_=>rfl
 |[],_ :: _,h=>by cases h
 |_ :: _,[],h=>by cases h
 |x :: xs,y :: ys,h=>by
  rw[before,before_is (by simpa using h)]
  show _=ltI ((x:Int) ::fv xs) ((y:Int) ::fv ys)
  rw[ltI_cons]
  by_cases e:x=y
  ·subst e;simp
  ·rw[if_neg (by omega)]
   have:(x==y)=false:=by simpa using e
   rw[this,yg,Bool.or_false]
   rw[i4,decide_eq_true_eq,decide_eq_true_eq];omega
theorem flat_len{k n:Nat}{u:Table}(h:isTable k n u=true):u.flatten.length=k*n:=by
 obtain⟨h1,h2⟩:=ib h
 subst h1
 have:∀v:Table,(∀r∈v,r.length=n)->v.flatten.length=v.length*n:=by
  intro v hv
  induction v with
  |nil=>simp
  |cons r v ih=>rw[jv,cx,hv r (.head _),ih fun r hr=>hv r (.tail _ hr),cI,ou,pW,vx]
 exact this u fun r hr=>(h2 r hr).1
theorem nI{k n:Nat}{u:Table}(h:isTable k n u=true):bz (bY u n) k=u:=by
 obtain⟨h1,h2⟩:=ib h
 refine iV fun i=>?_
 unfold bz
 rw[bH]
 by_cases hi:i<k
 ·have hu:i<u.length:=by omega
  rw[fI hi,i6,bT,(fullM_at n u i u[i] (aH hu)).1,aH hu]
  simp[fG,Function.comp_def]
 ·rw[d3 (by simpa using hi),d3 (by omega)];rfl
def ofN(n:Nat)(Fs:List Rows):List Rows:=Fs.filter fun M=>decide (pl M=n)
def nums(t:Table):List Int:=fv t.flatten
theorem pf{ts:List Word}{k n m:Nat}{found:List Rows}(hk:0<k)(h:SI ts k n found []) :((ofN m found).map fun M=>bz M k).Nodup/\∀t,t∈((ofN m found).map fun M=>bz M k)↔Sol ts k n t m:=by
 have full:∀{u q},Sol ts k n u q->pl (bY u q)=q/\bz (bY u q) k=u:=fun{u q} S=>⟨(gE S.tb).pl hk,nI S.tb⟩
 refine⟨?_,fun t=>?_⟩
 ·refine gZ.mpr (jB (fun{a b} ha hb ba e=>ba ?_) (oG _ (h.nodup hk)))
  obtain⟨ha1,ha2⟩:=f7.mp ha
  obtain⟨hb1,hb2⟩:=f7.mp hb
  obtain⟨u,q,S,rfl⟩:=h.fnd a ha1
  obtain⟨v,q',S',rfl⟩:=h.fnd b hb1
  rw[(full S).2,(full S').2]at e
  have e1:pl (bY u q)=m:=by simpa using ha2
  have e2:pl (bY v q')=m:=by simpa using hb2
  rw[(full S).1]at e1
  rw[(full S').1]at e2
  rw[e,e1,e2]
 ·rw[bc]
  constructor
  ·rintro⟨M,hM,rfl⟩
   obtain⟨h1,h2⟩:=f7.mp hM
   obtain⟨u,q,S,rfl⟩:=h.fnd M h1
   have e1:pl (bY u q)=m:=by simpa using h2
   rw[(full S).1]at e1
   subst e1
   rw[(full S).2]
   exact S
  ·intro S
   exact⟨bY t m,f7.mpr ⟨h.all hk S,by simpa using (full S).1⟩,(full S).2⟩
section
variable{g:Group}{n:Nat}{ts:List Word}(hk:0<g.letters.length)(hn:1<=n)(cH:∀u m,isTable g.letters.length m u=true->m<=n->ts.all (still u m)=g.nothing.all (still u m))
include hk hn cH in
theorem mem_due(t:Table):t∈((tables n g.letters.length).filter fun t=>groups g n t&&(whole t n&&inOrder t n))↔Sol ts g.letters.length n t n:=by
 rw[f7,pd]
 constructor
 ·rintro⟨h1,h2⟩
  rw[gh]at h2
  exact⟨h1,hn,aI _,(ordered_iff h1 hk hn).mp h2.2,by rw[cH t n h1 (aI _)];exact h2.1⟩
 ·intro S
  refine⟨S.tb,?_⟩
  rw[gh]
  exact⟨by have:=S.st;rwa[cH t n S.tb (aI _)]at this,(ordered_iff S.tb hk hn).mpr S.ord⟩
include hk hn cH in
theorem mem_all(t:Table):t∈all g n↔Sol ts g.letters.length n t n:=by
 rw[<-mem_due hk hn cH t]
 exact(vh _ _).mem_iff
include hk hn cH in
theorem found_perm{found:List Rows}(h:SI ts g.letters.length n found []):((ofN n found).map fun M=>bz M g.letters.length).Perm (all g n):=by
 refine List.Perm.trans ?_ (vh _ _).symm
 obtain⟨h1,h2⟩:=pf (m:=n) hk h
 exact(pS h1 (oG _ (qH n _))).mpr fun t=>by rw[h2,mem_due hk hn cH]
include hk hn cH in
end
end Gw
namespace Gw
open PySem
def s5:Nat->Nat
 | 0=>0
 |d+1=>5*s5 d+1
theorem s5_add(a:Nat):∀b,s5 (a+b)=5^b*s5 a+s5 b
 | 0=>by simp[s5]
 |b+1=>by
  show 5*s5 (a+b)+1=5^(b+1)*s5 a+(5*s5 b+1)
  rw[s5_add a b,gz,rV,gI (5^b) 5,oq]
  omega
theorem pow5_mod(d:Nat):5^d%4=1:=by
 induction d with
 |zero=>rfl
 |succ d ih=>rw[gz,vD,ih]
theorem s5_par:∀d,s5 d%2=d%2
 | 0=>rfl
 |d+1=>by
  have:=s5_par d
  show(5*s5 d+1)%2=_
  omega
theorem s5_two{b:Nat}:∀{d:Nat},2^b∣s5 d->2^b∣d:=by
 induction b with
 |zero=>intro d _;exact Nat.one_dvd d
 |succ b ih=>
  intro d h
  have h2:2∣s5 d:=Nat.dvd_trans (by rw[gz];exact Nat.dvd_mul_left 2 (2^b)) h
  have e:d%2=0:=by rw[<-s5_par];exact Nat.mod_eq_zero_of_dvd h2
  obtain⟨c,rfl⟩:∃c,d=c+c:=⟨d/2,by omega⟩
  obtain⟨r,hr⟩:∃r,5^c+1=2*(2*r+1):=⟨5^c/4,by have:=pow5_mod c;omega⟩
  have e2:s5 (c+c)=2*((2*r+1)*s5 c):=by
   rw[s5_add]
   have:5^c*s5 c+s5 c=(5^c+1)*s5 c:=by rw[ou,pW]
   rw[this,hr,oq]
  rw[e2,gz,gI (2^b) 2]at h
  have h3:=Nat.dvd_of_mul_dvd_mul_left (by decide:0<2) h
  have cop:Nat.Coprime (2^b) (2*r+1):=by
   refine zk b ?_
   show Nat.gcd 2 (2*r+1)=1
   rw[Nat.gcd_rec,show(2*r+1)%2=1 by omega]
   rfl
  have h4:=ih (cop.dvd_of_dvd_mul_left h3)
  rw[gz,show c+c=c*2 by omega]
  exact Nat.mul_dvd_mul_right h4 2
theorem orbit5{b i d:Nat}(h:(5^d*i+s5 d)%2^b=i%2^b):2^b∣d:=by
 have key:∀d,5^d=4*s5 d+1:=fun d=>by
  induction d with
  |zero=>rfl
  |succ d ih=>rw[gz,ih];show _=4*(5*s5 d+1)+1;omega
 have e:5^d*i+s5 d=i+s5 d*(4*i+1):=by
  rw[key,ou,pW,rV,rW,<-oq,gI (s5 d) 4]
  omega
 rw[e]at h
 have h1:2^b∣s5 d*(4*i+1):=by
  have:=Nat.sub_mod_eq_zero_of_mod_eq h
  rw[Nat.add_sub_cancel_left]at this
  exact Nat.dvd_of_mod_eq_zero this
 have cop:Nat.Coprime (2^b) (4*i+1):=by
  refine zk b ?_
  show Nat.gcd 2 (4*i+1)=1
  rw[Nat.gcd_rec,show(4*i+1)%2=1 by omega]
  rfl
 exact s5_two (cop.dvd_of_dvd_mul_right h1)
def lp(mask:Nat)(h:Int):Nat->Nat×Nat
 | 0=>(kS h%(mask+1),kS h)
 |q+1=>iz mask (lp mask h q).1 (lp mask h q).2
theorem lp_le(mask:Nat)(h:Int)(q:Nat):(lp mask h q).1<=mask:=by
 cases q with
 |zero=>exact vE (gK _ (vF _))
 |succ q=>exact vE (gK _ (vF _))
theorem lp_pt(mask:Nat)(h:Int):∀q,(lp mask h q).2=kS h/32^q
 | 0=>by simp[lp]
 |q+1=>by
  show(lp mask h q).2/32=_
  rw[lp_pt mask h q,Nat.div_div_eq_div_mul,gz]
theorem lp_zero(mask:Nat)(h:Int){q:Nat}(hq:13<=q):(lp mask h q).2=0:=by
 rw[lp_pt]
 refine xY (du (m:=32^13) ?_ (rS (by decide) hq))
 unfold kS
 have h1:=sk h (show(0:Int)<2^64 by decide)
 have h2:=p8 h (show(2^64:Int)≠0 by decide)
 have:(h%(2^64:Int)).toNat<2^64:=by omega
 exact pU this (by decide)
theorem lp_go(mask:Nat)(h:Int){q:Nat}(hq:13<=q):∀d,(lp mask h (q+d)).1=(5^d*(lp mask h q).1+s5 d)%(mask+1)
 | 0=>by
  rw[rR]
  show _=(1*_+0)%_
  rw[pW,rR,vA (x5 (lp_le mask h q))]
 |d+1=>by
  show((lp mask h (q+d)).1*5+1+(lp mask h (q+d)).2/32)%(mask+1)=_
  rw[lp_zero mask h (show 13<=q+d by omega),lp_go mask h hq d,Nat.zero_div,rR]
  show _=(5^(d+1)*_+(5*s5 d+1))%_
  have e:5^(d+1)*(lp mask h q).1+(5*s5 d+1)=(5^d*(lp mask h q).1+s5 d)*5+1:=by
   rw[gz,ou,Nat.mul_right_comm]
   omega
  rw[e,Nat.add_mod,vD,Nat.mod_mod,<-vD,<-Nat.add_mod]
theorem lp_ne{b:Nat}{mask:Nat}(hm:mask+1=2^b)(h:Int){q d:Nat}(hq:13<=q)(h1:0<d)(h2:d<mask+1):(lp mask h (q+d)).1≠(lp mask h q).1:=fun e=>by
 rw[lp_go mask h hq d,hm]at e
 have e2:(5^d*(lp mask h q).1+s5 d)%2^b=(lp mask h q).1%2^b:=by
  rw[e,vA (by rw[<-hm];exact x5 (lp_le mask h q))]
 have:=Nat.le_of_dvd h1 (orbit5 e2)
 omega
theorem lp_free{b mask:Nat}(hm:mask+1=2^b)(h:Int){occ:List Nat}(ho:occ.length<=mask):∃q,q<=13+occ.length/\(lp mask h q).1∉occ:=by
 refine fX fun no=>?_
 have al:∀q,q<=13+occ.length->(lp mask h q).1∈occ:=fun q hq=>fX fun z=>no ⟨q,hq,z⟩
 have nd:((aT (occ.length+1)).map fun d=>(lp mask h (13+d)).1).Nodup:=by
  refine gZ.mpr (jB (fun{a b'} ha hb aR e=>?_) (vd (n:=occ.length+1)))
  have hb:=bt.mp hb
  refine lp_ne hm h (q:=13+a) (d:=b'-a) (by omega) (by omega) (by omega) ?_
  rw[show 13+a+(b'-a)=13+b' by omega]
  exact e.symm
 have:=nodup_le nd (l2:=occ) fun x hx=>by
  obtain⟨d,hd,rfl⟩:=bc.mp hx
  exact al _ (by have:=bt.mp hd;omega)
 rw[aP,fH]at this
 omega
def adv(mask:Nat)(p:l6):l6:=
 if p.more > 0 then{p with j:=p.j+1,more:=p.more-1} else
 {p with j:=(iz mask p.i p.perturb).1,more:=dS mask (iz mask p.i p.perturb).1-(iz mask p.i p.perturb).1,i:=(iz mask p.i p.perturb).1,perturb:=(iz mask p.i p.perturb).2}
theorem adv_is(t:iU)(p:l6):t.advance p=adv t.mask p:=rfl
def lst(mask:Nat)(x:Nat×Nat):l6:={j:=x.1,more:=dS mask x.1-x.1,i:=x.1,perturb:=x.2,dummy:=none}
def way(mask:Nat)(h:Int):Nat->l6
 | 0=>lst mask (lp mask h 0)
 |d+1=>adv mask (way mask h d)
theorem way_run(mask:Nat)(h:Int){d:Nat}{x:Nat×Nat}(e:way mask h d=lst mask x):∀k,k<=dS mask x.1-x.1 ->
  way mask h (d+k) = {j:=x.1+k,more:=dS mask x.1-x.1-k,i:=x.1,perturb:=x.2,dummy:=none}
 | 0,_=>e
 |k+1,hk=>by
  show adv mask (way mask h (d+k))=_
  rw[way_run mask h e k (by omega)]
  unfold adv
  rw[if_pos (by show dS mask x.1-x.1-k > 0;omega)]
  rfl
theorem way_leap(mask:Nat)(h:Int){d:Nat}{x:Nat×Nat}(e:way mask h d=lst mask x):way mask h (d+(dS mask x.1-x.1+1))=lst mask (iz mask x.1 x.2):=by
 show adv mask (way mask h (d+(dS mask x.1-x.1)))=_
 rw[way_run mask h e _ (aI _)]
 unfold adv
 rw[if_neg (by show ¬dS mask x.1-x.1-(dS mask x.1-x.1) > 0;omega)]
 rfl
theorem run_nine(mask i:Nat):dS mask i-i<=9:=by unfold dS;split<;>omega
theorem way_at(mask:Nat)(h:Int):∀q,∃d,d<=10*q/\way mask h d=lst mask (lp mask h q)
 | 0=>⟨0,aI _,rfl⟩
 |q+1=>by
  obtain⟨d,h1,h2⟩:=way_at mask h q
  exact⟨_,by have:=run_nine mask (lp mask h q).1;omega,way_leap mask h h2⟩
theorem least_of{P:Nat->Prop}{n:Nat}(h:P n):∃d,d<=n/\P d/\∀e,e<d->¬P e:=by
 induction n using Nat.strongRecOn with
 |ind n ih=>
  by_cases z:∃m,m<n/\P m
  ·obtain⟨m,h1,h2⟩:=z
   obtain⟨d,g1,g2,g3⟩:=ih m h1 h2
   exact⟨d,by omega,g2,g3⟩
  ·exact⟨n,aI _,h,fun e he pe=>z ⟨e,he,pe⟩⟩
theorem way_free{b mask:Nat}(hm:mask+1=2^b)(h:Int){occ:List Nat}(ho:occ.length<=mask):∃d,d<=10*(13+occ.length)/\(way mask h d).j∉occ/\∀e,e<d->(way mask h e).j∈occ:=by
 obtain⟨q,h1,h2⟩:=lp_free hm h ho
 obtain⟨d,h3,h4⟩:=way_at mask h q
 obtain⟨c,g1,g2,g3⟩:=least_of (P:=fun d=>(way mask h d).j∉occ) (n:=d) (by rw[h4];exact h2)
 exact⟨c,by have:=hJ 10 h1;omega,g2,fun e he=>fX (g3 e he)⟩
section
variable{xs:Array Nat}{j:Nat}(up:∀a b,a<b->b<xs.size->xs.getD a 0<xs.getD b 0)
include up in
theorem below_go:∀(fuel lo hi:Nat),hi-lo<=fuel->lo<=hi->hi<=xs.size->(∀i,i<lo->xs.getD i 0<j)->(∀i,hi<=i->i<xs.size->j<=xs.getD i 0) ->
  sF xs j fuel lo hi<=xs.size/\(∀i,i<sF xs j fuel lo hi->xs.getD i 0<j)/\∀i,sF xs j fuel lo hi<=i->i<xs.size->j<=xs.getD i 0
 | 0,lo,hi,h1,h2,h3,h4,h5=>by
  have:lo=hi:=by omega
  subst this
  exact⟨h3,h4,h5⟩
 |fuel+1,lo,hi,h1,h2,h3,h4,h5=>by
  rw[sF]
  by_cases c:lo<hi
  ·rw[if_pos c]
   have hm:(lo+hi)/2<xs.size:=by omega
   have eg:xs.getD ((lo+hi)/2) j=xs.getD ((lo+hi)/2) 0:=by rw[su,su,dif_pos hm,dif_pos hm]
   dsimp only
   rw[eg]
   by_cases z:xs.getD ((lo+hi)/2) 0<j
   ·rw[if_pos z]
    refine below_go fuel _ hi (by omega) (by omega) h3 (fun i hi'=>?_) h5
    rcases gA i ((lo+hi)/2)with y|y
    ·exact pU (up i _ y hm) z
    ·rw[show i=(lo+hi)/2 by omega];exact z
   ·rw[if_neg z]
    refine below_go fuel lo _ (by omega) (by omega) (by omega) h4 fun i h6 h7=>?_
    rcases gA ((lo+hi)/2) i with y|y
    ·exact gH (iu (pV.mp z) (up _ i y h7))
    ·rw[show i=(lo+hi)/2 by omega];exact pV.mp z
  ·rw[if_neg c]
   have:lo=hi:=by omega
   subst this
   exact⟨h3,h4,h5⟩
include up in
theorem below_is:SetTable.below xs j<=xs.size/\(∀i,i<SetTable.below xs j->xs.getD i 0<j)/\∀i,SetTable.below xs j<=i->i<xs.size->j<=xs.getD i 0:=
 below_go up xs.size 0 xs.size (aI _) (de _) (aI _) (fun i h=>absurd h (vG _)) fun i h1 h2=>absurd h2 (by omega)
end
theorem insertAt_list{al:Type}(xs:Array al)(p:Nat)(x:al):(l7 xs p x).toList=xs.toList.take p++x ::xs.toList.drop p:=by
 unfold l7
 rw[Array.toList_append,Array.toList_push,yI,yI,jw]
 simp[List.extract]
 exact lU (by simp)
abbrev Ent:=Nat×Int×af
structure fA (t:iU) (Z:List Ent):Prop where
 pow:∃b,t.mask+1=2^b
 dm:t.dummies = #[]
 pl:t.place.toList=Z.map fun z=>z.1
 up:Z.Pairwise fun x y=>x.1<y.1
 le:∀z∈Z,z.1<=t.mask
 rc:∀z∈Z,∃d,(way t.mask z.2.1 d).j=z.1/\∀e,e<d->(way t.mask z.2.1 e).j∈Z.map fun z=>z.1
section
variable{t:iU}{Z:List Ent}(T:fA t Z)
include T in
theorem fA.size:t.place.size=Z.length:=by rw[<-i5,T.pl,aP]
include T in
theorem fA.get{i:Nat}{z:Ent}(h:Z[i]?=some z):t.place[i]?=some z.1:=by
 rw[<-qa,T.pl,bH,h]
 rfl
include T in
theorem fA.getD{i:Nat}(h:i<Z.length):t.place.getD i 0=Z[i].1:=by
 have:=T.get (aH h)
 rw[sv,this]
 rfl
include T in
theorem fA.rise:∀a b,a<b->b<t.place.size->t.place.getD a 0<t.place.getD b 0:=fun a b hab hb=>by
 rw[T.size]at hb
 rw[T.getD hb,T.getD (by omega)]
 exact List.pairwise_iff_getElem.mp T.up a b (by omega) hb hab
include T in
theorem fA.live{i:Nat}{z:Ent}(h:Z[i]?=some z):t.slot z.1=.live i:=by
 have hi:=(bj.mp h).1
 have ez:Z[i]=z:=(bj.mp h).2
 obtain⟨b1,b2,b3⟩:=below_is (j:=z.1) T.rise
 have e:SetTable.below t.place z.1=i:=by
  rcases pX (SetTable.below t.place z.1) i with c|c|c
  ·have:=b3 _ (aI _) (by rw[T.size];omega)
   have h2:=T.rise _ _ c (by rw[T.size];exact hi)
   rw[T.getD hi,ez]at h2
   omega
  ·exact c
  ·have:=b2 i c
   rw[T.getD hi,ez]at this
   omega
 unfold yl
 simp only
 rw[e,T.get h,if_pos (by simp)]
include T in
theorem fA.empty{j:Nat}(h:j∉Z.map fun z=>z.1):t.slot j=.empty:=by
 unfold yl
 simp only
 rw[if_neg,if_neg]
 ·unfold vL
  rw[T.dm]
  simp
 ·intro e
  have e:t.place[SetTable.below t.place j]?=some j:=by simpa using e
  rw[<-qa]at e
  exact h (by rw[<-T.pl];exact cW e)
include T in
theorem fA.put{j d:Nat}{h:Int}{x:af}(hj:j∉Z.map fun z=>z.1)(hle:j<=t.mask)(e1:(way t.mask h d).j=j)(e2:∀e,e<d->(way t.mask h e).j∈Z.map fun z=>z.1):∃Z',fA (t.put j).1 Z'/\(t.put j).1.mask=t.mask/\(t.put j).1.place.size=Z.length+1/\Z'.Perm ((j,h,x) ::Z) /\ ∀es:Array (Int×af),es.toList=Z.map (fun z=>z.2)->(l7 es (t.put j).2 (h,x)).toList=Z'.map fun z=>z.2:=by
 obtain⟨b1,b2,b3⟩:=below_is (j:=j) T.rise
 rw[T.size]at b1 b3
 have pm:(Z.take (SetTable.below t.place j)++(j,h,x) ::Z.drop (SetTable.below t.place j)).Perm ((j,h,x) ::Z):=by
  have z:Z=Z.take (SetTable.below t.place j)++Z.drop (SetTable.below t.place j):=(xM _ _).symm
  conv=>rhs;rw[z]
  exact rJ
 have hd:(t.put j).1.dummies = #[]:=by
  show(if vL t.dummies j then _ else t.dummies) = #[]
  rw[T.dm,if_neg (by unfold vL;simp)]
 have hp:(t.put j).1.place.toList=(Z.take (SetTable.below t.place j)++(j,h,x) ::Z.drop (SetTable.below t.place j)).map fun z=>z.1:=by
  show(l7 t.place (SetTable.below t.place j) j).toList=_
  rw[insertAt_list,T.pl,dD,dB,vi,vj]
 refine⟨Z.take (SetTable.below t.place j)++(j,h,x) ::Z.drop (SetTable.below t.place j),⟨T.pow,hd,hp,?_,fun z hz=>?_,fun z hz=>?_⟩,rfl,?_,pm,fun es he=>?_⟩
 ·have lo:∀z∈Z.take (SetTable.below t.place j),z.1<j:=fun z hz=>by
   obtain⟨i,hi,e⟩:=xN hz
   rw[gG]at hi
   have:=b2 i (by omega)
   rw[T.getD (by omega)]at this
   rw[List.getElem_take]at e
   rw[<-e];exact this
  have hi:∀z∈Z.drop (SetTable.below t.place j),j<z.1:=fun z hz=>by
   obtain⟨i,hi,e⟩:=xN hz
   rw[kI]at hi
   have:=b3 (SetTable.below t.place j+i) (by omega) (by omega)
   rw[T.getD (by omega)]at this
   rw[List.getElem_drop]at e
   rw[e]at this
   have ne:z.1≠j:=fun y=>hj (bc.mpr ⟨z,List.mem_of_mem_drop hz,y⟩)
   omega
  refine vg.mpr ⟨zH T.up,List.pairwise_cons.mpr ⟨fun z hz=>hi z hz,zI T.up⟩,fun a ha b hb=>?_⟩
  rcases aZ.mp hb with e|e
  ·rw[e];exact lo a ha
  ·exact pU (lo a ha) (hi b e)
 ·rcases aZ.mp (pm.mem_iff.mp hz)with e|e
  ·rw[e];exact hle
  ·exact T.le z e
 ·have mm:∀y,y∈(Z.map fun z=>z.1)->y∈((Z.take (SetTable.below t.place j)++(j,h,x) ::Z.drop (SetTable.below t.place j)).map fun z=>z.1):=fun y hy=>by
   obtain⟨z,hz,rfl⟩:=bc.mp hy
   exact bc.mpr ⟨z,pm.mem_iff.mpr (.tail _ hz),rfl⟩
  rcases aZ.mp (pm.mem_iff.mp hz)with e|e
  ·rw[e];exact⟨d,e1,fun c hc=>mm _ (e2 c hc)⟩
  ·obtain⟨c,c1,c2⟩:=T.rc z e
   exact⟨c,c1,fun c' hc=>mm _ (c2 c' hc)⟩
 ·rw[<-i5,hp,aP,pm.length_eq,cI]
 ·show(l7 es (SetTable.below t.place j) (h,x)).toList=_
  rw[insertAt_list,he,dD,dB,vi,vj]
include T in
theorem fA.probe{h:Int}{f:Nat->Int}(hf:∀i z,Z[i]?=some z->f i=z.2.1){d0:Nat}(g1:(way t.mask h d0).j∉Z.map fun z=>z.1)(g2:∀e,e<d0->(way t.mask h e).j∈Z.map fun z=>z.1):
  ∀(fuel d:Nat),d<=d0->d0-d<fuel ->
  (∃c i z,d<=c/\c<d0/\Z[i]?=some z/\z.1=(way t.mask h c).j/\z.2.1=h/\sG t f h fuel (way t.mask h d)=some (.candidate z.1 i (way t.mask h (c+1))) /\
   ∀e,d<=e->e<c->∀y∈Z,y.1=(way t.mask h e).j->y.2.1≠h) \/
  (sG t f h fuel (way t.mask h d)=some (.empty (way t.mask h d0).j (way t.mask h d0).dummy)/\∀e,d<=e->e<d0->∀y∈Z,y.1=(way t.mask h e).j->y.2.1≠h)
 | 0,d,h1,h2=>by omega
 |fuel+1,d,h1,h2=>by
  rw[sG]
  by_cases c:d=d0
  ·subst c
   right
   rw[T.empty g1]
   exact⟨rfl,fun e he hl=>by omega⟩
  ·obtain⟨z,hz,e⟩:=bc.mp (g2 d (by omega))
   obtain⟨i,hi⟩:=fm hz
   have uniq:∀y∈Z,y.1=(way t.mask h d).j->y=z:=fun y hy ey=>by
    obtain⟨i',hi'⟩:=fm hy
    have l1:=T.live hi
    have l2:=T.live hi'
    rw[ey,<-e,l1]at l2
    cases l2
    rw[hi]at hi'
    exact(cC hi').symm
   rw[<-e,T.live hi]
   dsimp only
   rw[hf i z hi]
   by_cases q:z.2.1=h
   ·left
    refine⟨d,i,z,aI _,by omega,hi,e,q,?_,fun e' h3 h4=>by omega⟩
    rw[if_pos (by simpa using q)]
    rfl
   ·rw[if_neg (by simpa using q)]
    rw[adv_is]
    show _\/(sG t f h fuel (way t.mask h (d+1))=_/\_)
    rcases fA.probe hf g1 g2 fuel (d+1) (by omega) (by omega)with⟨c',i',z',k1,k2,k3,k4,k5,k6,k7⟩|⟨k1,k2⟩
    ·left
     refine⟨c',i',z',by omega,k2,k3,k4,k5,k6,fun e' h3 h4 y hy ey=>?_⟩
     rcases gA d e' with r|r
     ·exact k7 e' r h4 y hy ey
     ·rw[show e'=d by omega]at ey
      rw[uniq y hy ey];exact q
    ·right
     refine⟨k1,fun e' h3 h4 y hy ey=>?_⟩
     rcases gA d e' with r|r
     ·exact k2 e' r h4 y hy ey
     ·rw[show e'=d by omega]at ey
      rw[uniq y hy ey];exact q
end
theorem way_dummy(mask:Nat)(h:Int):∀d,(way mask h d).dummy=none
 | 0=>rfl
 |d+1=>by
  show(adv mask (way mask h d)).dummy=none
  unfold adv
  split<;>exact way_dummy mask h d
theorem way_le{mask:Nat}(h:Int):∀d,(way mask h d).j+(way mask h d).more<=mask
 | 0=>by
  show(lp mask h 0).1+(dS mask (lp mask h 0).1-(lp mask h 0).1)<=mask
  have:=lp_le mask h 0
  unfold dS
  split<;>omega
 |d+1=>by
  have ih:=way_le (mask:=mask) h d
  show(adv mask (way mask h d)).j+(adv mask (way mask h d)).more<=mask
  unfold adv
  split
  ·show(way mask h d).j+1+((way mask h d).more-1)<=mask
   omega
  ·have:(iz mask (way mask h d).i (way mask h d).perturb).1<=mask:=vE (gK _ (vF _))
   show(iz mask (way mask h d).i (way mask h d).perturb).1+(dS mask (iz mask (way mask h d).i (way mask h d).perturb).1-(iz mask (way mask h d).i (way mask h d).perturb).1)<=mask
   unfold dS
   split<;>omega
structure Owned (mask:Nat) (ow:Array (Option Nat)) (S:List Nat) (P:List Int):Prop where
 len:S.length=P.length
 nd:S.Nodup
 le:∀j∈S,j<=mask
 size:ow.size=mask+1
 at_:∀j,j<=mask->ow.getD j none=if j∈S then some (S.idxOf j)else none
 rc:∀i h,P[i]?=some h->∃d,(way mask h d).j=S.getD i 0/\∀e,e<d->(way mask h e).j∈S
theorem getD_any{ow:Array (Option Nat)}{j:Nat}(h:j<ow.size)(a b:Option Nat):ow.getD j a=ow.getD j b:=by rw[su,su,dif_pos h,dif_pos h]
theorem Owned.free{mask:Nat}{ow:Array (Option Nat)}{S:List Nat}{P:List Int}(O:Owned mask ow S P){h:Int}{q:Nat}(hq:(lp mask h q).1∉S):
  ∀(fuel r d:Nat),r<=q->q-r<fuel->way mask h d=lst mask (lp mask h r)->(∀e,e<d->(way mask h e).j∈S) ->
   ∃c,sH mask ow fuel (lp mask h r).1 (lp mask h r).2=some (way mask h c).j/\(way mask h c).j∉S/\∀e,e<c->(way mask h e).j∈S
 | 0,r,d,h1,h2,_,_=>by omega
 |fuel+1,r,d,h1,h2,hd,hb=>by
  rw[sH]
  have le:=lp_le mask h r
  have hrun:dS mask (lp mask h r).1<=mask:=by unfold dS;split<;>omega
  have hge:(lp mask h r).1<=dS mask (lp mask h r).1:=by unfold dS;split<;>omega
  have at_:∀k,k<=dS mask (lp mask h r).1-(lp mask h r).1->(way mask h (d+k)).j=(lp mask h r).1+k:=fun k hk=>by rw[way_run mask h hd k hk]
  have none_:∀k,k<=dS mask (lp mask h r).1-(lp mask h r).1->((ow.getD ((lp mask h r).1+k) (some 0)).isNone=true↔(lp mask h r).1+k∉S):=fun k hk=>by
   rw[getD_any (by rw[O.size];omega) (some 0) none,O.at_ _ (by omega)]
   split
   ·rename_i z;simp[z]
   ·rename_i z;simp[z]
  cases hf:(aT (dS mask (lp mask h r).1+1-(lp mask h r).1)).find? fun k=>(ow.getD ((lp mask h r).1+k) (some 0)).isNone with
  |some k=>
   dsimp only
   obtain⟨f1,f2,f3⟩:=List.find?_range_eq_some.mp hf
   have hk:k<=dS mask (lp mask h r).1-(lp mask h r).1:=by have:=bt.mp f2;omega
   refine⟨d+k,by rw[at_ k hk],by rw[at_ k hk];exact(none_ k hk).mp f1,fun e he=>?_⟩
   rcases gA e d with y|y
   ·exact hb e y
   ·have z:=f3 (e-d) (by omega)
    have hk2:e-d<=dS mask (lp mask h r).1-(lp mask h r).1:=by omega
    have a:=at_ (e-d) hk2
    rw[show d+(e-d)=e by omega]at a
    rw[a]
    refine fX fun w=>?_
    rw[(none_ _ hk2).mpr w]at z
    simp at z
  |none=>
   dsimp only
   have al:=xD.mp hf
   have own:∀k,k<=dS mask (lp mask h r).1-(lp mask h r).1->(lp mask h r).1+k∈S:=fun k hk=>fX fun w=>
    al k (bt.mpr (by omega)) ((none_ k hk).mpr w)
   have ne:r≠q:=fun e=>hq (by rw[<-e];exact own 0 (de _))
   refine Owned.free O hq fuel (r+1) _ (by omega) (by omega) (way_leap mask h hd) fun e he=>?_
   rcases gA e d with y|y
   ·exact hb e y
   ·have hk2:e-d<=dS mask (lp mask h r).1-(lp mask h r).1:=by omega
    have a:=at_ (e-d) hk2
    rw[show d+(e-d)=e by omega]at a
    rw[a]
    exact own _ hk2
def layStep(mask:Nat)(acc:Option (Array (Option Nat)×Nat))(h:Int):Option (Array (Option Nat)×Nat):=do
 let (owner,k) <-acc
 let j <-sH mask owner (oA mask) (kS h%(mask+1)) (kS h)
 pure (owner.setIfInBounds j (some k),k+1)
theorem lay_fold{b mask:Nat}(hm:mask+1=2^b):∀(R P:List Int) (S:List Nat) (ow:Array (Option Nat)),Owned mask ow S P->P.length+R.length<=mask ->
  ∃S' ow',R.foldl (layStep mask) (some (ow,P.length))=some (ow',P.length+R.length)/\Owned mask ow' S' (P++R)
 |[],P,S,ow,O,_=>⟨S,ow,rfl,by rw[fV];exact O⟩
 |h :: R,P,S,ow,O,hl=>by
  rw[cI]at hl
  obtain⟨q,q1,q2⟩:=lp_free hm h (occ:=S) (by rw[O.len];omega)
  rw[O.len]at q1
  obtain⟨c,c1,c2,c3⟩:=O.free q2 (oA mask) 0 0 (de _) (by unfold oA;omega) rfl fun e he=>absurd he (vG _)
  have cl:(way mask h c).j<=mask:=by have:=way_le (mask:=mask) h c;omega
  have st:layStep mask (some (ow,P.length)) h=some (ow.setIfInBounds (way mask h c).j (some P.length),P.length+1):=by
   unfold layStep
   have c1':sH mask ow (oA mask) (kS h%(mask+1)) (kS h)=some (way mask h c).j:=c1
   simp only[yO,yP]
   rw[c1']
   rfl
  have O':Owned mask (ow.setIfInBounds (way mask h c).j (some P.length)) (S++[(way mask h c).j]) (P++[h]):=by
   refine⟨by simp[O.len],?_,fun j hj=>?_,by rw[Array.size_setIfInBounds];exact O.size,fun j hj=>?_,fun i h' hi=>?_⟩
   ·refine ir.mpr ⟨O.nd,by simp,fun x hx y hy e=>?_⟩
    rw[aO.mp hy]at e
    exact c2 (e▸hx)
   ·rcases cQ.mp hj with z|z
    ·exact O.le j z
    ·rw[aO.mp z];exact cl
   ·rw[sv,Array.getElem?_setIfInBounds]
    by_cases e:(way mask h c).j=j
    ·rw[if_pos e,if_pos (by rw[O.size];omega)]
     subst e
     rw[if_pos (by simp),rL,if_neg c2]
     simp[O.len]
    ·rw[if_neg e,<-sv,O.at_ j hj]
     by_cases z:j∈S
     ·rw[if_pos z,if_pos (dZ _ z),rL,if_pos z]
     ·rw[if_neg z,if_neg]
      intro y
      rcases cQ.mp y with y|y
      ·exact z y
      ·exact e (aO.mp y).symm
   ·have mono:∀x,x∈S->x∈S++[(way mask h c).j]:=fun x hx=>dZ _ hx
    rcases gA i P.length with y|y
    ·rw[dQ y]at hi
     obtain⟨d,d1,d2⟩:=O.rc i h' hi
     refine⟨d,?_,fun e he=>mono _ (d2 e he)⟩
     rw[d1,bT,bT,dQ (by rw[O.len];exact y)]
    ·have:i=P.length:=by
      have:=(bj.mp hi).1
      simp at this
      omega
     subst this
     rw[e9 (aI _),rX]at hi
     cases hi
     refine⟨c,?_,fun e he=>mono _ (c3 e he)⟩
     rw[<-O.len,bT,e9 (aI _),rX]
     rfl
  obtain⟨S',ow',e1,e2⟩:=lay_fold hm R (P++[h]) _ _ O' (by simp;omega)
  refine⟨S',ow',?_,by rw[jw]at e2;exact e2⟩
  rw[kK,st]
  have el:(P++[h]).length=P.length+1:=by simp
  rw[el]at e1
  rw[e1,cI]
  congr 2
  omega
theorem above_go:∀(fuel s n:Nat),(∃b,s=2^b)->(∃b,mh n fuel s=2^b)/\(n<s*2^fuel->n<mh n fuel s)
 | 0,s,n,h=>⟨h,fun z=>by rw[mh];simpa using z⟩
 |fuel+1,s,n,h=>by
  obtain⟨b,rfl⟩:=h
  rw[mh]
  split
  ·obtain⟨z1,z2⟩:=above_go fuel (2^b*2) n ⟨b+1,by rw[gz]⟩
   refine⟨z1,fun z=>z2 ?_⟩
   rwa[gz,gI (2^fuel) 2,<-oq]at z
  ·rename_i z
   exact⟨⟨b,rfl⟩,fun _=>by omega⟩
theorem above_is(n:Nat)(hn:n<2^60):(∃b,l9 n=2^b)/\n<l9 n:=by
 obtain⟨z1,z2⟩:=above_go 64 8 n ⟨3,rfl⟩
 exact⟨z1,z2 (pU hn (by decide))⟩
theorem relay_ok{t:iU}{E:List (Int×af)}{es:Array (Int×af)}(he:es.toList=E){n:Nat}(hn:n<2^60)(hl:E.length<n):∃t' ord Z',t.relaid (es.map (·.1)) n=some (t',ord)/\fA t' Z'/\t'.mask=l9 n-1/\t'.plain=t.plain/\t'.led=t.led/\(ord.filterMap (es[·]?)).toList=Z'.map (fun z=>z.2)/\(Z'.map fun z=>z.2).Perm E:=by
 obtain⟨⟨b,hb⟩,ha⟩:=above_is n hn
 have hm:l9 n-1+1=2^b:=by omega
 generalize hmask:l9 n-1=mask at hm
 have O0:Owned mask (vX (mask+1) none) [] []:=⟨rfl,nY,fun j h=>absurd h (by simp),by simp,fun j hj=>by
  rw[if_neg (by simp),sv,Array.getElem?_replicate]
  split<;>rfl,fun i h hi=>by simp at hi⟩
 obtain⟨S,ow,e1,O⟩:=lay_fold hm (E.map (·.1)) [] [] _ O0 (by simp;omega)
 rw[nW]at O
 have lc:ym mask (es.map (·.1))=some ow:=by
  unfold ym
  rw[<-Array.foldl_toList,Array.toList_map,he]
  show(nV (layStep mask) (some (vX (mask+1) none,0)) (E.map (·.1))).map (·.1)=some ow
  have e1':nV (layStep mask) (some (vX (mask+1) none,0)) (E.map (·.1))=_:=e1
  rw[e1']
  rfl
 have hSl:S.length=E.length:=by rw[O.len,aP]
 generalize hlive:((aT (mask+1)).filterMap fun j=>(ow.getD j none).map fun k=>(j,k))=live
 have mem:∀j k,(j,k)∈live↔k<E.length/\S.getD k 0=j/\j<=mask:=fun j k=>by
  rw[<-hlive,pO]
  constructor
  ·rintro⟨j',hj',e⟩
   have hj':=bt.mp hj'
   rw[O.at_ j' (by omega)]at e
   split at e
   ·rename_i z
    cases e
    exact⟨by rw[<-hSl];exact iq.mpr z,gF z,by omega⟩
   ·cases e
  ·rintro⟨h1,h2,h3⟩
   refine⟨j,bt.mpr (by omega),?_⟩
   have z:j∈S:=by rw[<-h2];exact fh (by rw[hSl];exact h1)
   rw[O.at_ j h3,if_pos z,<-h2,iP O.nd (by rw[hSl];exact h1)]
   rfl
 have up:live.Pairwise fun x y=>x.1<y.1:=by
  rw[<-hlive]
  refine zJ _ (fun a a' aR b hb b' hb'=>?_) vd
  cases e:ow.getD a none with
  |none=>rw[e]at hb;cases hb
  |some k=>
   rw[e]at hb
   cases e':ow.getD a' none with
   |none=>rw[e']at hb';cases hb'
   |some k'=>rw[e']at hb';cases hb;cases hb';exact aR
 have pr:(live.map fun x=>x.2).Perm (aT E.length):=by
  refine(pS (gZ.mpr (jB (fun{a b} ha hb aR e=>?_) up)) jx).mpr fun k=>?_
  ·obtain⟨a1,a2⟩:=a
   obtain⟨b1,b2⟩:=b
   have z1:=((mem a1 a2).mp ha).2.1
   have z2:=((mem b1 b2).mp hb).2.1
   have e:a2=b2:=e
   subst e
   rw[z1]at z2
   have:a1<b1:=aR
   omega
  ·rw[bc,bt]
   constructor
   ·rintro⟨⟨j,k'⟩,h1,rfl⟩
    exact((mem _ _).mp h1).1
   ·intro hk
    have z:S.getD k 0∈S:=fh (by rw[hSl];exact hk)
    exact⟨(S.getD k 0,k),(mem _ _).mpr ⟨hk,rfl,O.le _ z⟩,rfl⟩
 refine⟨{mask:=mask,place:=(live.map (·.1)).toArray,dummies:=#[],finger:=t.finger,led:=t.led,moves:=t.movedTo mask,plain:=t.plain},(live.map (·.2)).toArray,
  live.map (fun x=>(x.1,E.getD x.2 (0,.none))),?_,⟨⟨b,hm⟩,rfl,?_,?_,fun z hz=>?_,fun z hz=>?_⟩,rfl,rfl,rfl,?_,?_⟩
 ·unfold SetTable.relaid SetTable.laid
  rw[hmask,lc]
  simp only[yO,yP]
  rw[hlive]
  rfl
 ·show(live.map (·.1))=_
  rw[fG]
  rfl
 ·exact gZ.mpr up
 ·obtain⟨x,hx,rfl⟩:=bc.mp hz
  exact((mem x.1 x.2).mp hx).2.2
 ·obtain⟨⟨j,k⟩,hx,rfl⟩:=bc.mp hz
  obtain⟨h1,h2,h3⟩:=(mem j k).mp hx
  have ek:E.getD k (0,dv)=E[k]:=by rw[bT,aH h1];rfl
  obtain⟨d,d1,d2⟩:=O.rc k E[k].1 (by rw[bH,aH h1];rfl)
  refine⟨d,?_,fun e aR=>?_⟩
  ·show(way mask (E.getD k (0,dv)).1 d).j=j
   rw[ek,d1,h2]
  ·have z:=d2 e aR
   have hi:S.idxOf (way mask E[k].1 e).j<E.length:=by rw[<-hSl];exact iq.mpr z
   refine bc.mpr ⟨((way mask E[k].1 e).j,E.getD (S.idxOf (way mask E[k].1 e).j) (0,.none)),bc.mpr ⟨((way mask E[k].1 e).j,S.idxOf (way mask E[k].1 e).j),(mem _ _).mpr ⟨hi,gF z,O.le _ z⟩,rfl⟩,?_⟩
   show(way mask E[k].1 e).j=(way mask (E.getD k (0,dv)).1 e).j
   rw[ek]
 ·have key:∀l:List (Nat×Nat),(∀x∈l,x.2<E.length)->(l.map (·.2)).filterMap (fun i=>es[i]?)=(l.map fun x=>((x.1,E.getD x.2 (0,dv)):Ent)).map fun z=>z.2:=by
   intro l hl'
   induction l with
   |nil=>rfl
   |cons x l ih=>
    have hx:=hl' x (.head _)
    have e:es[x.2]?=some (E.getD x.2 (0,dv)):=by
     rw[<-qa,he,bT,aH hx]
     rfl
    rw[dB,pN,e,ih fun y hy=>hl' y (.tail _ hy)]
    rfl
  rw[Array.toList_filterMap]
  exact key live fun x hx=>((mem x.1 x.2).mp hx).1
 ·have z:=pr.map fun k=>E.getD k (0,dv)
  rw[fG]at z
  have z2:(aT E.length).map (fun k=>E.getD k (0,dv))=E:=by
   refine iV fun i=>?_
   rw[bH]
   by_cases hi:i<E.length
   ·rw[fI hi,i6,bT,aH hi]
    rfl
   ·rw[d3 (by simpa using hi),d3 (by omega)]
    rfl
  rw[z2]at z
  rw[fG]
  exact z
section
variable{prog:aU}{w:aM}{A:bD}{E:af->ah->Prop}{s:ah}
abbrev Ks(prog:aU)(w:aM):=tupleKind (intKind prog w)
structure SetYs (prog:aU) (w:aM) (h:aA) (a:aa) (ys:List (List Int×aa)):Prop where
 ex:∃o es ep t Z,h.get? a=some o/\o.ExactSet/\o.data=.set es ep t/\fA t Z/\es.toList=Z.map (fun z=>z.2)/\t.place.size*5<t.mask*3 /\
  (Z.map fun z=>z.2).Perm (ys.map fun y=>((Ks prog w).hash y.1,bO y.2))
 nd:(ys.map fun y=>y.1).Nodup
 key:∀y∈ys,(Ks prog w).is h y.1 y.2
theorem item_int{k:Int}{v:af}(h:(intKind prog w).is k v=true):∃t,v=.int k t:=by
 obtain⟨t,e⟩:=yc h
 exact⟨t,e⟩
theorem search_eq(a:aa)(x:af)(h:Int)(adding:Bool)(fuel:Nat)(stand:Option l6):setSearchFrom a x h adding (fuel+1) stand=(do
  let (es,_,t) <-setState a
  if t.gaveWay then unsupported "set:on-a-table-that-gave-way"
  let some met:=t.probe (fun i=>(es[i]?.map (·.1)).getD 0) h (stand.getD (t.probeStart h))|unsupported "internal:set-table-without-an-empty-slot"
  match met with
  |.empty j dummy=>
   match dummy with
   |none=>return .free j false
   |some d=>
    if adding&&t.slot d != .dummy then rule "set.search.the-dummy-was-taken";return <-setSearchFrom a x h adding fuel none
    return .free d true
  |.candidate j i next=>
   if !t.led then
    if <-searchCouldBeSeen x ((es.filter (·.1==h)).toList.map (·.2))then unsupported "set:the-search-would-show-the-table"
   let some (_,y):=es[i]?|unsupported "internal:set-entry"
   let equal <-holding [y] (eqBool y x)
   let (es',_,t') <-setState a
   if adding&&equal then return .there none
   let some same:=t'.sameMemory t.moves t.mask|unsupported "set.changed-during-lookup:is-the-new-block-at-the-old-address"
   let still <-match (if same then t'.slot j else .empty)with
    |.live i'=>match es'[i']? with
     |some (_,y')=>do pure (if <-isSame y' y then some i' else none)
     |none=>pure none
    |_=>pure none
   match still with
   |none=>rule "set.search.anew";setSearchFrom a x h adding fuel none
   |some i'=>if equal then return .there (some i')else setSearchFrom a x h adding fuel (some next)):=rfl
theorem relay_eq(a:aa)(wanted:Nat):setRelay a wanted=(do
  let (es,_,t) <-setState a
  if l9 wanted > sizeLine then unsupported "set:memory"
  let (es,t) <-(do
   let some (t,order):=t.relaid (es.map (·.1)) wanted|unsupported "internal:set-table-without-room"
   let es':=order.filterMap (es[·]?)
   if es'.size != es.size then unsupported "internal:set-table-lost-an-element"
   pure (es',t))
  storeSet a es t):=rfl
theorem on_list{al be:Type}{f:al->be->dY (ForInStep be)}{b:be}:∀{l:List al} {Q:be->ah->Prop},(∀v∈l,∀Q':ForInStep be->ah->Prop,Q' (.yield b) s->wpAny (model prog w) A (f v b) Q' E s)->Q b s ->
  wpAny (model prog w) A (forIn l b f) Q E s
 |[],Q,_,h=>by rw[uU];exact aX h
 |v :: l,Q,hf,h=>by
  rw[xy]
  exact aq (hf v (.head _) _ (on_list (fun u hu=>hf u (.tail _ hu)) h))
theorem items_ints{ks:List Int}{vs:List af}(h:ItemsAre (intKind prog w) ks vs):∀v∈vs,∃k t,v=.int k t:=by
 induction h with
 |nil=>intro v hv;cases hv
 |cons hk _ ih=>
  intro v hv
  rcases aZ.mp hv with e|e
  ·obtain⟨t,z⟩:=item_int hk
   exact⟨_,t,e.trans z⟩
  ·exact ih v e
theorem not_class{ks:List Int}{x:aa}{Q:Bool->ah->Prop}(hx:(Ks prog w).is s.heap ks x)(h:Q false s):wpAny (model prog w) A (ofAClassStatement 8 (.ref x)) Q E s:=by
 have hT:=zm hx
 obtain⟨o,items,n,ho,_,hd,hi⟩:=hx
 unfold ofAClassStatement
 refine aq (wpAny_typeOf hT ?_)
 show wpAny _ _ (pure true >>= _) _ _ s
 refine aq (aX ?_)
 simp only[p7,dH,if_false]
 refine aq (rA ho hd ?_)
 dsimp only
 rw[<-yJ]
 refine aq (on_list (fun v hv Q' q=>?_) (aX h))
 obtain⟨k,t,rfl⟩:=items_ints hi v hv
 unfold ofAClassStatement
 refine aq (aX ?_)
 simp only[dH,if_false]
 exact aX q
theorem by_value{ks:List Int}{x:aa}{Q:Bool->ah->Prop}(hx:(Ks prog w).is s.heap ks x)(h:Q true s):wpAny (model prog w) A (hashByValue 8 (.ref x)) Q E s:=by
 have hT:=zm hx
 obtain⟨o,items,n,ho,_,hd,hi⟩:=hx
 unfold hashByValue
 refine aq (wpAny_specialOf hT F.slot_tuple_hash.lookup ?_)
 dsimp only
 refine aq (rA ho hd ?_)
 rw[<-yJ]
 refine aq (on_list (fun v hv Q' q=>?_) (aX h))
 obtain⟨k,t,rfl⟩:=items_ints hi v hv
 unfold hashByValue
 refine aq (aX ?_)
 simp only[p7,dH,if_false]
 exact aX q
theorem unseen{ks:List Int}{x:aa}{l:List af}{Q:Bool->ah->Prop}(hx:(Ks prog w).is s.heap ks x)(hl:∀v∈l,∃k b,v=.ref b/\(Ks prog w).is s.heap k b)(h:Q false s) :wpAny (model prog w) A (searchCouldBeSeen (.ref x) l) Q E s:=by
 unfold searchCouldBeSeen
 refine aq (on_list (fun v hv Q' q=>?_) (aX h))
 obtain⟨k,b,rfl,hb⟩:=hl v hv
 dsimp only
 split
 ·exact aX q
 ·refine aq ((Ks prog w).quiet hx ?_)
  simp only[p7,dH,if_false]
  refine aq ((Ks prog w).quiet hb ?_)
  simp only[p7,dH,if_false]
  refine aq (not_class hx ?_)
  simp only[dH,if_false]
  refine aq (not_class hb ?_)
  simp only[dH,if_false]
  exact aX q
theorem fA.fits{t:iU}{Z:List Ent}(T:fA t Z){es:Array (Int×af)}(he:es.toList=Z.map (fun z=>z.2))(hf:t.place.size*5<t.mask*3):t.fits es.size=true:=by
 have e:es.size=Z.length:=by rw[<-i5,he,aP]
 have f:t.fill=t.place.size:=by unfold vM;rw[T.dm];rfl
 unfold yn
 rw[e,f,T.size]
 have:=T.size
 simp
 omega
theorem fA.odd{t:iU}{Z:List Ent}(T:fA t Z)(hf:t.place.size*5<t.mask*3):t.gaveWay=false:=by
 obtain⟨b,hb⟩:=T.pow
 unfold SetTable.gaveWay
 cases b with
 |zero=>simp at hb;omega
 |succ b=>
  rw[gz]at hb
  have:t.mask%2=1:=by omega
  rw[this]
  rfl
section
variable{a x:aa}{o:az}{es:Array (Int×af)}{ep:Nat}{t:iU}{Z:List Ent}{ys:List (List Int×aa)}{k:List Int}
 (ho:s.heap.get? a=some o) (hd:o.data=.set es ep t) (T:fA t Z) (he:es.toList=Z.map (fun z=>z.2)) (hf:t.place.size*5<t.mask*3)
 (pm:(Z.map fun z=>z.2).Perm (ys.map fun y=>((Ks prog w).hash y.1,bO y.2))) (nd:(ys.map fun y=>y.1).Nodup) (hy:∀y∈ys,(Ks prog w).is s.heap y.1 y.2)
 (hu:A.units<cLine) (hx:(Ks prog w).is s.heap k x)
include ho hd T he hf pm nd hy hu hx in
theorem search_from{d0:Nat}(g0:d0<=10*(13+Z.length))(g1:(way t.mask ((Ks prog w).hash k) d0).j∉Z.map fun z=>z.1)(g2:∀e,e<d0->(way t.mask ((Ks prog w).hash k) e).j∈Z.map fun z=>z.1)
  {Q:SetFound->ah->Prop} (hin:k∈(ys.map fun y=>y.1)->Q (.there none) s) (hout:k∉(ys.map fun y=>y.1)->Q (.free (way t.mask ((Ks prog w).hash k) d0).j false) s):
  ∀(fuel d:Nat) (stand:Option l6),stand.getD (t.probeStart ((Ks prog w).hash k))=way t.mask ((Ks prog w).hash k) d->d<=d0->d0-d<fuel ->
   (∀e,e<d->∀z∈Z,z.1=(way t.mask ((Ks prog w).hash k) e).j->∀y∈ys,z.2=((Ks prog w).hash y.1,bO y.2)->y.1≠k) ->
   wpAny (model prog w) A (setSearchFrom a (.ref x) ((Ks prog w).hash k) true fuel stand) Q E s
 | 0,d,stand,_,_,aR,_=>by omega
 |fuel+1,d,stand,hst,hle,aR,hno=>by
  have ent:∀z∈Z,∃y∈ys,z.2=((Ks prog w).hash y.1,bO y.2):=fun z hz=>by
   obtain⟨y,hy1,e⟩:=bc.mp (pm.mem_iff.mp (bc.mpr ⟨z,hz,rfl⟩))
   exact⟨y,hy1,e.symm⟩
  have esz:∀(i:Nat) (z:Ent),Z[i]?=some z->es[i]?=some z.2:=fun i z hz=>by
   rw[<-qa,he,bH,hz]
   rfl
  have fit:=T.fits he hf
  have hpl:Z.length<=t.mask:=by have:=T.size;omega
  rw[search_eq]
  refine aq (pK ho hd fit ?_)
  dsimp only
  rw[T.odd hf]
  simp only[dH,if_false]
  rw[hst]
  unfold SetTable.probe
  have key:=T.probe (h:=(Ks prog w).hash k) (f:=fun i=>(es[i]?.map (·.1)).getD 0) (fun i z hz=>by rw[esz i z hz];rfl) g1 g2 (10*oA t.mask) d hle (by unfold oA;omega)
  rcases key with⟨c,i,z,k1,k2,k3,k4,k5,k6,k7⟩|⟨k1,k2⟩
  ·rw[k6]
   dsimp only
   obtain⟨y,hy1,ez⟩:=ent z (cW k3)
   have seen:∀{R:dY SetFound},wpAny (model prog w) A R Q E s->wpAny (model prog w) A (if (!t.led)=true then(do
     let b <-searchCouldBeSeen (.ref x) ((es.filter (·.1==(Ks prog w).hash k)).toList.map (·.2))
     if b=true then(do unsupported "set:the-search-would-show-the-table";R)else R)else R) Q E s:=fun{R} q=>by
    split
    ·refine aq (unseen hx (fun v hv=>?_) ?_)
     ·obtain⟨e,he1,rfl⟩:=bc.mp hv
      have he2:e∈es.toList:=by
       rw[Array.toList_filter]at he1
       exact(f7.mp he1).1
      rw[he]at he2
      obtain⟨z',hz',rfl⟩:=bc.mp he2
      obtain⟨y',hy',e'⟩:=ent z' hz'
      exact⟨y'.1,y'.2,by rw[e'],hy y' hy'⟩
     ·simp only[dH,if_false]
      exact q
    ·exact q
   refine seen ?_
   rw[esz i z k3,ez]
   dsimp only
   refine aq (gy ((Ks prog w).eqBool hu (hy y hy1) hx ?_))
   refine aq (pK ho hd fit ?_)
   dsimp only
   by_cases q:y.1=k
   ·rw[decide_eq_true q]
    simp only[yj,if_true]
    exact aX (hin (bc.mpr ⟨y,hy1,q⟩))
   ·rw[decide_eq_false q]
    simp only[vI,dH,if_false]
    have sm:t.sameMemory t.moves t.mask=some true:=by unfold SetTable.sameMemory;rw[if_pos (by simp)]
    rw[sm]
    simp only[if_true]
    rw[T.live k3]
    dsimp only
    rw[esz i z k3,ez]
    dsimp only
    refine aq (wpAny_isSame_ref_self (aq (aX ?_)))
    simp only[if_true,dH,if_false]
    refine search_from g0 g1 g2 hin hout fuel (c+1) (some (way t.mask ((Ks prog w).hash k) (c+1))) rfl (by omega) (by omega) fun e he' z' hz' ej y' hy' ey=>?_
    rcases pX e c with r|r|r
    ·rcases gA e d with r2|r2
     ·exact hno e r2 z' hz' ej y' hy' ey
     ·intro eq
      exact k7 e r2 r z' hz' ej (by rw[ey,eq])
    ·rw[r,<-k4]at ej
     obtain⟨i',hi'⟩:=fm hz'
     have l1:=T.live k3
     have l2:=T.live hi'
     rw[ej,l1]at l2
     cases l2
     rw[k3]at hi'
     cases hi'
     rw[ez]at ey
     have e2:y.2=y'.2:=by
      have:=(oK ey).2
      exact Value.ref.inj this
     have:=IsTupleKey.inj (hy y hy1) (e2▸hy y' hy')
     rw[<-this]
     exact q
    ·omega
  ·rw[k1,way_dummy]
   dsimp only
   refine aX (hout fun hk=>?_)
   obtain⟨y,hy1,eq⟩:=bc.mp hk
   obtain⟨z,hz,ez⟩:=bc.mp (pm.mem_iff.mpr (bc.mpr ⟨y,hy1,rfl⟩))
   have eh:z.2.1=(Ks prog w).hash k:=by rw[ez,eq]
   obtain⟨dz,z1,z2⟩:=T.rc z hz
   rw[eh]at z1 z2
   have hlt2:dz<d0:=by
    rcases pX dz d0 with r|r|r
    ·exact r
    ·rw[<-r,z1]at g1
     exact absurd (bc.mpr ⟨z,hz,rfl⟩) g1
    ·exact absurd (z2 d0 r) g1
   rcases gA dz d with r|r
   ·exact hno dz r z hz z1.symm y hy1 ez eq
   ·exact k2 dz r hlt2 z hz z1.symm eh
end
theorem add_eq(a:aa)(x:af)(h:Int)(fuel:Nat):setAddHashedIn a x h (fuel+1)=(do
  let (es₀,_,t₀) <-setState a
  if byScan x es₀ then
   match <-setAddByScan a x h es₀ t₀ with
   |some added=>return added
   |none=>return <-setAddHashedIn a x h fuel
  let .free slot wasDummy <-setSearch a x h (adding:=true)|return false
  let (es,_,t) <-setState a
  let (t,p):=t.put slot
  let byValue <-if t.plain then hashByValue 8 x else pure true
  let t:=if byValue then t else{t with plain:=false}
  storeSet a (l7 es p (h,x)) t
  if !wasDummy&&t.tooFull then setRelay a (r9 (es.size+1))
  return true):=rfl
theorem above_le:∀(fuel s n:Nat),mh n fuel s<=max s (2*n)
 | 0,s,n=>by rw[mh];omega
 |fuel+1,s,n=>by
  rw[mh]
  split
  ·have:=above_le fuel (s*2) n
   omega
  ·omega
theorem put_at{h:aA}{a:aa}{o:az}{es es':Array (Int×af)}{ep:Nat}{t t':iU}(ho:h.get? a=some o)(hd:o.data=.set es ep t) :(h.update a (ma es' t')).get? a=some {o with data:=.set es' (ep+1) t'}:=by
 have z:=iZ (ma es' t') ho (by rw[putSet_of es' t' hd];rfl)
 rwa[putSet_of es' t' hd]at z
theorem key_keep{h h':aA}{a b:aa}{o:az}{k:List Int}{es:Array (Int×af)}{ep:Nat}{t:iU}(hb:(Ks prog w).is h k b)(ho:h.get? a=some o)(hd:o.data=.set es ep t)(sb:iY a h h'):(Ks prog w).is h' k b:=by
 obtain⟨ob,items,n,h1,h2,h3,h4⟩:=hb
 have ne:b≠a:=fun e=>by rw[e,ho]at h1;cases h1;rw[hd]at h3;cases h3
 exact⟨ob,items,n,(sb.2 b ne).trans h1,h2,h3,h4⟩
theorem set_add{a x:aa}{ys:List (List Int×aa)}{k:List Int}(S:SetYs prog w s.heap a ys)(hu:A.units<cLine)(hx:(Ks prog w).is s.heap k x)(hl:ys.length<=9000){Q:Bool->ah->Prop}(hin:k∈(ys.map fun y=>y.1)->Q false {s with toks:=s.toks+(Ks prog w).draws k})(hout:k∉(ys.map fun y=>y.1)->∀h',iY a s.heap h'->SetYs prog w h' a (ys++[(k,x)])->Q true {s with heap:=h',toks:=s.toks+(Ks prog w).draws k}) :wpAny (model prog w) A (setAdd a (.ref x)) Q E s:=by
 obtain⟨o,es,ep,t,Z,ho,hex,hd,T,he,hf,pm⟩:=S.ex
 unfold setAdd
 refine gy (aq ((Ks prog w).pyHash hu hx ?_))
 unfold setAddHashed
 refine gy ?_
 have zl:Z.length=ys.length:=by have:=pm.length_eq;rwa[aP,aP]at this
 have fit:=T.fits he hf
 rw[show(100000:Nat)=99999+1 from rfl,add_eq]
 refine aq (pK (s:={s with toks:=s.toks+(Ks prog w).draws k}) ho hd fit ?_)
 dsimp only
 rw[show byScan (.ref x) es=false from rfl]
 simp only[dH,if_false]
 obtain⟨b,hb⟩:=T.pow
 obtain⟨d0,g0,g1,g2⟩:=way_free hb ((Ks prog w).hash k) (occ:=Z.map fun z=>z.1) (by rw[aP];have:=T.size;omega)
 rw[aP]at g0
 unfold setSearch
 refine aq (search_from (s:={s with toks:=s.toks+(Ks prog w).draws k}) ho hd T he hf pm S.nd S.key hu hx g0 g1 g2 (fun hk=>?_) (fun hk=>?_) 100000 0 none rfl (de _) (by omega) (fun e h=>absurd h (vG _)))
 ·exact aX (hin hk)
 dsimp only
 refine aq (pK (s:={s with toks:=s.toks+(Ks prog w).draws k}) ho hd fit ?_)
 dsimp only
 have jl:(way t.mask ((Ks prog w).hash k) d0).j<=t.mask:=by have:=way_le (mask:=t.mask) ((Ks prog w).hash k) d0;omega
 obtain⟨Z1,T1,m1,p1,pm1,e1⟩:=T.put (x:=bO x) g1 jl rfl g2
 generalize (t.put (way t.mask ((Ks prog w).hash k) d0).j)=tp at T1 m1 p1 e1
 have e1:=e1 es he
 generalize hes1:l7 es tp.2 ((Ks prog w).hash k,bO x)=es1 at e1
 have ze:es.size=Z.length:=by rw[<-i5,he,aP]
 have zl1:Z1.length=Z.length+1:=by rw[pm1.length_eq];rfl
 have sz1:es1.size=Z.length+1:=by rw[<-i5,e1,aP,zl1]
 have hsz:=T.size
 have big:(80000:Nat)<=sizeLine:=by decide
 have keys:∀y∈ys++[(k,x)],(Ks prog w).is s.heap y.1 y.2:=fun y hy=>by
  rcases cQ.mp hy with z|z
  ·exact S.key y z
  ·rw[aO.mp z];exact hx
 have nd2:((ys++[(k,x)]).map fun y=>y.1).Nodup:=by
  rw[dD]
  refine ir.mpr ⟨S.nd,by simp,fun u hu' v hv e=>?_⟩
  have hv:v=k:=by simpa using hv
  rw[hv]at e
  exact hk (e▸hu')
 have pm2:(Z1.map fun z=>z.2).Perm ((ys++[(k,x)]).map fun y=>((Ks prog w).hash y.1,bO y.2)):=by
  refine(pm1.map _).trans ?_
  rw[dB,dD]
  exact(List.Perm.cons _ pm).trans (List.perm_append_singleton _ _).symm
 have fit1:tp.1.fits es1.size=true:=by
  unfold yn vM
  rw[T1.dm,p1,m1,sz1]
  simp
  omega
 have sb1:iY a s.heap (s.heap.update a (ma es1 tp.1)):=me s.heap a _
 have ho1:=put_at (es':=es1) (t':=tp.1) ho hd
 have rest:wpAny (model prog w) A (do
   storeSet a es1 tp.1
   if (!false&&tp.1.tooFull)=true then(do setRelay a (r9 (es.size+1));pure true)else pure true) Q E {s with toks:=s.toks+(Ks prog w).draws k}:=by
  refine aq (xl (s:={s with toks:=s.toks+(Ks prog w).draws k}) ho hd ?_ (by rw[sz1];omega))
  cases hfull:tp.1.tooFull with
  |false=>
   simp only[vJ,vI,dH,if_false]
   refine aX (hout hk _ sb1 ⟨⟨_,es1,ep+1,tp.1,Z1,ho1,hex,rfl,T1,e1,?_,pm2⟩,nd2,fun y hy=>key_keep (keys y hy) ho hd sb1⟩)
   unfold SetTable.tooFull vM at hfull
   rw[T1.dm]at hfull
   simpa using hfull
  |true=>
   simp only[vJ,yj,if_true]
   have gr:r9 (es.size+1)=4*(Z.length+1):=by
    unfold r9
    rw[if_neg (by omega)]
    omega
   rw[gr,relay_eq]
   obtain⟨t2,ord,Z2,r1,T2,r2,_,_,r5,r6⟩:=relay_ok (t:=tp.1) (es:=es1) e1 (n:=4*(Z.length+1)) (by omega) (by rw[aP,zl1];omega)
   have zl2:Z2.length=Z.length+1:=by have:=r6.length_eq;rwa[aP,aP,zl1]at this
   have sz2:(ord.filterMap (es1[·]?)).size=es1.size:=by rw[<-i5,r5,aP,zl2,sz1]
   have ab:=above_le 64 8 (4*(Z.length+1))
   have ab:l9 (4*(Z.length+1))<=max 8 (2*(4*(Z.length+1))):=ab
   have ab2:=(above_is (4*(Z.length+1)) (by omega)).2
   refine aq (aq (pK (s:={s with heap:=s.heap.update a (ma es1 tp.1),toks:=s.toks+(Ks prog w).draws k}) ho1 rfl fit1 ?_))
   dsimp only
   rw[if_neg (by omega),r1]
   dsimp only
   rw[if_neg (by rw[sz2];simp)]
   refine aq (aX ?_)
   refine xl (s:={s with heap:=s.heap.update a (ma es1 tp.1),toks:=s.toks+(Ks prog w).draws k}) ho1 rfl ?_ (by rw[sz2,sz1];omega)
   have sb2:=sb1.trans (me (s.heap.update a (ma es1 tp.1)) a (ma (ord.filterMap (es1[·]?)) t2))
   refine aX (hout hk _ sb2 ⟨⟨_,_,ep+1+1,t2,Z2,put_at ho1 rfl,hex,rfl,T2,r5,?_,r6.trans pm2⟩,nd2,fun y hy=>key_keep (keys y hy) ho hd sb2⟩)
   rw[T2.size,r2,zl2]
   omega
 split
 ·refine aq (by_value (s:={s with toks:=s.toks+(Ks prog w).draws k}) hx ?_)
  simp only[if_true]
  exact rest
 ·refine aq (aX ?_)
  simp only[if_true]
  exact rest
end
end Gw
namespace Gw
open PySem PySem.Spec
def addY(f:aa->List Int)(ys:List (List Int×aa))(x:aa):List (List Int×aa):=if f x∈(ys.map fun y=>y.1)then ys else ys++[(f x,x)]
def ff(f:aa->List Int)(l:List aa):List (List Int×aa):=l.foldl (addY f) []
theorem ysOf_snoc(f:aa->List Int)(l:List aa)(x:aa):ff f (l++[x])=addY f (ff f l) x:=by unfold ff;rw[n8];rfl
theorem ysOf_len(f:aa->List Int)(l:List aa):(ff f l).length<=l.length:=by
 have key:∀(l:List aa) (ys:List (List Int×aa)),(l.foldl (addY f) ys).length<=ys.length+l.length:=by
  intro l
  induction l with
  |nil=>intro ys;exact aI _
  |cons x l ih=>
   intro ys
   have h1:=ih (addY f ys x)
   have h2:(addY f ys x).length<=ys.length+1:=by unfold addY;split<;>simp
   rw[kK,cI]
   omega
 have:=key l []
 simpa[ff]using this
theorem ysOf_mem{f:aa->List Int}{l:List aa}:(∀y∈ff f l,∃x∈l,y=(f x,x))/\∀k,k∈((ff f l).map fun y=>y.1)↔∃x∈l,f x=k:=by
 have key:∀(l:List aa) (ys:List (List Int×aa)),(∀y∈l.foldl (addY f) ys,y∈ys\/∃x∈l,y=(f x,x))/\∀k,k∈((l.foldl (addY f) ys).map fun y=>y.1)↔k∈(ys.map fun y=>y.1)\/∃x∈l,f x=k:=by
  intro l
  induction l with
  |nil=>intro ys;exact⟨fun y hy=>.inl hy,fun k=>⟨.inl,fun h=>h.elim id fun⟨x,hx,_⟩=>absurd hx (by simp)⟩⟩
  |cons x l ih=>
   intro ys
   obtain⟨h1,h2⟩:=ih (addY f ys x)
   have m1:∀y∈addY f ys x,y∈ys\/y=(f x,x):=fun y hy=>by
    unfold addY at hy
    split at hy
    ·exact .inl hy
    ·rcases cQ.mp hy with z|z
     ·exact .inl z
     ·exact .inr (aO.mp z)
   have m2:∀k,k∈((addY f ys x).map fun y=>y.1)↔k∈(ys.map fun y=>y.1)\/f x=k:=fun k=>by
    unfold addY
    split
    ·rename_i z
     exact⟨.inl,fun h=>h.elim id fun e=>e▸z⟩
    ·rw[dD,cQ]
     simp[eq_comm]
   refine⟨fun y hy=>?_,fun k=>?_⟩
   ·rcases h1 y hy with z|⟨x',hx',e⟩
    ·rcases m1 y z with q|q
     ·exact .inl q
     ·exact .inr ⟨x,.head _,q⟩
    ·exact .inr ⟨x',.tail _ hx',e⟩
   ·rw[kK,h2,m2]
    constructor
    ·rintro((h|h)|⟨x',hx',e⟩)
     ·exact .inl h
     ·exact .inr ⟨x,.head _,h⟩
     ·exact .inr ⟨x',.tail _ hx',e⟩
    ·rintro(h|⟨x',hx',e⟩)
     ·exact .inl (.inl h)
     ·rcases aZ.mp hx' with q|q
      ·exact .inl (.inr (q▸e))
      ·exact .inr ⟨x',q,e⟩
 obtain⟨h1,h2⟩:=key l []
 exact⟨fun y hy=>(h1 y hy).elim (fun z=>absurd z (by simp)) id,fun k=>(h2 k).trans ⟨fun h=>h.elim (fun z=>absurd z (by simp)) id,.inr⟩⟩
section
variable{prog:aU}{w:aM}{A:bD}{R:pG->ah->Prop}{I:aa}{fp wr:List aa}{G:Array pF->Array pF->Prop}{n:Nat}{P:Nat->af->Prop}{St:Nat->ah->Prop}
theorem SetYs.move{h h' h0:aA}{a:aa}{f:aa->List Int}{l:List aa}(S:SetYs prog w h a (ff f l))(ha:∀o,h.get? a=some o->h'.get? a=some o)(h0k:∀x∈l,(Ks prog w).is h0 (f x) x)(k0:∀b o,h0.get? b=some o->h'.get? b=some o):SetYs prog w h' a (ff f l):=by
 obtain⟨o,es,ep,t,Z,ho,rest⟩:=S.ex
 refine⟨⟨o,es,ep,t,Z,ha o ho,rest⟩,S.nd,fun y hy=>?_⟩
 obtain⟨x,hx,rfl⟩:=ysOf_mem.1 y hy
 obtain⟨ob,items,m,q1,q2⟩:=h0k x hx
 exact⟨ob,items,m,k0 _ _ q1,q2⟩
theorem set_loop(W:WalksS prog w A.in1 I fp wr G n P St){S:aa}(hSf:S∉fp){h0:aA}(hS0:h0.get? S=none)(hw0:∀b∈wr,h0.get? b=none){f:aa->List Int}{xs:List aa}(hn:xs.length=n)(hP:∀i v,P i v->∃x,v=.ref x/\xs[i]?=some x)(hk0:∀x∈xs,(Ks prog w).is h0 (f x) x)(hu:A.units+1<cLine)(hn9:n<=9000):∀(k i:Nat) (s:ah),n-i=k->i<=n->St i s->(∀b o,h0.get? b=some o->s.heap.get? b=some o)->SetYs prog w s.heap S (ff f (xs.take i)) -> (∀s',Moved (S ::wr) G s s'->SetYs prog w s'.heap S (ff f xs)->R (.ok (.ret .none)) s') -> codeAny (model prog w) A (.builtin "set.update.loop" ⟨[.ref S,.ref I],[]⟩) R s:=by
 have hSw:S∉wr:=fun z=>hSf (W.sub _ z)
 have up:∀b∈wr,b∈S ::wr:=fun b hb=>.tail _ hb
 have keepW:∀{s s':ah},Moved wr G s s'->(∀b o,h0.get? b=some o->s.heap.get? b=some o)->∀b o,h0.get? b=some o->s'.heap.get? b=some o:=fun{s s'} m k0 b o e=>
  m.heap b o (fun z=>by rw[hw0 b z]at e;cases e) (k0 b o e)
 intro k
 induction k with
 |zero=>
  intro i s hk hi hst k0 hS hR
  obtain rfl:i=n:=by omega
  refine js yY ?_
  rw[oJ wo _]
  refine aq (m:=pyNext (.ref I)) (W.done s _ _ hst fun s' hm=>?_)
  rw[lU (by omega)]at hS
  exact aX (hR s' (hm.mono up) (hS.move (fun o e=>hm.heap S o hSw e) hk0 (keepW hm k0)))
 |succ k ih=>
  intro i s hk hi hst k0 hS hR
  refine js yY ?_
  rw[oJ wo _]
  refine aq (m:=pyNext (.ref I)) (W.item i s _ _ (by omega) hst fun v s' hv hst' hm=>?_)
  obtain⟨x,rfl,hx⟩:=hP i v hv
  have k1:=keepW hm k0
  have hxm:=cW hx
  have hk1:∀y∈xs.take i,(Ks prog w).is h0 (f y) y:=fun y hy=>hk0 y (rK hy)
  have S1:=hS.move (fun o e=>hm.heap S o hSw e) hk1 k1
  have hxk:(Ks prog w).is s'.heap (f x) x:=by
   obtain⟨ob,items,m,q1,q2⟩:=hk0 x hxm
   exact⟨ob,items,m,k1 _ _ q1,q2⟩
  have et:xs.take (i+1)=xs.take i++[x]:=by rw[eW,hx];rfl
  have hl:(ff f (xs.take i)).length<=9000:=cZ (ysOf_len f _) (by rw[gG];omega)
  have go:∀(b:Bool) (h':aA) (tk:Nat),s'.toks<=tk->(∀b o,b≠S->s'.heap.get? b=some o->h'.get? b=some o)->SetYs prog w h' S (ff f (xs.take (i+1))) ->
    wpAny (model prog w) A.in1 (again (.builtin "set.update.loop" ⟨[.ref S,.ref I],[]⟩)) (fun fin s'=>match fin with
     |.done fl=>R (.ok fl) s'
     |.again c'=>c'.quiet=true/\codeAny (model prog w) A c' R s') (fun e s'=>R (.error e) s') {s' with heap:=h',toks:=tk}:=fun b h' tk htk hh S2=>by
   refine aX ⟨lO wo _,ih (i+1) _ (by omega) (by omega) (W.frame _ s' _ _ hst' htk fun b hb o e=>hh b o (fun z=>hSf (z▸hb)) e)
    (fun b o e=>hh b o (fun z=>by rw[z,hS0]at e;cases e) (k1 b o e)) S2 fun s'' hm'' S3=>hR s'' (Moved.trans W.gtrans ((hm.mono up).then_heap htk fun b o hb e=>hh b o (fun z=>hb (z ▸ .head _)) e) hm'') S3⟩
  refine aq (m:=holding [bO x] (setAdd S (.ref x))) (gy (set_add S1 hu hxk hl (fun hin=>?_) fun hout h' sb S2=>?_))
  ·refine go false s'.heap _ (vy _ _) (fun b o _ e=>e) ?_
   rw[et,ysOf_snoc]
   unfold addY
   rw[if_pos hin]
   exact S1
  ·refine go true h' _ (vy _ _) (fun b o nb e=>(sb.2 b nb).trans e) ?_
   rw[et,ysOf_snoc]
   unfold addY
   rw[if_neg hout]
   exact S2
end
section
variable{prog:aU}{w:aM}{A:bD}{E:af->ah->Prop}{s:ah}
theorem fresh_ok(fi mo:Nat)(led:Bool):fA (SetTable.fresh fi mo led) []:=
 ⟨⟨3,rfl⟩,rfl,rfl,zK,fun z hz=>absurd hz (by simp),fun z hz=>absurd hz (by simp)⟩
theorem set_call{l:aa}{xs:List aa}{f:aa->List Int}{Q:af->ah->Prop}(hh:A.handled=none)(hu:A.units+8<cLine)(hl:s.heap.IsList l (xs.map bO).toArray)(hx:∀x∈xs,(Ks prog w).is s.heap (f x) x)(hn:xs.length<=9000)(h:∀(h':aA) (tk:Nat),SetYs prog w h' s.heap.objs.size (ff f xs)->(∀b o,s.heap.get? b=some o->h'.get? b=some o)->Q (.ref s.heap.objs.size) {s with heap:=h',toks:=tk}) :wpAny (model prog w) A (call (.type "set") [.ref l]) Q E s:=by
 obtain⟨c,tl,hmro⟩:=kT.mro
 have made:=kT.made
 have subm:=kT.sub
 have ntype:=kT.notType
 have canC:=kT.canCreate
 have tc:=F.typeCall_set_1 (.ref l)
 refine nM (codeAny_of_tree (show wpAny _ _ (callAny (.type "set") _) _ _ _ from aX ⟨yW _ (by decide +kernel),js yy ?_⟩))
 rw[yR (xh "set" [.ref l] []) rfl]
 repeat (any_goals (first|assumption|wp_step))
 refine iR (code_set_new_1 (.ref l) (E:=E) (Q₁:=fun ob s1=>∃led:Bool,ob=.ref s.heap.objs.size/\s1 = {s with heap:=s.heap.push {cls:=.type "set",dict:=none,data:=.set #[] 0 (.fresh 0 0 led)}}) fun led=>⟨led,rfl,rfl⟩) fun r s1 hr=>?_
 rcases r with e|fl
 ·exact hr
 cases fl with
 |ret ob=>
  obtain⟨led,rfl,rfl⟩:=hr
  have hS:(s.heap.push {cls:=.type "set",dict:=none,data:=.set #[] 0 (.fresh 0 0 led)}).get? s.heap.objs.size=some {cls:=.type "set",dict:=none,data:=.set #[] 0 (.fresh 0 0 led)}:=df _ rfl
  have tyS:Shared.TypeIs {s with heap:=s.heap.push {cls:=.type "set",dict:=none,data:=.set #[] 0 (.fresh 0 0 led)}} (.ref s.heap.objs.size) "set":=⟨_,hS,rfl⟩
  have lk:=kT.init.lookup
  have bd:=kT.init.bind (.ref s.heap.objs.size)
  repeat (any_goals (first|assumption|wp_step))
  refine iR (uI (R:=wants (fun r s2=>r=.none/\∃h' tk,s2 = {s with heap:=h',toks:=tk}/\SetYs prog w h' s.heap.objs.size (ff f xs)/\∀b o,s.heap.get? b=some o->h'.get? b=some o) E)
   kT.init.plain F.entry_set_init (check_set_init_1 tyS ?_)) fun r2 s2 hr2=>?_
  ·obtain⟨⟨ocls,odict,odata,oslots⟩,hol,hcl,nl,hdl⟩:=hl
   simp only at hcl hdl
   subst hcl hdl
   have hol1:(s.heap.push {cls:=.type "set",dict:=none,data:=.set #[] 0 (.fresh 0 0 led)}).get? l=some {cls:=.type "list",dict:=odict,data:=.seq (xs.map bO).toArray nl,slots:=oslots}:=cD _ hol
   have q1:=F.sub_list_set
   have q2:=F.sub_list_frozenset
   have q3:(l5 "list" == l5 "dict")=false:=by decide
   have hl1:(s.heap.push {cls:=.type "set",dict:=none,data:=.set #[] 0 (.fresh 0 0 led)}).IsList l (xs.map bO).toArray:=⟨_,hol1,rfl,nl,rfl⟩
   unfold iT.«set.__init__» noKeywords z0
   generalize hPI:pyIter=PI
   wp_walk
   subst hPI
   refine kx hl1 (aq (wpAny_runValue ?_))
   have llt:=cy hol
   have szp:(s.heap.push {cls:=.type "set",dict:=none,data:=.set #[] 0 (.fresh 0 0 led)}).objs.size=s.heap.objs.size+1:=gg _ _
   have none_at:∀b,s.heap.objs.size<=b->s.heap.get? b=none:=fun b hb=>by
    cases e:s.heap.get? b with
    |none=>rfl
    |some o=>exact absurd (cy e) (pV.mpr hb)
   refine set_loop ((wj (by simp[hh]) _ l (by rw[szp];exact dR (oo llt)) (xs.map bO).toArray).toS) (S:=s.heap.objs.size) ?hSf (h0:=s.heap) (none_at _ (aI _)) ?hw (f:=f) (xs:=xs) ?hn ?hP hx ?hu (by simpa using hn) _ 0 _ rfl (de _)
    ⟨⟨_,df _ rfl,rfl,rfl⟩,(hl1.push _)⟩ ?k0 ?S0 ?R
   case hSf=>
    rw[szp]
    simp only[aZ,dC,or_false,not_or]
    exact⟨dR (pT _),oj llt⟩
   case hw=>
    intro b hb
    rw[aO.mp hb,szp]
    exact none_at _ (vw _)
   case hn=>simp
   case hP=>
    intro i v hv
    rw[uX,bH]at hv
    cases e:xs[i]? with
    |none=>rw[e]at hv;cases hv
    |some x=>rw[e]at hv;exact⟨x,(cC hv).symm,rfl⟩
   case hu=>
    show A.units+1+1+1<cLine
    omega
   case k0=>exact fun b o e=>cD _ (cD _ e)
   case S0=>
    exact⟨⟨_,#[],0,_,[],cD _ hS,⟨rfl,rfl,rfl⟩,rfl,fresh_ok 0 0 led,rfl,(show(0:Nat)<21 by decide),.nil⟩,nY,fun y hy=>absurd hy (by simp[ff])⟩
   case R=>
    intro s' hm S'
    obtain⟨h',g',d',tk',os'⟩:=s'
    obtain rfl:g'=s.gens:=hm.gens
    obtain rfl:d'=s.drawn:=hm.drawn
    obtain rfl:os'=s.os:=hm.os
    refine aX (show wpAny _ _ (ret dv) _ _ _ from aX ⟨rfl,h',tk',rfl,S',fun b o e=>?_⟩)
    have hb:=cy e
    refine hm.heap b o ?_ (cD _ (cD _ e))
    rw[szp]
    simp only[aZ,dC,or_false,not_or]
    exact⟨dR hb,dR (oo hb)⟩
  ·rcases r2 with e|fl2
   ·exact hr2
   cases fl2 with
   |ret r=>
    obtain⟨rfl,h',tk,rfl,S',k'⟩:=hr2
    repeat (any_goals (first|assumption|wp_step))
    exact h _ _ S' k'
   |_=>exact hr2.elim
 |_=>exact hr.elim
end
end Gw
namespace Gw
open PySem PySem.Spec PyProof.Rows PySem.SeqAt MeetsSeq MeetsSeq2 MeetsSeq3
section
variable{prog:aU}{w:aM}{A:bD}{E:af->ah->Prop}{s:ah}
theorem lt_lists(hu:A.units<cLine){x y:af}{xs ys:List Int}(k1:NumsAt s.heap x xs)(k2:NumsAt s.heap y ys){Q:af->ah->Prop}(h:Q (.bool (ltI xs ys)) s):wpAny (model prog w) A (richCompare .Lt x y) Q E s:=by
 obtain⟨l,items,rfl,hl,k1⟩:=k1
 obtain⟨b,gQ,rfl,hb,k2⟩:=k2
 obtain⟨⟨cls,dd,data,sl⟩,ho,hc,n,hd⟩:=id hl
 obtain⟨⟨cls2,dd2,data2,sl2⟩,ho2,hc2,n2,hd2⟩:=id hb
 simp only at hc hd hc2 hd2
 subst hc hd hc2 hd2
 exact richCompare_meets_room (op:=.Lt) ⟨_,ho,rfl⟩ ⟨_,ho2,rfl⟩ F.slot_list_lt F.entry_list_lt (F.args_list_lt_2 _ _) (list_lt l b items gQ n n2 dd dd2 sl sl2 k1 k2)
  ⟨ho,ho2,show hV (ltI xs ys)≠Value.notImplemented/\Q (.bool (ltI xs ys)) s from⟨(fun z=>nomatch z),h⟩⟩ hu
def BestOf(f:aa->List Int)(l:List aa):Option aa->Prop
 |none=>l=[]
 |some b=>b∈l/\∀x∈l,ltI (f x) (f b)=false
def twice:Option aa->Array af
 |none=>#[]
 |some b=>#[.ref b,.ref b]
theorem ltI_irrefl:∀l:List Int,ltI l l=false
 |[]=>rfl
 |x :: l=>by rw[ltI,if_pos rfl];exact ltI_irrefl l
theorem NumsAt.keep{h h':aA}{x:aa}{xs:List Int}(k:NumsAt h (.ref x) xs)(hk:∀b o,h.get? b=some o->h'.get? b=some o):NumsAt h' (.ref x) xs:=by
 obtain⟨a,items,e,⟨o,ho,rest⟩,n⟩:=k
 exact⟨a,items,e,⟨o,hk _ _ ho,rest⟩,n⟩
end
section
variable{prog:aU}{w:aM}{A:bD}{R:pG->ah->Prop}{I:aa}{fp wr:List aa}{n:Nat}{P:Nat->af->Prop}{St:Nat->aA->Prop}
theorem min_go(W:Walks prog w A.in1 I fp wr n P St){S:aa}(hSf:S∉fp){h0:aA}(hS0:h0.get? S=none)(hw0:∀b∈wr,h0.get? b=none){f:aa->List Int}{xs:List aa}(hn:xs.length=n)(hpos:0<n)(hP:∀i v,P i v->∃x,v=.ref x/\xs[i]?=some x)(hk0:∀x∈xs,NumsAt h0 (.ref x) (f x))(hu:A.units+1<cLine)(trans:∀{x y z:List Int},ltI y x=false->ltI z y=false->ltI z x=false)(asym:∀{x y:List Int},ltI x y=true->ltI y x=false):∀(k i:Nat) (s:ah) (best:Option aa) (c:Nat),n-i=k->i<=n->St i s.heap->(∀b o,h0.get? b=some o->s.heap.get? b=some o) -> s.heap.get? S=some {cls:=.type "list",dict:=none,data:=.seq (twice best) c,slots:=#[]}->BestOf f (xs.take i) best -> (∀b h' tk,BestOf f xs (some b)->(∀b o,h0.get? b=some o->h'.get? b=some o)->R (.ok (.ret (.ref b))) {s with heap:=h',toks:=tk}) -> codeAny (model prog w) A (.builtin "min.loop" ⟨[.ref I,.none,.ref S],[]⟩) R s:=by
 have hSw:S∉wr:=fun z=>hSf (W.sub _ z)
 have nm:(toString "min" ++ toString ".loop" :String) = "min.loop":=by decide
 intro k
 induction k with
 |zero=>
  intro i s best c hk hi hst k0 hS hB hR
  obtain rfl:i=n:=by omega
  rw[lU (by omega)]at hB
  cases best with
  |none=>rw[show xs=[] from hB]at hn;simp at hn;omega
  |some b=>
   refine js yz ?_
   rw[oJ oC _]
   refine aq (m:=seqItems? (.ref S)) (rA hS rfl (aq (m:=tryCatch (pyNext (.ref I)) _) (uJ (W.done s _ _ hst fun h' tk hk'=>?_))))
   refine aq (m:=updateSeq S (fun _=>#[])) (uK (hz:=(show 2<=sizeLine by decide)) (hk' S _ hSw hS) rfl (aq (rB (aX (hR b _ tk hB fun b' o e=>?_)))))
   exact(iy _ _ (fun z:S=b'=>by rw[<-z,hS0]at e;cases e)).trans (hk' b' o (fun z=>by rw[hw0 b' z]at e;cases e) (k0 b' o e))
 |succ k ih=>
  intro i s best c hk hi hst k0 hS hB hR
  refine js yz ?_
  rw[oJ oC _]
  refine aq (m:=seqItems? (.ref S)) (rA hS rfl (aq (m:=tryCatch (pyNext (.ref I)) _) (uJ (W.item i s _ _ (by omega) hst fun v h' tk hv hst' hk'=>?_))))
  obtain⟨x,rfl,hx⟩:=hP i v hv
  have k1:∀b o,h0.get? b=some o->h'.get? b=some o:=fun b o e=>hk' b o (fun z=>by rw[hw0 b z]at e;cases e) (k0 b o e)
  have hS1:=hk' S _ hSw hS
  have et:xs.take (i+1)=xs.take i++[x]:=by rw[eW,hx];rfl
  have up:∀(h2:aA),(∀b o,h0.get? b=some o->h2.get? b=some o)->∀b h' tk',BestOf f xs (some b)->(∀b o,h0.get? b=some o->h'.get? b=some o)->R (.ok (.ret (.ref b))) {({s with heap:=h2,toks:=tk}:ah)with heap:=h',toks:=tk'}:=fun h2 _ b h' tk' q1 q2=>hR b h' tk' q1 q2
  have k2:∀g:az->az,∀b o,h0.get? b=some o->(h'.update S g).get? b=some o:=fun g b o e=>(iy _ _ (fun z:S=b=>by rw[<-z,hS0]at e;cases e)).trans (k1 b o e)
  have st2:∀g:az->az,St (i+1) (h'.update S g):=fun g=>W.frame _ _ _ hst' fun b hb o e=>(iy _ _ (fun z:S=b=>hSf (z▸hb))).trans e
  cases best with
  |none=>
   refine aq (m:=updateSeq S (fun _=>#[.ref x,.ref x])) (uK hS1 rfl ?_)
   rw[nm]
   refine aX ⟨lO oC _,ih (i+1) _ (some x) _ (by omega) (by omega) (st2 _) (k2 _) (iZ _ hS1 rfl) ?_ (up _ (k2 _))⟩
   rw[et,show xs.take i=[] from hB]
   exact⟨.head _,fun y hy=>by rw[aO.mp hy];exact ltI_irrefl _⟩
  |some b=>
   obtain⟨hb1,hb2⟩:=hB
   refine aq (m:=tryCatch (holding [.ref x,.ref x] (richCompare .Lt (.ref x) (.ref b) >>= _)) _) (uJ (gy (aq (lt_lists (s:={s with heap:=h',toks:=tk}) hu ((hk0 x (cW hx)).keep k1) ((hk0 b (rK hb1)).keep k1) ?_))))
   refine aq (gy (nJ (aq (rB (aX ?_)))))
   cases aR:ltI (f x) (f b)with
   |true=>
    simp only[if_true]
    refine aq (m:=updateSeq S (fun _=>#[.ref x,.ref x])) (uK (hz:=(show 2<=sizeLine by decide)) hS1 rfl (aq (rB ?_)))
    rw[nm]
    refine aX ⟨lO oC _,ih (i+1) _ (some x) _ (by omega) (by omega) (st2 _) (k2 _) (iZ _ hS1 rfl) ?_ (up _ (k2 _))⟩
    rw[et]
    refine⟨fP _ (.head _),fun y hy=>?_⟩
    rcases cQ.mp hy with z|z
    ·exact trans (asym aR) (hb2 y z)
    ·rw[aO.mp z];exact ltI_irrefl _
   |false=>
    simp only[dH,if_false]
    refine aq (rB ?_)
    rw[nm]
    refine aX ⟨lO oC _,ih (i+1) _ (some b) _ (by omega) (by omega) hst' k1 hS1 ?_ (up _ k1)⟩
    rw[et]
    refine⟨dZ _ hb1,fun y hy=>?_⟩
    rcases cQ.mp hy with z|z
    ·exact hb2 y z
    ·rw[aO.mp z];exact aR
end
section
variable{prog:aU}{w:aM}{A:bD}{E:af->ah->Prop}{s:ah}
theorem min_lists{l:aa}{xs:List aa}{f:aa->List Int}{Q:af->ah->Prop}(hh:A.handled=none)(hu:A.units+4<cLine)(hl:s.heap.IsList l (xs.map bO).toArray)(hx:∀x∈xs,NumsAt s.heap (.ref x) (f x))(hpos:0<xs.length)(trans:∀{x y z:List Int},ltI y x=false->ltI z y=false->ltI z x=false)(asym:∀{x y:List Int},ltI x y=true->ltI y x=false)(h:∀b h' tk,BestOf f xs (some b)->(∀b o,s.heap.get? b=some o->h'.get? b=some o)->Q (.ref b) {s with heap:=h',toks:=tk}) :wpAny (model prog w) A (call (.builtin "min") [.ref l]) Q E s:=by
 have nm:(toString "min" ++ toString ".loop" :String) = "min.loop":=by decide
 have none_at:∀b,s.heap.objs.size<=b->s.heap.get? b=none:=fun b hb=>by
  cases e:s.heap.get? b with
  |none=>rfl
  |some o=>exact absurd (cy e) (pV.mpr hb)
 have llt:l<s.heap.objs.size:=by obtain⟨o,ho,_⟩:=hl;exact cy ho
 refine call_function_tree F.kind_min F.plain_min F.entry_min (F.args_min1 _) ?_
 refine aq (m:=zo "min" ["key","default"] 0 ⟨[],[]⟩) (uF (show zo "min" ["key","default"] 0 ⟨[],[]⟩=pure [none,none] from rfl) (aq (aX (aq (kx hl ?_)))))
 refine aq (pI ?_)
 rw[nm]
 have sz:(s.heap.push {cls:=.type "list_iterator",data:=.fields #[.ref l,.int 0 0]}).objs.size=s.heap.objs.size+1:=gg _ _
 refine aX ⟨lO oC _,min_go (wj (by simp[hh]) s.heap.objs.size l (dR llt) (xs.map bO).toArray) ?hSf (h0:=s.heap) ?hS0 ?hw0 (f:=f) (xs:=xs) ?hn ?hpos ?hP hx ?hu trans asym _ 0 _ none _ rfl (de _) ?st ?k0 (df _ rfl) rfl ?R⟩
 case hSf=>
  show(s.heap.push _).objs.size∉_
  rw[sz]
  simp only[aZ,dC,or_false,not_or]
  exact⟨oj (pT _),oj (oo llt)⟩
 case hS0=>
  show s.heap.get? (s.heap.push _).objs.size=none
  rw[sz]
  exact none_at _ (vw _)
 case hw0=>
  intro b hb
  rw[aO.mp hb]
  exact none_at _ (aI _)
 case hn=>simp
 case hpos=>simpa using hpos
 case hP=>
  intro i v hv
  rw[uX,bH]at hv
  cases e:xs[i]? with
  |none=>rw[e]at hv;cases hv
  |some x=>rw[e]at hv;exact⟨x,(cC hv).symm,rfl⟩
 case hu=>
  show A.units+1<cLine
  omega
 case st=>exact⟨⟨_,cD _ (df _ rfl),rfl,rfl⟩,(hl.push _).push _⟩
 case k0=>exact fun b o e=>cD _ (cD _ e)
 case R=>exact fun b h' tk hB hk=>h b h' tk hB hk
end
end Gw
namespace L2
open PySem PySem.Spec PyProof.Rows Gw
theorem nums_ofW{us:List af}{ns:List Int}(h:gM us ns):Nums us ns:=by
 induction h with
 |nil=>exact .nil
 |cons n t _ ih=>exact .cons ih
theorem items_ofW{P:aU}{w:aM}{us:List af}{ns:List Int}(h:gM us ns):ItemsAre (PySem.intKind P w) ns us:=by
 induction h with
 |nil=>exact .nil
 |cons n t _ ih=>exact .cons (intKind_is _ _ _ _) ih
theorem count_U{ai:List af}{ns:List Int}{k:Int}(h:gM ai ns):ai.countP (eqU (.int k))=ns.countP fun z=>z==k:=by
 induction h with
 |nil=>rfl
 |cons n t _ ih=>rw[vk,vk,ih];rfl
section
variable{X:Cx}
def rMinL(K:ay):List V->Hp->VK->Prop:=fun vs H Q=>∃(a:aa) (rs:List aa) (f:aa->List Int),vs=[V.ref a]/\ao K H a (rs.map V.ref)/\(∀r∈rs,H r=some (.lst ((f r).map V.int)))/\0<rs.length /\
 ∀b,BestOf f rs (some b)->Q (.ref b) H
theorem cr_minL(hc:X.calm=true)(hu:X.A.units+4<cLine):gR X (.builtin "min") (rMinL X.K):=by
 intro pins s σ H vs us Q I r h
 obtain⟨a,rs,f,rfl,hs,hf,hpos,q⟩:=h
 obtain⟨ai,rv,hl,hz⟩:=I.list hs
 have ei:=vals_refs rv
 rw[Vals.ref1 r]
 have hl':=hl.isList
 rw[ei]at hl'
 refine min_lists (f:=f) (I.ok.hd hc) hu hl' (fun r hr=>?_) hpos (fun h1 h2=>ltI_trans h1 h2) (fun h1=>ltI_asym h1) fun b h' tk hB hk=>⟨.ref b,H,I.kept hk,rfl,q b hB⟩
 obtain⟨_,it2,n,rv2,hob⟩:=I.aG r _ (hf r hr)
 exact⟨r,it2.toArray,rfl,⟨_,hob,rfl,n,rfl⟩,nums_ofW rv2.ints⟩
def SetN(a:aa)(n:Nat)(h:aA):Prop:=∃(o:az) (es:Array (Int×af)) (ep:Nat) (t:iU),h.get? a=some o/\o.ExactSet/\o.data=.set es ep t/\t.fits es.size=true/\es.size=n/\n<=9000
def rSetT(K:ay):List V->Hp->VK->Prop:=fun vs H Q=>∃(a:aa) (rs:List aa) (f:aa->List Int),vs=[V.ref a]/\ao K H a (rs.map V.ref)/\(∀r∈rs,H r=some (.tup ((f r).map V.int)))/\rs.length<=9000 /\
 ∀(l:aa) (zs:List (List Int)),zs.Nodup->(∀z,z∈zs↔∃r∈rs,f r=z)->H l=none->Q (.ref l) (upd H l (.ext (SetN l zs.length)))
theorem cr_setT(hc:X.calm=true)(hu:X.A.units+8<cLine):gR X (.type "set") (rSetT X.K):=by
 intro pins s σ H vs us Q I r h
 obtain⟨a,rs,f,rfl,hs,hf,hn,q⟩:=h
 obtain⟨ai,rv,hl,hz⟩:=I.list hs
 have ei:=vals_refs rv
 rw[Vals.ref1 r]
 have hl':=hl.isList
 rw[ei]at hl'
 refine set_call (prog:=X.prog) (w:=X.w) (f:=f) (I.ok.hd hc) hu hl' (fun r hr=>?_) hn fun h' tk S hk=>?_
 ·obtain⟨_,it2,rv2,hob⟩:=I.aG r _ (hf r hr)
  obtain⟨o,h1,h2,n,h3⟩:=hob
  exact⟨o,it2.toArray,n,h1,h2,h3,items_ofW rv2.ints⟩
 ·obtain⟨o,es,ep,t,Z,ho,hex,hd,T,he,hfl,pm⟩:=S.ex
  have hl9:=ysOf_len f rs
  have zl:Z.length=(ff f rs).length:=by have:=pm.length_eq;rwa[aP,aP]at this
  have es1:es.size=(ff f rs).length:=by rw[<-i5,he,aP,zl]
  have hfr:H s.heap.objs.size=none:=I.aG.fresh (aI _)
  have hq:=q s.heap.objs.size ((ff f rs).map fun y=>y.1) S.nd (fun z=>ysOf_mem.2 z) hfr
  rw[aP]at hq
  refine⟨.ref s.heap.objs.size,_,I.laid (o:=.ext (SetN s.heap.objs.size (ff f rs).length)) (t':=tk) hk (aI _) ⟨⟨o,es,ep,t,ho,hex,hd,T.fits he hfl,es1,by omega⟩,⟨o,ho⟩,fun h1 h2 ⟨o,es,ep,t,q1,q2⟩ k=>⟨o,es,ep,t,k o q1,q2⟩⟩,rfl,hq⟩
theorem cr_lenN:gR X (.builtin "len") (fun xs H Q=>∃a n,xs=[V.ref a]/\H a=some (.ext (SetN a n))/\Q (.int n) H):=by
 intro pins s σ H xs us Q I r h
 obtain⟨a,n,rfl,ha,q⟩:=h
 obtain⟨u,rfl,ru⟩:=vals1 r
 cases ru
 obtain⟨⟨o,es,ep,t,ho,hex,hd,hf,hn,h9⟩,_⟩:=I.aG a _ ha
 subst hn
 refine call_len_set ho hex hd hf (by omega) ?_
 exact⟨.int es.size,H,I.tok _,⟨_,rfl⟩,q⟩
def rCountI(K:ay):V->List V->Hp->VK->Prop:=fun x xs H Q=>∃(a:aa) (ns:List Int) (k:Int),x=V.ref a/\xs=[.int k]/\ao K H a (ns.map V.int)/\Q (.int ((ns.countP fun z=>z==k:Nat):Int)) H
theorem mt_countI:MtR X "list.count" (rCountI X.K):=by
 intro pins s σ H x xs v us Q I rx rxs h
 obtain⟨a,ns,k,rfl,rfl,hs,q⟩:=h
 cases rx
 cases rxs with
 |cons ry rt=>
  rename_i uy ut
  cases rt
  obtain⟨ai,rv,⟨⟨cls,dd,data,sl⟩,n,ho,hc,hdn,hd⟩,hlen⟩:=I.list hs
  simp only at hc hd
  subst hc hd
  have fys:(ns.map V.int).all gn=true:=by
   rw[cB]
   intro y hy
   obtain⟨z,_,rfl⟩:=bc.mp hy
   rfl
  refine lN yA ⟨_,ho,rfl⟩ PySem.F.entry_list_count (PySem.F.args_list_count_2 _ _) (SeqAt.list_countAt a ai.toArray n dd sl uy (eqU (.int k))) ⟨ho,fun u' hu'=>pB ry rfl rv fys u' (by simpa using hu'),?_⟩
  have e:=count_U (k:=k) rv.ints
  refine⟨.int _,H,I.tok _,⟨_,rfl⟩,?_⟩
  rw[show ai.toArray.toList=ai from rfl,e]
  exact q
end
theorem for_vals{d:aa}{o:az}{kvs:List (Key×V)}{g:TG}{tb:TS}{D:Ends}{σ:St}{H:Hp}(Pv:Nat->St->Hp->Prop)(h0:Pv 0 σ H)(hl:∀i σ H,i<=kvs.length->Pv i σ H->H d=some (.bM o (.dK kvs)))(hs:∀i k v σ H,kvs[i]?=some (k,v)->Pv i σ H->g v σ H fun σ2 H2=>tb {D with nx:=Pv (i+1),ct:=Pv (i+1),bk:=D.nx} σ2 H2)(hd:∀σ H,Pv kvs.length σ H->D.nx σ H):∃W:Nat->Nat->St->Hp->Prop,(∃m,W 0 m σ H)/\∀i m σ H,W i m σ H -> ((Itd d o kvs).stop i H/\D.nx σ H)\/((Itd d o kvs).go i H/\∃N:St->Hp->Prop,(∀σ' H',N σ' H'->∃m',m'<m/\W (i+1) m' σ' H')/\∀x H',(Itd d o kvs).yld i H x H'->g x σ H' fun σ2 H2=>tb {D with nx:=N,ct:=N,bk:=D.nx} σ2 H2):=by
 refine⟨fun i m σ H=>m=kvs.length-i/\i<=kvs.length/\Pv i σ H,⟨kvs.length,by simp,de _,h0⟩,?_⟩
 rintro i m σ H ⟨rfl,hi,p⟩
 have q:=hl i σ H hi p
 by_cases aR:i<kvs.length
 ·refine .inr ⟨⟨q,aR⟩,Pv (i+1),fun σ' H' p'=>⟨kvs.length-(i+1),by omega,rfl,aR,p'⟩,fun x H' y=>?_⟩
  obtain⟨rfl,k,e⟩:=y
  exact hs i k x σ _ e p
 ·have e:i=kvs.length:=by omega
  subst e
  exact .inl ⟨⟨q,aI _⟩,hd σ H p⟩
end L2
namespace Gw
open Sa54
structure Sub (u v:Table) (k m:Nat) (L:List Nat):Prop where
 len:L.length=m
 nd:L.Nodup
 st:∀j a,j<2*k->a<m->cell v j a<m/\cell u j (L.getD a 0)=L.getD (cell v j a) 0
theorem Cl.sub{u:Table}{k n m:Nat}{L:List Nat}(ht:isTable k n u=true)(M:Cl u k n m L):Sub u (cP u k m L) k m L:=
 ⟨M.len,M.nd,fun j a hj ha=>by
  rw[lD ht M hj ha]
  exact⟨M.idx_lt (M.cl j a hj ha),(gF (M.cl j a hj ha)).symm⟩⟩
section
variable{u v:Table}{k m:Nat}{L:List Nat}(S:Sub u v k m L)
include S in
theorem Sub.inj{a b:Nat}(ha:a<m)(hb:b<m)(e:L.getD a 0=L.getD b 0):a=b:=by
 have h1:=iP S.nd (a:=a) (by rw[S.len];exact ha)
 rw[e,iP S.nd (by rw[S.len];exact hb)]at h1
 exact h1.symm
include S in
theorem Sub.mem{a:Nat}(ha:a<m):L.getD a 0∈L:=fh (by rw[S.len];exact ha)
include S in
theorem Sub.mem_map{l:List Nat}(hl:∀x∈l,x<m){q:Nat}(hq:q<m):L.getD q 0∈l.map (fun a=>L.getD a 0)↔q∈l:=by
 rw[bc]
 exact⟨fun⟨x,hx,e⟩=>S.inj (hl x hx) hq e▸hx,fun h=>⟨q,h,rfl⟩⟩
theorem getD_map{f:Nat->Nat}{l:List Nat}{i:Nat}(h:i<l.length):(l.map f).getD i 0=f (l.getD i 0):=by
 rw[bT,bT,bH,aH h]
 rfl
include S in
theorem Sub.scan{p:Nat}(hk:0<k)(hp:p<m):∀c,(∀d,d<c->d/(2*k)<(aJ v k p d).length) ->
  (∀x∈aJ v k p c,x<m)/\aJ u k (L.getD p 0) c=(aJ v k p c).map fun a=>L.getD a 0
 | 0,_=>⟨fun x hx=>by rw[aO.mp hx];exact hp,rfl⟩
 |c+1,h=>by
  obtain⟨h1,h2⟩:=Sub.scan hk hp c fun d hd=>h d (by omega)
  have hi:=h c (by omega)
  have hj:c%(2*k)<2*k:=gK _ (by omega)
  obtain⟨g1,g2⟩:=S.st _ _ hj (h1 _ (fh hi))
  simp only[aJ]
  rw[h2,getD_map hi,g2]
  have z:=S.mem_map h1 g1
  by_cases e:cell v (c%(2*k)) ((aJ v k p c).getD (c/(2*k)) 0)∈aJ v k p c
  ·rw[if_pos (z.mpr e),if_pos e]
   exact⟨h1,rfl⟩
  ·rw[if_neg (fun y=>e (z.mp y)),if_neg e,dD]
   refine⟨fun x hx=>?_,rfl⟩
   rcases cQ.mp hx with y|y
   ·exact h1 x y
   ·rw[aO.mp y];exact g1
theorem Met.in_range{u:Table}{k n p m:Nat}{L:List Nat}(M:Met u k n p m L){c:Nat}(hc:c<2*k*m):c/(2*k)<(aJ u k p c).length:=
 du (M.on _ (kO hc)) (scan_len u k p (by have:=vC c (2*k);rw[gI]at this;exact this))
include S in
theorem Sub.met{n p m1:Nat}{L1:List Nat}(hk:0<k)(hp:p<m)(hL:∀x∈L,x<n)(M:Met v k m p m1 L1):Met u k n (L.getD p 0) m1 (L1.map fun a=>L.getD a 0):=by
 have sc:∀c,c<=2*k*m1->aJ u k (L.getD p 0) c=(aJ v k p c).map fun a=>L.getD a 0:=fun c hc=>(S.scan hk hp c fun d hd=>M.in_range (by omega)).2
 refine⟨⟨by rw[aP,M.len],fun x hx=>?_,?_,fun j a hj ha=>?_⟩,M.m1,?_,?_,?_,fun i hi=>?_⟩
 ·obtain⟨a,ha,rfl⟩:=bc.mp hx
  exact hL _ (S.mem (M.lt a ha))
 ·exact gZ.mpr (jB (fun{a b} ha hb ba e=>ba (S.inj (M.lt a ha) (M.lt b hb) e)) M.nd)
 ·have hal:a<L1.length:=by rw[M.len];exact ha
  rw[getD_map hal,(S.st j _ hj (M.get_lt ha)).2]
  exact bc.mpr ⟨_,M.cl j a hj ha,rfl⟩
 ·have h1:=M.mn
  have h2:=nodup_le S.nd (l2:=aT n) fun x hx=>bt.mpr (hL x hx)
  rw[S.len,fH]at h2
  omega
 ·rw[getD_map (by rw[M.len];exact M.m1),M.zero]
 ·rw[sc _ (aI _),<-M.scan]
 ·rw[sc _ (hJ _ (gH hi)),aP]
  exact M.on i hi
include S in
theorem Sub.mv{l:Letter}(hl:l.1<k){a:Nat}(ha:a<m):moveBy v l a<m/\moveBy u l (L.getD a 0)=L.getD (moveBy v l a) 0:=by
 have hj:ixL l<2*k:=by unfold ixL;split<;>omega
 have z:=S.st _ _ hj ha
 unfold cell at z
 rw[letr_ixL]at z
 exact z
include S in
theorem Sub.move:∀{w:Word},bA k w->∀{a:Nat},a<m->lZ v w a<m/\lZ u w (L.getD a 0)=L.getD (lZ v w a) 0
 |[],_,a,ha=>⟨ha,rfl⟩
 |l :: r,hw,a,ha=>by
  obtain⟨h1,h2⟩:=S.mv (hw l (b9 ..)) ha
  obtain⟨h3,h4⟩:=Sub.move (w:=r) (fun x hx=>hw x (cb _ hx)) h1
  show lZ v r (moveBy v l a)<m/\lZ u r (moveBy u l (L.getD a 0))=L.getD (lZ v r (moveBy v l a)) 0
  rw[h2]
  exact⟨h3,h4⟩
end
theorem Sub.still{u v:Table}{k m n:Nat}{L:List Nat}(S:Sub u v k m L)(hL:∀x∈L,x<n){w:Word}(hw:bA k w)(h:l0 u n w=true):l0 v m w=true:=by
 unfold l0 at h ⊢
 rw[cB]at h ⊢
 intro a ha
 have ha:=bt.mp ha
 have h1:=h (L.getD a 0) (bt.mpr (hL _ (S.mem ha)))
 have h1:lZ u w (L.getD a 0)=L.getD a 0:=by simpa using h1
 obtain⟨h2,h3⟩:=S.move hw ha
 rw[h1]at h3
 simp[S.inj h2 ha h3.symm]
theorem Met.within{u:Table}{k n p m:Nat}{L:List Nat}(hk:0<k)(M:Met u k n p m L){P:Nat->Prop}(hp:P p)(h:∀j x,j<2*k->x<n->P x->P (cell u j x)):∀x∈L,P x:=by
 have key:∀c,c<=2*k*m->∀x∈aJ u k p c,x<n/\P x:=by
  intro c
  induction c with
  |zero=>intro _ x hx;rw[aO.mp hx];exact⟨by have:=M.lt _ (fh (by rw[M.len];exact M.m1):L.getD 0 0∈L);rwa[M.zero]at this,hp⟩
  |succ c ih=>
   intro hc x hx
   have ih:=ih (by omega)
   obtain⟨t,et⟩:=lJ u k p hc
   have hxn:x<n:=M.lt x (by rw[M.scan,et];exact dZ _ hx)
   have hi:=M.in_range (show c<2*k*m from hc)
   have z:=ih _ (fh hi)
   simp only[aJ]at hx
   split at hx
   ·exact ih x hx
   ·rcases cQ.mp hx with y|y
    ·exact ih x y
    ·rw[aO.mp y]at hxn ⊢
     exact⟨hxn,h _ _ (gK _ (by omega)) z.1 z.2⟩
 intro x hx
 rw[M.scan]at hx
 exact(key _ (aI _) x hx).2
theorem Cl.out{u:Table}{k n m:Nat}{L:List Nat}(ht:isTable k n u=true)(M:Cl u k n m L){j x:Nat}(hj:j<2*k)(hx:x<n)(h:x∉L):cell u j x∉L:=fun z=>by
 have e:=M.cl (bar j) (L.idxOf (cell u j x)) (bar_lt hj) (M.idx_lt z)
 rw[gF z,kh ht hj hx]at e
 exact h e
theorem met_all{u:Table}{k n p m:Nat}{L:List Nat}(ht:isTable k n u=true)(hk:0<k)(M0:Met u k n 0 n (aT n))(M:Met u k n p m L)(hp:p<n):m=n:=by
 have hpL:p∈L:=by rw[<-M.zero];exact fh (by rw[M.len];exact M.m1)
 have h0:0∈L:=fX fun z=>
  M0.within hk (P:=fun x=>x∉L) z (fun j x hj hx h=>M.toCl.out ht hj hx h) p (bt.mpr hp) hpL
 have h1:=M0.within hk (P:=fun x=>x∈L) h0 fun j x hj hx h=>by
  have e:=M.cl j (L.idxOf x) hj (M.idx_lt h)
  rwa[gF h]at e
 have h2:=nodup_le (l1:=aT n) jx h1
 rw[fH,M.len]at h2
 have:=M.mn
 omega
theorem reT_range{u:Table}{k n:Nat}(ht:isTable k n u=true)(M:Met u k n 0 n (aT n)):cP u k n (aT n)=u:=by
 refine nk (ic ht M.toCl) ht fun i p hi hp=>?_
 rw[lD ht M.toCl (by omega) hp,range_get hp,range_idx (jn ht (by omega) hp)]
theorem ord_met{u:Table}{k n:Nat}(ht:isTable k n u=true)(hk:0<k)(hn:1<=n)(ho:InOrd u k n):Met u k n 0 n (aT n):=by
 obtain⟨m,L,M⟩:=met_ex ht hk (p0:=0) hn
 have z:=(ordered_iff ht hk hn).mpr ho
 rw[gh]at z
 have e:met u n 0=aT n:=by have:=z.2;unfold inOrder at this;simpa using this
 rw[met_is ht hk M]at e
 have hm:m=n:=by rw[<-M.len,e,fH]
 subst hm
 subst e
 exact M
theorem from_met{u:Table}{k n p:Nat}(ht:isTable k n u=true)(hk:0<k)(hn:1<=n)(ho:InOrd u k n)(hp:p<n):∃L,Met u k n p n L:=by
 obtain⟨m,L,M⟩:=met_ex ht hk hp
 have e:=met_all ht hk (ord_met ht hk hn ho) M hp
 subst e
 exact⟨L,M⟩
theorem row_cell{u:Table}{i:Nat}{r:List Nat}(h:u[i]?=some r)(x:Nat):cell u (2*i) x=r.getD x 0:=by
 unfold cell moveBy fe
 rw[show 2*i/2=i by omega,show 2*i%2=0 by omega]
 simp only[bT,h]
 rfl
theorem same_is{u:Table}{k n p:Nat}{L:List Nat}(ht:isTable k n u=true)(hk:0<k)(M:Met u k n p n L):sameFrom u n p=cP u k n L:=by
 unfold sameFrom cP
 rw[met_is ht hk M]
 refine iV fun i=>?_
 rw[bH,bH]
 have hl:=(ib ht).1
 by_cases hi:i<k
 ·have hu:i<u.length:=by omega
  rw[fI hi,aH hu]
  simp only[i6,row_cell (aH hu)]
 ·rw[d3 (by omega),d3 (by simpa using hi)]
  rfl
theorem flatten_inj{n:Nat}:∀{u v:Table},u.length=v.length->(∀r∈u,r.length=n)->(∀r∈v,r.length=n)->u.flatten=v.flatten->u=v
 |[],[],_,_,_,_=>rfl
 |[],_ :: _,h,_,_,_=>by cases h
 |_ :: _,[],h,_,_,_=>by cases h
 |r :: u,s :: v,h,h1,h2,e=>by
  rw[jv,jv]at e
  obtain⟨e1,e2⟩:=List.append_inj e ((h1 r (.head _)).trans (h2 s (.head _)).symm)
  rw[e1,flatten_inj (by simpa using h) (fun r hr=>h1 r (.tail _ hr)) (fun r hr=>h2 r (.tail _ hr)) e2]
theorem nums_inj{k n:Nat}{u v:Table}(hu:isTable k n u=true)(hv:isTable k n v=true)(e:nums u=nums v):u=v:=by
 obtain⟨u1,u2⟩:=ib hu
 obtain⟨v1,v2⟩:=ib hv
 refine flatten_inj (u1.trans v1.symm) (fun r hr=>(u2 r hr).1) (fun r hr=>(v2 r hr).1) ?_
 have z:=congrArg (List.map kX) e
 unfold nums fv at z
 rw[fG,fG,show kX∘Int.ofNat=id from rfl,kL,kL]at z
 exact z
section
variable{g:Group}{n:Nat}{ts:List Word}(hk:0<g.letters.length)(hn:1<=n)(hw:∀w∈g.nothing,bA g.letters.length w)(cH:∀u m,isTable g.letters.length m u=true->m<=n->ts.all (still u m)=g.nothing.all (still u m))
include hk hn hw cH in
theorem same_sol{t:Table}{p:Nat}(S:Sol ts g.letters.length n t n)(hp:p<n):∃L,Met t g.letters.length n p n L/\sameFrom t n p=cP t g.letters.length n L/\Sol ts g.letters.length n (sameFrom t n p) n:=by
 obtain⟨L,M⟩:=from_met S.tb hk hn S.ord hp
 have e:=same_is S.tb hk M
 refine⟨L,M,e,?_⟩
 rw[e]
 refine⟨ic S.tb M.toCl,hn,aI _,reT_ord S.tb hk M,?_⟩
 have st:=S.st
 rw[cH t n S.tb (aI _),cB]at st
 rw[cH _ n (ic S.tb M.toCl) (aI _),cB]
 intro w hwm
 exact(M.toCl.sub S.tb).still M.lt (hw w hwm) (st w hwm)
include hk hn in
theorem same_zero{t:Table}(S:Sol ts g.letters.length n t n):sameFrom t n 0=t:=by
 have M:=ord_met S.tb hk hn S.ord
 rw[same_is S.tb hk M,reT_range S.tb M]
include hk hn hw cH in
theorem same_same{t:Table}{p q:Nat}(S:Sol ts g.letters.length n t n)(hp:p<n)(hq:q<n):∃r,r<n/\sameFrom (sameFrom t n p) n q=sameFrom t n r:=by
 obtain⟨L,M,e,S2⟩:=same_sol hk hn hw cH S hp
 obtain⟨L2,M2,e2,_⟩:=same_sol hk hn hw cH S2 hq
 have Sb:=M.toCl.sub S.tb
 rw[<-e]at Sb
 have M3:=Sb.met hk hq M.lt M2
 have hr:L.getD q 0<n:=M.get_lt hq
 refine⟨L.getD q 0,hr,?_⟩
 rw[e2,same_is S.tb hk M3]
 refine nk (ic S2.tb M2.toCl) (ic S.tb M3.toCl) fun i a hi ha=>?_
 rw[lD S2.tb M2.toCl (by omega) ha,lD S.tb M3.toCl (by omega) ha,getD_map (by rw[M2.len];exact ha)]
 have h1:=M2.get_lt ha
 obtain⟨h2,h3⟩:=Sb.st (2*i) _ (by omega) h1
 rw[h3]
 have hm:=M2.cl (2*i) a (by omega) ha
 have b7:=M2.idx_lt hm
 have z:=iP M3.nd (a:=L2.idxOf (cell (sameFrom t n p) (2*i) (L2.getD a 0))) (by rw[M3.len];exact b7)
 rw[getD_map (by rw[M2.len];exact b7),gF hm]at z
 exact z.symm
include hk hn hw cH in
theorem classes_due{lst:Table->List Int}(h1:∀t,Sol ts g.letters.length n t n->∃p,p<n/\lst t=nums (sameFrom t n p))(h2:∀t,Sol ts g.letters.length n t n->∀p,p<n->ltI (nums (sameFrom t n p)) (lst t)=false){zs:List (List Int)}(nd:zs.Nodup)(hz:∀z,z∈zs↔∃t,Sol ts g.letters.length n t n/\z=lst t):zs.length=(classes g n).length:=by
 have lf:∀{a b},Sol ts g.letters.length n a n->Sol ts g.letters.length n b n->before a.flatten b.flatten=ltI (nums a) (nums b):=fun Sa Sb=>before_is ((flat_len Sa.tb).trans (flat_len Sb.tb).symm)
 have mall:=mem_all hk hn cH
 have mcl:∀c,c∈classes g n↔Sol ts g.letters.length n c n/\∀q,q<n->ltI (nums (sameFrom c n q)) (nums c)=false:=by
  intro c
  unfold classes
  rw[f7,mall,cB]
  refine and_congr_right fun S=>⟨fun h q hq=>?_,fun h u hu=>?_⟩
  ·obtain⟨_,_,_,S2⟩:=same_sol hk hn hw cH S hq
   have z:=h _ ((mall _).mpr S2)
   have ha:alike c (sameFrom c n q) n=true:=lV.mpr ⟨q,bt.mpr hq,by simp⟩
   rw[ha,lf S2 S]at z
   simpa using z
  ·cases ha:alike c u n with
   |false=>rfl
   |true=>
    obtain⟨q,hq,e⟩:=lV.mp ha
    have e:sameFrom c n q=u:=by simpa using e
    have z:=h q (bt.mp hq)
    rw[e,<-lf ((mall u).mp hu) S]at z
    simp[z]
 have ndc:((classes g n).map nums).Nodup:=by
  have na:(all g n).Nodup:=(vh _ _).nodup_iff.mpr (oG _ (qH n _))
  refine gZ.mpr (jB (fun{a b} ha hb ba e=>ba ?_) (oG _ na))
  exact nums_inj ((mcl a).mp ha).1.tb ((mcl b).mp hb).1.tb e
 have pm:zs.Perm ((classes g n).map nums):=by
  refine(pS nd ndc).mpr fun z=>?_
  rw[hz,bc]
  constructor
  ·rintro⟨t,S,rfl⟩
   obtain⟨p,hp,e⟩:=h1 t S
   obtain⟨_,_,_,S2⟩:=same_sol hk hn hw cH S hp
   refine⟨sameFrom t n p,(mcl _).mpr ⟨S2,fun q hq=>?_⟩,e.symm⟩
   obtain⟨r,hr,er⟩:=same_same hk hn hw cH S hp hq
   rw[er,<-e]
   exact h2 t S r hr
  ·rintro⟨c,hc,rfl⟩
   obtain⟨S,hm⟩:=(mcl c).mp hc
   obtain⟨p,hp,e⟩:=h1 c S
   have z:=h2 c S 0 hn
   rw[same_zero hk hn S]at z
   refine⟨c,S,ltI_anti z ?_⟩
   rw[e]
   exact hm p hp
 rw[pm.length_eq,aP]
end
def rest(t:Nat)(L:List Nat):List Nat:=(aT t).filter fun x=>decide (x∉L)
theorem gV{t:Nat}{L:List Nat}{x:Nat}:x∈rest t L↔x<t/\x∉L:=by
 unfold rest
 rw[f7,bt,decide_eq_true_eq]
theorem rest_nodup(t:Nat)(L:List Nat):(rest t L).Nodup:=oG _ jx
theorem rest_len{t:Nat}{L:List Nat}(nd:L.Nodup)(lt:∀x∈L,x<t):(rest t L).length=t-L.length:=by
 have pm:(L++rest t L).Perm (aT t):=by
  refine(pS ?_ jx).mpr fun x=>?_
  ·refine ir.mpr ⟨nd,rest_nodup t L,fun a ha b hb e=>?_⟩
   exact(gV.mp hb).2 (e▸ha)
  ·rw[cQ,gV,bt]
   constructor
   ·rintro(h|h)
    ·exact lt x h
    ·exact h.1
   ·intro h
    by_cases z:x∈L
    ·exact .inl z
    ·exact .inr ⟨h,z⟩
 have:=pm.length_eq
 rw[cx,fH]at this
 omega
def mkT(k t:Nat)(f:Nat->Nat->Nat):Table:=(aT k).map fun i=>(aT t).map (f (2*i))
theorem mkT_is{k t:Nat}{f:Nat->Nat->Nat}(h:∀j x,j<2*k->x<t->f j x<t/\f (bar j) (f j x)=x):isTable k t (mkT k t f)=true/\∀j x,j<2*k->x<t->cell (mkT k t f) j x=f j x:=by
 have er:∀i,i<k->(mkT k t f)[i]?=some ((aT t).map (f (2*i))):=fun i hi=>by
  unfold mkT
  rw[bH,fI hi]
  rfl
 have b1:∀i,bar (2*i+1)=2*i:=fun i=>by unfold bar;split<;>omega
 have ht:isTable k t (mkT k t f)=true:=by
  rw[gv]
  refine⟨by unfold mkT;simp,fun r hr=>?_⟩
  obtain⟨i,hi,rfl⟩:=bc.mp hr
  have hi:=bt.mp hi
  refine row_perm (by simp) fun p hp=>?_
  obtain⟨z1,z2⟩:=h (2*i+1) p (by omega) hp
  rw[b1]at z2
  exact bc.mpr ⟨_,bt.mpr z1,z2⟩
 have even:∀i x,i<k->x<t->cell (mkT k t f) (2*i) x=f (2*i) x:=fun i x hi hx=>by
  rw[row_cell (er i hi),bT,bH,fI hx]
  rfl
 refine⟨ht,fun j x hj hx=>?_⟩
 by_cases e:j%2=0
 ·have ej:j=2*(j/2):=by omega
  rw[ej]
  exact even _ _ (by omega) hx
 ·have ej:j=2*(j/2)+1:=by omega
  obtain⟨z1,z2⟩:=h j x hj hx
  have eb:bar j=2*(j/2):=by rw[ej,b1];omega
  rw[eb]at z2
  have c1:=even (j/2) (f j x) (by omega) z1
  rw[z2]at c1
  have c2:=kh ht (j:=2*(j/2)) (by omega) z1
  rw[c1,<-eb,bar_bar]at c2
  exact c2
def beside(t:Nat)(L:List Nat)(v w:Table)(j x:Nat):Nat:=
 if x∈L then L.getD (cell v j (L.idxOf x)) 0 else(rest t L).getD (cell w j ((rest t L).idxOf x)) 0
def glue(k t:Nat)(L:List Nat)(v w:Table):Table:=mkT k t (beside t L v w)
section
variable{k t m:Nat}{L:List Nat}{v w:Table}(nd:L.Nodup)(lt:∀x∈L,x<t)(hm:L.length=m)(hv:isTable k m v=true)(hw:isTable k (t-m) w=true)
include nd lt hm hv hw in
theorem glue_is:isTable k t (glue k t L v w)=true/\Sub (glue k t L v w) v k m L/\Sub (glue k t L v w) w k (t-m) (rest t L):=by
 have rl:(rest t L).length=t-m:=by rw[rest_len nd lt,hm]
 have rn:=rest_nodup t L
 have bL:∀j a,a<m->beside t L v w j (L.getD a 0)=L.getD (cell v j a) 0:=fun j a ha=>by
  unfold beside
  rw[if_pos (fh (by rw[hm];exact ha)),iP nd (by rw[hm];exact ha)]
 have bR:∀j a,a<t-m->beside t L v w j ((rest t L).getD a 0)=(rest t L).getD (cell w j a) 0:=fun j a ha=>by
  have z:=gV.mp (fh (show a<(rest t L).length by rw[rl];exact ha))
  unfold beside
  rw[if_neg z.2,iP rn (by rw[rl];exact ha)]
 have key:=mkT_is (k:=k) (t:=t) (f:=beside t L v w) fun j x hj hx=>by
  by_cases z:x∈L
  ·have hi:L.idxOf x<m:=by rw[<-hm];exact iq.mpr z
   have e:=gF z
   have h1:=bL j _ hi
   rw[e]at h1
   have h2:=jn hv hj hi
   rw[h1,bL _ _ h2,kh hv hj hi,e]
   exact⟨lt _ (fh (by rw[hm];exact h2)),rfl⟩
  ·have z:x∈rest t L:=gV.mpr ⟨hx,z⟩
   have hi:(rest t L).idxOf x<t-m:=by rw[<-rl];exact iq.mpr z
   have e:=gF z
   have h1:=bR j _ hi
   rw[e]at h1
   have h2:=jn hw hj hi
   rw[h1,bR _ _ h2,kh hw hj hi,e]
   exact⟨(gV.mp (fh (by rw[rl];exact h2))).1,rfl⟩
 refine⟨key.1,⟨hm,nd,fun j a hj ha=>⟨jn hv hj ha,?_⟩⟩,⟨rl,rn,fun j a hj ha=>⟨jn hw hj ha,?_⟩⟩⟩
 ·rw[show glue k t L v w=mkT k t (beside t L v w) from rfl,key.2 j _ hj (lt _ (fh (by rw[hm];exact ha))),bL j a ha]
 ·rw[show glue k t L v w=mkT k t (beside t L v w) from rfl,key.2 j _ hj (gV.mp (fh (by rw[rl];exact ha))).1,bR j a ha]
end
theorem Sub.cl{u v:Table}{k m n:Nat}{L:List Nat}(S:Sub u v k m L)(lt:∀x∈L,x<n):Cl u k n m L:=
 ⟨S.len,lt,S.nd,fun j a hj ha=>by rw[(S.st j a hj ha).2];exact S.mem (S.st j a hj ha).1⟩
theorem Sub.back{u v:Table}{k m n:Nat}{L:List Nat}(S:Sub u v k m L)(lt:∀x∈L,x<n)(hu:isTable k n u=true)(hv:isTable k m v=true):cP u k m L=v:=
 nk (ic hu (S.cl lt)) hv fun i a hi ha=>by
  obtain⟨z1,z2⟩:=S.st (2*i) a (by omega) ha
  rw[lD hu (S.cl lt) (by omega) ha,z2,iP S.nd (by rw[S.len];exact z1)]
theorem still_of{u v w:Table}{k m t:Nat}{L:List Nat}(S1:Sub u v k m L)(S2:Sub u w k (t-m) (rest t L)){x:Word}(hx:bA k x)(h1:still v m x=true)(h2:still w (t-m) x=true):still u t x=true:=by
 have one:∀{v:Table} {m:Nat} {L:List Nat},Sub u v k m L->still v m x=true->∀p∈L,move u x p=p:=fun{v m L} S h p hp=>by
  have hi:L.idxOf p<m:=by rw[<-S.len];exact iq.mpr hp
  have z:=(S.move hx hi).2
  have y:=cB.mp h _ (bt.mpr hi)
  have y:move v x (L.idxOf p)=L.idxOf p:=by simpa using y
  rwa[y,gF hp]at z
 unfold still
 rw[cB]
 intro p hp
 by_cases z:p∈L
 ·simp[one S1 h1 p z]
 ·simp[one S2 h2 p (gV.mpr ⟨bt.mp hp,z⟩)]
def eU:Nat->Nat->Nat
 |_,0=>1
 |l,m+1=>l*eU (l-1) m
theorem fall_succ:∀m l,eU l (m+1)=eU l m*(l-m)
 | 0,l=>by simp[eU]
 |m+1,l=>by
  show l*eU (l-1) (m+1)=l*eU (l-1) m*(l-(m+1))
  rw[fall_succ m (l-1),oq,show l-1-m=l-(m+1) by omega]
def picks:Nat->List Nat->List (List Nat)
 | 0,_=>[[]]
 |m+1,l=>l.flatMap fun x=>(picks m (l.erase x)).map fun y=>x :: y
theorem picks_len:∀m l,(picks m l).length=eU l.length m
 | 0,_=>rfl
 |m+1,l=>by
  show(l.flatMap _).length=_
  rw[mW _ (eU (l.length-1) m) l fun x hx=>by rw[aP,picks_len m,List.length_erase_of_mem hx]]
  rfl
theorem mem_picks:∀{m:Nat} {l:List Nat},l.Nodup->∀{y:List Nat},y∈picks m l↔y.length=m/\y.Nodup/\∀x∈y,x∈l
 | 0,l,_,y=>by
  show y∈[[]]↔_
  rw[aO]
  constructor
  ·rintro rfl;exact⟨rfl,nY,fun x h=>absurd h (by simp)⟩
  ·rintro⟨h,_⟩;exact kM.mp h
 |m+1,l,nd,y=>by
  show y∈l.flatMap _↔_
  rw[fk]
  constructor
  ·rintro⟨x,hx,h⟩
   obtain⟨z,hz,rfl⟩:=bc.mp h
   obtain⟨h1,h2,h3⟩:=(mem_picks (nd.erase x)).mp hz
   refine⟨by rw[cI,h1],eD.mpr ⟨fun q=>?_,h2⟩,fun q hq=>?_⟩
   ·exact(zp nd).mp (h3 x q) |>.1 rfl
   ·rcases aZ.mp hq with e|e
    ·exact e▸hx
    ·exact List.mem_of_mem_erase (h3 q e)
  ·rintro⟨h1,h2,h3⟩
   cases y with
   |nil=>cases h1
   |cons x z=>
    obtain⟨h4,h5⟩:=eD.mp h2
    refine⟨x,h3 x (.head _),bc.mpr ⟨z,(mem_picks (nd.erase x)).mpr ⟨by simpa using h1,h5,fun q hq=>?_⟩,rfl⟩⟩
    exact(zp nd).mpr ⟨fun e=>h4 (e▸hq),h3 q (.tail _ hq)⟩
theorem picks_nodup:∀{m:Nat} {l:List Nat},l.Nodup->(picks m l).Nodup
 | 0,_,_=>by simp[picks]
 |m+1,l,nd=>by
  refine n9.mpr ⟨fun x _=>gZ.mpr ((picks_nodup (nd.erase x)).imp fun ba e=>ba (iA e).2),nd.imp fun ba y hy z hz e=>?_⟩
  obtain⟨_,_,rfl⟩:=bc.mp hy
  obtain⟨_,_,rfl⟩:=bc.mp hz
  exact ba (iA e).1
section
variable{g:Group}{n:Nat}{ts:List Word}{found:List Rows}(hk:0<g.letters.length)(hwg:∀w∈g.nothing,bA g.letters.length w)
 (cH:∀u m,isTable g.letters.length m u=true->m<=n->ts.all (still u m)=g.nothing.all (still u m)) (hsi:SI ts g.letters.length n found [])
structure Parts (g:Group) (ts:List Word) (n t:Nat) (L:List Nat) (v w:Table):Prop where
 nd:L.Nodup
 lt:∀x∈L,x<t
 zero:L.getD 0 0=0
 sol:Sol ts g.letters.length n v L.length
 le:L.length<=t
 rst:w∈every g (t-L.length)
include hk hwg cH in
theorem Parts.is{t:Nat}{L:List Nat}{v w:Table}(htn:t<=n)(D:Parts g ts n t L v w):glue g.letters.length t L v w∈every g t/\met (glue g.letters.length t L v w) t 0=L /\ cP (glue g.letters.length t L v w) g.letters.length L.length L=v/\cP (glue g.letters.length t L v w) g.letters.length (t-L.length) (rest t L)=w:=by
 obtain⟨w1,w2⟩:=mem_every.mp D.rst
 obtain⟨h1,S1,S2⟩:=glue_is D.nd D.lt rfl D.sol.tb w1
 have M:=S1.met hk D.sol.n1 D.lt (ord_met D.sol.tb hk D.sol.n1 D.sol.ord)
 have eL:((aT L.length).map fun a=>L.getD a 0)=L:=by
  refine iV fun i=>?_
  rw[bH]
  by_cases hi:i<L.length
  ·rw[fI hi,i6,bT,aH hi]
   rfl
  ·rw[d3 (by simpa using hi),d3 (by omega)]
   rfl
 rw[D.zero,eL]at M
 refine⟨mem_every.mpr ⟨h1,?_⟩,met_is h1 hk M,S1.back D.lt h1 D.sol.tb,S2.back (fun x hx=>(gV.mp hx).1) h1 w1⟩
 have st:=D.sol.st
 rw[cH v _ D.sol.tb (cZ D.le htn),cB]at st
 rw[cB]at w2 ⊢
 exact fun x hx=>still_of S1 S2 (hwg x hx) (st x hx) (w2 x hx)
include hk hwg cH in
theorem Parts.of{t:Nat}{u:Table}(h1:1<=t)(htn:t<=n)(hu:u∈every g t):∃L v w,Parts g ts n t L v w/\glue g.letters.length t L v w=u:=by
 obtain⟨ht,hs⟩:=mem_every.mp hu
 rw[cB]at hs
 obtain⟨m,L,M⟩:=met_ex ht hk (p0:=0) h1
 have hm:=M.len
 subst hm
 have S1:=M.toCl.sub ht
 have rl:=rest_len M.nd M.lt
 have C2:Cl u g.letters.length t (t-L.length) (rest t L):=⟨rl,fun x hx=>(gV.mp hx).1,rest_nodup t L,fun j a hj ha=>by
  have z:=gV.mp (fh (show a<(rest t L).length by rw[rl];exact ha))
  exact gV.mpr ⟨jn ht hj z.1,M.toCl.out ht hj z.1 z.2⟩⟩
 have S2:=C2.sub ht
 have v1:=ic ht M.toCl
 have w1:=ic ht C2
 have D:Parts g ts n t L (cP u g.letters.length L.length L) (cP u g.letters.length (t-L.length) (rest t L)):=by
  refine⟨M.nd,M.lt,M.zero,⟨v1,M.m1,cZ M.mn htn,reT_ord ht hk M,?_⟩,M.mn,mem_every.mpr ⟨w1,?_⟩⟩
  ·rw[cH _ _ v1 (cZ M.mn htn),cB]
   exact fun x hx=>S1.still M.lt (hwg x hx) (hs x hx)
  ·rw[cB]
   exact fun x hx=>S2.still C2.lt (hwg x hx) (hs x hx)
 refine⟨_,_,_,D,?_⟩
 obtain⟨g1,G1,G2⟩:=glue_is M.nd M.lt rfl v1 w1
 refine nk g1 ht fun i x hi hx=>?_
 by_cases z:x∈L
 ·have ha:=M.idx_lt z
  have e1:=(G1.st (2*i) _ (by omega) ha).2
  have e2:=(S1.st (2*i) _ (by omega) ha).2
  rw[gF z]at e1 e2
  rw[e1,e2]
 ·have z:=gV.mpr ⟨hx,z⟩
  have ha:=C2.idx_lt z
  have e1:=(G2.st (2*i) _ (by omega) ha).2
  have e2:=(S2.st (2*i) _ (by omega) ha).2
  rw[gF z]at e1 e2
  rw[e1,e2]
def partsL(g:Group)(found:List Rows)(t i:Nat):List (List Nat×Table×Table):=
 (picks i (List.range' 1 (t-1))).flatMap fun y=>((ofN (i+1) found).map fun M=>bz M g.letters.length).flatMap fun v=>(every g (t-(i+1))).map fun w=>(0 ::y,v,w)
theorem partsL_len(g:Group)(found:List Rows)(t i:Nat):(partsL g found t i).length=eU (t-1) i*((ofN (i+1) found).length*(every g (t-(i+1))).length):=by
 unfold partsL
 rw[mW _ ((ofN (i+1) found).length*(every g (t-(i+1))).length),picks_len,List.length_range']
 intro y _
 rw[mW _ (every g (t-(i+1))).length,aP]
 intro v _
 rw[aP]
theorem every_nodup(g:Group)(t:Nat):(every g t).Nodup:=oG _ (qH t _)
include hk hsi in
theorem q5{t i:Nat}(h1:1<=t)(hi:i<t){d:List Nat×Table×Table}:d∈partsL g found t i↔Parts g ts n t d.1 d.2.1 d.2.2/\d.1.length=i+1:=by
 unfold partsL
 obtain⟨L,v,w⟩:=d
 rw[fk]
 constructor
 ·rintro⟨y,hy,h⟩
  obtain⟨v',hv,h⟩:=fk.mp h
  obtain⟨w',hw,e⟩:=bc.mp h
  cases e
  obtain⟨y1,y2,y3⟩:=(mem_picks vm).mp hy
  have hl:(0 ::y).length=i+1:=by rw[cI,y1]
  have y4:∀x∈y,1<=x/\x<t:=fun x hx=>by
   have z:=xO.mp (y3 x hx)
   omega
  refine⟨⟨eD.mpr ⟨fun z=>by have:=(y4 0 z).1;omega,y2⟩,fun x hx=>?_,rfl,?_,?_,?_⟩,hl⟩
  ·rcases aZ.mp hx with e|e
   ·rw[e];exact h1
   ·exact(y4 x e).2
  ·rw[hl];exact((pf hk hsi).2 _).mp hv
  ·rw[hl];exact hi
  ·rw[hl];exact hw
 ·rintro⟨D,hl⟩
  have hl:L.length=i+1:=hl
  cases L with
  |nil=>cases hl
  |cons a y=>
   have ha:a=0:=D.zero
   subst ha
   obtain⟨n1,n2⟩:=eD.mp D.nd
   have sol:=D.sol
   have rst:=D.rst
   rw[hl]at sol rst
   refine⟨y,(mem_picks vm).mpr ⟨by simpa using hl,n2,fun x hx=>?_⟩,fk.mpr ⟨v,((pf hk hsi).2 v).mpr sol,bc.mpr ⟨w,rst,rfl⟩⟩⟩
   have z:=D.lt x (.tail _ hx)
   have z2:x≠0:=fun e=>n1 (e▸hx)
   exact xO.mpr (by omega)
include hk hsi in
theorem partsL_nodup(t i:Nat):(partsL g found t i).Nodup:=by
 refine n9.mpr ⟨fun y _=>n9.mpr ⟨fun v _=>gZ.mpr ((every_nodup g _).imp fun ba e=>ba ?_),(pf hk hsi).1.imp fun ba a ha b hb e=>ba ?_⟩,
  (picks_nodup vm).imp fun ba a ha b hb e=>ba ?_⟩
 ·exact(oK (oK e).2).2
 ·obtain⟨_,_,rfl⟩:=bc.mp ha
  obtain⟨_,_,rfl⟩:=bc.mp hb
  exact(oK (oK e).2).1
 ·obtain⟨_,_,ha⟩:=fk.mp ha
  obtain⟨_,_,rfl⟩:=bc.mp ha
  obtain⟨_,_,hb⟩:=fk.mp hb
  obtain⟨_,_,rfl⟩:=bc.mp hb
  exact(iA (oK e).1).2
include hk hwg cH hsi in
theorem every_count{t:Nat}(h1:1<=t)(htn:t<=n):(every g t).length=((aT t).map fun i=>eU (t-1) i*((ofN (i+1) found).length*(every g (t-(i+1))).length)).sum:=by
 have nd:((aT t).flatMap (partsL g found t)).Nodup:=by
  refine n9.mpr ⟨fun i _=>partsL_nodup hk hsi t i,jB (fun{a b} ha hb ba x hx y hy e=>ba ?_) jx⟩
  have z1:=((q5 hk hsi h1 (bt.mp ha)).mp hx).2
  have z2:=((q5 hk hsi h1 (bt.mp hb)).mp hy).2
  rw[e,z2]at z1
  omega
 have md:∀d,d∈(aT t).flatMap (partsL g found t)↔Parts g ts n t d.1 d.2.1 d.2.2:=fun d=>by
  rw[fk]
  constructor
  ·rintro⟨i,hi,h⟩
   exact((q5 hk hsi h1 (bt.mp hi)).mp h).1
  ·intro D
   have z1:=D.le
   have z2:=D.sol.n1
   have hi:d.1.length-1<t:=by omega
   exact⟨d.1.length-1,bt.mpr hi,(q5 hk hsi h1 hi).mpr ⟨D,by omega⟩⟩
 have pm:(((aT t).flatMap (partsL g found t)).map fun d=>glue g.letters.length t d.1 d.2.1 d.2.2).Perm (every g t):=by
  refine(pS (gZ.mpr (jB (fun{a b} ha hb ba e=>ba ?_) nd)) (every_nodup g t)).mpr fun u=>?_
  ·rw[bc]
   constructor
   ·rintro⟨d,hd,rfl⟩
    exact(Parts.is hk hwg cH htn ((md d).mp hd)).1
   ·intro hu
    obtain⟨L,v,w,D,e⟩:=Parts.of hk hwg cH h1 htn hu
    exact⟨(L,v,w),(md _).mpr D,e⟩
  ·obtain⟨_,a1,a2,a3⟩:=Parts.is hk hwg cH htn ((md a).mp ha)
   obtain⟨_,b1,b2,b3⟩:=Parts.is hk hwg cH htn ((md b).mp hb)
   obtain⟨aL,av,aw⟩:=a
   obtain⟨bL,bv,bw⟩:=b
   dsimp only at *
   rw[e]at a1 a2 a3
   have eL:=a1.symm.trans b1
   subst eL
   rw[<-a2,<-a3,b2,b3]
 rw[<-pm.length_eq,aP,List.length_flatMap]
 simp only[partsL_len]
end
theorem every_zero(g:Group):(every g 0).length=1:=by
 have e:∀k,tables 0 k=[eI k []]:=by
  intro k
  induction k with
  |zero=>rfl
  |succ k ih=>rw[tables,ih];rfl
 unfold every
 rw[e]
 have:groups g 0 (eI g.letters.length [])=true:=by
  unfold groups
  rw[cB]
  exact fun w _=>rfl
 rw[rO,if_pos this]
 rfl
theorem sum_mem{l:List Nat}{x:Nat}(h:x∈l):x<=l.sum:=by
 induction l with
 |nil=>cases h
 |cons y l ih=>
  rw[xI]
  rcases aZ.mp h with e|e
  ·omega
  ·have:=ih e;omega
theorem pow_le_of{b k c:Nat}(hb:1<=b)(h:c<=k):b^c<=b^k:=rS hb h
theorem few_sols{g:Group}{n:Nat}{ts:List Word}{found:List Rows}(hk:0<g.letters.length)(hk8:g.letters.length<=8)(hwg:∀w∈g.nothing,bA g.letters.length w)(cH:∀u m,isTable g.letters.length m u=true->m<=n->ts.all (still u m)=g.nothing.all (still u m))(hsi:SI ts g.letters.length n found [])(hn1:1<=n)(hn8:n<=8)(hf:fac n^g.letters.length<=20000):(ofN n found).length<=9000:=by
 have e:=every_count hk hwg cH hsi hn1 (aI n)
 have m1:eU (n-1) (n-1)*((ofN (n-1+1) found).length*(every g (n-(n-1+1))).length)<=(every g n).length:=by
  rw[e]
  exact sum_mem (bc.mpr ⟨n-1,bt.mpr (by omega),rfl⟩)
 have m2:(every g n).length<=fac n^g.letters.length:=by
  rw[<-tables_len]
  exact n6 _ _
 rw[show n-1+1=n by omega,rX,every_zero,rW]at m1
 generalize (ofN n found).length=x at m1
 generalize g.letters.length=k at *
 have m3:=cZ m1 m2
 have cases_n:n=1\/n=2\/n=3\/n=4\/n=5\/n=6\/n=7\/n=8:=by omega
 have pos:∀b,1<=b->1<=b^k:=fun b hb=>Nat.one_le_pow _ _ hb
 rcases cases_n with rfl|rfl|rfl|rfl|rfl|rfl|rfl|rfl
 ·have:fac 1^k=1:=by show 1^k=1;exact Nat.one_pow k
  rw[this]at m3
  have m3:1*x<=1:=m3
  omega
 ·have h1:(2:Nat)^k<=2^8:=pow_le_of (by decide) hk8
  have m3:1*x<=2^k:=m3
  have:(2:Nat)^8=256:=rfl
  omega
 ·have hk5:k<=5:=by
   rcases gA 5 k with z|z
   ·exfalso
    have h1:(6:Nat)^6<=6^k:=pow_le_of (by decide) z
    have h2:6^k<=20000:=hf
    have:(6:Nat)^6=46656:=rfl
    omega
   ·exact z
  have h1:(6:Nat)^k<=6^5:=pow_le_of (by decide) hk5
  have m3:2*x<=6^k:=m3
  have:(6:Nat)^5=7776:=rfl
  omega
 all_goals
  have m4:=cZ m3 hf
  simp only[eU]at m4
  omega
end Gw
namespace Gw
open PySem PySem.Spec PyProof.Rows L2
abbrev nv(b:List Nat):List V:=b.map fun(n:Nat)=>V.int (n:Int)
def encL(l:kP):Int:=if l.2=true then -((l.1:Int)+1)else(l.1:Int)+1
abbrev wv(w:b8):List V:=w.map fun l=>V.int (encL l)
def lf(br:Int)(e w:aa)(hp:Bool):List (ag×V):=[("bracket",.int br),("ended",.ref e),("written",.ref w),("has_part",.bl hp)]
theorem lf_br{br:Int}{e w:aa}{hp:Bool}:(lf br e w hp).lookup ("bracket" :ag)=some (.int br):=by kernel_rfl
theorem lf_en{br:Int}{e w:aa}{hp:Bool}:(lf br e w hp).lookup ("ended" :ag)=some (.ref e):=by kernel_rfl
theorem lf_wr{br:Int}{e w:aa}{hp:Bool}:(lf br e w hp).lookup ("written" :ag)=some (.ref w):=by kernel_rfl
theorem lf_hp{br:Int}{e w:aa}{hp:Bool}:(lf br e w hp).lookup ("has_part" :ag)=some (.bl hp):=by kernel_rfl
theorem lf_put_wr{br:Int}{e w w':aa}{hp:Bool}:di "written" (.ref w') (lf br e w hp)=lf br e w' hp:=by kernel_rfl
theorem lf_put_hp{br:Int}{e w:aa}{hp hp':Bool}:di "has_part" (.bl hp') (lf br e w hp)=lf br e w hp':=by kernel_rfl
theorem lf_new{br:Int}{e w:aa}:di "has_part" (.bl false) (di "written" (.ref w) (di "ended" (.ref e) (di "bracket" (.int br) [])))=lf br e w false:=by kernel_rfl
structure fC (H:Hp) (as:List aa) (ws:List b8):Prop where
 len:as.length=ws.length
 at_:∀(j:Nat) (a:aa) (w:b8),as[j]?=some a->ws[j]?=some w->H a=some (.lst (wv w))
 ln:∀w∈ws,w.length<=d4
structure LA where
 p:aa
 e:aa
 w:aa
 as:List aa
structure fL (C:aa) (H:Hp) (x:LA) (v:Lv):Prop where
 ob:∃dx,H x.p=some (.ins C dx (lf v.br x.e x.w v.hp))
 en:H x.e=some (.lst (x.as.map V.ref))
 wr:H x.w=some (.lst (wv v.wr))
 ws:fC H x.as v.ended
 ew:x.e≠x.w
 ae:∀a∈x.as,a≠x.e/\a≠x.w
 lw:v.wr.length<=d4
def Res{α:Type}(W T:aa)(E:XK)(r:gc α)(k:α->Prop):Prop:=match r with
 |.ok a=>k a
 |.error .wrong=>∀H,E (.ref W) none H
 |.error .full=>∀H,E (.ref T) none H
theorem Res.wrong{α:Type}{W T:aa}{E:XK}{r:gc α}{k:α->Prop}(h:Res W T E r k)(e:r=.error .wrong)(H:Hp):E (.ref W) none H:=by subst e;exact h H
theorem Res.full{α:Type}{W T:aa}{E:XK}{r:gc α}{k:α->Prop}(h:Res W T E r k)(e:r=.error .full)(H:Hp):E (.ref T) none H:=by subst e;exact h H
theorem Res.ok{α:Type}{W T:aa}{E:XK}{r:gc α}{k:α->Prop}(h:Res W T E r k){a:α}(e:r=.ok a):k a:=by subst e;exact h
theorem Res.bind{α β:Type}{W T:aa}{E:XK}{r:gc α}{f:α->gc β}{k:β->Prop}(h:Res W T E (r.bind f) k):Res W T E r fun a=>Res W T E (f a) k:=by
 cases r with
 |ok a=>exact h
 |error e=>cases e<;>exact h
theorem Res.imp{α:Type}{W T:aa}{E:XK}{r:gc α}{k k':α->Prop}(h:Res W T E r k)(f:∀a,r=.ok a->k a->k' a):Res W T E r k':=by
 cases r with
 |ok a=>exact f a rfl h
 |error e=>cases e<;>exact h
def ar(xs:List aa)(H H':Hp):Prop:=∀b o,H b=some o->b∉xs->H' b=some o
theorem ar.refl{xs:List aa}{H:Hp}:ar xs H H:=fun _ _ e _=>e
theorem ar.trans{xs ys:List aa}{H H1 H2:Hp}(a:ar xs H H1)(b:ar ys H1 H2):ar (xs++ys) H H2:=fun c o e n=>b c o (a c o e fun z=>n (dZ _ z)) fun z=>n (fP _ z)
theorem ar.mono{xs ys:List aa}{H H1:Hp}(a:ar xs H H1)(h:∀b,b∈xs->b∈ys):ar ys H H1:=fun c o e n=>a c o e fun z=>n (h c z)
theorem ar.upd{H:Hp}{a:aa}{o:HO}:ar [a] H (upd H a o):=fun b u e n=>by rw[ak (fun z=>n (by simp[z]))];exact e
theorem ar.new{H:Hp}{a:aa}{o:HO}(h:H a=none):ar [] H (L2.upd H a o):=fun b u e _=>by rw[ak (bg e h)];exact e
theorem ar.same{H H':Hp}(k:ar [] H H'):aC H H':=fun b o e=>k b o e (by simp)
theorem fC.keep{xs:List aa}{H H':Hp}{as:List aa}{ws:List b8}(h:fC H as ws)(k:ar xs H H')(n:∀a∈as,a∉xs):fC H' as ws:=
 ⟨h.len,fun j a w e1 e2=>k a _ (h.at_ j a w e1 e2) (n a (cW e1)),h.ln⟩
theorem fC.snoc{H:Hp}{as:List aa}{ws:List b8}{a:aa}{w:b8}(h:fC H as ws)(e:H a=some (.lst (wv w)))(hw:w.length<=d4):fC H (as++[a]) (ws++[w]):=by
 refine⟨by simp[h.len],fun j b u e1 e2=>?_,fun u hu=>(cQ.mp hu).elim (h.ln u) fun z=>by rw[aO.mp z];exact hw⟩
 by_cases hj:j<as.length
 ·rw[dQ hj]at e1
  rw[dQ (by rw[<-h.len];exact hj)]at e2
  exact h.at_ j b u e1 e2
 ·rw[e9 (by omega)]at e1
  rw[e9 (by rw[<-h.len];omega),<-h.len]at e2
  cases hq:j-as.length with
  |zero=>
   rw[hq]at e1 e2
   cases e1
   cases e2
   exact e
  |succ n=>
   rw[hq]at e1
   simp at e1
theorem fL.keep{C:aa}{xs:List aa}{H H':Hp}{x:LA}{v:Lv}(h:fL C H x v)(k:ar xs H H')(np:x.p∉xs)(ne:x.e∉xs)(nw:x.w∉xs)(na:∀a∈x.as,a∉xs):fL C H' x v:=by
 obtain⟨dx,ho⟩:=h.ob
 exact⟨⟨dx,k _ _ ho np⟩,k _ _ h.en ne,k _ _ h.wr nw,h.ws.keep k na,h.ew,h.ae,h.lw⟩
section
variable{P:aU}{w:aM}{K:ay}{mg:ag->Option af}{base:aA}
abbrev cxE(P:aU)(w:aM)(K:ay)(mg:ag->Option af)(base:aA)(N:List ag)(qual:ag)(st:a6)(f:aa)(aY:af)(A:bD)(outer:List cg)(s:ah)(H:Hp)(E:XK):Cx:=
 cxOf (aB P w) P w K mg base N qual (aK st) f aY A outer s H E
theorem cn{x qual:ag}{st:a6}{f:aa}{fd:bh}{N ps:List ag}{k:Nat}{sp:Sp}(F:Fun K x qual st f fd)(S:bQ N ps (aK st))(len:∀vs H Q E,sp vs H Q E->vs.length=ps.length)(hbody:∀(aY:af) (A:bD) (outer:List cg) (s:ah) (H:Hp) (vs:List V) (Q:VK) (E:XK),dP k (A.deeper (envOfC qual (aK st) s.heap.objs.size f aY))->sp vs H Q E -> ∃t,PSs (cxE P w K mg base N qual st f aY A outer s H E) (bI st) t/\t {nx:=fun _ H'=>Q .bo H',rt:=Q} (start N vs) H):aD P w K mg base (aB P w) (k+1) f fd ps sp:=by
 obtain⟨oc,od,kV,doc,pm,an,aY,ct,osl,rfl,lk,hcd⟩:=F.ex
 exact fn_of lk hcd S len fun A outer s H vs Q E hr hsp=>hbody aY A outer s H vs Q E hr hsp
theorem fK{N:List ag}{qual:ag}{st:a6}{f:aa}{aY:af}{A:bD}{outer:List cg}{s:ah}{H:Hp}{E:XK}:Takes (cxE P w K mg base N qual st f aY A outer s H E) E:=takes_body
theorem bC{N:List ag}{qual:ag}{st:a6}{f:aa}{aY:af}{A:bD}{outer:List cg}{s:ah}{H:Hp}{E:XK}:Passes (aB P w) (cxE P w K mg base N qual st f aY A outer s H E) E:=takes_body.pass
theorem eO{N:List ag}{qual:ag}{st:a6}{f:aa}{aY:af}{A:bD}{outer:List cg}{s:ah}{H:Hp}{E:XK}:uw (model P w) (cxE P w K mg base N qual st f aY A outer s H E).A (cxE P w K mg base N qual st f aY A outer s H E).env (cxE P w K mg base N qual st f aY A outer s H E).xe:=PassesOwn.leaving
end
theorem fN{n:Nat}(h:n<=10000):n<sizeLine:=iu h (by decide)
section
variable{P:aU}{w:aM}{K:ay}{mg:ag->Option af}{base:aA}{a:AD}
def spLevel(C:aa):Sp:=fun vs H Q _=>∃(p dx:aa) (br:Nat),vs=[.ref p,.int br]/\H p=some (.ins C dx []) /\
 ∀(H':Hp) (e w:aa),fL C H' ⟨p,e,w,[]⟩ ⟨br,[],[],false⟩->H e=none->H w=none->ar [p] H H'->Q .bo H'
theorem scLevel:bQ ["self","bracket"] ["self","bracket"] (aK sLevel):=⟨rfl,rfl,rfl,by decide +kernel,rfl,by decide +kernel,by decide +kernel⟩
theorem okLevel(T:Tx K mg a):aD P w K mg base (aB P w) 1 a.jb a.dLevel ["self","bracket"] (spLevel a.bb):=by
 refine cn T.dM.fn scLevel (fun vs H Q E h=>?_) (fun aY A outer s H vs Q E hr h=>?_)
 ·obtain⟨p,dx,br,rfl,_⟩:=h
  rfl
 ·obtain⟨p,dx,br,rfl,hp,k⟩:=h
  refine⟨_,aF (i9 (pv 0) (pv 1) rfl) (aF (i9 (pv 0) (dI au) rfl) (aF (i9 (pv 0) (dI au) rfl) (aE (i9 (pv 0) pe_bl rfl)))),?_⟩
  refine⟨_,rfl,_,rfl,p,a.bb,dx,_,rfl,hp,T.dM.cl,T.oR,(by show 0<1000;decide),?_⟩
  refine⟨(by show 0<=sizeLine;decide),fun e he=>?_⟩
  have h1:(upd H p (.ins a.bb dx (di "bracket" (.int br) []))) p=_:=ax
  have ep:e≠p:=fun z=>by rw[z,h1]at he;cases he
  have eH:H e=none:=by rw[ak ep]at he;exact he
  refine⟨_,rfl,p,a.bb,dx,_,rfl,by rw[ak ep.symm];exact h1,T.dM.cl,T.oX,(by show 1<1000;decide),?_⟩
  refine⟨(by show 0<=sizeLine;decide),fun w hw=>?_⟩
  have wp:w≠p:=fun z=>by rw[z,ax]at hw;cases hw
  have we:w≠e:=fun z=>by rw[z,ak ep,ax]at hw;cases hw
  have wH:H w=none:=by rw[ak wp,ak we,ak wp]at hw;exact hw
  refine⟨_,rfl,p,a.bb,dx,_,rfl,by rw[ak wp.symm];exact ax,T.dM.cl,T.oS,(by show 2<1000;decide),?_⟩
  refine⟨_,rfl,p,a.bb,dx,_,rfl,ax,T.dM.cl,T.oO,(by show 3<1000;decide),?_⟩
  refine k _ e w ⟨⟨dx,?_⟩,?_,?_,⟨rfl,(fun j a w e=>by simp at e),fun _ z=>absurd z (by simp)⟩,we.symm,(fun _ z=>absurd z (by simp)),by simp[d4]⟩ eH wH fun b o hb n=>?_
  ·rw[ax]
   exact congrArg (fun z=>some (HO.ins a.bb dx z)) lf_new
  ·rw[ak ep,ak ep,ak we.symm,ak ep,ax]
   rfl
  ·rw[ak wp,ak wp,ax]
   rfl
  ·have nb:b≠p:=fun z=>n (by simp[z])
   rw[ak nb,ak nb,ak (bg hb wH),ak nb,ak (bg hb eH),ak nb]
   exact hb
def pz(a:AD):Sp:=fun vs H Q E=>∃(x:LA) (v:Lv),vs=[.ref x.p]/\fL a.bb H x v/\x.as.length<=10000 /\
 Res a.dU a.cE E (dj v) fun v'=>∀(H':Hp) (w':aa),fL a.bb H' ⟨x.p,x.e,w',x.as++[x.w]⟩ v'->H w'=none->ar [x.p,x.e] H H'->Q .bo H'
theorem scEndWord:bQ ["level"] ["level"] (aK nu):=⟨rfl,rfl,rfl,by decide +kernel,rfl,by decide +kernel,by decide +kernel⟩
theorem okEndWord(T:Tx K mg a):aD P w K mg base (aB P w) 1 a.iI a.pD ["level"] (pz a):=by
 refine cn T.iK.fn scEndWord (fun vs H Q E h=>?_) (fun aY A outer s H vs Q E hr h=>?_)
 ·obtain⟨x,v,rfl,_⟩:=h
  rfl
 ·obtain⟨x,v,rfl,L,hle,R⟩:=h
  obtain⟨dx,ho⟩:=L.ob
  refine⟨_,aF (cF (pt_not (pt_val (fY (pv 0) rfl))) (aE (fO fK T.gk rfl rfl)) cU)
   (aF (dX (gp fJ kU kW j3 (fY (pv 0) rfl) (aj (fY (pv 0) rfl) au)))
   (aF (i9 (pv 0) (dI au) rfl) (aE (i9 (pv 0) pe_bl rfl)))),?_⟩
  refine⟨_,rfl,x.p,a.bb,dx,_,_,rfl,ho,T.dM.cl,T.oO,lf_hp,v.hp,rfl,?_⟩
  cases hh:v.hp with
  |false=>exact R.wrong (by unfold dj;rw[hh];rfl) _
  |true=>
   have R':=R.ok (a:=⟨v.br,v.ended++[v.wr],[],false⟩) (by unfold dj;rw[hh];rfl)
   refine iteF ?_
   refine⟨_,rfl,x.p,a.bb,dx,_,_,rfl,ho,T.dM.cl,T.oX,lf_en,.inl ⟨rfl,_,ao.of L.en⟩,_,rfl,x.p,a.bb,dx,_,_,rfl,ho,T.dM.cl,T.oS,lf_wr,?_⟩
   refine⟨x.e,_,_,rfl,rfl,L.en,(by rw[aP];exact fN hle),?_⟩
   refine⟨(by show 0<=sizeLine;decide),fun w' hw=>?_⟩
   have pe:x.p≠x.e:=dN ho L.en (by intro q;cases q)
   have pw:x.p≠x.w:=dN ho L.wr (by intro q;cases q)
   have we:w'≠x.e:=fun z=>by rw[z,ax]at hw;cases hw
   have wH:H w'=none:=by rw[ak we]at hw;exact hw
   have wp:w'≠x.p:=fun z=>by rw[z,ho]at wH;cases wH
   have ww:w'≠x.w:=fun z=>by rw[z,L.wr]at wH;cases wH
   refine⟨_,rfl,x.p,a.bb,dx,_,rfl,by rw[ak wp.symm,ak pe];exact ho,T.dM.cl,T.oS,(by show 4<1000;decide),?_⟩
   refine⟨_,rfl,x.p,a.bb,dx,_,rfl,ax,T.dM.cl,T.oO,(by show 4<1000;decide),?_⟩
   have kp:ar [x.p,x.e] H (upd (upd (upd (upd H x.e (.lst (x.as.map V.ref++[V.ref x.w]))) w' (.lst [])) x.p (.ins a.bb dx (di "written" (.ref w') (lf v.br x.e x.w v.hp)))) x.p (.ins a.bb dx (di "has_part" (.bl false) (di "written" (.ref w') (lf v.br x.e x.w v.hp))))):=fun b o hb n=>by
    have n1:b≠x.p:=fun z=>n (by simp[z])
    have n2:b≠x.e:=fun z=>n (by simp[z])
    rw[ak n1,ak n1,ak (bg hb wH),ak n2]
    exact hb
   have nas:∀z∈x.as,z∉[x.p,x.e]:=fun z hz m=>by
    obtain⟨j,hj⟩:=fm hz
    have cw:j<v.ended.length:=by rw[<-L.ws.len];exact(bj.mp hj).1
    have hz2:=L.ws.at_ j z _ hj (aH cw)
    rcases aZ.mp m with m|m
    ·exact dN hz2 ho (by intro q;cases q) m
    ·exact(L.ae z hz).1 (aO.mp m)
   refine R' _ w' ⟨⟨dx,?_⟩,?_,?_,(L.ws.keep kp nas).snoc (kp _ _ L.wr (by simp;exact⟨pw.symm,L.ew.symm⟩)) L.lw,we.symm,fun z hz=>?_,by simp[d4]⟩ wH kp
   ·rw[ax,lf_put_wr,lf_put_hp]
   ·rw[ak pe.symm,ak pe.symm,ak we.symm,ax,dD]
    rfl
   ·rw[ak wp,ak wp,ax]
    rfl
   ·rcases cQ.mp hz with hz|hz
    ·obtain⟨j,hj⟩:=fm hz
     have cw:j<v.ended.length:=by rw[<-L.ws.len];exact(bj.mp hj).1
     have hz2:=L.ws.at_ j z _ hj (aH cw)
     exact⟨(L.ae z hz).1,fun q=>by rw[q,wH]at hz2;cases hz2⟩
    ·rw[aO.mp hz]
     exact⟨L.ew.symm,ww.symm⟩
theorem dF{m n:Nat}:(V.int (m:Int)=V.int (n:Int))↔m=n:=by
 constructor
 ·intro h
  injection h with h
  omega
 ·intro h;rw[h]
def spTakeComma(a:AD):Sp:=fun vs H Q E=>∃(x:LA) (v:Lv),vs=[.ref x.p]/\fL a.bb H x v/\x.as.length<=10000 /\
 Res a.dU a.cE E (fg v) fun v'=>∀(H':Hp) (w':aa),fL a.bb H' ⟨x.p,x.e,w',x.as++[x.w]⟩ v'->H w'=none->ar [x.p,x.e] H H'->Q .bo H'
theorem scTakeComma:bQ ["level"] ["level"] (aK mY):=⟨rfl,rfl,rfl,by decide +kernel,rfl,by decide +kernel,by decide +kernel⟩
theorem okTakeComma(T:Tx K mg a):aD P w K mg base (aB P w) 2 a.jY a.dTakeComma ["level"] (spTakeComma a):=by
 have GE:aD P w K mg base (aB P w) 1 a.iI a.pD ["level"] (pz a):=okEndWord T
 refine cn T.qW.fn scTakeComma (fun vs H Q E h=>?_) (fun aY A outer s H vs Q E hr h=>?_)
 ·obtain⟨x,v,rfl,_⟩:=h
  rfl
 ·obtain⟨x,v,rfl,L,hle,R⟩:=h
  obtain⟨dx,ho⟩:=L.ob
  refine⟨_,aF (cF (PW.pt (pw_or (bP fz (fY (pv 0) rfl) (bV T.iROUND) (bU _)) (pw_or1 (bP fz (fY (pv 0) rfl) (bV T.iWORD_ALONE) (bU _))))) (aE (fO fK T.gk rfl rfl)) cU)
   (aF (cF (PW.pt (pw_and (bP fz (fY (pv 0) rfl) (bV T.iSQUARE) (bU _)) (pw_and1 (nr (fY (pv 0) rfl) (fun _=>rfl))))) (aE (fO fK T.gk rfl rfl)) cU)
   (aE (dX (bp GE hr rfl T.iK.mg T.iK.fn.kp T.iK.bd .nil bC (aj (pv 0) au))))),?_⟩
  refine⟨_,rfl,x.p,a.bb,dx,_,_,rfl,ho,T.dM.cl,T.oR,lf_br,rfl,_,rfl,?_⟩
  refine bF (fun h40=>?_) (fun h40=>?_)
  ·have h40:v.br=40:=dF.mp (of_decide_eq_true h40)
   exact R.wrong (by unfold fg;rw[if_pos (.inl h40)]) _
  ·have h40':v.br≠40:=fun z=>h40 (decide_eq_true (dF.mpr z))
   refine⟨_,rfl,x.p,a.bb,dx,_,_,rfl,ho,T.dM.cl,T.oR,lf_br,rfl,_,rfl,?_⟩
   refine bF (fun h1=>?_) (fun h1=>?_)
   ·have h1:v.br=1:=dF.mp (of_decide_eq_true h1)
    exact R.wrong (by unfold fg;rw[if_pos (.inr h1)]) _
   have h1':v.br≠1:=fun z=>h1 (decide_eq_true (dF.mpr z))
   have h40:¬(v.br=40\/v.br=1):=fun z=>z.elim h40' h1'
   refine⟨_,rfl,x.p,a.bb,dx,_,_,rfl,ho,T.dM.cl,T.oR,lf_br,rfl,_,rfl,?_⟩
   have fin:fg v=dj v->_:=fun et=>(⟨_,rfl,x,v,rfl,L,hle,(by rw[<-et];exact R)⟩:tVar 0 (L2.start [("level" :ag)] [V.ref x.p]) H fun y H1=>tNil (L2.start [("level" :ag)] [V.ref x.p]) H1 fun ys H2=>pz a ((y ::ys)++[]) H2 (fun _ H'=>Q .bo H') E)
   refine bF (fun h91=>?_) (fun h91=>?_)
   ·have h91:v.br=91:=dF.mp (of_decide_eq_true h91)
    refine⟨_,rfl,x.p,a.bb,dx,_,_,rfl,ho,T.dM.cl,T.oX,lf_en,_,.inl ⟨_,ao.of L.en,rfl⟩,?_⟩
    cases he:x.as with
    |nil=>
     refine iteF (fin ?_)
     have:v.ended=[]:=kM.mp (by rw[<-L.ws.len,he];rfl)
     unfold fg
     rw[if_neg h40,if_neg (by rw[this];simp)]
    |cons b r=>
     refine iteT ?_
     have:v.ended≠[]:=fun z=>by
      have:=L.ws.len
      rw[he,z]at this
      cases this
     exact R.wrong (by unfold fg;rw[if_neg h40,if_pos ⟨h91,this⟩]) _
   ·have h91:v.br≠91:=fun z=>h91 (decide_eq_true (dF.mpr z))
    refine iteF (fin ?_)
    unfold fg
    rw[if_neg h40,if_neg (fun z=>h91 z.1)]
def a7(x:LA):List aa:=[x.p,x.e,x.w]
def eR(l:aa)(xs:List LA):List aa:=l ::xs.flatMap a7
inductive gS (C:aa) (H:Hp):List LA->List Lv->Prop
 |nil:gS C H [] []
 |cons {x:LA} {v:Lv} {xs:List LA} {vs:List Lv}:fL C H x v->gS C H xs vs->gS C H (x :: xs) (v :: vs)
structure dE (C:aa) (H:Hp) (l:aa) (xs:List LA) (st:List Lv):Prop where
 lst:H l=some (.lst ((xs.map fun x=>V.ref x.p).reverse))
 lv:gS C H xs st
 nd:(eR l xs).Nodup
 sep:∀x∈xs,∀b∈x.as,b∉eR l xs
theorem gS.len{C:aa}{H:Hp}:∀{xs:List LA} {st:List Lv},gS C H xs st->xs.length=st.length
 |_,_,.nil=>rfl
 |_,_,.cons _ r=>congrArg (·+1) r.len
theorem gS.keep{C:aa}{H H':Hp}{ys:List aa}(k:ar ys H H'):∀{xs:List LA} {st:List Lv},gS C H xs st->(∀x∈xs,∀b∈a7 x,b∉ys)->(∀x∈xs,∀b∈x.as,b∉ys)->gS C H' xs st
 |_,_,.nil,_,_=>.nil
 |_,_,.cons h r,n1,n2=>.cons (h.keep k (n1 _ (b9 ..) _ (by simp[a7])) (n1 _ (b9 ..) _ (by simp[a7])) (n1 _ (b9 ..) _ (by simp[a7])) (n2 _ (b9 ..)))
   (r.keep k (fun x hx=>n1 x (cb _ hx)) fun x hx=>n2 x (cb _ hx))
theorem gS.tracked{C:aa}{H:Hp}:∀{xs:List LA} {st:List Lv},gS C H xs st->∀x∈xs,(∀b∈a7 x,∃o,H b=some o)/\∀b∈x.as,∃o,H b=some o
 |_,_,.nil,_,h=>absurd h (by simp)
 |_,_,.cons h r,x,hx=>by
  rcases aZ.mp hx with rfl|hx
  ·refine⟨fun b hb=>?_,fun b hb=>?_⟩
   ·simp only[a7,aZ,dC,or_false]at hb
    rcases hb with rfl|rfl|rfl
    ·obtain⟨dx,ho⟩:=h.ob
     exact⟨_,ho⟩
    ·exact⟨_,h.en⟩
    ·exact⟨_,h.wr⟩
   ·obtain⟨j,hj⟩:=fm hb
    have cw:=(bj.mp hj).1
    rw[h.ws.len]at cw
    exact⟨_,h.ws.at_ j b _ hj (aH cw)⟩
  ·exact r.tracked x hx
theorem cK{l:aa}{xs:List LA}{b:aa}:b∈eR l xs↔b=l\/∃x∈xs,b∈a7 x:=by simp[eR,fk]
theorem dE.tracked{C:aa}{H:Hp}{l:aa}{xs:List LA}{st:List Lv}(S:dE C H l xs st){b:aa}(hb:b∈eR l xs):∃o,H b=some o:=by
 rcases cK.mp hb with rfl|⟨x,hx,hb⟩
 ·exact⟨_,S.lst⟩
 ·exact(S.lv.tracked x hx).1 b hb
theorem dE.push{C:aa}{H H1:Hp}{l:aa}{xs:List LA}{st:List Lv}{x:LA}{v:Lv}(S:dE C H l xs st)(s1:aC H H1)(L:fL C H1 x v)(has:x.as=[])(fr:∀b∈a7 x,H b=none) :dE C (upd H1 l (.lst ((xs.map fun x=>V.ref x.p).reverse++[V.ref x.p]))) l (x ::xs) (v ::st):=by
 obtain⟨dx,ho⟩:=L.ob
 have kl:ar [l] H1 (upd H1 l (.lst ((xs.map fun x=>V.ref x.p).reverse++[V.ref x.p]))):=ar.upd
 have nl:∀b∈a7 x,b≠l:=fun b hb z=>by
  have q:=fr b hb
  rw[z,S.lst]at q;cases q
 have nold:∀b∈a7 x,b∉eR l xs:=fun b hb m=>by
  obtain⟨o,q⟩:=S.tracked m
  rw[fr b hb]at q;cases q
 have nd':=eD.mp S.nd
 refine⟨?_,.cons (L.keep kl ?_ ?_ ?_ ?_) ((S.lv.keep (ys:=[]) (fun b o e _=>s1 b o e) (fun _ _ _ _=>by simp) fun _ _ _ _=>by simp).keep kl ?_ ?_),?_,?_⟩
 ·rw[ax,dB,vn]
 ·simpa using nl x.p (by simp[a7])
 ·simpa using nl x.e (by simp[a7])
 ·simpa using nl x.w (by simp[a7])
 ·rw[has];intro _ h;simp at h
 ·intro y hy b hb
  have:b∈xs.flatMap a7:=fk.mpr ⟨y,hy,hb⟩
  intro z
  rw[aO.mp z]at this
  exact nd'.1 this
 ·intro y hy b hb z
  exact S.sep y hy b hb (by rw[aO.mp z];exact cK.mpr (.inl rfl))
 ·have h1:(a7 x).Nodup:=by
   have pe:x.p≠x.e:=dN ho L.en (by intro q;cases q)
   have pw:x.p≠x.w:=dN ho L.wr (by intro q;cases q)
   simp[a7,pe,pw,L.ew]
  show(l ::(a7 x++xs.flatMap a7)).Nodup
  refine eD.mpr ⟨fun m=>?_,ir.mpr ⟨h1,nd'.2,fun b hb c hc e=>?_⟩⟩
  ·rcases cQ.mp m with m|m
   ·exact nl l m rfl
   ·exact nd'.1 m
  ·subst e
   exact nold b hb (cb _ hc)
 ·intro y hy b hb m
  rcases aZ.mp hy with rfl|hy
  ·rw[has]at hb;simp at hb
  ·have hm:b∈a7 x\/b∈eR l xs:=by
    rcases cK.mp m with z|⟨z,hz,m2⟩
    ·exact .inr (cK.mpr (.inl z))
    ·rcases aZ.mp hz with e|hz
     ·rw[e]at m2;exact .inl m2
     ·exact .inr (cK.mpr (.inr ⟨z,hz,m2⟩))
   rcases hm with m|m
   ·obtain⟨o,q⟩:=(S.lv.tracked y hy).2 b hb
    rw[fr b m]at q;cases q
   ·exact S.sep y hy b hb m
def tq(a:AD):Sp:=fun vs H Q E=>∃(l:aa) (xs:List LA) (st:List Lv) (c:Nat),vs=[.ref l,.int c]/\dE a.bb H l xs st/\st.length<=1000 /\
 Res a.dU a.cE E (begin_ st c) fun bu=>∀(H':Hp) (x:LA),dE a.bb H' l (x ::xs) bu->x.as=[]->(∀b∈a7 x,H b=none)->ar [l] H H'->Q .bo H'
theorem scBeginBracket:bQ ["levels","sign"] ["levels","sign"] (aK my):=⟨rfl,rfl,rfl,by decide +kernel,rfl,by decide +kernel,by decide +kernel⟩
theorem okBeginBracket(T:Tx K mg a):aD P w K mg base (aB P w) 3 a.jI a.tF ["levels","sign"] (tq a):=by
 have GL:aD P w K mg base (aB P w) 1 a.jb a.dLevel ["self","bracket"] (spLevel a.bb):=okLevel T
 refine cn T.qw.fn scBeginBracket (fun vs H Q E h=>?_) (fun aY A outer s H vs Q E hr h=>?_)
 ·obtain⟨l,xs,st,c,rfl,_⟩:=h
  rfl
 ·obtain⟨l,xs,st,c,rfl,S,hle,R⟩:=h
  refine⟨_,aF (cF (bP hZ (dr eB (by rfl) T.dh dG (aj (pv 0) au)) (bV T.iMOST_BRACKETS) (bU _)) (aE (fO fK T.gk rfl rfl)) cU)
   (aE (dX (gp fJ kU kW j3 (pv 0) (aj (pe_make T.dM.mak GL hr rfl T.dM.mg T.dM.bd .nil bC (aj (pv 1) au)) au)))),?_⟩
  have elen:((xs.map fun x=>V.ref x.p).reverse).length=st.length:=by rw[vo,aP];exact S.lv.len
  refine⟨_,rfl,l,_,rfl,.inl (ao.of S.lst),_,_,rfl,rfl,_,rfl,?_⟩
  refine bF (fun h32=>?_) (fun h32=>?_)
  ·have h32:=of_decide_eq_true h32
   rw[elen]at h32
   exact R.wrong (by unfold begin_;rw[if_pos (by omega)]) _
  ·have h32:¬ 32<st.length:=fun z=>h32 (decide_eq_true (by rw[elen];omega))
   have R':=R.ok (a:=⟨c,[],[],false⟩ ::st) (by unfold begin_;rw[if_neg h32])
   refine⟨_,rfl,.inl ⟨rfl,_,ao.of S.lst⟩,?_⟩
   refine⟨_,rfl,fun p dx np nd ne=>?_⟩
   refine⟨p,dx,c,rfl,ax,fun H1 e w L he hw k1=>⟨rfl,?_⟩⟩
   have s1:aC H H1:=aC.made np nd fun b o q n=>k1 b o q (by simpa using n)
   refine⟨l,_,_,rfl,rfl,s1 _ _ S.lst,(by rw[elen];exact iu hle (by decide)),?_⟩
   have fr0:∀b,(upd (upd H dx (.own p)) p (.ins a.bb dx [])) b=none->H b=none:=fun b q=>by
    have n1:b≠p:=fun z=>by rw[z,ax]at q;cases q
    rw[ak n1]at q
    have n2:b≠dx:=fun z=>by rw[z,ax]at q;cases q
    rw[ak n2]at q
    exact q
   refine R' _ ⟨p,e,w,[]⟩ (S.push s1 L rfl fun b hb=>?_) rfl (fun b hb=>?_) fun b o q n=>?_
   ·simp only[a7,aZ,dC,or_false]at hb
    rcases hb with rfl|rfl|rfl
    ·exact np
    ·exact fr0 _ he
    ·exact fr0 _ hw
   ·simp only[a7,aZ,dC,or_false]at hb
    rcases hb with rfl|rfl|rfl
    ·exact np
    ·exact fr0 _ he
    ·exact fr0 _ hw
   ·rw[ak (fun z=>n (by simp[z]))]
    exact s1 _ _ q
theorem dE.pop{C:aa}{H:Hp}{l:aa}{x:LA}{xs:List LA}{v:Lv}{st:List Lv}(S:dE C H l (x ::xs) (v ::st)){ys:List aa}{H':Hp}(k:ar ys H H')(hl:H' l=some (.lst ((xs.map fun x=>V.ref x.p).reverse)))(hy:∀b∈ys,b=l\/b∈a7 x) :dE C H' l xs st:=by
 have nd':=eD.mp S.nd
 have nd2:(a7 x++xs.flatMap a7).Nodup:=nd'.2
 obtain⟨_,n2,n3⟩:=ir.mp nd2
 cases S.lv with
 |cons L r=>
  refine⟨hl,r.keep k (fun z hz b hb m=>?_) (fun z hz b hb m=>?_),eD.mpr ⟨fun m=>nd'.1 (fP _ m),n2⟩,fun z hz b hb m=>S.sep z (cb _ hz) b hb ?_⟩
  ·have hb2:b∈xs.flatMap a7:=fk.mpr ⟨z,hz,hb⟩
   rcases hy b m with rfl|q
   ·exact nd'.1 (fP _ hb2)
   ·exact n3 b q b hb2 rfl
  ·rcases hy b m with rfl|q
   ·exact S.sep z (cb _ hz) _ hb (cK.mpr (.inl rfl))
   ·exact S.sep z (cb _ hz) _ hb (cK.mpr (.inr ⟨x,b9 ..,q⟩))
  ·rcases cK.mp m with q|⟨y,hy,q⟩
   ·exact cK.mpr (.inl q)
   ·exact cK.mpr (.inr ⟨y,cb _ hy,q⟩)
def spEndBracket(a:AD):Sp:=fun vs H Q E=>∃(l:aa) (x:LA) (xs:List LA) (v:Lv) (st:List Lv) (br:Nat),vs=[.ref l,.int br]/\dE a.bb H l (x ::xs) (v ::st)/\x.as.length<=10000 /\
 Res a.dU a.cE E (gu br (v ::st)) fun p=>∀(H':Hp) (e:aa) (as:List aa),H' e=some (.lst (as.map V.ref))->fC H' as p.1->dE a.bb H' l xs p.2->ar (eR l (x ::xs)) H H'->Q (.ref e) H'
theorem scEndBracket:bQ ["levels","bracket","level"] ["levels","bracket"] (aK mM):=⟨rfl,rfl,rfl,by decide +kernel,rfl,by decide +kernel,by decide +kernel⟩
theorem okEndBracket(T:Tx K mg a):aD P w K mg base (aB P w) 2 a.jQ a.ue ["levels","bracket"] (spEndBracket a):=by
 have GE:aD P w K mg base (aB P w) 1 a.iI a.pD ["level"] (pz a):=okEndWord T
 refine cn T.lr.fn scEndBracket (fun vs H Q E h=>?_) (fun aY A outer s H vs Q E hr h=>?_)
 ·obtain⟨l,x,xs,v,st,br,rfl,_⟩:=h
  rfl
 ·obtain⟨l,x,xs,v,st,br,rfl,S,hle,R⟩:=h
  have L:fL a.bb H x v:=by cases S.lv with|cons h _=>exact h
  obtain⟨dx,ho⟩:=L.ob
  refine⟨_,aF (bB (i:=2) scEndBracket.nd rfl (aQ rfl) (pe_bm0 fJ vP vQ mt_pop (pv 0)))
   (aF (cF (bP op_ne (fY (pv 2) rfl) (pv 1) (bU _)) (aE (fO fK T.gk rfl rfl)) cU)
   (aF (dX (bp GE hr rfl T.iK.mg T.iK.fn.kp T.iK.bd .nil bC (aj (pv 2) au)))
   (aE (bE (fY (pv 2) rfl))))),?_⟩
  have er:((x ::xs).map fun x=>V.ref x.p).reverse=(xs.map fun x=>V.ref x.p).reverse++[V.ref x.p]:=by rw[dB,vn]
  have hl:=S.lst
  rw[er]at hl
  refine⟨_,rfl,.inl ⟨rfl,_,ao.of hl⟩,l,_,V.ref x.p,rfl,rfl,hl,(by simp),?_⟩
  have edl:((xs.map fun x=>V.ref x.p).reverse++[V.ref x.p]).dropLast=(xs.map fun x=>V.ref x.p).reverse:=by simp
  rw[edl]
  have nlm:∀b∈a7 x,b≠l:=fun b hb z=>(eD.mp S.nd).1 (by rw[<-z];exact dZ _ hb)
  have k1:ar [l] H (upd H l (.lst ((xs.map fun x=>V.ref x.p).reverse))):=ar.upd
  have L1:fL a.bb (upd H l (.lst ((xs.map fun x=>V.ref x.p).reverse))) x v:=L.keep k1 (by simpa using nlm x.p (by simp[a7])) (by simpa using nlm x.e (by simp[a7])) (by simpa using nlm x.w (by simp[a7]))
   fun b hb m=>S.sep x (b9 ..) b hb (by rw[aO.mp m];exact cK.mpr (.inl rfl))
  obtain⟨dx1,ho1⟩:=L1.ob
  refine⟨_,rfl,x.p,a.bb,dx1,_,_,rfl,ho1,T.dM.cl,T.oR,lf_br,_,rfl,rfl,_,rfl,?_⟩
  refine bF (fun hb=>?_) (fun hb=>?_)
  ·have hb:v.br≠br:=fun z=>by
    have q:(!decide (V.int (v.br:Int)=V.int (br:Int)))=true:=hb
    rw[decide_eq_true (dF.mpr z)]at q
    cases q
   exact R.wrong (by show(if v.br=br then _ else _)=_;rw[if_neg hb]) _
  ·have hb:v.br=br:=fX fun z=>hb (by
    show(!decide (V.int (v.br:Int)=V.int (br:Int)))=true
    rw[decide_eq_false fun q=>z (dF.mp q)];rfl)
   have eb:gu br (v ::st)=(dj v).bind fun m=>.ok (m.ended,st):=by show(if v.br=br then _ else _)=_;rw[if_pos hb]
   rw[eb]at R
   refine⟨_,rfl,x,v,rfl,L1,hle,R.bind.imp fun v' ev R3 H2 w' L2' hw k2=>?_⟩
   obtain⟨dx2,ho2⟩:=L2'.ob
   refine⟨_,rfl,x.p,a.bb,dx2,_,_,rfl,ho2,T.dM.cl,T.oX,lf_en,?_⟩
   have k12:ar ([l]++[x.p,x.e]) H H2:=k1.trans k2
   refine R3 H2 x.e (x.as++[x.w]) L2'.en L2'.ws (S.pop k12 ?_ ?_) (k12.mono ?_)
   ·exact k2 l _ ax (by
     intro m
     simp only[aZ,dC,or_false]at m
     rcases m with m|m
     ·exact nlm x.p (by simp[a7]) m.symm
     ·exact nlm x.e (by simp[a7]) m.symm)
   ·intro b hb
    simp only[uV,nW,aZ,dC,or_false]at hb
    rcases hb with rfl|rfl|rfl
    ·exact .inl rfl
    ·exact .inr (by simp[a7])
    ·exact .inr (by simp[a7])
   ·intro b hb
    simp only[uV,nW,aZ,dC,or_false]at hb
    rcases hb with rfl|rfl|rfl
    ·exact cK.mpr (.inl rfl)
    ·exact cK.mpr (.inr ⟨x,b9 ..,by simp[a7]⟩)
    ·exact cK.mpr (.inr ⟨x,b9 ..,by simp[a7]⟩)
theorem lc_rev{K :ay}{a :aa}{xs :List V}{g :TG}{tt :TT}{te :TE}{vs :List Nat}{σ :L2.St}{H1 :Hp}{D :aa}{Qd :Hp -> Prop}(Pv :Nat -> Hp -> Prop)(h0 :Pv 0 (upd H1 D (.lst [])))(hl:∀i H,i <= xs.length -> Pv i H -> ao K H a xs)(hs:∀i x H,xs.reverse[i]? = some x -> Pv i H -> g x (wipe σ vs) H fun σ2 H2 => wipe σ2 vs = wipe σ vs /\ tt σ2 H2 fun b H3 => if b = true then te σ2 H3 fun y H4 => ∃acc,H4 D = some (.lst acc) /\ acc.length < sizeLine /\ Pv (i + 1) (upd H4 D (.lst (acc ++ [y])))else Pv (i + 1) H3)(hd:∀H,Pv xs.length H -> Qd H):∃W :Nat -> Nat -> Hp -> Prop,(∃m,W 0 m (upd H1 D (.lst []))) /\ ∀i m H,W i m H -> ((Itv K a xs.length).stop i H /\ Qd H) \/ ((Itv K a xs.length).go i H /\ ∃Nx :Hp -> Prop,(∀H',Nx H' -> ∃m',m' < m /\ W (i + 1) m' H') /\ ∀x H',(Itv K a xs.length).yld i H x H' -> g x (wipe σ vs) H' fun σ2 H2 => wipe σ2 vs = wipe σ vs /\ tt σ2 H2 fun b H3 => if b = true then te σ2 H3 fun y H4 => ∃acc,H4 D = some (.lst acc) /\ acc.length < sizeLine /\ Nx (upd H4 D (.lst (acc ++ [y])))else Nx H3):= by
  refine⟨fun i m H => m = xs.length - i /\ i <= xs.length /\ Pv i H,⟨xs.length,by simp,de _,h0⟩,?_⟩
  rintro i m H ⟨rfl,hi,p⟩
  have q := hl i H hi p
  by_cases aR :i < xs.length
  · have hj :xs.length - 1 - i < xs.length := by omega
    refine .inr ⟨⟨aR,xs,xs[xs.length - 1 - i],q,aH hj⟩,Pv (i + 1),fun H' p' => ⟨xs.length - (i + 1),by omega,rfl,aR,p'⟩,fun x H' y => ?_⟩
    obtain⟨e,y⟩ := y
    subst e
    exact hs i x _ (by rw[List.getElem?_reverse aR]; exact y xs q) p
  · have e :i = xs.length := by omega
    subst e
    exact .inl ⟨aI _,hd H p⟩
theorem enc_inv(l:kP):encL (l.1,!l.2) = -encL l:=by
 obtain⟨i,b⟩:=l
 cases b<;>simp[encL]
theorem wv_inv(w:b8):wv (eE w)=(w.reverse.map fun l=>V.int (-encL l)):=by
 unfold eE wv
 rw[fG]
 exact pR fun l _=>by show V.int (encL (l.1,!l.2))=_;rw[enc_inv]
def spInverse(K:ay):Sp:=fun vs H Q _=>∃(q:aa) (u:b8),vs=[.ref q]/\ao K H q (wv u)/\u.length<=10000/\∀(H':Hp) (r:aa),H r=none->H'=upd H r (.lst (wv (eE u)))->Q (.ref r) H'
theorem scInverse:bQ ["word","number"] ["word"] (aK nz):=⟨rfl,rfl,rfl,by decide +kernel,rfl,by decide +kernel,by decide +kernel⟩
theorem okInverse(T:Tx K mg a):aD P w K mg base (aB P w) 1 a.ji a.dInverse ["word"] (spInverse K):=by
 refine cn T.iL.fn scInverse (fun vs H Q E h=>?_) (fun aY A outer s H vs Q E hr h=>?_)
 ·obtain⟨q,u,rfl,_⟩:=h
  rfl
 ·obtain⟨q,u,rfl,hq,hu,k⟩:=h
  refine⟨_,aE (bE (pe_lc (own:=[("number",1)]) rfl scInverse.nd (pi_reversed rfl T.pb (aj (pv 0) au)) (iH (by kernel_rfl))
   (fun s H C cl fp=>cV (i:=1) scInverse.nd rfl (aQ rfl) (.inr rfl)) (fun s H C cl fp=>pts_nil) (fun s H C cl fp=>pe_un i8 (pv 1)))),?_⟩
  refine⟨_,rfl,q,wv u,rfl,hq,fun D hD=>?_⟩
  have kD:∀acc,aC H (upd H D (.lst acc)):=fun acc b o e=>by rw[ak (bg e hD)];exact e
  refine lc_rev (xs:=wv u) (fun i H'=>H'=upd H D (.lst ((u.reverse.take i).map fun l=>V.int (-encL l)))) rfl (fun i H' _ e=>by rw[e];exact(kD _).seq hq) (fun i x H' hx e=>?_) fun H' e=>?_
  ·subst e
   obtain⟨l,hl,rfl⟩:∃l,u.reverse[i]?=some l/\x=V.int (encL l):=by
    rw[<-xJ,bH]at hx
    cases e:u.reverse[i]? with
    |none=>rw[e]at hx;cases hx
    |some l=>rw[e]at hx;exact⟨l,rfl,(cC hx).symm⟩
   have aR:=(bj.mp hl).1
   refine⟨rfl,_,rfl,_,rfl,_,ax,?_,?_⟩
   ·rw[aP,gG]
    rw[vo]at aR
    exact iu (cZ (Nat.min_le_left _ _) (by omega:i<=10000)) (by decide)
   ·show upd (upd H D _) D _=upd H D _
    rw[upd_upd,eW,hl]
    simp
  ·subst e
   refine k _ D hD ?_
   rw[wv_inv,lU (by simp)]
theorem fQ(u:b8):(wv u).length=u.length:=aP ..
theorem jo{n:Nat}(h:n<=100000):n<=sizeLine:=cZ h (by decide)
theorem bootAbs:bootBuiltins "abs" = some (.builtin "abs"):=by decide +kernel
def spCommutator(a:AD):Sp:=fun vs H Q E=>∃(q r:aa) (x y:b8),vs=[.ref q,.ref r]/\H q=some (.lst (wv x))/\H r=some (.lst (wv y))/\x.length<=d4/\y.length<=d4 /\
 Res a.dU a.cE E (comm x y) fun z=>∀(H':Hp) (p:aa),H' p=some (.lst (wv z))->ar [] H H'->Q (.ref p) H'
theorem scCommutator:bQ ["left","right"] ["left","right"] (aK mO):=⟨rfl,rfl,rfl,by decide +kernel,rfl,by decide +kernel,by decide +kernel⟩
theorem okCommutator(T:Tx K mg a):aD P w K mg base (aB P w) 2 a.jR a.uf ["left","right"] (spCommutator a):=by
 have GI:aD P w K mg base (aB P w) 1 a.ji a.dInverse ["word"] (spInverse K):=okInverse T
 refine cn T.qL.fn scCommutator (fun vs H Q E h=>?_) (fun aY A outer s H vs Q E hr h=>?_)
 ·obtain⟨q,r,x,y,rfl,_⟩:=h
  rfl
 ·obtain⟨q,r,x,y,rfl,hq,hr',lx,ly,R⟩:=h
  refine⟨_,aF (cF (bP hZ (c5 op_mul cj (c5 gN (dr eB (by rfl) T.dh dG (aj (pv 0) au)) (dr eB (by rfl) T.dh dG (aj (pv 1) au)))) (bV T.iMOST_WRITTEN) (bU _)) (aE (fO fK T.xTooLong rfl rfl)) cU)
   (aE (bE (c5 op_cat (c5 op_cat (c5 op_cat (pv 0) (pv 1)) (bp GI hr rfl T.iL.mg T.iL.fn.kp T.iL.bd .nil bC (aj (pv 0) au))) (bp GI hr rfl T.iL.mg T.iL.fn.kp T.iL.bd .nil bC (aj (pv 1) au))))),?_⟩
  refine⟨_,rfl,q,_,rfl,.inl (ao.of hq),_,rfl,r,_,rfl,.inl (ao.of hr'),_,_,rfl,rfl,_,_,rfl,rfl,.inl ⟨by decide,by decide⟩,_,_,rfl,rfl,_,rfl,?_⟩
  unfold d4 at lx ly
  refine bF (fun h=>?_) (fun h=>?_)
  ·have h:=of_decide_eq_true h
   simp only[fQ]at h
   exact R.full (by unfold comm d4;rw[if_pos (by omega)]) _
  ·have hn:¬d4<2*(x.length+y.length):=fun z=>h (decide_eq_true (by simp only[fQ];unfold d4 at z;omega))
   have R':=R.ok (a:=x++y++eE x++eE y) (by unfold comm;rw[if_neg hn])
   unfold d4 at hn
   refine⟨_,rfl,_,rfl,q,r,_,_,rfl,rfl,hq,hr',(by simp only[fQ];exact jo (by omega)),fun p1 h1=>?_⟩
   have s1:aC H (upd H p1 (.lst (wv x++wv y))):=(ar.new h1).same
   refine⟨_,rfl,q,x,rfl,ao.of (s1 _ _ hq),by omega,fun H2 p2 h2 e2=>?_⟩
   subst e2
   have s2:aC (upd H p1 (.lst (wv x++wv y))) (upd (upd H p1 (.lst (wv x++wv y))) p2 (.lst (wv (eE x)))):=(ar.new h2).same
   refine⟨p1,p2,_,_,rfl,rfl,s2 _ _ ax,ax,(by simp only[cx,fQ,ig];exact jo (by omega)),fun p3 h3=>?_⟩
   have s3:aC _ (upd (upd (upd H p1 (.lst (wv x++wv y))) p2 (.lst (wv (eE x)))) p3 (.lst (wv x++wv y++wv (eE x)))):=(ar.new h3).same
   refine⟨_,rfl,r,y,rfl,ao.of (s3 _ _ (s2 _ _ (s1 _ _ hr'))),by omega,fun H4 p4 h4 e4=>?_⟩
   subst e4
   have s4:=(ar.new (o:=.lst (wv (eE y))) h4).same
   refine⟨p3,p4,_,_,rfl,rfl,s4 _ _ ax,ax,(by simp only[cx,fQ,ig];exact jo (by omega)),fun p5 h5=>?_⟩
   have s5:=(ar.new (o:=.lst (wv x++wv y++wv (eE x)++wv (eE y))) h5).same
   refine R' _ p5 (by rw[ax];simp[wv]) fun b o e _=>s5 _ _ (s4 _ _ (s3 _ _ (s2 _ _ (s1 _ _ e))))
def addLv(v:Lv)(u:b8)(n:Nat)(neg:Bool):gc Lv:=if d4<v.wr.length+u.length*n then .error .full else .ok ⟨v.br,v.ended,v.wr++rep n (if neg=true then eE u else u),true⟩
theorem addPart_eq(v:Lv)(st:List Lv)(u:b8)(n:Nat)(neg:Bool):addPart (v ::st) u n neg=(addLv v u n neg).bind fun v'=>.ok (v' ::st):=by
 unfold addPart addLv
 simp only
 split<;>rfl
def spAddPart(a:AD):Sp:=fun vs H Q E=>∃(x:LA) (v:Lv) (q:aa) (u:b8) (n:Nat) (neg:Bool),vs=[.ref x.p,.ref q,.int (dA n neg)]/\fL a.bb H x v/\H q=some (.lst (wv u))/\u.length<=d4/\n<=100000 /\
 Res a.dU a.cE E (addLv v u n neg) fun v'=>∀H':Hp,fL a.bb H' x v'->ar [x.p,x.w] H H'->Q .bo H'
theorem scAddPart:bQ ["level","part","power","times"] ["level","part","power"] (aK nA):=⟨rfl,rfl,rfl,by decide +kernel,rfl,by decide +kernel,by decide +kernel⟩
theorem wv_rep(n:Nat)(u:b8):(eI n (wv u)).flatten=wv (rep n u):=by
 unfold rep wv
 rw[List.map_flatten,List.map_replicate]
theorem okAddPart (T:Tx K mg a):aD P w K mg base (aB P w) 2 a.ka a.dAddPart ["level","part","power"] (spAddPart a):=by
 have GI:aD P w K mg base (aB P w) 1 a.ji a.dInverse ["word"] (spInverse K):=okInverse T
 refine cn T.gAddPart.fn scAddPart (fun vs H Q E h=>?_) (fun aY A outer s H vs Q E hr h=>?_)
 ·obtain ⟨x,v,q,u,n,neg,rfl,_⟩:=h
  rfl
 ·obtain ⟨x,v,q,u,n,neg,rfl,L,hq,hu,hn,R⟩:=h
  obtain ⟨dx,ho⟩:=L.ob
  have lw:=L.lw
  unfold d4 at hu lw
  refine ⟨_,aF (bB (i:=3) scAddPart.nd rfl (aQ rfl) (dr call_abs (by rfl) T.b_abs bootAbs (aj (pv 2) au)))
   (aF (cF (bP hZ (c5 gN (dr eB (by rfl) T.dh dG (aj (fY (pv 0) rfl) au)) (c5 op_mul (dr eB (by rfl) T.dh dG (aj (pv 1) au)) (pv 3))) (bV T.iMOST_WRITTEN) (bU _)) (aE (fO fK T.xTooLong rfl rfl)) cU)
   (aF (dX (gp fJ sh sj mt_extend (fY (pv 0) rfl)
    (aj (c5 op_rep (pe_ifExp (bP iC (pv 2) cj (bU _)) (bp GI hr rfl T.iL.mg T.iL.fn.kp T.iL.bd .nil bC (aj (pv 1) au)) (pv 1)) (pv 3)) au)))
   (aE (i9 (pv 0) pe_bl rfl)))),?_⟩
  have eabs:(if dA n neg<0 then -dA n neg else dA n neg)=(n:Int):=by
   unfold dA
   cases neg<;>simp<;>omega
  refine ⟨_,rfl,_,rfl,?_⟩
  rw [eabs]
  refine ⟨_,rfl,x.p,a.bb,dx,_,_,rfl,ho,T.dM.cl,T.oS,lf_wr,x.w,_,rfl,.inl (ao.of L.wr),_,rfl,q,_,rfl,.inl (ao.of hq),_,rfl,_,_,rfl,rfl,.inl ⟨by simp only [fQ];omega,by simp only [fQ];omega⟩,_,_,rfl,rfl,_,_,rfl,rfl,_,rfl,?_⟩
  refine bF (fun h=>?_) (fun h=>?_)
  ·have h:=of_decide_eq_true h
   simp only [fQ] at h
   refine R.full ?_ _
   unfold addLv d4
   rw [if_pos (by exact_mod_cast h)]
  ·have hm:¬ d4<v.wr.length+u.length*n:=fun z=>h (decide_eq_true (by simp only [fQ];unfold d4 at z;exact_mod_cast z))
   have R':=R.ok (a:=⟨v.br,v.ended,v.wr++rep n (if neg=true then eE u else u),true⟩) (by unfold addLv;rw [if_neg hm])
   unfold d4 at hm
   have pw:x.p≠x.w:=dN ho L.wr (by intro q;cases q)
   have pe:x.p≠x.e:=dN ho L.en (by intro q;cases q)
   have zl:(rep n (if neg=true then eE u else u)).length=u.length*n:=by rw [rep_len];split<;>simp [ig]
   have key:∀ (H1:Hp) (r:aa),aC H H1->H1 r=some (.lst (wv (rep n (if neg=true then eE u else u)))) ->
     Q .bo (upd (upd H1 x.w (.lst (wv v.wr++wv (rep n (if neg=true then eE u else u))))) x.p (.ins a.bb dx (di "has_part" (.bl true) (lf v.br x.e x.w v.hp)))):=by
    intro H1 r s1 hr1
    have kp:ar [x.p,x.w] H (upd (upd H1 x.w (.lst (wv v.wr++wv (rep n (if neg=true then eE u else u))))) x.p (.ins a.bb dx (di "has_part" (.bl true) (lf v.br x.e x.w v.hp)))):=fun b o hb m=>by
     rw [ak (fun z=>m (by simp [z])),ak (fun z=>m (by simp [z]))]
     exact s1 _ _ hb
    refine R' _ ⟨⟨dx,by rw [ax,lf_put_hp]⟩,kp _ _ L.en (by simp;exact ⟨pe.symm,L.ew⟩),?_,L.ws.keep kp ?_,L.ew,L.ae,?_⟩ kp
    ·rw [ak pw.symm,ax]
     simp [wv]
    ·intro z hz m
     obtain ⟨j,hj⟩:=fm hz
     have cw:=(bj.mp hj).1
     rw [L.ws.len] at cw
     have hz2:=L.ws.at_ j z _ hj (aH cw)
     simp only [aZ,dC,or_false] at m
     rcases m with m | m
     ·exact dN hz2 ho (by intro q;cases q) m
     ·exact (L.ae z hz).2 m
    ·show (v.wr++rep n (if neg=true then eE u else u)).length<=d4
     rw [cx,zl]
     unfold d4
     omega
   have n63:(n:Int)<2 ^ 63:=by omega
   refine ⟨_,rfl,x.p,a.bb,dx,_,_,rfl,ho,T.dM.cl,T.oS,lf_wr,.inl ⟨rfl,_,ao.of L.wr⟩,_,rfl,_,_,rfl,rfl,_,rfl,?_⟩
   refine bF (fun h0=>?_) (fun h0=>?_)
   ·have h0:dA n neg<0:=of_decide_eq_true h0
    have en:neg=true:=by
     cases neg with
     | true=>rfl
     | false=>unfold dA at h0;simp at h0;omega
    refine ⟨_,rfl,q,u,rfl,ao.of hq,by omega,fun H2 r h2 e2=>?_⟩
    subst e2
    have s2:aC H (upd H r (.lst (wv (eE u)))):=(ar.new h2).same
    refine ⟨_,rfl,r,_,_,rfl,rfl,ax,by omega,n63,?_,fun p hp=>?_⟩
    ·rw [fQ,ig,gi]
     exact jo (by omega)
    ·have s3:=(ar.new (o:=.lst (eI (n:Int).toNat (wv (eE u))).flatten) hp).same
     have ez:(eI (n:Int).toNat (wv (eE u))).flatten=wv (rep n (if neg=true then eE u else u)):=by rw [gi,wv_rep,en];rfl
     rw [ez] at s3 ⊢
     have wp:x.p≠p:=bg (s2 _ _ ho) hp
     refine ⟨x.w,p,_,_,rfl,rfl,s3 _ _ (s2 _ _ L.wr),ax,(by rw [fQ,fQ,zl];exact jo (by omega)),?_⟩
     refine ⟨_,rfl,x.p,a.bb,dx,_,rfl,by rw [ak pw];exact s3 _ _ (s2 _ _ ho),T.dM.cl,T.oO,(by show 4<1000;decide),?_⟩
     exact key _ p (fun b o e=>s3 _ _ (s2 _ _ e)) ax
   ·have hz:rep n (if neg=true then eE u else u)=rep n u:=by
     cases neg with
     | false=>rfl
     | true=>
      have:n=0:=fX fun z=>h0 (decide_eq_true (by unfold dA;simp;omega))
      subst this
      rfl
    refine ⟨_,rfl,_,rfl,q,_,_,rfl,rfl,hq,by omega,n63,?_,fun p hp=>?_⟩
    ·rw [fQ,gi]
     exact jo (by omega)
    ·have s3:=(ar.new (o:=.lst (eI (n:Int).toNat (wv u)).flatten) hp).same
     have ez:(eI (n:Int).toNat (wv u)).flatten=wv (rep n (if neg=true then eE u else u)):=by rw [gi,wv_rep,hz]
     rw [ez] at s3 ⊢
     refine ⟨x.w,p,_,_,rfl,rfl,s3 _ _ L.wr,ax,(by rw [fQ,fQ,zl];exact jo (by omega)),?_⟩
     refine ⟨_,rfl,x.p,a.bb,dx,_,rfl,by rw [ak pw];exact s3 _ _ ho,T.dM.cl,T.oO,(by show 4<1000;decide),?_⟩
     exact key _ p s3 ax
theorem cut_ij{xs:List V}{i j:Nat}(h:i<=j)(hj:j<=xs.length):fB xs (some (i:Int)) (some (j:Int))=(xs.drop i).take (j-i):=by
 unfold fB HT.sIx
 have h1:¬((i:Int)<0):=by omega
 have h2:¬((j:Int)<0):=by omega
 simp only[h1,h2,if_false,gi]
 rw[rY (by omega:i<=xs.length),rY hj]
theorem cut_i{xs:List V}{i:Nat}(h:i<=xs.length):fB xs (some (i:Int)) none=xs.drop i:=by
 unfold fB HT.sIx
 have h1:¬((i:Int)<0):=by omega
 simp only[h1,if_false,gi]
 rw[rY h,lU (by simp)]
theorem cut_j{xs:List V}{j:Nat}(h:j<=xs.length):fB xs none (some (j:Int))=xs.take j:=by
 unfold fB HT.sIx
 have h1:¬((j:Int)<0):=by omega
 simp only[h1,if_false,gi]
 rw[rY h]
 simp
theorem ck(b:List Nat):(nv b).length=b.length:=aP ..
theorem nv_drop(b:List Nat)(i:Nat):(nv b).drop i=nv (b.drop i):=by simp[nv,vj]
theorem nv_take(b:List Nat)(i:Nat):(nv b).take i=nv (b.take i):=by simp[nv,vi]
theorem nv_at{b:List Nat}{i:Nat}{c:Nat}(h:b[i]?=some c):(nv b)[i]?=some (V.int (c:Int)):=by rw[bH,h];rfl
def eC(b:List Nat):List Nat:=if (b.head?==some 45)=true then 45 ::(b.drop 1).takeWhile bx else b.takeWhile bx
def spPowerSigns(K:ay):Sp:=fun vs H Q _=>∃(q:aa) (b:List Nat) (i:Nat),vs=[.ref q,.int i]/\ao K H q (nv b)/\i<=b.length/\b.length<=10000/\∀(r:aa),H r=none->Q (.ref r) (upd H r (.lst (nv (eC (b.drop i)))))
theorem qI:bQ ["signs","start","end"] ["signs","start"] (aK mQ):=⟨rfl,rfl,rfl,by decide +kernel,rfl,by decide +kernel,by decide +kernel⟩
theorem okPowerSigns (T:Tx K mg a):aD P w K mg base (aB P w) 1 a.jS a.ug ["signs","start"] (spPowerSigns K):=by
 refine cn T.qM.fn qI (fun vs H Q E h=>?_) (fun aY A outer s H vs Q E hr h=>?_)
 ·obtain ⟨q,b,i,rfl,_⟩:=h
  rfl
 ·obtain ⟨q,b,i,rfl,hq,hi,hb,k⟩:=h
  refine ⟨_,aF (bB (i:=2) qI.nd rfl (aQ rfl) (pv 1))
   (aF (cF (PW.pt (pw_and (bP iC (pv 2) (dr eB (by rfl) T.dh dG (aj (pv 0) au)) (bU _)) (pw_and1 (bP fz (dO eG (pv 0) (pv 2) (fun _ _=>rfl)) (bV T.iMINUS) (bU _)))))
    (aE (bB (i:=2) qI.nd rfl (aQ rfl) (c5 gN (pv 2) cj))) cU)
   (aF (ps_while eO (PW.pt (pw_and (bP iC (pv 2) (dr eB (by rfl) T.dh dG (aj (pv 0) au)) (bU _)) (pw_and (bP op_ge (dO eG (pv 0) (pv 2) (fun _ _=>rfl)) (bV T.iZERO) (bU _)) (pw_and1 (bP op_le (dO eG (pv 0) (pv 2) (fun _ _=>rfl)) (bV T.iNINE) (bU _))))))
    (aE (bB (i:=2) qI.nd rfl (aQ rfl) (c5 gN (pv 2) cj))))
   (aE (bE (pe_slice sl_list (pv 0) (po_some (pv 1)) (po_some (pv 2))))))),?_⟩
  refine ⟨_,rfl,_,rfl,_,rfl,q,_,rfl,.inl hq,_,_,rfl,rfl,_,rfl,?_⟩
  have tw:∀ (l:List Nat) (j:Nat) (c:Nat),l[j]?=some c->bx c=true->l.takeWhile bx=l.take j++(l.drop j).takeWhile bx->l.takeWhile bx=l.take (j+1)++(l.drop (j+1)).takeWhile bx:=fun l j c h1 h2 h3=>by
   obtain ⟨aR,hc⟩:=bj.mp h1
   rw [h3,xP aR,hc,kN,if_pos h2,eW,h1]
   simp
  have tn:∀ (l:List Nat) (j:Nat),(∀ c,l[j]?=some c->bx c=false)->l.takeWhile bx=l.take j++(l.drop j).takeWhile bx->l.takeWhile bx=l.take j:=fun l j h1 h3=>by
   rw [h3]
   cases e:l.drop j with
   | nil=>simp
   | cons c t=>
    have hc:l[j]?=some c:=by rw [<-rM,e];rfl
    rw [kN,if_neg (by rw [h1 c hc];decide),fV]
  refine bF (fun h1=>?_) (fun h1=>?_)
  ·have h1:i<b.length:=by
    have z:=of_decide_eq_true h1
    rw [ck] at z
    omega
   obtain ⟨c,hc⟩:∃ c,b[i]?=some c:=⟨b[i],aH h1⟩
   have hh:(b.drop i).head?=some c:=by rw [rM];exact hc
   refine ⟨_,rfl,_,rfl,q,_,_,_,rfl,rfl,hq,eV (nv_at hc),rfl,_,rfl,?_⟩
   refine bF (fun h2=>?_) (fun h2=>?_)
   ·have h2:c=45:=dF.mp (of_decide_eq_true h2)
    subst h2
    obtain ⟨k0,hk0⟩:∃ k0:Nat,k0=1:=⟨1,rfl⟩
    have e0:(b.drop i).take k0++((b.drop i).drop k0).takeWhile bx=eC (b.drop i):=by
     unfold eC
     rw [hh,if_pos (by rfl),hk0]
     cases e:b.drop i with
     | nil=>rw [e] at hh;cases hh
     | cons d t=>
      rw [e] at hh
      cases hh
      rfl
    have h0:i+k0<=b.length:=by omega
    refine ⟨_,rfl,_,_,rfl,rfl,?_⟩
    refine ⟨fun m σ H1=>∃ j:Nat,σ=[some (V.ref q),some (V.int (i:Int)),some (V.int ((i+k0+j:Nat):Int))]/\H1=H/\i+k0+j<=b.length/\m=b.length-(i+k0+j) /\
     ((b.drop i).drop k0).takeWhile bx=((b.drop i).drop k0).take j++(((b.drop i).drop k0).drop j).takeWhile bx,⟨_,0,congrArg (fun z=>[some (V.ref q),some (V.int (i:Int)),some (V.int z)]) (by omega),rfl,by omega,rfl,by simp⟩,?_⟩
    rintro m σ H1 ⟨j,rfl,rfl,hj,rfl,inv⟩
    have ixj:∀ c,((b.drop i).drop k0)[j]?=some c↔b[i+k0+j]?=some c:=fun c=>by rw [og,og,rT]
    have stop:(∀ c,((b.drop i).drop k0)[j]?=some c->bx c=false)->∀ r,H1 r=none->Q (.ref r) (upd H1 r (.lst (fB (nv b) (some (i:Int)) (some ((i+k0+j:Nat):Int))))):=fun hs r hr=>by
     have e1:fB (nv b) (some (i:Int)) (some ((i+k0+j:Nat):Int))=nv (eC (b.drop i)):=by
      rw [cut_ij (by omega) (by rw [ck];exact hj),nv_drop,nv_take,<-e0,tn _ j hs inv]
      have e2:i+k0+j-i=k0+j:=by omega
      rw [e2,vp]
     rw [e1]
     exact k r hr
    refine ⟨_,rfl,_,rfl,q,_,rfl,.inl hq,_,_,rfl,rfl,_,rfl,?_⟩
    refine bF (fun g1=>?_) (fun g1=>?_)
    ·have g1:i+k0+j<b.length:=by
      have z:=of_decide_eq_true g1
      rw [ck] at z
      omega
     obtain ⟨d,hd⟩:∃ d,b[i+k0+j]?=some d:=⟨b[i+k0+j],aH g1⟩
     refine ⟨_,rfl,_,rfl,q,_,_,_,rfl,rfl,hq,eV (nv_at hd),_,_,rfl,rfl,_,rfl,?_⟩
     refine bF (fun g2=>?_) (fun g2=>?_)
     ·have g2:48<=d:=by
       have z:=of_decide_eq_true g2
       omega
      refine ⟨_,rfl,_,rfl,q,_,_,_,rfl,rfl,hq,eV (nv_at hd),_,_,rfl,rfl,_,rfl,?_⟩
      refine bF (fun g3=>?_) (fun g3=>?_)
      ·have g3:d<=57:=by
        have z:=of_decide_eq_true g3
        omega
       have hdig:bx d=true:=by unfold bx;simp;omega
       refine ⟨fun σ' H'=>∃ j':Nat,j'=j+1/\σ'=[some (V.ref q),some (V.int (i:Int)),some (V.int ((i+k0+j':Nat):Int))]/\H'=H1,?_,_,rfl,_,_,rfl,rfl,j+1,rfl,congrArg (fun z=>[some (V.ref q),some (V.int (i:Int)),some (V.int z)]) (by omega),rfl⟩
       rintro σ' H' ⟨j',rfl,rfl,rfl⟩
       exact ⟨_,by omega,j+1,rfl,rfl,by omega,rfl,tw _ j d ((ixj d).mpr hd) hdig inv⟩
      ·refine ⟨_,rfl,_,rfl,_,rfl,_,rfl,_,rfl,q,_,rfl,hq,stop fun c hc=>?_⟩
       have e:=(ixj c).mp hc
       rw [hd] at e
       cases e
       have g3:¬ d<=57:=fun z=>g3 (decide_eq_true (by omega))
       unfold bx
       simp
       omega
     ·refine ⟨_,rfl,_,rfl,_,rfl,_,rfl,_,rfl,q,_,rfl,hq,stop fun c hc=>?_⟩
      have e:=(ixj c).mp hc
      rw [hd] at e
      cases e
      have g2:¬ 48<=d:=fun z=>g2 (decide_eq_true (by omega))
      unfold bx
      simp
      omega
    ·refine ⟨_,rfl,_,rfl,_,rfl,_,rfl,_,rfl,q,_,rfl,hq,stop fun c hc=>?_⟩
     have e:=(ixj c).mp hc
     have z:=(bj.mp e).1
     exact absurd (decide_eq_true (by rw [ck];omega)) g1
   ·have h2:c≠45:=fun z=>h2 (decide_eq_true (dF.mpr z))
    obtain ⟨k0,hk0⟩:∃ k0:Nat,k0=0:=⟨0,rfl⟩
    have e0:(b.drop i).take k0++((b.drop i).drop k0).takeWhile bx=eC (b.drop i):=by
     unfold eC
     rw [hh,if_neg (by simp [h2]),hk0]
     rfl
    have h0:i+k0<=b.length:=by omega
    refine ⟨fun m σ H1=>∃ j:Nat,σ=[some (V.ref q),some (V.int (i:Int)),some (V.int ((i+k0+j:Nat):Int))]/\H1=H/\i+k0+j<=b.length/\m=b.length-(i+k0+j) /\
     ((b.drop i).drop k0).takeWhile bx=((b.drop i).drop k0).take j++(((b.drop i).drop k0).drop j).takeWhile bx,⟨_,0,congrArg (fun z=>[some (V.ref q),some (V.int (i:Int)),some (V.int z)]) (by omega),rfl,by omega,rfl,by simp⟩,?_⟩
    rintro m σ H1 ⟨j,rfl,rfl,hj,rfl,inv⟩
    have ixj:∀ c,((b.drop i).drop k0)[j]?=some c↔b[i+k0+j]?=some c:=fun c=>by rw [og,og,rT]
    have stop:(∀ c,((b.drop i).drop k0)[j]?=some c->bx c=false)->∀ r,H1 r=none->Q (.ref r) (upd H1 r (.lst (fB (nv b) (some (i:Int)) (some ((i+k0+j:Nat):Int))))):=fun hs r hr=>by
     have e1:fB (nv b) (some (i:Int)) (some ((i+k0+j:Nat):Int))=nv (eC (b.drop i)):=by
      rw [cut_ij (by omega) (by rw [ck];exact hj),nv_drop,nv_take,<-e0,tn _ j hs inv]
      have e2:i+k0+j-i=k0+j:=by omega
      rw [e2,vp]
     rw [e1]
     exact k r hr
    refine ⟨_,rfl,_,rfl,q,_,rfl,.inl hq,_,_,rfl,rfl,_,rfl,?_⟩
    refine bF (fun g1=>?_) (fun g1=>?_)
    ·have g1:i+k0+j<b.length:=by
      have z:=of_decide_eq_true g1
      rw [ck] at z
      omega
     obtain ⟨d,hd⟩:∃ d,b[i+k0+j]?=some d:=⟨b[i+k0+j],aH g1⟩
     refine ⟨_,rfl,_,rfl,q,_,_,_,rfl,rfl,hq,eV (nv_at hd),_,_,rfl,rfl,_,rfl,?_⟩
     refine bF (fun g2=>?_) (fun g2=>?_)
     ·have g2:48<=d:=by
       have z:=of_decide_eq_true g2
       omega
      refine ⟨_,rfl,_,rfl,q,_,_,_,rfl,rfl,hq,eV (nv_at hd),_,_,rfl,rfl,_,rfl,?_⟩
      refine bF (fun g3=>?_) (fun g3=>?_)
      ·have g3:d<=57:=by
        have z:=of_decide_eq_true g3
        omega
       have hdig:bx d=true:=by unfold bx;simp;omega
       refine ⟨fun σ' H'=>∃ j':Nat,j'=j+1/\σ'=[some (V.ref q),some (V.int (i:Int)),some (V.int ((i+k0+j':Nat):Int))]/\H'=H1,?_,_,rfl,_,_,rfl,rfl,j+1,rfl,congrArg (fun z=>[some (V.ref q),some (V.int (i:Int)),some (V.int z)]) (by omega),rfl⟩
       rintro σ' H' ⟨j',rfl,rfl,rfl⟩
       exact ⟨_,by omega,j+1,rfl,rfl,by omega,rfl,tw _ j d ((ixj d).mpr hd) hdig inv⟩
      ·refine ⟨_,rfl,_,rfl,_,rfl,_,rfl,_,rfl,q,_,rfl,hq,stop fun c hc=>?_⟩
       have e:=(ixj c).mp hc
       rw [hd] at e
       cases e
       have g3:¬ d<=57:=fun z=>g3 (decide_eq_true (by omega))
       unfold bx
       simp
       omega
     ·refine ⟨_,rfl,_,rfl,_,rfl,_,rfl,_,rfl,q,_,rfl,hq,stop fun c hc=>?_⟩
      have e:=(ixj c).mp hc
      rw [hd] at e
      cases e
      have g2:¬ 48<=d:=fun z=>g2 (decide_eq_true (by omega))
      unfold bx
      simp
      omega
    ·refine ⟨_,rfl,_,rfl,_,rfl,_,rfl,_,rfl,q,_,rfl,hq,stop fun c hc=>?_⟩
     have e:=(ixj c).mp hc
     have z:=(bj.mp e).1
     exact absurd (decide_eq_true (by rw [ck];omega)) g1
  ·have h1:¬ i<b.length:=fun z=>h1 (decide_eq_true (by rw [ck];omega))
   obtain ⟨k0,hk0⟩:∃ k0:Nat,k0=0:=⟨0,rfl⟩
   have hh:b.drop i=[]:=xQ (by omega)
   have e0:(b.drop i).take k0++((b.drop i).drop k0).takeWhile bx=eC (b.drop i):=by
    rw [hh,hk0]
    rfl
   have h0:i+k0<=b.length:=by omega
   refine ⟨fun m σ H1=>∃ j:Nat,σ=[some (V.ref q),some (V.int (i:Int)),some (V.int ((i+k0+j:Nat):Int))]/\H1=H/\i+k0+j<=b.length/\m=b.length-(i+k0+j) /\
    ((b.drop i).drop k0).takeWhile bx=((b.drop i).drop k0).take j++(((b.drop i).drop k0).drop j).takeWhile bx,⟨_,0,congrArg (fun z=>[some (V.ref q),some (V.int (i:Int)),some (V.int z)]) (by omega),rfl,by omega,rfl,by simp⟩,?_⟩
   rintro m σ H1 ⟨j,rfl,rfl,hj,rfl,inv⟩
   have ixj:∀ c,((b.drop i).drop k0)[j]?=some c↔b[i+k0+j]?=some c:=fun c=>by rw [og,og,rT]
   have stop:(∀ c,((b.drop i).drop k0)[j]?=some c->bx c=false)->∀ r,H1 r=none->Q (.ref r) (upd H1 r (.lst (fB (nv b) (some (i:Int)) (some ((i+k0+j:Nat):Int))))):=fun hs r hr=>by
    have e1:fB (nv b) (some (i:Int)) (some ((i+k0+j:Nat):Int))=nv (eC (b.drop i)):=by
     rw [cut_ij (by omega) (by rw [ck];exact hj),nv_drop,nv_take,<-e0,tn _ j hs inv]
     have e2:i+k0+j-i=k0+j:=by omega
     rw [e2,vp]
    rw [e1]
    exact k r hr
   refine ⟨_,rfl,_,rfl,q,_,rfl,.inl hq,_,_,rfl,rfl,_,rfl,?_⟩
   refine bF (fun g1=>?_) (fun g1=>?_)
   ·have g1:i+k0+j<b.length:=by
     have z:=of_decide_eq_true g1
     rw [ck] at z
     omega
    obtain ⟨d,hd⟩:∃ d,b[i+k0+j]?=some d:=⟨b[i+k0+j],aH g1⟩
    refine ⟨_,rfl,_,rfl,q,_,_,_,rfl,rfl,hq,eV (nv_at hd),_,_,rfl,rfl,_,rfl,?_⟩
    refine bF (fun g2=>?_) (fun g2=>?_)
    ·have g2:48<=d:=by
      have z:=of_decide_eq_true g2
      omega
     refine ⟨_,rfl,_,rfl,q,_,_,_,rfl,rfl,hq,eV (nv_at hd),_,_,rfl,rfl,_,rfl,?_⟩
     refine bF (fun g3=>?_) (fun g3=>?_)
     ·have g3:d<=57:=by
       have z:=of_decide_eq_true g3
       omega
      have hdig:bx d=true:=by unfold bx;simp;omega
      refine ⟨fun σ' H'=>∃ j':Nat,j'=j+1/\σ'=[some (V.ref q),some (V.int (i:Int)),some (V.int ((i+k0+j':Nat):Int))]/\H'=H1,?_,_,rfl,_,_,rfl,rfl,j+1,rfl,congrArg (fun z=>[some (V.ref q),some (V.int (i:Int)),some (V.int z)]) (by omega),rfl⟩
      rintro σ' H' ⟨j',rfl,rfl,rfl⟩
      exact ⟨_,by omega,j+1,rfl,rfl,by omega,rfl,tw _ j d ((ixj d).mpr hd) hdig inv⟩
     ·refine ⟨_,rfl,_,rfl,_,rfl,_,rfl,_,rfl,q,_,rfl,hq,stop fun c hc=>?_⟩
      have e:=(ixj c).mp hc
      rw [hd] at e
      cases e
      have g3:¬ d<=57:=fun z=>g3 (decide_eq_true (by omega))
      unfold bx
      simp
      omega
    ·refine ⟨_,rfl,_,rfl,_,rfl,_,rfl,_,rfl,q,_,rfl,hq,stop fun c hc=>?_⟩
     have e:=(ixj c).mp hc
     rw [hd] at e
     cases e
     have g2:¬ 48<=d:=fun z=>g2 (decide_eq_true (by omega))
     unfold bx
     simp
     omega
   ·refine ⟨_,rfl,_,rfl,_,rfl,_,rfl,_,rfl,q,_,rfl,hq,stop fun c hc=>?_⟩
    have e:=(ixj c).mp hc
    have z:=(bj.mp e).1
    exact absurd (decide_eq_true (by rw [ck];omega)) g1
def numOf(d:List Nat):Nat:=d.foldl (fun n c=>10*n+(c-48)) 0
theorem numOf_snoc(d:List Nat)(c:Nat):numOf (d++[c])=10*numOf d+(c-48):=by unfold numOf;rw[n8];rfl
theorem fold_le:∀(d:List Nat) (n k:Nat),(∀c∈d,bx c=true)->n<10^k->d.foldl (fun n c=>10*n+(c-48)) n<10^(k+d.length)
 |[],n,k,_,h=>h
 |c :: t,n,k,hd,h=>by
  have h2:bx c=true:=hd c (by simp)
  unfold bx at h2
  simp at h2
  have:=fold_le t (10*n+(c-48)) (k+1) (fun x hx=>hd x (cb _ hx)) (by rw[gz];omega)
  rw[kK,cI]
  have e:k+1+t.length=k+(t.length+1):=by omega
  rw[e]at this
  exact this
theorem num_le(d:List Nat)(h:∀c∈d,bx c=true):numOf d<10^d.length:=by
 have:=fold_le d 0 0 h (by decide)
 rw[fW]at this
 exact this
theorem digs_of(r:List Nat):∀c∈r.takeWhile bx,bx c=true:=fun c hc=>by
 induction r with
 |nil=>simp at hc
 |cons x t ih=>
  rw[kN]at hc
  split at hc
  ·rename_i hx
   rcases aZ.mp hc with z|z
   ·rw[z];exact hx
   ·exact ih z
  ·simp at hc
theorem power_eq(r0:List Nat):pY r0=(let no:=r0.head?==some 45;let r:=if no=true then r0.drop 1 else r0;let d:=r.takeWhile bx
 if d=[]then(if no=true then .error .wrong else .ok ((1,false),r0))else if 3<d.length then .error .wrong else .ok ((numOf d,no),r.drop d.length)):=rfl
theorem power_small{r0:List Nat}{n:Nat×Bool}{q:List Nat}(h:pY r0=.ok (n,q)):n.1<=100000:=by
 rw[power_eq]at h
 have key:∀(no:Bool) (r:List Nat),(if r.takeWhile bx=[]then(if no=true then(.error .wrong:gc ((Nat×Bool)×List Nat))else .ok ((1,false),r0))else if 3<(r.takeWhile bx).length then .error .wrong else .ok ((numOf (r.takeWhile bx),no),r.drop (r.takeWhile bx).length))=.ok (n,q)->n.1<=100000:=by
  intro no r h
  by_cases h1:r.takeWhile bx=[]
  ·rw[if_pos h1]at h
   cases no with
   |true=>cases h
   |false=>cases h;decide
  ·rw[if_neg h1]at h
   by_cases h2:3<(r.takeWhile bx).length
   ·rw[if_pos h2]at h;cases h
   ·rw[if_neg h2]at h
    cases h
    have z:=num_le _ (digs_of r)
    have z2:10^(r.takeWhile bx).length<=10^3:=rS (by decide) (by omega)
    show numOf _<=_
    omega
 exact key _ _ h
def spPowerNumber(K:ay)(a:AD):Sp:=fun vs H Q E=>∃(q:aa) (r0:List Nat),vs=[.ref q]/\ao K H q (nv (eC r0))/\r0.length<=10000 /\
 Res a.dU a.cE E (pY r0) fun n=>∀H':Hp,ar [] H H'->Q (.int (dA n.1.1 n.1.2)) H'
theorem mE:bQ ["signs","negative","digits","number","digit"] ["signs"] (aK mH):=⟨rfl,rfl,rfl,by decide +kernel,rfl,by decide +kernel,by decide +kernel⟩
theorem okPowerNumber(T:Tx K mg a):aD P w K mg base (aB P w) 1 a.jN a.tV ["signs"] (spPowerNumber K a):=by
 refine cn T.qE.fn mE (fun vs H Q E h=>?_) (fun aY A outer s H vs Q E hr h=>?_)
 ·obtain⟨q,r0,rfl,_⟩:=h
  rfl
 ·obtain⟨q,r0,rfl,hq,hle,R⟩:=h
  refine⟨_,aF (cF (pt_not (nr (pv 0) (fun _=>rfl))) (aE (bE cj)) cU)
   (aF (bB (i:=1) mE.nd rfl (aQ rfl) (pe_cmpR fz (dO eG (pv 0) cj (fun _ _=>rfl)) (bV T.iMINUS) (bU _)))
   (aF (bB (i:=2) mE.nd rfl (aQ rfl) (pe_ifExp (pt_val (pv 1)) (pe_slice sl_list (pv 0) (po_some cj) po_none) (pv 0)))
   (aF (cF (PW.pt (pw_or (bP iC (dr eB (by rfl) T.dh dG (aj (pv 2) au)) cj (bU _)) (pw_or1 (bP hZ (dr eB (by rfl) T.dh dG (aj (pv 2) au)) (bV T.iMOST_DIGITS) (bU _))))) (aE (fO fK T.gk rfl rfl)) cU)
   (aF (bB (i:=3) mE.nd rfl (aQ rfl) cj)
   (aF (fo eO rfl (ie (pv 2)) (cV (i:=4) mE.nd rfl (aQ rfl)) (aE (bB (i:=3) mE.nd rfl (aQ rfl) (c5 op_sub (c5 gN (c5 op_mul (pv 3) cj) (pv 4)) (bV T.iZERO)))))
   (aE (bE (pe_ifExp (pt_val (pv 1)) (pe_un i8 (pv 3)) (pv 3))))))))),?_⟩
  refine⟨_,rfl,_,.inl ⟨_,hq,rfl⟩,?_⟩
  rw[power_eq]at R
  cases hc:eC r0 with
  |nil=>
   refine iteT ?_
   unfold eC at hc
   by_cases hn:(r0.head?==some 45)=true
   ·rw[if_pos hn]at hc;cases hc
   ·rw[if_neg hn]at hc
    have R':=R.ok (a:=((1,false),r0)) (by simp only[if_neg hn,hc,if_true])
    exact R' H ar.refl
  |cons c0 ct=>
   refine iteF ?_
   rw[hc]at hq
   refine⟨_,rfl,q,_,_,_,rfl,rfl,hq,eV (j:=0) rfl,rfl,?_⟩
   refine⟨_,rfl,_,rfl,?_⟩
   refine bF (fun hm=>?_) (fun hm=>?_)
   ·have hm:c0=45:=dF.mp (of_decide_eq_true hm)
    obtain⟨d,hd,hn⟩:∃d,(r0.drop 1).takeWhile bx=d/\(r0.head?==some 45)=true:=⟨_,rfl,by
     unfold eC at hc
     by_cases hn:(r0.head?==some 45)=true
     ·exact hn
     ·rw[if_neg hn]at hc
      have z:=digs_of r0 c0 (by rw[hc];simp)
      rw[hm]at z
      cases z⟩
    have hct:ct=d:=by
     unfold eC at hc
     rw[if_pos hn]at hc
     rw[<-hd]
     exact(iA hc).2.symm
    have ddig:∀c∈d,bx c=true:=by rw[<-hd];exact digs_of _
    simp only[hn,if_true,hd]at R
    refine⟨_,rfl,_,rfl,q,_,rfl,hq,fun r hr0=>?_⟩
    have e1:fB (nv (c0 ::ct)) (some 1) none=nv d:=by
     have z:=cut_i (xs:=nv (c0 ::ct)) (i:=1) (by simp)
     rw[show(some 1:Option Int)=some ((1:Nat):Int) from rfl,z,hct]
     rfl
    rw[e1]
    have s1:aC H (upd H r (.lst (nv d))):=(ar.new hr0).same
    obtain⟨Hd,eHd⟩:∃Hd,Hd=upd H r (.lst (nv d)):=⟨_,rfl⟩
    have hrd:ao K Hd r (nv d):=by rw[eHd];exact ao.of ax
    rw[<-eHd]at s1 ⊢
    obtain⟨no,eno,eval⟩:∃no:Bool,no=true/\decide (V.int ((c0:Nat):Int)=V.int 45)=no:=⟨true,rfl,decide_eq_true (by rw[hm];rfl)⟩
    rw[eval]
    refine⟨_,rfl,r,_,rfl,.inl hrd,_,_,rfl,rfl,_,rfl,?_⟩
    refine bF (fun h1=>?_) (fun h1=>?_)
    ·have h1:d=[]:=kM.mp (by
      have z:=of_decide_eq_true h1
      rw[ck]at z
      omega)
     exact R.wrong (by rw[if_pos h1]) _
    ·have h1:d≠[]:=fun z=>h1 (decide_eq_true (by rw[ck,z];decide))
     refine⟨_,rfl,r,_,rfl,.inl hrd,_,_,rfl,rfl,_,rfl,?_⟩
     refine bF (fun h2=>?_) (fun h2=>?_)
     ·have h2:3<d.length:=by
       have z:=of_decide_eq_true h2
       rw[ck]at z
       omega
      exact R.wrong (by rw[if_neg h1,if_pos h2]) _
     ·have h2:¬ 3<d.length:=fun z=>h2 (decide_eq_true (by rw[ck];omega))
      rw[if_neg h1,if_neg h2]at R
      refine⟨_,rfl,r,rfl,⟨_,hrd⟩,lB (K:=K) (a:=r) (xs:=nv d) (fun i σ H2=>∃v4:Option V,σ=[some (.ref q),some (.bl no),some (.ref r),some (.int ((numOf (d.take i):Nat):Int)),v4]/\H2=Hd)
       ⟨none,rfl,rfl⟩ (fun i σ H2 _ ⟨_,_,e⟩=>by rw[e];exact hrd) ?_ ?_⟩
      ·rintro i y σ H2 hi ⟨v4,rfl,rfl⟩
       obtain⟨c,hc2,rfl⟩:∃c:Nat,d[i]?=some c/\y=V.int (c:Int):=by
        rw[bH]at hi
        cases e:d[i]? with
        |none=>rw[e]at hi;cases hi
        |some c=>rw[e]at hi;exact⟨c,rfl,(cC hi).symm⟩
       have hdc:=ddig c (cW hc2)
       unfold bx at hdc
       simp at hdc
       refine⟨_,rfl,_,_,rfl,rfl,.inr ⟨by decide,by decide⟩,_,rfl,_,_,rfl,rfl,_,_,rfl,rfl,?_⟩
       refine⟨some (V.int (c:Int)),congrArg (fun z=>[some (V.ref q),some (V.bl no),some (V.ref r),some (V.int z),some (V.int (c:Int))]) ?_,rfl⟩
       rw[eW,hc2]
       show _=((numOf (d.take i++[c]):Nat):Int)
       rw[numOf_snoc]
       omega
      ·rintro σ H2 ⟨v4,rfl,rfl⟩
       have et:numOf (d.take (nv d).length)=numOf d:=by rw[ck,gb]
       refine⟨_,rfl,_,rfl,?_⟩
       subst eno
       refine⟨_,rfl,_,rfl,?_⟩
       rw[et]
       exact R H2 fun b o e _=>s1 _ _ e
   ·have hm:c0≠45:=fun z=>hm (decide_eq_true (dF.mpr z))
    have hn:¬(r0.head?==some 45)=true:=fun hn=>by
     unfold eC at hc
     rw[if_pos hn]at hc
     exact hm (iA hc).1.symm
    have hnf:(r0.head?==some 45)=false:=by
     cases e:(r0.head?==some 45)with
     |true=>exact absurd e hn
     |false=>rfl
    obtain⟨d,hd⟩:∃d,r0.takeWhile bx=d:=⟨_,rfl⟩
    have hct:c0 ::ct=d:=by
     unfold eC at hc
     rw[if_neg hn,hd]at hc
     exact hc.symm
    have ba:d≠[]:=by rw[<-hct];simp
    have ddig:∀c∈d,bx c=true:=by rw[<-hd];exact digs_of _
    simp only[hnf,if_false,hd,dH]at R
    refine⟨_,rfl,?_⟩
    obtain⟨r,er⟩:∃r,r=q:=⟨q,rfl⟩
    obtain⟨Hd,eHd⟩:∃Hd,Hd=H:=⟨_,rfl⟩
    have hrd:ao K Hd r (nv d):=by rw[eHd,er,<-hct];exact hq
    obtain⟨no,eno,eval⟩:∃no:Bool,no=false/\decide (V.int ((c0:Nat):Int)=V.int 45)=no:=⟨false,rfl,decide_eq_false fun z=>hm (dF.mp z)⟩
    rw[eval]
    have eqr:(V.ref q)=V.ref r:=by rw[er]
    subst eHd
    subst er
    refine⟨_,rfl,r,_,rfl,.inl hrd,_,_,rfl,rfl,_,rfl,?_⟩
    refine bF (fun h1=>?_) (fun h1=>?_)
    ·have h1:d=[]:=kM.mp (by
      have z:=of_decide_eq_true h1
      rw[ck]at z
      omega)
     exact absurd h1 ba
    ·have h1:d≠[]:=fun z=>h1 (decide_eq_true (by rw[ck,z];decide))
     refine⟨_,rfl,r,_,rfl,.inl hrd,_,_,rfl,rfl,_,rfl,?_⟩
     refine bF (fun h2=>?_) (fun h2=>?_)
     ·have h2:3<d.length:=by
       have z:=of_decide_eq_true h2
       rw[ck]at z
       omega
      exact R.wrong (by rw[if_neg h1,if_pos h2]) _
     ·have h2:¬ 3<d.length:=fun z=>h2 (decide_eq_true (by rw[ck];omega))
      rw[if_neg h1,if_neg h2]at R
      refine⟨_,rfl,r,rfl,⟨_,hrd⟩,lB (K:=K) (a:=r) (xs:=nv d) (fun i σ H2=>∃v4:Option V,σ=[some (.ref r),some (.bl no),some (.ref r),some (.int ((numOf (d.take i):Nat):Int)),v4]/\H2=Hd)
       ⟨none,rfl,rfl⟩ (fun i σ H2 _ ⟨_,_,e⟩=>by rw[e];exact hrd) ?_ ?_⟩
      ·rintro i y σ H2 hi ⟨v4,rfl,rfl⟩
       obtain⟨c,hc2,rfl⟩:∃c:Nat,d[i]?=some c/\y=V.int (c:Int):=by
        rw[bH]at hi
        cases e:d[i]? with
        |none=>rw[e]at hi;cases hi
        |some c=>rw[e]at hi;exact⟨c,rfl,(cC hi).symm⟩
       have hdc:=ddig c (cW hc2)
       unfold bx at hdc
       simp at hdc
       refine⟨_,rfl,_,_,rfl,rfl,.inr ⟨by decide,by decide⟩,_,rfl,_,_,rfl,rfl,_,_,rfl,rfl,?_⟩
       refine⟨some (V.int (c:Int)),congrArg (fun z=>[some (V.ref r),some (V.bl no),some (V.ref r),some (V.int z),some (V.int (c:Int))]) ?_,rfl⟩
       rw[eW,hc2]
       show _=((numOf (d.take i++[c]):Nat):Int)
       rw[numOf_snoc]
       omega
      ·rintro σ H2 ⟨v4,rfl,rfl⟩
       have et:numOf (d.take (nv d).length)=numOf d:=by rw[ck,gb]
       refine⟨_,rfl,_,rfl,?_⟩
       subst eno
       refine⟨_,rfl,?_⟩
       rw[et]
       exact R H2 ar.refl
theorem Res.cast{α:Type}{W T:aa}{E:XK}{r r':gc α}{k:α->Prop}(h:Res W T E r k)(e:r=r'):Res W T E r' k:=e▸h
structure NumAt (H:Hp) (d:aa) (ls:List Nat):Prop where
 ex:∃kvs:List (Key×V),H d=some (.dK kvs)/\∀c:Nat,c9 kvs (a8 (c:Int))=(eZ ls c).map fun l=>V.int (encL l)
def Bot(st:List Lv):Prop:=∃v,st.getLast?=some v/\v.br<=1
theorem Bot.tail{v:Lv}{st:List Lv}(h:Bot (v ::st))(hv:1<v.br):st≠[]/\Bot st:=by
 obtain⟨u,hu,h0⟩:=h
 cases st with
 |nil=>
  simp at hu
  subst hu
  omega
 |cons x t=>exact⟨by simp,u,by rw[vq]at hu;exact hu,h0⟩
theorem dE.same{C:aa}{H H':Hp}{l:aa}{xs:List LA}{st:List Lv}(S:dE C H l xs st)(s:aC H H'):dE C H' l xs st:=
 ⟨s _ _ S.lst,S.lv.keep (ys:=[]) (fun b o e _=>s b o e) (fun _ _ _ _=>by simp) (fun _ _ _ _=>by simp),S.nd,S.sep⟩
theorem endBr_ok{br:Nat}{v:Lv}{st:List Lv}{p:List b8×List Lv}(h:gu br (v ::st)=.ok p):v.br=br/\p.1=v.ended++[v.wr]/\p.2=st:=by
 have h:(if v.br=br then(dj v).bind (fun m=>.ok (m.ended,st))else .error .wrong)=.ok p:=h
 by_cases hb:v.br=br
 ·rw[if_pos hb]at h
  unfold dj at h
  by_cases hp:v.hp=true
  ·rw[if_pos hp]at h
   cases h
   exact⟨hb,rfl,rfl⟩
  ·rw[if_neg hp]at h
   cases h
 ·rw[if_neg hb]at h
  cases h
theorem at0{as:List aa}{b:aa}{r:List aa}(h:as=b ::r):atI (as.map V.ref) 0=some (V.ref b):=eV (j:=0) (by rw[h];rfl)
theorem at1{as:List aa}{b c:aa}{r:List aa}(h:as=b ::c ::r):atI (as.map V.ref) 1=some (V.ref c):=eV (j:=1) (by rw[h];rfl)
def spEndPart(a:AD):Sp:=fun vs H Q E=>∃(l d:aa) (x:LA) (xs:List LA) (v:Lv) (st:List Lv) (c:Nat) (ls:List Nat),vs=[.ref l,.int c,.ref d]/\dE a.bb H l (x ::xs) (v ::st)/\NumAt H d ls/\x.as.length<=10000/\Bot (v ::st) /\
 Res a.dU a.cE E (cM ls (v ::st) c) fun p=>∀(H':Hp) (q:aa) (xs':List LA),H' q=some (.lst (wv p.1))->p.1.length<=d4->dE a.bb H' l xs' p.2->(xs'=x ::xs\/xs'=xs)->p.2≠[]->Bot p.2->ar (eR l (x ::xs)) H H'->Q (.ref q) H'
theorem scEndPart:bQ ["levels","sign","numbers","words"] ["levels","sign","numbers"] (aK ny):=⟨rfl,rfl,rfl,by decide +kernel,rfl,by decide +kernel,by decide +kernel⟩
theorem okEndPart (T:Tx K mg a):aD P w K mg base (aB P w) 3 a.j9 a.dEndPart ["levels","sign","numbers"] (spEndPart a):=by
 have GB:aD P w K mg base (aB P w) 2 a.jQ a.ue ["levels","bracket"] (spEndBracket a):=okEndBracket T
 have GC:aD P w K mg base (aB P w) 2 a.jR a.uf ["left","right"] (spCommutator a):=okCommutator T
 refine cn T.gEndPart.fn scEndPart (fun vs H Q E h=>?_) (fun aY A outer s H vs Q E hr h=>?_)
 ·obtain ⟨l,d,x,xs,v,st,c,ls,rfl,_⟩:=h
  rfl
 ·obtain ⟨l,d,x,xs,v,st,c,ls,rfl,S,⟨kvs,hd,hk⟩,hle,hB,R⟩:=h
  have hu:=ia hr
  refine ⟨_,aF (cF (pt_cmp (pc_din hu (pv 1) (pv 2))) (aE (bE (dI (aj (pe_dget hu (pv 2) (pv 1) (fun _ _=>rfl)) au)))) cU)
   (aF (cF (bP fz (pv 1) (bV T.iROUND_END) (bU _)) (aE (bE (dO eG (bp GB hr rfl T.lr.mg T.lr.fn.kp T.lr.bd .nil bC (aj (pv 0) (aj (bV T.iROUND) au))) cj (fun _ _=>rfl)))) cU)
   (aF (cF (bP fz (pv 1) (bV T.iSQUARE_END) (bU _)) (aF (bB (i:=3) scEndPart.nd rfl (aQ rfl) (bp GB hr rfl T.lr.mg T.lr.fn.kp T.lr.bd .nil bC (aj (pv 0) (aj (bV T.iSQUARE) au))))
    (aF (cF (bP iC (dr eB (by rfl) T.dh dG (aj (pv 3) au)) cj (bU _)) (aE (fO fK T.gk rfl rfl)) cU)
    (aE (bE (bp GC hr rfl T.qL.mg T.qL.fn.kp T.qL.bd .nil bC (aj (dO eG (pv 3) cj (fun _ _=>rfl)) (aj (dO eG (pv 3) cj (fun _ _=>rfl)) au))))))) cU)
   (aE (fO fK T.gk rfl rfl)))),?_⟩
  refine ⟨_,rfl,_,rfl,d,_,rfl,eT.k (k:=a8 (c:Int)) hd,_,rfl,?_⟩
  have hkc:=hk c
  cases e:eZ ls c with
  | some lt=>
   rw [e] at hkc
   have hkc:c9 kvs (a8 (c:Int))=some (V.int (encL lt)):=hkc
   rw [hkc]
   refine iteT ?_
   have R':=R.ok (a:=([lt],v :: st)) (by unfold cM;rw [e])
   have hg:eT H d (V.int (c:Int)) (some (V.int (encL lt))):=by
    have z:=eT.k (k:=a8 (c:Int)) hd
    rw [hkc] at z
    exact z
   refine ⟨_,rfl,_,rfl,d,_,rfl,hg,(by show 1<=sizeLine;decide),fun p hp=>?_⟩
   exact R' _ p (x :: xs) ax (by simp [d4]) (S.same (ar.new hp).same) (.inl rfl) (by simp) hB fun b o q _=>(ar.new hp).same b o q
  | none=>
   rw [e] at hkc
   have hkc:c9 kvs (a8 (c:Int))=none:=hkc
   rw [hkc]
   refine iteF ?_
   refine ⟨_,rfl,rfl,_,rfl,?_⟩
   refine bF (fun h41=>?_) (fun h41=>?_)
   ·have h41:c=41:=dF.mp (of_decide_eq_true h41)
    have ee:cM ls (v :: st) c=(gu 40 (v :: st)).bind fun p=>.ok (p.1.headD [],p.2):=by unfold cM;rw [e];simp only [if_pos h41]
    rw [ee] at R
    refine ⟨_,rfl,l,x,xs,v,st,40,rfl,S,hle,R.bind.imp fun p ep k1 H1 e1 as he hw hs hkp=>?_⟩
    obtain ⟨hv,hp1,hp2⟩:=endBr_ok ep
    obtain ⟨ne,hB'⟩:=hB.tail (by rw [hv];decide)
    cases has:as with
    | nil=>
     have z:=hw.len
     rw [has,hp1] at z
     simp at z
    | cons b r=>
     cases hws:p.1 with
     | nil=>rw [hp1] at hws;simp at hws
     | cons u us=>
      have hb:H1 b=some (.lst (wv u)):=hw.at_ 0 b u (by rw [has];rfl) (by rw [hws];rfl)
      refine ⟨e1,_,_,_,rfl,rfl,ao.of he,at0 has,?_⟩
      have k2:∀ (H':Hp) (q:aa) (xs':List LA),H' q=some (.lst (wv (p.1.headD [])))->(p.1.headD []).length<=d4->dE a.bb H' l xs' p.2->(xs'=x :: xs\/xs'=xs)->p.2≠[]->Bot p.2->ar (eR l (x :: xs)) H H'->Q (.ref q) H':=k1
      refine k2 H1 b xs (by rw [hws];exact hb) (by rw [hws];exact hw.ln u (by rw [hws];simp)) hs (.inr rfl) (by rw [hp2];exact ne) (by rw [hp2];exact hB') hkp
   ·have h41:c≠41:=fun z=>h41 (decide_eq_true (dF.mpr z))
    refine ⟨_,rfl,rfl,_,rfl,?_⟩
    refine bF (fun h93=>?_) (fun h93=>?_)
    ·have h93:c=93:=dF.mp (of_decide_eq_true h93)
     have ee:cM ls (v :: st) c=(gu 91 (v :: st)).bind fun p=>match p.1 with
       | x :: y :: _=>(comm x y).bind fun v=>.ok (v,p.2)
       | _=>.error .wrong:=by unfold cM;rw [e];simp only [if_neg h41,if_pos h93]<;>rfl
     rw [ee] at R
     refine ⟨_,rfl,l,x,xs,v,st,91,rfl,S,hle,R.bind.imp fun p ep k1 H1 e1 as he hw hs hkp=>?_⟩
     obtain ⟨hv,hp1,hp2⟩:=endBr_ok ep
     obtain ⟨ne,hB'⟩:=hB.tail (by rw [hv];decide)
     refine ⟨_,rfl,e1,_,rfl,.inl (ao.of he),_,_,rfl,rfl,_,rfl,?_⟩
     have elen:((as.map V.ref).length:Int)=p.1.length:=by rw [aP,hw.len]
     refine bF (fun h2=>?_) (fun h2=>?_)
     ·have h2:p.1.length<2:=by
       have z:=of_decide_eq_true h2
       rw [elen] at z
       omega
      have em:(match p.1 with
       | x :: y :: _=>(comm x y).bind fun v=>(.ok (v,p.2):gc (b8 × List Lv))
       | _=>.error .wrong)=.error .wrong:=by
       cases hq:p.1 with
       | nil=>rfl
       | cons u t=>
        cases t with
        | nil=>rfl
        | cons u2 t2=>rw [hq] at h2;simp at h2;omega
      exact Res.wrong k1 em _
     ·have h2:¬ p.1.length<2:=fun z=>h2 (decide_eq_true (by rw [elen];omega))
      cases hws:p.1 with
      | nil=>rw [hws] at h2;simp at h2
      | cons u t=>
       cases ht:t with
       | nil=>rw [hws,ht] at h2;simp at h2
       | cons u2 t2=>
        cases has:as with
        | nil=>
         have z:=hw.len
         rw [has,hws] at z
         simp at z
        | cons b r=>
         cases hr2:r with
         | nil=>
          have z:=hw.len
          rw [has,hws,hr2,ht] at z
          simp at z
         | cons b2 r2=>
          have hb:H1 b=some (.lst (wv u)):=hw.at_ 0 b u (by rw [has];rfl) (by rw [hws];rfl)
          have hb2:H1 b2=some (.lst (wv u2)):=hw.at_ 1 b2 u2 (by rw [has,hr2];rfl) (by rw [hws,ht];rfl)
          have em:(match p.1 with
           | x :: y :: _=>(comm x y).bind fun v=>(.ok (v,p.2):gc (b8 × List Lv))
           | _=>.error .wrong)=(comm u u2).bind fun v=>.ok (v,p.2):=by rw [hws,ht]
          have k2:=Res.cast k1 em
          refine ⟨_,rfl,e1,_,_,_,rfl,rfl,ao.of he,at0 (by rw [has]),_,rfl,e1,_,_,_,rfl,rfl,ao.of he,at1 (by rw [has,hr2]),?_⟩
          refine ⟨b,b2,u,u2,rfl,hb,hb2,hw.ln u (by rw [hws];simp),hw.ln u2 (by rw [hws,ht];simp),k2.bind.imp fun z ez k3 H2 q hq hk2=>?_⟩
          have zl:z.length<=d4:=by
           unfold comm at ez
           split at ez
           ·cases ez
           ·cases ez
            simp only [cx,ig]
            omega
          exact k3 H2 q xs hq zl (hs.same hk2.same) (.inr rfl) (by rw [hp2];exact ne) (by rw [hp2];exact hB') fun b o eb nb=>hk2.same _ _ (hkp b o eb nb)
    ·have h93:c≠93:=fun z=>h93 (decide_eq_true (dF.mpr z))
     exact R.wrong (by unfold cM;rw [e];simp only [if_neg h41,if_neg h93]) _
end
theorem idx_snoc(l:List Nat)(x y:Nat):(l++[x]).idxOf? y=(l.idxOf? y).or (if x=y then some l.length else none):=by
 unfold List.idxOf?
 rw[List.findIdx?_append]
 congr 1
 by_cases h:x=y
 ·simp[h,xR]
 ·simp[h,xR]
theorem idx_none{l:List Nat}{x:Nat}(h:x∉l):l.idxOf? x=none:=xF.mpr h
theorem letter_step{l:List Nat}{x:Nat}(hx:x∉l)(hs:eJ x=true)(hl:l.all eJ=true)(c:Nat) :(eZ (l++[x]) c).map encL=if c=x-32 then some (-((l.length:Int)+1))else if c=x then some ((l.length:Int)+1)else(eZ l c).map encL:=by
 unfold eJ at hs
 simp at hs
 unfold eZ
 by_cases h1:c=x-32
 ·have hg:ox c=true:=by unfold ox;simp;omega
  have e:c+32=x:=by omega
  rw[if_pos h1,hg,if_pos rfl,e,idx_snoc,idx_none hx,if_pos rfl]
  rfl
 ·rw[if_neg h1]
  by_cases h2:c=x
  ·have hg:¬ox c=true:=by unfold ox;simp;omega
   have hgf:ox c=false:=by simpa using hg
   rw[if_pos h2,hgf]
   simp only[dH,if_false]
   rw[h2,idx_snoc,idx_none hx,if_pos rfl]
   rfl
  ·rw[if_neg h2,idx_snoc]
   have:x≠(if ox c=true then c+32 else c):=by
    split
    ·omega
    ·exact fun z=>h2 z.symm
   rw[if_neg this]
   simp
theorem dedup_len:∀(l acc:List Int),acc.Nodup->((l.foldl oF acc).length=acc.length+l.length↔(acc++l).Nodup)/\(l.foldl oF acc).length<=acc.length+l.length
 |[],acc,h=>by simp[h]
 |x :: t,acc,h=>by
  rw[kK]
  by_cases hx:acc.any (·==x)=true
  ·have e:oF acc x=acc:=by unfold oF;rw[if_pos hx]
   rw[e]
   obtain⟨_,ih⟩:=dedup_len t acc h
   have hm:x∈acc:=by
    obtain⟨y,hy,e⟩:=lV.mp hx
    rw[<-beq_iff_eq.mp e];exact hy
   refine⟨⟨fun z=>?_,fun z=>?_⟩,?_⟩
   ·simp only[cI]at z;omega
   ·have:=(ir.mp z).2.2 x hm x (by simp)
    exact absurd rfl this
   ·simp only[cI];omega
  ·have e:oF acc x=acc++[x]:=by unfold oF;rw[if_neg hx]
   have hm:x∉acc:=fun m=>hx (lV.mpr ⟨x,m,by simp⟩)
   have hn:(acc++[x]).Nodup:=nd_snoc h hm
   rw[e]
   obtain⟨ih1,ih2⟩:=dedup_len t (acc++[x]) hn
   have el:(acc++[x]).length+t.length=acc.length+(x ::t).length:=by simp;omega
   have ea:acc++[x]++t=acc++x ::t:=by simp
   rw[el,ea]at ih1
   rw[el]at ih2
   exact⟨ih1,ih2⟩
theorem range_getD(ns:List Int):(aT ns.length).map (fun i=>ns.getD i 0)=ns:=by
 apply iV
 intro i
 rw[bH]
 by_cases h:i<ns.length
 ·rw[fI h]
  simp[List.getD,h]
 ·rw[xS.mpr (by simpa using gJ h),xS.mpr (by omega)]
  rfl
theorem set_len(ns:List Int):(firstMet (fun i=>ns.getD i 0) ns.length).length=ns.length↔ns.Nodup:=by
 unfold firstMet
 rw[range_getD]
 have:=(dedup_len ns [] nY).1
 simpa using this
theorem cast_nodup(ls:List Nat):(ls.map fun(n:Nat)=>(n:Int)).Nodup↔ls.Nodup:=by
 induction ls with
 |nil=>simp
 |cons x t ih=>
  rw[dB,eD,eD,ih]
  have:((x:Nat):Int)∈t.map (fun(n:Nat)=>(n:Int))↔x∈t:=by
   rw[bc]
   constructor
   ·rintro⟨y,hy,e⟩
    have:y=x:=by omega
    rw[<-this];exact hy
   ·intro h;exact⟨x,h,rfl⟩
  rw[this]
theorem nv_ints(b:List Nat):nv b=(b.map fun(n:Nat)=>(n:Int)).map V.int:=by simp[nv]
section
variable{P:aU}{w:aM}{K:ay}{mg:ag->Option af}{base:aA}{a:AD}
def wR(K:ay):Sp:=fun vs H Q _=>∃(q:aa) (ls:List Nat),vs=[.ref q]/\ao K H q (nv ls)/\ls.all eJ=true/\ls.Nodup/\ls.length<=10000/\∀(H':Hp) (d:aa),NumAt H' d ls->H d=none->ar [] H H'->Q (.ref d) H'
theorem qj:bQ ["letters","numbers","place","letter"] ["letters"] (aK mq):=⟨rfl,rfl,rfl,by decide +kernel,rfl,by decide +kernel,by decide +kernel⟩
theorem okLetterNumbers (T:Tx K mg a):aD P w K mg base (aB P w) 1 a.jF a.sU ["letters"] (wR K):=by
 refine cn T.qm.fn qj (fun vs H Q E h=>?_) (fun aY A outer s H vs Q E hr h=>?_)
 ·obtain ⟨q,ls,rfl,_⟩:=h
  rfl
 ·obtain ⟨q,ls,rfl,hq,hs,hn,hle,k⟩:=h
  have hu:=ia hr
  refine ⟨_,aF (bB (i:=1) qj.nd rfl (aQ rfl) pe_dnewK)
   (aF (fo eO rfl (pi_enum1 rfl T.o6 (aj (pv 0) au)) (pg_tup (n:=2) rfl (gT (cV (i:=2) qj.nd rfl (aQ rfl)) (gT (cV (i:=3) qj.nd rfl (aQ rfl)) pgs_nil)))
    (aF (lE hu (pv 1) (pv 3) (pv 2) rfl) (aE (lE hu (pv 1) (c5 op_sub (pv 3) (bV T.iGREAT_TO_SMALL)) (pe_un i8 (pv 2)) rfl))))
   (aE (bE (pv 1)))),?_⟩
  intro d hd
  have s0:aC H (upd H d (.dK [])):=(ar.new hd).same
  refine ⟨_,rfl,q,_,rfl,s0.seq hq,for_enum1 (K:=K) (a:=q) (xs:=nv ls) (fun i σ H2=>∃ (v2 v3:Option V) (kvs:List (Key × V)),σ=[some (.ref q),some (.ref d),v2,v3]/\aC H H2/\H2 d=some (.dK kvs)/\kvs.length<=2*i /\
    ∀ c:Nat,c9 kvs (a8 (c:Int))=(eZ (ls.take i) c).map fun l=>V.int (encL l))
   ⟨none,none,[],rfl,s0,ax,by simp,fun c=>rfl⟩ (fun i σ H2 _ ⟨_,_,_,_,s2,_⟩=>s2.seq hq) ?_ ?_⟩
  ·rintro i y σ H2 T0 hi ⟨v2,v3,kvs,rfl,s2,hk,hl,hv⟩ hT
   obtain ⟨x,hx,rfl⟩:∃ x:Nat,ls[i]?=some x/\y=V.int (x:Int):=by
    rw [bH] at hi
    cases e:ls[i]? with
    | none=>rw [e] at hi;cases hi
    | some c=>rw [e] at hi;exact ⟨c,rfl,(cC hi).symm⟩
   obtain ⟨aR,hxe⟩:=bj.mp hx
   have hxs:eJ x=true:=cB.mp hs x (cW hx)
   have hx1:97<=x:=by unfold eJ at hxs;simp at hxs;omega
   have hxn:x∉ls.take i:=fun m=>by
    obtain ⟨j,hj⟩:=fm m
    have cw:=(bj.mp hj).1
    rw [gG] at cw
    rw [List.getElem?_take,if_pos (by omega)] at hj
    have:=nd_ix hn hj hx
    omega
   have s3:aC H2 (upd H2 T0 (.tup [.int ((i:Nat)+1),V.int (x:Int)])):=(ar.new hT).same
   have nT:d≠T0:=bg hk hT
   refine ⟨T0,_,rfl,cz.of ax,rfl,_,_,rfl,_,_,rfl,rfl,?_⟩
   refine ⟨_,rfl,_,rfl,_,rfl,d,_,rfl,DPut.k (k:=a8 (x:Int)) (s3 _ _ hk) (iu (by omega:kvs.length<=30000) (by decide)),?_⟩
   have l1:=oZ kvs (a8 (x:Int)) (V.int ((i:Int)+1))
   refine ⟨_,rfl,_,rfl,_,rfl,_,rfl,_,_,rfl,rfl,d,_,rfl,DPut.k (k:=a8 ((x:Int)-32)) ax (iu (by omega:_<=30000) (by decide)),?_⟩
   have l2:=oZ (putK kvs (a8 (x:Int)) (V.int ((i:Int)+1))) (a8 ((x:Int)-32)) (V.int (-((i:Int)+1)))
   refine ⟨_,_,_,rfl,fun b o e=>?_,ax,cZ l2 (by omega),fun c=>?_⟩
   ·have nb:b≠d:=bg e hd
    rw [ak nb,ak nb]
    exact s3 _ _ (s2 _ _ e)
   ·have e1:ls.take (i+1)=ls.take i++[x]:=by rw [eW,hx];rfl
    have e2:=letter_step hxn hxs (cB.mpr fun z hz=>cB.mp hs z (rK hz)) c
    have e3:(ls.take i).length=i:=by rw [gG];omega
    have em:∀ o:Option kP,o.map (fun l=>V.int (encL l))=(o.map encL).map V.int:=fun o=>by cases o<;>rfl
    rw [e1,em,e2,e3,valV_put,valV_put,hv c,em]
    have c1:((a8 (c:Int):Key)=a8 ((x:Int)-32))↔c=x-32:=⟨fun z=>by have:=qd z;omega,fun z=>by rw [z];congr 1;omega⟩
    have c2:((a8 (c:Int):Key)=a8 (x:Int))↔c=x:=⟨fun z=>by have:=qd z;omega,fun z=>by rw [z]⟩
    by_cases h1:c=x-32
    ·rw [if_pos (c1.mpr h1),if_pos h1];rfl
    ·rw [if_neg (fun z=>h1 (c1.mp z)),if_neg h1]
     by_cases h2:c=x
     ·rw [if_pos (c2.mpr h2),if_pos h2];rfl
     ·rw [if_neg (fun z=>h2 (c2.mp z)),if_neg h2]
  ·rintro σ H2 ⟨v2,v3,kvs,rfl,s2,hk,hl,hv⟩
   refine ⟨_,rfl,k H2 d ⟨kvs,hk,fun c=>?_⟩ hd fun b o e _=>s2 b o e⟩
   have:=hv c
   rw [ck,gb] at this
   exact this
def chk(ls:List Nat):gc Unit:=if ls=[]\/8<ls.length\/ls.all eJ=false\/¬ls.Nodup then .error .wrong else .ok ()
def spCheckLetters(K:ay)(a:AD):Sp:=fun vs H Q E=>∃(q:aa) (ls:List Nat),vs=[.ref q]/\ao K H q (nv ls)/\Res a.dU a.cE E (chk ls) fun _=>∀H':Hp,ar [] H H'->Q .bo H'
theorem scCheckLetters:bQ ["letters","letter"] ["letters"] (aK mw):=⟨rfl,rfl,rfl,by decide +kernel,rfl,by decide +kernel,by decide +kernel⟩
theorem okCheckLetters(T:Tx K mg a):aD P w K mg base (aB P w) 1 a.jH a.tE ["letters"] (spCheckLetters K a):=by
 refine cn T.qv.fn scCheckLetters (fun vs H Q E h=>?_) (fun aY A outer s H vs Q E hr h=>?_)
 ·obtain⟨q,ls,rfl,_⟩:=h
  rfl
 ·obtain⟨q,ls,rfl,hq,R⟩:=h
  refine⟨_,aF (cF (PW.pt (pw_or (bP iC (dr eB (by rfl) T.dh dG (aj (pv 0) au)) cj (bU _)) (pw_or1 (bP hZ (dr eB (by rfl) T.dh dG (aj (pv 0) au)) (bV T.iMOST_LETTERS) (bU _))))) (aE (fO fK T.gk rfl rfl)) cU)
   (aF (cF (bP op_ne (dr call_lenS (by rfl) T.dh dG (aj (pj (call_setL rfl) rfl T.b_set PyProof.Rows.boot_set (aj (pv 0) au)) au)) (dr eB (by rfl) T.dh dG (aj (pv 0) au)) (bU _)) (aE (fO fK T.gk rfl rfl)) cU)
   (aE (fo eO rfl (ie (pv 0)) (cV (i:=1) scCheckLetters.nd rfl (aQ rfl)) (aE (cF (PW.pt (pw_or (bP iC (pv 1) (bV T.iSMALL_A) (bU _)) (pw_or1 (bP hZ (pv 1) (bV T.iSMALL_Z) (bU _))))) (aE (fO fK T.gk rfl rfl)) cU))))),?_⟩
  refine⟨_,rfl,q,_,rfl,.inl hq,_,_,rfl,rfl,_,rfl,?_⟩
  refine bF (fun h1=>?_) (fun h1=>?_)
  ·have h1:ls=[]:=kM.mp (by
    have z:=of_decide_eq_true h1
    rw[ck]at z
    omega)
   exact R.wrong (by unfold chk;rw[if_pos (.inl h1)]) _
  ·have h1:ls≠[]:=fun z=>h1 (decide_eq_true (by rw[ck,z];decide))
   refine⟨_,rfl,q,_,rfl,.inl hq,_,_,rfl,rfl,_,rfl,?_⟩
   refine bF (fun h2=>?_) (fun h2=>?_)
   ·have h2:8<ls.length:=by
     have z:=of_decide_eq_true h2
     rw[ck]at z
     omega
    exact R.wrong (by unfold chk;rw[if_pos (.inr (.inl h2))]) _
   ·have h2:¬ 8<ls.length:=fun z=>h2 (decide_eq_true (by rw[ck];omega))
    have elen:(ls.map fun(n:Nat)=>(n:Int)).length=ls.length:=aP ..
    refine⟨_,rfl,q,ls.map fun(n:Nat)=>(n:Int),rfl,by rw[<-nv_ints];exact hq,by rw[elen];unfold scanBound;omega,fun l hl=>?_⟩
    refine⟨l,_,_,rfl,ax,_,rfl,q,_,rfl,.inl ((ar.new hl).same.seq hq),rfl,_,rfl,?_⟩
    have hset:=set_len (ls.map fun(n:Nat)=>(n:Int))
    rw[cast_nodup]at hset
    have en:((firstMet (fun i=>(ls.map fun(n:Nat)=>(n:Int)).getD i 0) (ls.map fun(n:Nat)=>(n:Int)).length).length=(nv ls).length)↔ls.Nodup:=by
     rw[ck,<-elen]
     exact hset
    refine bF (fun h3=>?_) (fun h3=>?_)
    ·have h3:¬ls.Nodup:=fun z=>by
      have q:(!decide (V.int ((firstMet (fun i=>(ls.map fun(n:Nat)=>(n:Int)).getD i 0) (ls.map fun(n:Nat)=>(n:Int)).length).length:Int)=V.int ((nv ls).length:Int)))=true:=h3
      rw[en.mpr z,decide_eq_true rfl]at q
      cases q
     exact R.wrong (by unfold chk;rw[if_pos (.inr (.inr (.inr h3)))]) _
    ·have h3:ls.Nodup:=en.mp (fX fun z=>h3 (by
      show(!decide (V.int ((firstMet (fun i=>(ls.map fun(n:Nat)=>(n:Int)).getD i 0) (ls.map fun(n:Nat)=>(n:Int)).length).length:Int)=V.int ((nv ls).length:Int)))=true
      rw[decide_eq_false fun q=>z (dF.mp q)];rfl))
     refine⟨_,rfl,q,rfl,⟨_,(ar.new hl).same.seq hq⟩,lB (K:=K) (a:=q) (xs:=nv ls) (fun i σ H2=>∃v1:Option V,σ=[some (.ref q),v1]/\aC H H2/\(ls.take i).all eJ=true)
      ⟨none,rfl,(ar.new hl).same,by simp⟩ (fun i σ H2 _ ⟨_,_,s2,_⟩=>s2.seq hq) ?_ ?_⟩
     ·rintro i y σ H2 hi ⟨v1,rfl,s2,cJ⟩
      obtain⟨x,hx,rfl⟩:∃x:Nat,ls[i]?=some x/\y=V.int (x:Int):=by
       rw[bH]at hi
       cases e:ls[i]? with
       |none=>rw[e]at hi;cases hi
       |some c=>rw[e]at hi;exact⟨c,rfl,(cC hi).symm⟩
      have bad:eJ x=false->ls.all eJ=false:=fun z=>by
       cases e:ls.all eJ with
       |false=>rfl
       |true=>rw[cB.mp e x (cW hx)]at z;cases z
      refine⟨_,rfl,_,_,rfl,rfl,_,rfl,?_⟩
      refine bF (fun h4=>?_) (fun h4=>?_)
      ·have h4:=of_decide_eq_true h4
       exact R.wrong (by unfold chk;rw[if_pos (.inr (.inr (.inl (bad (by unfold eJ;simp;omega)))))]) _
      ·have h4:¬(x:Int)<97:=fun z=>h4 (decide_eq_true z)
       refine⟨_,rfl,_,_,rfl,rfl,_,rfl,?_⟩
       refine bF (fun h5=>?_) (fun h5=>?_)
       ·have h5:=of_decide_eq_true h5
        exact R.wrong (by unfold chk;rw[if_pos (.inr (.inr (.inl (bad (by unfold eJ;simp;omega)))))]) _
       ·have h5:¬(122:Int)<x:=fun z=>h5 (decide_eq_true z)
        refine⟨_,rfl,s2,?_⟩
        rw[eW,hx]
        simp only[vY,vt,cJ,yk,nS,xT,vK]
        unfold eJ
        simp
        omega
     ·rintro σ H2 ⟨v1,rfl,s2,cJ⟩
      rw[ck,gb]at cJ
      have R':=R.ok (a:=()) (by
       unfold chk
       rw[if_neg]
       rintro(z|z|z|z)
       ·exact h1 z
       ·exact h2 z
       ·rw[cJ]at z;cases z
       ·exact z h3)
      exact R' H2 fun b o e _=>s2 b o e
end
theorem atLast{xs:List V}{v:V}:atI (xs++[v]) (-1)=some v:=by
 unfold atI ixN
 have h1:¬((0:Int) <= -1):=by omega
 have h2 : -(((xs++[v]).length:Nat):Int) <= -1:=by simp;omega
 rw[if_neg h1,if_pos h2]
 have h3:((-1:Int)+((xs++[v]).length:Nat)).toNat=xs.length:=by simp;omega
 rw[h3]
 simp
theorem dE.comma{C:aa}{H H':Hp}{l w':aa}{x:LA}{xs:List LA}{v v':Lv}{st:List Lv}(S:dE C H l (x ::xs) (v ::st))(k:ar [x.p,x.e] H H')(L:fL C H' ⟨x.p,x.e,w',x.as++[x.w]⟩ v')(fw:H w'=none) :dE C H' l (⟨x.p,x.e,w',x.as++[x.w]⟩ ::xs) (v' ::st):=by
 have nd':=eD.mp S.nd
 have nd2:(a7 x++xs.flatMap a7).Nodup:=nd'.2
 obtain⟨m1,m2,m3⟩:=ir.mp nd2
 have hx:∀b∈a7 x,b∈eR l (x ::xs):=fun b hb=>cK.mpr (.inr ⟨x,b9 ..,hb⟩)
 have hxs:∀b∈xs.flatMap a7,b∈eR l (x ::xs):=fun b hb=>by
  obtain⟨y,hy,hb⟩:=fk.mp hb
  exact cK.mpr (.inr ⟨y,cb _ hy,hb⟩)
 have fr:∀b∈eR l (x ::xs),b≠w':=fun b hb z=>by
  obtain⟨o,q⟩:=S.tracked hb
  rw[z,fw]at q;cases q
 have lp:l≠x.p:=fun z=>nd'.1 (by rw[z];exact dZ _ (by simp[a7]))
 have le:l≠x.e:=fun z=>nd'.1 (by rw[z];exact dZ _ (by simp[a7]))
 have mem':∀b,b∈eR l (⟨x.p,x.e,w',x.as++[x.w]⟩ ::xs)->b=w'\/(b∈eR l (x ::xs)/\b≠x.w):=fun b hb=>by
  rcases cK.mp hb with z|⟨y,hy,hb⟩
  ·refine .inr ⟨cK.mpr (.inl z),fun q=>nd'.1 ?_⟩
   rw[<-z,q];exact dZ _ (by simp[a7])
  ·rcases aZ.mp hy with e|hy
   ·rw[e]at hb
    simp only[a7,aZ,dC,or_false]at hb
    have m1':x.p≠x.e/\x.p≠x.w/\x.e≠x.w:=by simpa[a7,and_assoc]using m1
    rcases hb with z|z|z
    ·exact .inr ⟨by rw[z];exact hx _ (by simp[a7]),by rw[z];exact m1'.2.1⟩
    ·exact .inr ⟨by rw[z];exact hx _ (by simp[a7]),by rw[z];exact m1'.2.2⟩
    ·exact .inl z
   ·have hb2:b∈xs.flatMap a7:=fk.mpr ⟨y,hy,hb⟩
    exact .inr ⟨hxs b hb2,fun q=>m3 b (by rw[q];simp[a7]) b hb2 rfl⟩
 cases S.lv with
 |cons Lx r=>
  refine⟨k _ _ S.lst (by simp;exact⟨lp,le⟩),.cons L (r.keep k (fun y hy b hb m=>?_) (fun y hy b hb m=>?_)),?_,fun y hy b hb m=>?_⟩
  ·have hb2:b∈xs.flatMap a7:=fk.mpr ⟨y,hy,hb⟩
   simp only[aZ,dC,or_false]at m
   exact m3 b (by rcases m with z|z<;>(rw[z];simp[a7])) b hb2 rfl
  ·simp only[aZ,dC,or_false]at m
   exact S.sep y (cb _ hy) b hb (hx b (by rcases m with z|z<;>(rw[z];simp[a7])))
  ·show(l ::([x.p,x.e,w']++xs.flatMap a7)).Nodup
   have m1':x.p≠x.e/\x.p≠x.w/\x.e≠x.w:=by simpa[a7,and_assoc]using m1
   refine eD.mpr ⟨fun m=>?_,ir.mpr ⟨?_,m2,fun b hb c hc e=>?_⟩⟩
   ·rcases cQ.mp m with m|m
    ·simp only[aZ,dC,or_false]at m
     rcases m with z|z|z
     ·exact lp z
     ·exact le z
     ·exact fr l (cK.mpr (.inl rfl)) z
    ·exact nd'.1 (fP _ m)
   ·have f1:=fr x.p (hx _ (by simp[a7]))
    have f2:=fr x.e (hx _ (by simp[a7]))
    simp[m1'.1,f1,f2]
   ·subst e
    simp only[aZ,dC,or_false]at hb
    rcases hb with z|z|z
    ·exact m3 b (by rw[z];simp[a7]) b hc rfl
    ·exact m3 b (by rw[z];simp[a7]) b hc rfl
    ·exact fr b (hxs b hc) z
  ·rcases aZ.mp hy with e|hy
   ·rw[e]at hb
    rcases cQ.mp hb with hb|hb
    ·rcases mem' b m with z|⟨z,_⟩
     ·obtain⟨o,q⟩:=(S.lv.tracked x (b9 ..)).2 b hb
      rw[z,fw]at q;cases q
     ·exact S.sep x (b9 ..) b hb z
    ·have e2:=aO.mp hb
     rcases mem' b m with z|⟨_,z⟩
     ·exact fr x.w (hx _ (by simp[a7])) (by rw[<-e2];exact z)
     ·exact z e2
   ·rcases mem' b m with z|⟨z,_⟩
    ·obtain⟨o,q⟩:=(S.lv.tracked y (cb _ hy)).2 b hb
     rw[z,fw]at q;cases q
    ·exact S.sep y (cb _ hy) b hb z
theorem dE.part{C:aa}{H H':Hp}{l:aa}{x:LA}{xs:List LA}{v v':Lv}{st:List Lv}(S:dE C H l (x ::xs) (v ::st))(k:ar [x.p,x.w] H H')(L:fL C H' x v'):dE C H' l (x ::xs) (v' ::st):=by
 have nd':=eD.mp S.nd
 have nd2:(a7 x++xs.flatMap a7).Nodup:=nd'.2
 obtain⟨m1,m2,m3⟩:=ir.mp nd2
 have hx:∀b∈a7 x,b∈eR l (x ::xs):=fun b hb=>cK.mpr (.inr ⟨x,b9 ..,hb⟩)
 have lm:∀b∈a7 x,l≠b:=fun b hb z=>nd'.1 (by rw[z];exact dZ _ hb)
 cases S.lv with
 |cons Lx r=>
  refine⟨k _ _ S.lst (by simp;exact⟨lm _ (by simp[a7]),lm _ (by simp[a7])⟩),.cons L (r.keep k (fun y hy b hb m=>?_) (fun y hy b hb m=>?_)),S.nd,S.sep⟩
  ·have hb2:b∈xs.flatMap a7:=fk.mpr ⟨y,hy,hb⟩
   simp only[aZ,dC,or_false]at m
   exact m3 b (by rcases m with z|z<;>(rw[z];simp[a7])) b hb2 rfl
  ·simp only[aZ,dC,or_false]at m
   exact S.sep y (cb _ hy) b hb (hx b (by rcases m with z|z<;>(rw[z];simp[a7])))
theorem power_rest{r0:List Nat}{n:Nat×Bool}{q:List Nat}(h:pY r0=.ok (n,q)):q=r0.drop (eC r0).length:=by
 rw[power_eq]at h
 unfold eC
 by_cases hn:(r0.head?==some 45)=true
 ·simp only[hn,if_true]at h ⊢
  by_cases h1:(r0.drop 1).takeWhile bx=[]
  ·rw[if_pos h1]at h;cases h
  ·rw[if_neg h1]at h
   split at h
   ·cases h
   ·cases h
    rw[rN,cI,vx]
 ·have hnf:(r0.head?==some 45)=false:=by simpa using hn
  simp only[hnf,if_false,dH]at h ⊢
  by_cases h1:r0.takeWhile bx=[]
  ·rw[if_pos h1]at h
   cases h
   rw[h1];rfl
  ·rw[if_neg h1]at h
   split at h
   ·cases h
   ·cases h
    rfl
theorem t7(p:Nat->Bool):∀r:List Nat,(r.takeWhile p).length<=r.length
 |[]=>aI _
 |x :: t=>by
  rw[kN]
  split
  ·simp only[cI];exact x6 (t7 p t)
  ·simp
theorem powSigns_le(r0:List Nat):(eC r0).length<=r0.length:=by
 unfold eC
 split
 ·rename_i h
  cases r0 with
  |nil=>simp at h
  |cons c t=>
   have:=t7 bx t
   simp only[List.drop_one,List.tail_cons,cI]
   omega
 ·exact t7 _ _
def rw_(ls:List Nat)(o:Nat)(b:List Nat):gc (List b8):=if b=[]then .ok []else go ls o [⟨0,[],[],false⟩] b
theorem leastZ_le(o:Nat)(z:Int)(h:0<o):(gm o z).natAbs<=o:=by
 unfold gm
 have h1:=p8 z (show(o:Int)≠0 by omega)
 have h2:=sk z (show(0:Int)<o by omega)
 split<;>omega
theorem powZ_abs(z:Int):dA z.natAbs (decide (z<0))=z:=by
 unfold dA
 by_cases h:z<0
 ·simp[h];omega
 ·simp[h];omega
theorem least_le{o:Nat}{q:Nat×Bool}(hq:q.1<=100000)(ho:o<=100000):(least o q).1<=100000:=by
 cases o with
 |zero=>exact hq
 |succ o=>
  have:=leastZ_le (o+1) (dA q.1 q.2) (by omega)
  show(gm (o+1) (dA q.1 q.2)).natAbs<=100000
  omega
section
variable{P:aU}{w:aM}{K:ay}{mg:ag->Option af}{base:aA}{a:AD}
def spLeastPower:Sp:=fun vs H Q _=>∃(q:Nat×Bool) (o:Nat),vs=[.int (dA q.1 q.2),.int o]/\o<=100000/\Q (.int (dA (least o q).1 (least o q).2)) H
theorem scLeastPower:bQ ["power","order","left"] ["power","order"] (aK mR):=⟨rfl,rfl,rfl,by decide +kernel,rfl,by decide +kernel,by decide +kernel⟩
theorem okLeastPower(T:Tx K mg a):aD P w K mg base (aB P w) 1 a.jT a.uh ["power","order"] spLeastPower:=by
 refine cn T.qN.fn scLeastPower (fun vs H Q E h=>?_) (fun aY A outer s H vs Q E hr h=>?_)
 ·obtain⟨q,o,rfl,_⟩:=h
  rfl
 ·obtain⟨q,o,rfl,ho,k⟩:=h
  refine⟨_,aF (cF (bP fz (pv 1) (bV T.iNO_ORDER) (bU _)) (aE (bE (pv 0))) cU)
   (aF (bB (i:=2) scLeastPower.nd rfl (aQ rfl) (c5 op_mod (pv 0) (pv 1)))
   (aE (bE (pe_ifExp (bP hZ (c5 op_mul cj (pv 2)) (pv 1) (bU _)) (c5 op_sub (pv 2) (pv 1)) (pv 2))))),?_⟩
  refine⟨_,rfl,rfl,_,rfl,?_⟩
  refine bF (fun h0=>?_) (fun h0=>?_)
  ·have h0:o=0:=dF.mp (of_decide_eq_true h0)
   subst h0
   exact⟨_,rfl,k⟩
  ·have h0:o≠0:=fun z=>h0 (decide_eq_true (dF.mpr z))
   obtain⟨m,rfl⟩:∃m,o=m+1:=⟨o-1,by omega⟩
   have k:Q (.int (dA (gm (m+1) (dA q.1 q.2)).natAbs (decide (gm (m+1) (dA q.1 q.2)<0)))) H:=k
   rw[powZ_abs]at k
   unfold gm at k
   have h1:=p8 (dA q.1 q.2) (show((m+1:Nat):Int)≠0 by omega)
   have h2:=sk (dA q.1 q.2) (show(0:Int)<((m+1:Nat):Int) by omega)
   refine⟨_,rfl,_,rfl,_,_,rfl,rfl,(by show(0:Int)<((m+1:Nat):Int);omega),?_⟩
   refine⟨_,rfl,_,_,rfl,rfl,.inl ⟨by decide,by decide⟩,_,rfl,_,_,rfl,rfl,_,rfl,?_⟩
   refine bF (fun h3=>?_) (fun h3=>?_)
   ·rw[if_pos (of_decide_eq_true h3)]at k
    exact⟨_,rfl,_,rfl,_,_,rfl,rfl,k⟩
   ·rw[if_neg (fun z=>h3 (decide_eq_true z))]at k
    exact⟨_,rfl,k⟩
def spReadWords(K:ay)(a:AD):Sp:=fun vs H Q E=>∃(q r:aa) (b ls:List Nat) (ob o:Nat),vs=[.ref q,.ref r,.int ob,.int o]/\ob<=1/\o<=100000/\ao K H q (nv b)/\ao K H r (nv ls)/\ls.all eJ=true/\ls.Nodup/\ls.length<=10000/\b.length<=4096 /\
 Res a.dU a.cE E (go ls o [⟨ob,[],[],false⟩] b) fun ws=>∀(H':Hp) (e:aa) (as:List aa),H' e=some (.lst (as.map V.ref))->fC H' as ws->ar [] H H'->Q (.ref e) H'
structure Turn1 (K:ay) (a:AD) (E:XK) (H0:Hp) (o:Nat) (d l:aa) (b ls:List Nat) (k:List b8->Prop) (n:Nat) (xs:List LA) (st:List Lv) (H2:Hp):Prop where
 S:dE a.bb H2 l xs st
 same:aC H0 H2
 fr:∀m∈eR l xs,H0 m=none
 hn:n<=b.length
 big:∀x∈xs,x.as.length<=n
 st33:st.length<=33
 bot:Bot st
 res:Res a.dU a.cE E (go ls o st (b.drop n)) k
theorem dE.one{C:aa}{H:Hp}{l:aa}{x:LA}{v:Lv}(L:fL C H x v)(hl:H l=none)(has:x.as=[]):dE C (upd H l (.lst [V.ref x.p])) l [x] [v]:=by
 obtain⟨dx,ho⟩:=L.ob
 have k:ar [] H (upd H l (.lst [V.ref x.p])):=ar.new hl
 have n1:x.p≠l:=bg ho hl
 have n2:x.e≠l:=bg L.en hl
 have n3:x.w≠l:=bg L.wr hl
 have pe:x.p≠x.e:=dN ho L.en (by intro q;cases q)
 have pw:x.p≠x.w:=dN ho L.wr (by intro q;cases q)
 refine⟨ax,.cons (L.keep k (by simp) (by simp) (by simp) (by rw[has];simp)) .nil,?_,fun y hy b hb=>?_⟩
 ·show(l ::([x.p,x.e,x.w]++[])).Nodup
  simp[n1.symm,n2.symm,n3.symm,pe,pw,L.ew]
 ·rw[aO.mp hy,has]at hb
  simp at hb
theorem Bot.head{v v':Lv}{st:List Lv}(h:Bot (v ::st))(e:v'.br=v.br):Bot (v' ::st):=by
 obtain⟨u,hu,h0⟩:=h
 cases st with
 |nil=>
  simp at hu
  subst hu
  exact⟨v',by simp,by rw[e];exact h0⟩
 |cons x t=>exact⟨u,by rw[vq]at hu ⊢;exact hu,h0⟩
theorem Bot.push{v:Lv}{st:List Lv}(h:Bot st):Bot (v ::st):=by
 obtain⟨u,hu,h0⟩:=h
 cases st with
 |nil=>simp at hu
 |cons x t=>exact⟨u,by rw[vq];exact hu,h0⟩
theorem takeComma_br{v v':Lv}(h:fg v=.ok v'):v'.br=v.br:=by
 unfold fg at h
 split at h
 ·cases h
 ·split at h
  ·cases h
  ·unfold dj at h
   split at h
   ·cases h;rfl
   ·cases h
theorem addLv_br{v v':Lv}{u:b8}{n:Nat}{neg:Bool}(h:addLv v u n neg=.ok v'):v'.br=v.br:=by
 unfold addLv at h
 split at h
 ·cases h
 ·cases h;rfl
theorem gS.two{C:aa}{H:Hp}{xs:List LA}{v:Lv}{st:List Lv}(h:gS C H xs (v ::st)):∃x xs',xs=x ::xs'/\fL C H x v:=by
 cases h with
 |cons L r=>exact⟨_,_,rfl,L⟩
theorem rev_snoc(x:LA)(xs:List LA):((x ::xs).map fun x=>V.ref x.p).reverse=(xs.map fun x=>V.ref x.p).reverse++[V.ref x.p]:=by rw[dB,vn]
theorem jg:bQ ["signs","letters","outside","order","numbers","levels","at","sign","part","power"] ["signs","letters","outside","order"] (aK mX):=⟨rfl,rfl,rfl,by decide +kernel,rfl,by decide +kernel,by decide +kernel⟩
theorem okReadWords(T:Tx K mg a):aD P w K mg base (aB P w) 4 a.jX a.dReadWords ["signs","letters","outside","order"] (spReadWords K a):=by
 have GL:aD P w K mg base (aB P w) 2 a.jb a.dLevel ["self","bracket"] (spLevel a.bb):=(okLevel T).mono (by decide)
 have GN:aD P w K mg base (aB P w) 3 a.jF a.sU ["letters"] (wR K):=(okLetterNumbers T).mono (by decide)
 have GC:aD P w K mg base (aB P w) 3 a.jY a.dTakeComma ["level"] (spTakeComma a):=(okTakeComma T).mono (by decide)
 have GB:aD P w K mg base (aB P w) 3 a.jI a.tF ["levels","sign"] (tq a):=okBeginBracket T
 have GE:aD P w K mg base (aB P w) 3 a.j9 a.dEndPart ["levels","sign","numbers"] (spEndPart a):=okEndPart T
 have GS:aD P w K mg base (aB P w) 3 a.jS a.ug ["signs","start"] (spPowerSigns K):=(okPowerSigns T).mono (by decide)
 have GM:aD P w K mg base (aB P w) 3 a.jN a.tV ["signs"] (spPowerNumber K a):=(okPowerNumber T).mono (by decide)
 have GQ:aD P w K mg base (aB P w) 3 a.jT a.uh ["power","order"] spLeastPower:=(okLeastPower T).mono (by decide)
 have GA:aD P w K mg base (aB P w) 3 a.ka a.dAddPart ["level","part","power"] (spAddPart a):=(okAddPart T).mono (by decide)
 have GW:aD P w K mg base (aB P w) 3 a.iI a.pD ["level"] (pz a):=(okEndWord T).mono (by decide)
 refine cn T.qV.fn jg (fun vs H Q E h=>?_) (fun aY A outer s H vs Q E hr h=>?_)
 ·obtain⟨q,r,b,ls,ob,o,rfl,_⟩:=h
  rfl
 ·obtain⟨q,r,b,ls,ob,o,rfl,hob,hoo,hq,hr',hs,hn,hll,hbl,R⟩:=h
  refine⟨_,aF (bB (i:=4) jg.nd rfl (aQ rfl) (bp GN hr rfl T.qm.mg T.qm.fn.kp T.qm.bd .nil bC (aj (pv 1) (au)))) (aF (bB (i:=5) jg.nd rfl (aQ rfl) (dI (aj (pe_make T.dM.mak GL hr rfl T.dM.mg T.dM.bd .nil bC (aj (pv 2) au)) au))) (aF (bB (i:=6) jg.nd rfl (aQ rfl) (cj)) (aF (ps_while eO (bP iC (pv 6) (dr eB (by rfl) T.dh dG (aj (pv 0) au)) (bU _)) (aF (bB (i:=7) jg.nd rfl (aQ rfl) (dO eG (pv 0) (pv 6) (fun _ _=>rfl))) (aF (bB (i:=6) jg.nd rfl (aQ rfl) (c5 gN (pv 6) cj)) (aE (cF (bP fz (pv 7) (bV T.iCOMMA) (bU _)) (aE (dX (bp GC hr rfl T.qW.mg T.qW.fn.kp T.qW.bd .nil bC (aj (dO eG (pv 5) (pe_un i8 cj) (fun _ _=>rfl)) (au))))) (aE (cF (PW.pt (pw_or (bP fz (pv 7) (bV T.iROUND) (bU _)) (pw_or1 (bP fz (pv 7) (bV T.iSQUARE) (bU _))))) (aE (dX (bp GB hr rfl T.qw.mg T.qw.fn.kp T.qw.bd .nil bC (aj (pv 5) (aj (pv 7) (au)))))) (aF (bB (i:=8) jg.nd rfl (aQ rfl) (bp GE hr rfl T.gEndPart.mg T.gEndPart.fn.kp T.gEndPart.bd .nil bC (aj (pv 5) (aj (pv 7) (aj (pv 4) (au)))))) (aF (bB (i:=9) jg.nd rfl (aQ rfl) (bp GS hr rfl T.qM.mg T.qM.fn.kp T.qM.bd .nil bC (aj (pv 0) (aj (pv 6) (au))))) (aF (dX (bp GA hr rfl T.gAddPart.mg T.gAddPart.fn.kp T.gAddPart.bd .nil bC (aj (dO eG (pv 5) (pe_un i8 cj) (fun _ _=>rfl)) (aj (pv 8) (aj (bp GQ hr rfl T.qN.mg T.qN.fn.kp T.qN.bd .nil bC (aj (bp GM hr rfl T.qE.mg T.qE.fn.kp T.qE.bd .nil bC (aj (pv 9) (au))) (aj (pv 3) (au)))) (au)))))) (aE (bB (i:=6) jg.nd rfl (aQ rfl) (c5 gN (pv 6) (dr eB (by rfl) T.dh dG (aj (pv 9) au))))))))))))))) (aF (cF (bP hZ (dr eB (by rfl) T.dh dG (aj (pv 5) au)) (cj) (bU _)) (aE (fO fK T.gk rfl rfl)) (cU)) (aF (dX (bp GW hr rfl T.iK.mg T.iK.fn.kp T.iK.bd .nil bC (aj (dO eG (pv 5) (cj) (fun _ _=>rfl)) (au)))) (aE (bE (fY (dO eG (pv 5) (cj) (fun _ _=>rfl)) rfl)))))))),?_⟩
  refine⟨_,rfl,r,ls,rfl,hr',hs,hn,hll,fun H1 d hd1 hd0 k1=>?_⟩
  refine⟨_,rfl,fun p dx np nd ne=>?_⟩
  refine⟨p,dx,ob,rfl,ax,fun H2 e w L he hw k2=>⟨rfl,(by show 1<=sizeLine;decide),fun l hl=>?_⟩⟩
  have s12:aC H1 H2:=aC.made np nd fun b o q n=>k2 b o q (by simpa using n)
  have sH1:aC H H1:=k1.same
  have bZ:H2 l=none:=hl
  have fr1:∀m,H2 m=none->H1 m=none:=fun m z=>s12.free z
  have fr0:∀b,(upd (upd H1 dx (.own p)) p (.ins a.bb dx [])) b=none->H1 b=none:=fun b q=>by
   have n1:b≠p:=fun z=>by rw[z,ax]at q;cases q
   rw[ak n1]at q
   have n2:b≠dx:=fun z=>by rw[z,ax]at q;cases q
   rw[ak n2]at q
   exact q
  refine⟨fun m σ Hc=>∃(n:Nat) (xs:List LA) (st:List Lv) (v5 v6 v7:Option V),σ=[some (.ref q),some (.ref r),some (.int (ob:Int)),some (.int (o:Int)),some (.ref d),some (.ref l),some (.int (n:Int)),v5,v6,v7] /\
    Turn1 K a E H1 o d l b ls (fun ws=>∀(H':Hp) (e:aa) (as:List aa),H' e=some (.lst (as.map V.ref))->fC H' as ws->ar [] H H'->Q (.ref e) H') n xs st Hc/\m=b.length-n,
   ⟨_,0,[⟨p,e,w,[]⟩],[⟨ob,[],[],false⟩],none,none,none,rfl,⟨dE.one L bZ rfl,?_,?_,de _,?_,(by show 1<=33;decide),⟨_,rfl,hob⟩,R⟩,rfl⟩,?_⟩
  ·intro c o q
   rw[ak (bg (s12 _ _ q) bZ)]
   exact s12 _ _ q
  ·intro m hm
   rcases cK.mp hm with z|⟨y,hy,hb⟩
   ·rw[z];exact fr1 l bZ
   ·rw[aO.mp hy]at hb
    simp only[a7,aZ,dC,or_false]at hb
    rcases hb with z|z|z
    ·rw[z];exact np
    ·rw[z];exact fr0 _ he
    ·rw[z];exact fr0 _ hw
  ·intro y hy
   rw[aO.mp hy]
   exact de _
  ·rintro m σ Hc ⟨n,xs,st,v5,v6,v7,rfl,I,rfl⟩
   have hqc:ao K Hc q (nv b):=(sH1.trans I.same).seq hq
   refine⟨_,rfl,_,rfl,q,_,rfl,.inl hqc,_,_,rfl,rfl,_,rfl,?_⟩
   refine bF (fun aR=>?_) (fun aR=>?_)
   ·have aR:n<b.length:=by
     have z:=of_decide_eq_true aR
     rw[ck]at z
     omega
    have hb0:b≠[]:=fun z=>by rw[z]at aR;simp at aR
    obtain⟨c,hc⟩:∃c,b[n]?=some c:=⟨b[n],aH aR⟩
    have hdr:b.drop n=c ::b.drop (n+1):=by
     obtain⟨h1,h2⟩:=bj.mp hc
     rw[xP h1,h2]
    have R1:=I.res
    rw[hdr,iO]at R1
    obtain⟨v,bu,rfl⟩:∃v bu,st=v ::bu:=by
     obtain⟨u,hu,_⟩:=I.bot
     cases st with
     |nil=>simp at hu
     |cons v bu=>exact⟨v,bu,rfl⟩
    obtain⟨x,xs',rfl,Lx⟩:=I.S.lv.two
    have hxa:=I.big x (b9 ..)
    have nextSame:∀{ys:List aa} {H3:Hp},ar ys Hc H3->(∀m∈ys,H1 m=none)->aC H1 H3:=fun k3 f c o q=>k3 c o (I.same c o q) fun z=>by rw[f c z]at q;cases q
    refine⟨fun σ' H'=>∃(n':Nat) (xs:List LA) (st:List Lv) (v5 v6 v7:Option V),n<n'/\σ'=[some (.ref q),some (.ref r),some (.int (ob:Int)),some (.int (o:Int)),some (.ref d),some (.ref l),some (.int (n':Int)),v5,v6,v7] /\
     Turn1 K a E H1 o d l b ls (fun ws=>∀(H':Hp) (e:aa) (as:List aa),H' e=some (.lst (as.map V.ref))->fC H' as ws->ar [] H H'->Q (.ref e) H') n' xs st H',?_,?_⟩
    ·rintro σ' H' ⟨n',xs,st,v5,v6,v7,hn',rfl,I'⟩
     exact⟨_,by have:=I'.hn;omega,n',xs,st,v5,v6,v7,rfl,I',rfl⟩
    refine⟨_,rfl,_,rfl,q,_,_,_,rfl,rfl,hqc,eV (nv_at hc),_,rfl,_,_,rfl,rfl,_,rfl,rfl,_,rfl,?_⟩
    refine bF (fun h44=>?_) (fun h44=>?_)
    ·-- a comma
     have h44:c=44:=dF.mp (of_decide_eq_true h44)
     have et:turn ls o (v ::bu) c (b.drop (n+1))=(fg v).bind fun m=>.ok (m ::bu,b.drop (n+1)):=by unfold turn;rw[if_pos h44]
     rw[et]at R1
     have hlst:=I.S.lst
     rw[rev_snoc]at hlst
     refine⟨_,rfl,_,rfl,l,_,_,_,rfl,rfl,ao.of hlst,atLast,x,v,rfl,Lx,by omega,R1.bind.bind.imp fun v' ev R2 H3 w' L3 hw3 k3=>?_⟩
     refine⟨n+1,⟨x.p,x.e,w',x.as++[x.w]⟩ ::xs',v' ::bu,_,_,_,by omega,rfl,⟨I.S.comma k3 L3 hw3,nextSame k3 ?_,fun m hm=>?_,by omega,fun y hy=>?_,I.st33,I.bot.head (takeComma_br ev),R2⟩⟩
     ·intro m hm
      refine I.fr m (cK.mpr (.inr ⟨x,b9 ..,?_⟩))
      simp only[aZ,dC,or_false]at hm
      rcases hm with z|z<;>(rw[z];simp[a7])
     ·rcases cK.mp hm with z|⟨y,hy,hb⟩
      ·exact I.fr m (cK.mpr (.inl z))
      ·rcases aZ.mp hy with e1|hy
       ·rw[e1]at hb
        simp only[a7,aZ,dC,or_false]at hb
        rcases hb with z|z|z
        ·exact I.fr m (cK.mpr (.inr ⟨x,b9 ..,by rw[z];simp[a7]⟩))
        ·exact I.fr m (cK.mpr (.inr ⟨x,b9 ..,by rw[z];simp[a7]⟩))
        ·rw[z];exact I.same.free hw3
       ·exact I.fr m (cK.mpr (.inr ⟨y,cb _ hy,hb⟩))
     ·rcases aZ.mp hy with e1|hy
      ·rw[e1,cx,xw];omega
      ·have:=I.big y (cb _ hy);omega
    ·have h44:c≠44:=fun z=>h44 (decide_eq_true (dF.mpr z))
     have brk:(c=40\/c=91)->tq a ([V.ref l,V.int (c:Int)]++[]) Hc (fun _ H'=>∃(n':Nat) (xs:List LA) (st:List Lv) (u5 u6 u7:Option V),n<n'/\[some (V.ref q),some (V.ref r),some (V.int (ob:Int)),some (V.int (o:Int)),some (V.ref d),some (V.ref l),some (V.int ((n:Int)+1)),some (V.int (c:Int)),v6,v7]=[some (V.ref q),some (V.ref r),some (V.int (ob:Int)),some (V.int (o:Int)),some (V.ref d),some (V.ref l),some (V.int (n':Int)),u5,u6,u7] /\
       Turn1 K a E H1 o d l b ls (fun ws=>∀(H':Hp) (e:aa) (as:List aa),H' e=some (.lst (as.map V.ref))->fC H' as ws->ar [] H H'->Q (.ref e) H') n' xs st H') E:=fun hbr=>by
      have et:turn ls o (v ::bu) c (b.drop (n+1))=(begin_ (v ::bu) c).bind fun t=>.ok (t,b.drop (n+1)):=by unfold turn;rw[if_neg h44,if_pos hbr]
      rw[et]at R1
      refine⟨l,x ::xs',v ::bu,c,rfl,I.S,by have:=I.st33;omega,R1.bind.bind.imp fun st2 e2 R2 H3 x2 S2 has2 fr2 k3=>?_⟩
      have e3:st2=⟨c,[],[],false⟩ ::v ::bu/\¬ 32<(v ::bu).length:=by
       unfold begin_ at e2
       split at e2
       ·cases e2
       ·cases e2;exact⟨rfl,by assumption⟩
      refine⟨n+1,x2 ::x ::xs',st2,_,v6,v7,by omega,rfl,⟨S2,nextSame k3 ?_,fun m hm=>?_,by omega,fun y hy=>?_,by rw[e3.1,cI];omega,by rw[e3.1];exact I.bot.push,R2⟩⟩
      ·intro m hm
       rw[aO.mp hm]
       exact I.fr l (cK.mpr (.inl rfl))
      ·rcases cK.mp hm with z|⟨y,hy,hb⟩
       ·exact I.fr m (cK.mpr (.inl z))
       ·rcases aZ.mp hy with e1|hy
        ·rw[e1]at hb
         exact I.same.free (fr2 m hb)
        ·exact I.fr m (cK.mpr (.inr ⟨y,hy,hb⟩))
      ·rcases aZ.mp hy with e1|hy
       ·rw[e1,has2];exact de _
       ·have:=I.big y hy;omega
     refine⟨_,rfl,rfl,_,rfl,?_⟩
     refine bF (fun h40=>?_) (fun h40=>?_)
     ·exact⟨_,rfl,_,rfl,brk (.inl (dF.mp (of_decide_eq_true h40)))⟩
     ·have h40:c≠40:=fun z=>h40 (decide_eq_true (dF.mpr z))
      refine⟨_,rfl,rfl,_,rfl,?_⟩
      refine bF (fun h91=>?_) (fun h91=>?_)
      ·exact⟨_,rfl,_,rfl,brk (.inr (dF.mp (of_decide_eq_true h91)))⟩
      ·have h91:c≠91:=fun z=>h91 (decide_eq_true (dF.mpr z))
       have et:turn ls o (v ::bu) c (b.drop (n+1))=(cM ls (v ::bu) c).bind fun p=>(pY (b.drop (n+1))).bind fun q=>(addPart p.2 p.1 (least o q.1).1 (least o q.1).2).bind fun t=>.ok (t,q.2):=by
        unfold turn
        rw[if_neg h44,if_neg (fun z=>z.elim h40 h91)]
       rw[et]at R1
       have hnum:NumAt Hc d ls:=by
        obtain⟨kvs,h1,h2⟩:=hd1.ex
        exact⟨kvs,I.same _ _ h1,h2⟩
       refine⟨_,rfl,_,rfl,_,rfl,l,d,x,xs',v,bu,c,ls,rfl,I.S,hnum,by omega,I.bot,R1.bind.bind.imp fun p3 e3 R2 H3 q3 xs3 hq3 hu3 S3 hx3 ne3 bot3 k3=>?_⟩
       have sub3:∀m,m∈eR l xs3->m∈eR l (x ::xs'):=fun m hm=>by
        rcases hx3 with z|z
        ·rw[z]at hm;exact hm
        ·rw[z]at hm
         rcases cK.mp hm with y|⟨y,hy,hb⟩
         ·exact cK.mpr (.inl y)
         ·exact cK.mpr (.inr ⟨y,cb _ hy,hb⟩)
       have big3:∀y∈xs3,y.as.length<=n:=fun y hy=>by
        rcases hx3 with z|z
        ·rw[z]at hy;exact I.big y hy
        ·rw[z]at hy;exact I.big y (cb _ hy)
       have same3:aC H1 H3:=nextSame k3 fun m hm=>I.fr m hm
       have len3:xs3.length<=(x ::xs').length:=by
        rcases hx3 with z|z<;>(rw[z];simp)
       obtain⟨u3,st3⟩:=p3
       cases st3 with
       |nil=>exact absurd rfl ne3
       |cons v3 st4=>
       obtain⟨x3,xs4,rfl,L3⟩:=S3.lv.two
       refine⟨_,rfl,_,rfl,q,b,n+1,rfl,(sH1.trans same3).seq hq,by omega,by omega,fun r5 h5=>?_⟩
       have s5:aC H3 (upd H3 r5 (.lst (nv (eC (b.drop (n+1)))))):=(ar.new h5).same
       have S5:=S3.same s5
       have hlst:=S5.lst
       rw[rev_snoc]at hlst
       refine⟨_,rfl,_,rfl,l,_,_,_,rfl,rfl,ao.of hlst,atLast,_,rfl,_,rfl,r5,b.drop (n+1),rfl,ao.of ax,by rw[kI];omega,R2.bind.imp fun nn en R3 H6 k6=>?_⟩
       have s6:aC (upd H3 r5 (.lst (nv (eC (b.drop (n+1)))))) H6:=k6.same
       have S6:=S5.same s6
       obtain⟨y3,ys4,ey,L6⟩:=S6.lv.two
       obtain⟨rfl,rfl⟩:=iA ey
       have R4:=R3.bind
       rw[addPart_eq]at R4
       refine⟨_,rfl,nn.1,o,rfl,hoo,?_⟩
       refine⟨x3,v3,q3,u3,(least o nn.1).1,(least o nn.1).2,rfl,L6,s6 _ _ (s5 _ _ hq3),hu3,least_le (power_small (n:=nn.1) (q:=nn.2) en) hoo,R4.bind.imp fun v7' e7 R5 H7 L7 k7=>?_⟩
       have S7:=S6.part k7 L7
       have same7:aC H1 H7:=fun c0 o0 q0=>k7 c0 o0 (s6 _ _ (s5 _ _ (same3 _ _ q0))) fun z=>by
        have hm:c0∈eR l (x3 ::xs4):=cK.mpr (.inr ⟨x3,b9 ..,by
         simp only[aZ,dC,or_false]at z
         rcases z with z|z<;>(rw[z];simp[a7])⟩)
        rw[I.fr c0 (sub3 c0 hm)]at q0
        cases q0
       have hpl:=powSigns_le (b.drop (n+1))
       rw[kI]at hpl
       have hr7:H7 r5=some (.lst (nv (eC (b.drop (n+1))))):=k7 _ _ (s6 _ _ ax) fun z=>by
        have hm:r5∈eR l (x3 ::xs4):=cK.mpr (.inr ⟨x3,b9 ..,by
         simp only[aZ,dC,or_false]at z
         rcases z with z|z<;>(rw[z];simp[a7])⟩)
        obtain⟨o,q0⟩:=S3.tracked hm
        rw[h5]at q0
        cases q0
       refine⟨_,rfl,_,rfl,r5,_,rfl,.inl (ao.of hr7),_,_,rfl,rfl,?_⟩
       refine⟨n+1+(eC (b.drop (n+1))).length,x3 ::xs4,v7' ::st4,some (V.int (c:Int)),some (V.ref q3),some (V.ref r5),by omega,?_,⟨S7,same7,fun m hm=>I.fr m (sub3 m hm),by omega,fun y hy=>?_,?_,bot3.head (addLv_br e7),?_⟩⟩
       ·refine congrArg (fun z=>[some (V.ref q),some (V.ref r),some (V.int (ob:Int)),some (V.int (o:Int)),some (V.ref d),some (V.ref l),some (V.int z),some (V.int (c:Int)),some (V.ref q3),some (V.ref r5)]) ?_
        rw[ck]
        omega
       ·have:=big3 y hy;omega
       ·have h1:=S7.lv.len
        have h2:=I.S.lv.len
        have h3:=I.st33
        omega
       ·have e8:=power_rest (n:=nn.1) (q:=nn.2) en
        rw[rN]at e8
        have R6:Res a.dU a.cE E (go ls o (v7' ::st4) nn.2) _:=R5
        rw[e8]at R6
        exact R6
   ·-- behind the loop
    have hge:b.length<=n:=gJ fun z=>aR (decide_eq_true (by rw[ck];omega))
    have hdr:b.drop n=[]:=xQ hge
    have elen:(((xs.map fun x=>V.ref x.p).reverse).length:Int)=st.length:=by rw[vo,aP,I.S.lv.len]
    refine⟨_,rfl,l,_,rfl,.inl (ao.of I.S.lst),_,_,rfl,rfl,_,rfl,?_⟩
    refine bF (fun h1=>?_) (fun h1=>?_)
    ·have h1:1<st.length:=by
      have z:=of_decide_eq_true h1
      rw[elen]at z
      omega
     have R1:=I.res
     rw[hdr,go_nil]at R1
     refine R1.wrong ?_ _
     cases st with
     |nil=>simp at h1
     |cons v0 t0=>
      cases t0 with
      |nil=>simp at h1
      |cons v1 t1=>rfl
    ·have h1:¬ 1<st.length:=fun z=>h1 (decide_eq_true (by rw[elen];omega))
     obtain⟨v,rfl⟩:∃v,st=[v]:=by
      obtain⟨u,hu,_⟩:=I.bot
      cases st with
      |nil=>simp at hu
      |cons v bu=>
       cases bu with
       |nil=>exact⟨v,rfl⟩
       |cons _ _=>simp at h1
     obtain⟨x,xs',rfl,Lx⟩:=I.S.lv.two
     have hx0:xs'=[]:=by
      have z:=I.S.lv.len
      simp at z
      exact z
     subst hx0
     have hlst:Hc l=some (.lst [V.ref x.p]):=I.S.lst
     have R1:=I.res
     rw[hdr,go_nil]at R1
     have R2:Res a.dU a.cE E ((dj v).bind fun m=>.ok m.ended) _:=R1
     refine⟨_,rfl,l,_,_,_,rfl,rfl,ao.of hlst,eV (j:=0) rfl,x,v,rfl,Lx,by have:=I.big x (b9 ..);have:=I.hn;omega,R2.bind.imp fun v' ev R3 H3 w' L3 hw3 k3=>?_⟩
     have S3:=I.S.comma k3 L3 hw3
     have hl3:H3 l=some (.lst [V.ref x.p]):=S3.lst
     obtain⟨dx2,ho2⟩:=L3.ob
     refine⟨_,rfl,l,_,_,_,rfl,rfl,ao.of hl3,eV (j:=0) rfl,x.p,a.bb,dx2,_,_,rfl,ho2,T.dM.cl,T.oX,lf_en,?_⟩
     refine R3 H3 x.e (x.as++[x.w]) L3.en L3.ws fun c1 o1 q1 _=>k3 c1 o1 (I.same _ _ (sH1 _ _ q1)) fun z=>?_
     have hm:c1∈eR l [x]:=cK.mpr (.inr ⟨x,b9 ..,by
      simp only[aZ,dC,or_false]at z
      rcases z with z|z<;>(rw[z];simp[a7])⟩)
     have z1:=I.fr c1 hm
     rw[sH1 _ _ q1]at z1
     cases z1
end
theorem rw_eq{ls r:List Nat}(hs:ls.all eJ=true):rw_ ls 0 r=if r=[]then .ok []else Sa54.words (r.length+1) ls r:=by
 unfold rw_
 split
 ·rfl
 ·rw[words_eq hs (r.length+1) r [] (by omega)]
  cases Sa54.words (r.length+1) ls r with
  |ok l=>rfl
  |error e=>rfl
theorem group_eq(b:List Nat):gd b=(let c:=iW b;let ls:=c.takeWhile fun x=>x != 124
  if 124∈c then(chk ls).bind fun _=>(rw_ ls 0 (c.drop (ls.length+1))).bind fun l=>if 32<l.length then .error .wrong else .ok ⟨ls,l⟩else .error .wrong):=by
 unfold gd
 simp only
 have hm:124∈iW b↔((iW b).takeWhile fun x=>x != 124).length≠(iW b).length:=by
  generalize iW b=c
  induction c with
  |nil=>simp
  |cons x t ih=>
   by_cases h:x=124
   ·subst h;simp[kN]
   ·rw[kN,if_pos (by simp[h])]
    simp only[aZ,cI]
    constructor
    ·rintro(z|z)
     ·exact absurd z.symm h
     ·intro q;exact(ih.mp z) (by omega)
    ·intro q;exact .inr (ih.mpr fun z=>q (by omega))
 by_cases h0:124∈iW b
 ·rw[if_pos h0]
  have h1:=hm.mp h0
  unfold chk
  generalize hls:(iW b).takeWhile (fun x=>x != 124)=ls at *
  by_cases h2:ls=[]\/8<ls.length\/ls.all eJ=false\/¬ls.Nodup
  ·rw[if_pos (.inr h2),if_pos h2];rfl
  ·rw[if_neg (fun z=>z.elim h1 h2),if_neg h2]
   have hs:ls.all eJ=true:=by
    cases e:ls.all eJ with
    |true=>rfl
    |false=>exact absurd (.inr (.inr (.inl e))) h2
   show _=(rw_ ls 0 _).bind _
   rw[rw_eq hs]
   split
   ·rfl
   ·rfl
 ·rw[if_neg h0]
  have h1:=Classical.not_not.mp fun z=>h0 (hm.mpr z)
  rw[if_pos (.inl h1)]
section
variable{P:aU}{w:aM}{K:ay}{mg:ag->Option af}{base:aA}{a:AD}
def gf(l g w:aa):List (ag×V):=[("letters",.ref l),("signs",.ref g),("words",.ref w)]
theorem gf_new{l g w:aa}:di "words" (.ref w) (di "signs" (.ref g) (di "letters" (.ref l) []))=gf l g w:=by kernel_rfl
theorem gf_l{l g w:aa}:(gf l g w).lookup ("letters" :ag)=some (.ref l):=by kernel_rfl
theorem gf_s{l g w:aa}:(gf l g w).lookup ("signs" :ag)=some (.ref g):=by kernel_rfl
def spGroup(C:aa):Sp:=fun vs H Q _=>∃(p dx l g w:aa),vs=[.ref p,.ref l,.ref g,.ref w]/\H p=some (.ins C dx [])/\∀H':Hp,H' p=some (.ins C dx (gf l g w))->ar [p] H H'->Q .bo H'
theorem scGroup:bQ ["self","letters","signs","words"] ["self","letters","signs","words"] (aK sGroup):=⟨rfl,rfl,rfl,by decide +kernel,rfl,by decide +kernel,by decide +kernel⟩
theorem okGroup(T:Tx K mg a):aD P w K mg base (aB P w) 1 a.jC a.dGroup ["self","letters","signs","words"] (spGroup a.dJ):=by
 refine cn T.iB.fn scGroup (fun vs H Q E h=>?_) (fun aY A outer s H vs Q E hr h=>?_)
 ·obtain⟨p,dx,l,g,w,rfl,_⟩:=h
  rfl
 ·obtain⟨p,dx,l,g,w,rfl,hp,k⟩:=h
  refine⟨_,aF (i9 (pv 0) (pv 1) rfl) (aF (i9 (pv 0) (pv 2) rfl) (aE (i9 (pv 0) (pv 3) rfl))),?_⟩
  refine⟨_,rfl,_,rfl,p,a.dJ,dx,_,rfl,hp,T.iB.cl,T.qk,(by show 0<1000;decide),?_⟩
  refine⟨_,rfl,_,rfl,p,a.dJ,dx,_,rfl,ax,T.iB.cl,T.nGroup_signs,(by show 1<1000;decide),?_⟩
  refine⟨_,rfl,_,rfl,p,a.dJ,dx,_,rfl,ax,T.iB.cl,T.nGroup_words,(by show 2<1000;decide),?_⟩
  refine k _ (by rw[ax,gf_new]) fun b o e n=>?_
  have nb:b≠p:=fun z=>n (by simp[z])
  rw[ak nb,ak nb,ak nb]
  exact e
def wU(K:ay):Sp:=fun vs H Q _=>∃(t:aa) (b:List Nat),vs=[.ref t]/\ao K H t (nv b)/\b.length<=4096/\∀(H':Hp) (r:aa),H r=none->H' r=some (.lst (nv (iW b)))->ar [] H H'->Q (.ref r) H'
theorem sS:bQ ["text","sign"] ["text"] (aK ml):=⟨rfl,rfl,rfl,by decide +kernel,rfl,by decide +kernel,by decide +kernel⟩
theorem okWithoutBlanks(T:Tx K mg a):aD P w K mg base (aB P w) 1 a.jE a.sT ["text"] (wU K):=by
 refine cn T.ql.fn sS (fun vs H Q E h=>?_) (fun aY A outer s H vs Q E hr h=>?_)
 ·obtain⟨t,b,rfl,_⟩:=h
  rfl
 ·obtain⟨t,b,rfl,ht,hbl,k⟩:=h
  refine⟨_,aE (bE (pe_lc (own:=[("sign",1)]) rfl sS.nd (ie (pv 0)) (iH (by kernel_rfl)) (fun s H C cl fp=>cV (i:=1) sS.nd rfl (aQ rfl) (.inr rfl)) (fun s H C cl fp=>pts_one (bP op_ne (pv 1) (bV T.iBLANK) (bU _))) (fun s H C cl fp=>pv 1))),?_⟩
  refine⟨_,rfl,t,rfl,⟨_,ht⟩,fun D hD=>?_⟩
  have kD:∀acc,aC H (upd H D (.lst acc)):=fun acc b o e=>by rw[ak (bg e hD)];exact e
  refine lc_list (K:=K) (a:=t) (xs:=nv b) (fun i H'=>H'=upd H D (.lst (nv ((b.take i).filter fun x=>x != 32)))) rfl (fun i H' _ e=>by rw[e];exact(kD _).seq ht) (fun i x H' hx e=>?_) fun H' e=>?_
  ·subst e
   obtain⟨n,hn,rfl⟩:∃n:Nat,b[i]?=some n/\x=V.int (n:Int):=by
    rw[bH]at hx
    cases e:b[i]? with
    |none=>rw[e]at hx;cases hx
    |some n=>rw[e]at hx;exact⟨n,rfl,(cC hx).symm⟩
   have aR:=(bj.mp hn).1
   have et:b.take (i+1)=b.take i++[n]:=by rw[eW,hn];rfl
   refine⟨rfl,_,rfl,rfl,_,rfl,?_⟩
   refine bF (fun h=>?_) (fun h=>?_)
   ·have h:n≠32:=fun z=>by
     have q:(!decide (V.int (n:Int)=V.int ((32:Nat):Int)))=true:=h
     rw[decide_eq_true (dF.mpr z)]at q
     cases q
    refine⟨_,rfl,_,ax,?_,?_⟩
    ·rw[ck]
     exact iu (cZ (n6 ..) (by rw[gG];omega:_<=10000)) (by decide)
    ·show upd (upd H D _) D _=upd H D _
     rw[upd_upd,et,oh]
     simp[h,nv]
   ·have h:n=32:=fX fun z=>h (by
     show(!decide (V.int (n:Int)=V.int ((32:Nat):Int)))=true
     rw[decide_eq_false fun q=>z (dF.mp q)];rfl)
    show upd H D _=upd H D _
    rw[et,oh]
    simp[h]
  ·subst e
   have e1:(b.take (nv b).length).filter (fun x=>x != 32)=iW b:=by rw[ck,gb];rfl
   rw[e1]
   exact k _ D hD ax fun c o e _=>kD _ c o e
def tS(K:ay)(a:AD):Sp:=fun vs H Q E=>∃(q r:aa) (b ls:List Nat) (o:Nat),vs=[.ref q,.ref r,.int o]/\o<=100000/\ao K H q (nv b)/\ao K H r (nv ls)/\ls.all eJ=true/\ls.Nodup/\ls.length<=10000/\b.length<=4096 /\
 Res a.dU a.cE E (rw_ ls o b) fun ws=>∀(H':Hp) (e:aa) (as:List aa),H' e=some (.lst (as.map V.ref))->fC H' as ws->ar [] H H'->Q (.ref e) H'
theorem scWordsOfText:bQ ["signs","letters","order"] ["signs","letters","order"] (aK mG):=⟨rfl,rfl,rfl,by decide +kernel,rfl,by decide +kernel,by decide +kernel⟩
theorem okWordsOfText(T:Tx K mg a):aD P w K mg base (aB P w) 5 a.jd a.qC ["signs","letters","order"] (tS K a):=by
 have GW:aD P w K mg base (aB P w) 4 a.jX a.dReadWords ["signs","letters","outside","order"] (spReadWords K a):=okReadWords T
 refine cn T.lh.fn scWordsOfText (fun vs H Q E h=>?_) (fun aY A outer s H vs Q E hr h=>?_)
 ·obtain⟨q,r,b,ls,o,rfl,_⟩:=h
  rfl
 ·obtain⟨q,r,b,ls,o,rfl,ho,hq,hr',hs,hn,hl,hb,R⟩:=h
  refine⟨_,aF (cF (pt_not (nr (pv 0) (fun _=>rfl))) (aE (bE (dI au))) cU)
   (aE (bE (bp GW hr rfl T.qV.mg T.qV.fn.kp T.qV.bd .nil bC (aj (pv 0) (aj (pv 1) (aj (bV T.iWORDS_OF_TEXT) (aj (pv 2) (au)))))))),?_⟩
  refine⟨_,rfl,_,.inl ⟨_,hq,rfl⟩,?_⟩
  unfold rw_ at R
  cases hbb:b with
  |nil=>
   refine iteT ?_
   rw[if_pos hbb]at R
   refine⟨(by show 0<=sizeLine;decide),fun l hl=>?_⟩
   exact R.ok rfl _ l [] ax ⟨rfl,fun j a w e=>by simp at e,fun _ z=>absurd z (by simp)⟩ (ar.new hl)
  |cons c t=>
   refine iteF ?_
   rw[if_neg (by rw[hbb];simp)]at R
   exact⟨_,rfl,_,rfl,_,rfl,q,r,b,ls,0,o,rfl,by decide,ho,hq,hr',hs,hn,hl,hb,R⟩
structure jq (a:AD) (H:Hp) (p:aa) (g:jy) (sg:List Nat):Prop where
 ex:∃(dx l q w:aa) (as:List aa),H p=some (.ins a.dJ dx (gf l q w))/\H l=some (.lst (nv g.letters))/\H q=some (.lst (nv sg))/\H w=some (.lst (as.map V.ref))/\fC H as g.nothing
structure iQ (g:jy) (sg:List Nat):Prop where
 small:g.letters.all eJ=true
 nd:g.letters.Nodup
 ne:g.letters≠[]
 le:g.letters.length<=8
 sl:sg.length<=4096
 rd:rw_ g.letters 0 sg=.ok g.nothing
 wl:g.nothing.length<=32
theorem jq.same{a:AD}{H H':Hp}{p:aa}{g:jy}{sg:List Nat}(h:jq a H p g sg)(s:aC H H'):jq a H' p g sg:=by
 obtain⟨dx,l,q,w,as,h1,h2,h3,h4,h5⟩:=h.ex
 exact⟨dx,l,q,w,as,s _ _ h1,s _ _ h2,s _ _ h3,s _ _ h4,h5.keep (xs:=[]) (fun b o e _=>s b o e) (by simp)⟩
def spReadText(K:ay)(a:AD):Sp:=fun vs H Q E=>∃(t:aa) (b:List Nat),vs=[.ref t]/\ao K H t (nv b)/\b.length<=4096 /\
 Res a.dU a.cE E (gd b) fun g=>∀(H':Hp) (p:aa) (sg:List Nat),jq a H' p g sg->iQ g sg->ar [] H H'->Q (.ref p) H'
theorem m7:bQ ["text","signs","bar","letters","word_signs","words"] ["text"] (aK m9):=⟨rfl,rfl,rfl,by decide +kernel,rfl,by decide +kernel,by decide +kernel⟩
theorem inV_nv(c:List Nat):inV (V.int 124) (nv c)=decide (124∈c):=by
 unfold inV nv
 rw[uS]
 induction c with
 |nil=>rfl
 |cons x t ih=>
  rw[kJ,ih]
  by_cases h:x=124
  ·subst h;simp[eqV]
  ·have h1:((x:Int)==124)=false:=by simp;omega
   have h2:¬ 124=x:=fun z=>h z.symm
   simp[eqV,h1,h2,h]
theorem flat_nv(c:List Nat):(nv c).all gn=true:=by
 unfold nv
 rw[uT]
 exact cB.mpr fun x _=>rfl
theorem okReadText(T:Tx K mg a):aD P w K mg base (aB P w) 6 a.j4 a.dReadText ["text"] (spReadText K a):=by
 have GG:aD P w K mg base (aB P w) 4 a.jC a.dGroup ["self","letters","signs","words"] (spGroup a.dJ):=(okGroup T).mono (by decide)
 have GK:aD P w K mg base (aB P w) 5 a.jH a.tE ["letters"] (spCheckLetters K a):=(okCheckLetters T).mono (by decide)
 have GW:aD P w K mg base (aB P w) 5 a.jd a.qC ["signs","letters","order"] (tS K a):=okWordsOfText T
 have GN:aD P w K mg base (aB P w) 5 a.jE a.sT ["text"] (wU K):=(okWithoutBlanks T).mono (by decide)
 refine cn T.gReadText.fn m7 (fun vs H Q E h=>?_) (fun aY A outer s H vs Q E hr h=>?_)
 ·obtain⟨t,b,rfl,_⟩:=h
  rfl
 ·obtain⟨t,b,rfl,ht,hbl,R⟩:=h
  refine⟨_,aF (bB (i:=1) m7.nd rfl (aQ rfl) (bp GN hr rfl T.ql.mg T.ql.fn.kp T.ql.bd .nil bC (aj (pv 0) (au)))) (aF (cF (bP op_notIn_seq (bV T.iBAR) (pv 1) rfl) (aE (fO fK T.gk rfl rfl)) (cU)) (aF (bB (i:=2) m7.nd rfl (aQ rfl) (gp fJ vN yB mt_index (pv 1) (aj (bV T.iBAR) au))) (aF (bB (i:=3) m7.nd rfl (aQ rfl) (pe_slice sl_list (pv 1) po_none (po_some (pv 2)))) (aF (dX (bp GK hr rfl T.qv.mg T.qv.fn.kp T.qv.bd .nil bC (aj (pv 3) (au)))) (aF (bB (i:=4) m7.nd rfl (aQ rfl) (pe_slice sl_list (pv 1) (po_some (c5 gN (pv 2) cj)) po_none)) (aF (bB (i:=5) m7.nd rfl (aQ rfl) (bp GW hr rfl T.lh.mg T.lh.fn.kp T.lh.bd .nil bC (aj (pv 4) (aj (pv 3) (aj (bV T.iNO_ORDER) (au)))))) (aF (cF (bP hZ (dr eB (by rfl) T.dh dG (aj (pv 5) au)) (bV T.iMOST_WORDS) (bU _)) (aE (fO fK T.gk rfl rfl)) (cU)) (aE (bE (pe_make T.iB.mak GG hr rfl T.iB.mg T.iB.bd .nil bC (aj (pv 3) (aj (pv 4) (aj (pv 5) au))))))))))))),?_⟩
  rw[group_eq]at R
  obtain⟨c,hc⟩:∃c,c=iW b:=⟨_,rfl⟩
  obtain⟨ls,hls⟩:∃ls,ls=c.takeWhile fun x=>x != 124:=⟨_,rfl⟩
  simp only[<-hc,<-hls]at R
  have hcl:c.length<=4096:=by rw[hc];exact cZ (n6 ..) hbl
  refine⟨_,rfl,t,b,rfl,ht,hbl,fun H1 D hD hD1 k1=>?_⟩
  have s1:aC H H1:=k1.same
  rw[<-hc]at hD1
  ·have hDs:ao K H1 D (nv c):=ao.of hD1
   refine⟨_,rfl,D,_,rfl,.inl hDs,rfl,flat_nv c,_,rfl,?_⟩
   rw[inV_nv]
   refine bF (fun h124=>?_) (fun h124=>?_)
   ·have h124:¬ 124∈c:=fun z=>by
     have q:(!decide (124∈c))=true:=h124
     rw[decide_eq_true z]at q
     cases q
    exact R.wrong (by rw[if_neg h124]) _
   ·have h124:124∈c:=fX fun z=>h124 (by
     show(!decide (124∈c))=true
     rw[decide_eq_false z];rfl)
    rw[if_pos h124]at R
    have hpl:∀(m:List Nat),124∈m->m[(m.takeWhile fun x=>x != 124).length]?=some 124/\(∀(j x:Nat),j<(m.takeWhile fun x=>x != 124).length->m[j]?=some x->x≠124)/\m.take (m.takeWhile fun x=>x != 124).length=m.takeWhile fun x=>x != 124:=by
     intro m
     induction m with
     |nil=>intro h;simp at h
     |cons x t ih=>
      intro h
      by_cases hx:x=124
      ·subst hx
       simp[kN]
      ·have ht:124∈t:=by
        rcases aZ.mp h with z|z
        ·exact absurd z.symm hx
        ·exact z
       obtain⟨i1,i2,i3⟩:=ih ht
       have e0:(x ::t).takeWhile (fun x=>x != 124)=x ::t.takeWhile (fun x=>x != 124):=by rw[kN,if_pos (by simp[hx])]
       rw[e0]
       refine⟨by simpa using i1,fun j y hj hy=>?_,by rw[cI,List.take_succ_cons,i3]⟩
       cases j with
       |zero=>simp at hy;rw[<-hy];exact hx
       |succ j=>exact i2 j y (by simpa using hj) (by simpa using hy)
    obtain⟨p1,p2,p3⟩:=hpl c h124
    rw[<-hls]at p1 p2 p3
    have hll:=(bj.mp p1).1
    refine⟨_,rfl,.inl ⟨rfl,_,hDs⟩,D,nv c,_,ls.length,V.int ((124:Nat):Int),rfl,rfl,hDs,rfl,flat_nv c,nv_at p1,rfl,fun m z hm hz=>?_,?_⟩
    ·rw[bH]at hz
     cases e:c[m]? with
     |none=>rw[e]at hz;cases hz
     |some y=>
      rw[e]at hz
      have ez:V.int (y:Int)=z:=cC hz
      subst ez
      have hy:=p2 m y hm e
      show((y:Int)==124)=false
      simp
      omega
    ·-- the letters
     refine⟨_,rfl,_,rfl,_,rfl,D,_,rfl,hDs,fun l hl=>?_⟩
     have ecut:fB (nv c) none (some ((ls.length:Nat):Int))=nv ls:=by rw[cut_j (by rw[ck];omega),nv_take,p3]
     rw[ecut]
     have s2:aC H1 (upd H1 l (.lst (nv ls))):=(ar.new hl).same
     have bZ:(upd H1 l (.lst (nv ls))) l=some (.lst (nv ls)):=ax
     generalize upd H1 l (.lst (nv ls))=H2 at s2 bZ
     refine⟨_,rfl,l,ls,rfl,ao.of bZ,R.bind.imp fun _ ek R1 H3 k3=>?_⟩
     have hgood:ls.all eJ=true/\ls.Nodup/\ls.length<=8/\ls≠[]:=by
      unfold chk at ek
      split at ek
      ·cases ek
      ·rename_i hno
       refine⟨?_,fX fun z=>hno (.inr (.inr (.inr z))),gJ fun z=>hno (.inr (.inl z)),fun z=>hno (.inl z)⟩
       cases e:ls.all eJ with
       |true=>rfl
       |false=>exact absurd (.inr (.inr (.inl e))) hno
     have s3:aC H2 H3:=k3.same
     refine⟨_,rfl,_,rfl,_,_,rfl,rfl,_,rfl,D,_,rfl,ao.of (s3 _ _ (s2 _ _ hD1)),fun r hr0=>?_⟩
     have ecut2:fB (nv c) (some ((ls.length:Int)+1)) none=nv (c.drop (ls.length+1)):=by
      have z:=cut_i (xs:=nv c) (i:=ls.length+1) (by rw[ck];omega)
      rw[show((ls.length:Int)+1)=((ls.length+1:Nat):Int) by omega,z,nv_drop]
     rw[ecut2]
     have s4:aC H3 (upd H3 r (.lst (nv (c.drop (ls.length+1))))):=(ar.new hr0).same
     have hr2:(upd H3 r (.lst (nv (c.drop (ls.length+1))))) r=some (.lst (nv (c.drop (ls.length+1)))):=ax
     generalize upd H3 r (.lst (nv (c.drop (ls.length+1))))=H4 at s4 hr2
     refine⟨_,rfl,_,rfl,r,l,c.drop (ls.length+1),ls,0,rfl,by decide,ao.of hr2,ao.of (s4 _ _ (s3 _ _ bZ)),hgood.1,hgood.2.1,by omega,by rw[kI];omega,R1.bind.imp fun ws ew R2 H5 e5 as he5 hws k5=>?_⟩
     have s5:aC H4 H5:=k5.same
     refine⟨_,rfl,e5,_,rfl,.inl (ao.of he5),_,_,rfl,rfl,_,rfl,?_⟩
     have elen:((as.map V.ref).length:Int)=ws.length:=by rw[aP,hws.len]
     refine bF (fun h32=>?_) (fun h32=>?_)
     ·have h32:32<ws.length:=by
       have z:=of_decide_eq_true h32
       rw[elen]at z
       omega
      exact R2.wrong (by rw[if_pos h32]) _
     ·have h32:¬ 32<ws.length:=fun z=>h32 (decide_eq_true (by rw[elen];omega))
      rw[if_neg h32]at R2
      refine⟨_,rfl,_,rfl,_,rfl,fun p dx np nd ne=>?_⟩
      refine⟨p,dx,l,r,e5,rfl,ax,fun H6 hp6 k6=>⟨rfl,?_⟩⟩
      have s6:aC H5 H6:=aC.made np nd fun b o q n=>k6 b o q (by simpa using n)
      refine R2 H6 p (c.drop (ls.length+1)) ⟨dx,l,r,e5,as,hp6,(s6 _ _ (s5 _ _ (s4 _ _ (s3 _ _ bZ)))),s6 _ _ (s5 _ _ hr2),s6 _ _ he5,hws.keep (xs:=[]) (fun b o e _=>s6 b o e) (by simp)⟩ ⟨hgood.1,hgood.2.1,hgood.2.2.2,hgood.2.2.1,by rw[kI];omega,ew,by show ws.length<=32;omega⟩ fun b o e _=>s6 _ _ (s5 _ _ (s4 _ _ (s3 _ _ (s2 _ _ (s1 _ _ e)))))
end
def ResQ{α:Type}(W:aa)(q:Option aa)(T:aa)(E:XK)(r:gc α)(k:α->Prop):Prop:=match r with
 |.ok a=>k a
 |.error .wrong=>∀H,E (.ref W) q H
 |.error .full=>∀H,E (.ref T) none H
theorem ao.bz{K:ay}{H:Hp}{t P0:aa}{xs:List V}{ps:Array af}{o:HO}(h:ao K H t xs)(hP:H P0=some (.bz ps)):ao K (upd H P0 o) t xs:=by
 rcases h with(h|⟨u,h⟩)|h
 ·exact .inl (.inl (by rw[ak (dN h hP (by intro z;cases z))];exact h))
 ·exact .inl (.inr ⟨u,by rw[ak (dN h hP (by intro z;cases z))];exact h⟩)
 ·exact .inr h
section
variable{P:aU}{w:aM}{K:ay}{mg:ag->Option af}{base:aA}{a:AD}
def qJ(a:AD):Sp:=fun vs H Q E=>∃n lo hi:Int,vs=[.int n,.int lo,.int hi]/\(lo<=n->n<=hi->Q .bo H)/\(¬(lo<=n/\n<=hi)->E (.ref a.d7) none H)
theorem scCheckRange:bQ ["number","least","most"] ["number","least","most"] (aK mV):=⟨rfl,rfl,rfl,by decide +kernel,rfl,by decide +kernel,by decide +kernel⟩
theorem t8(T:Tx K mg a):aD P w K mg base (aB P w) 1 a.iF a.o5 ["number","least","most"] (qJ a):=by
 refine cn T.gC.fn scCheckRange (fun vs H Q E h=>?_) (fun aY A outer s H vs Q E hr h=>?_)
 ·obtain⟨n,lo,hi,rfl,_⟩:=h
  rfl
 ·obtain⟨n,lo,hi,rfl,k1,k2⟩:=h
  refine⟨_,aE (cF (PW.pt (pw_or (bP iC (pv 0) (pv 1) (bU _)) (pw_or1 (bP hZ (pv 0) (pv 2) (bU _))))) (aE (fO fK T.wD rfl rfl)) cU),?_⟩
  refine⟨_,rfl,_,rfl,_,_,rfl,rfl,_,rfl,?_⟩
  refine bF (fun h1=>?_) (fun h1=>?_)
  ·have h1:=of_decide_eq_true h1
   exact k2 (fun z=>by omega)
  ·have h1:¬n<lo:=fun z=>h1 (decide_eq_true z)
   refine⟨_,rfl,_,rfl,_,_,rfl,rfl,_,rfl,?_⟩
   refine bF (fun h2=>?_) (fun h2=>?_)
   ·have h2:=of_decide_eq_true h2
    exact k2 (fun z=>by omega)
   ·have h2:¬n > hi:=fun z=>h2 (decide_eq_true z)
    exact k1 (by omega) (by omega)
def spCheckLength(K:ay):Sp:=fun vs H Q _=>∃(t:aa) (xs:List V),vs=[.ref t]/\ao K H t xs/\xs.length<=4096/\Q .bo H
theorem scCheckLength:bQ ["signs"] ["signs"] (aK mK):=⟨rfl,rfl,rfl,by decide +kernel,rfl,by decide +kernel,by decide +kernel⟩
theorem okCheckLength(T:Tx K mg a):aD P w K mg base (aB P w) 2 a.jP a.tX ["signs"] (spCheckLength K):=by
 have GR:aD P w K mg base (aB P w) 1 a.iF a.o5 ["number","least","most"] (qJ a):=t8 T
 refine cn T.qG.fn scCheckLength (fun vs H Q E h=>?_) (fun aY A outer s H vs Q E hr h=>?_)
 ·obtain⟨t,xs,rfl,_⟩:=h
  rfl
 ·obtain⟨t,xs,rfl,ht,hl,k⟩:=h
  refine⟨_,aE (dX (bp GR hr rfl T.gC.mg T.gC.fn.kp T.gC.bd .nil bC (aj (dr eB (by rfl) T.dh dG (aj (pv 0) au)) (aj (cj) (aj (bV T.iLONGEST) (au)))))),?_⟩
  exact⟨_,rfl,t,_,rfl,.inl ht,_,0,4096,rfl,fun _ _=>k,fun z=>absurd ⟨by omega,by omega⟩ z⟩
def spGroupOf(K:ay)(a:AD):Sp:=fun vs H Q E=>∃(t:aa) (b:List Nat),vs=[.ref t]/\ao K H t (nv b)/\b.length<=4096 /\
 ResQ a.eF (some 0) a.cE E (gd b) fun g=>∀(H':Hp) (p:aa) (sg:List Nat),jq a H' p g sg->iQ g sg->ar [] H H'->Q (.ref p) H'
theorem scGroupOf:bQ ["text"] ["text"] (aK nG):=⟨rfl,rfl,rfl,by decide +kernel,rfl,by decide +kernel,by decide +kernel⟩
theorem okGroupOf(T:Tx K mg a):aD P w K mg base (aB P w) 7 a.ke a.dGroupOf ["text"] (spGroupOf K a):=by
 have GR:aD P w K mg base (aB P w) 6 a.j4 a.dReadText ["text"] (spReadText K a):=okReadText T
 refine cn T.gGroupOf.fn scGroupOf (fun vs H Q E h=>?_) (fun aY A outer s H vs Q E hr h=>?_)
 ·obtain⟨t,b,rfl,_⟩:=h
  rfl
 ·obtain⟨t,b,rfl,ht,hb,R⟩:=h
  refine⟨_,aE (ps_tryR ⟨rfl,rfl,rfl⟩ fK rfl T.gk.mgx (by decide) T.xWrongText rfl (by decide) (fun pins xe E hp=>aE (bE (bp GR hr rfl T.gReadText.mg T.gReadText.fn.kp T.gReadText.bd .nil hp (aj (pv 0) au))))),?_⟩
  refine⟨_,rfl,t,b,rfl,ht,hb,?_⟩
  cases e:gd b with
  |ok g=>
   rw[e]at R
   exact R
  |error f=>
   rw[e]at R
   cases f with
   |wrong=>exact fun H'=>⟨_,rfl,.inl ⟨T.m_Wrong_Wrong,rfl,R H'⟩⟩
   |full=>exact fun H'=>⟨_,rfl,.inr ⟨T.m_TooLong_Wrong,R H'⟩⟩
def CodeOf(a:AD)(c:af)(code:Int):Prop:=(c=.ref a.eX/\code = -1)\/(c=.ref a.d7/\code = -2)\/(c=.ref a.eF/\code = -3)\/(c=.ref a.eY/\code = -4)\/(c=.ref a.e6/\code = -5)\/(c=.ref a.cE/\code = -6)
def Refused(a:AD)(Q:VK):XK:=fun c _ H=>∃code,CodeOf a c code/\∀l,H l=none->Q (.ref l) (upd H l (.lst [.int code]))
theorem scAnswerOrRefusal:bQ ["find_answer"] ["find_answer"] (aK mi):=⟨rfl,rfl,rfl,by decide +kernel,rfl,by decide +kernel,by decide +kernel⟩
theorem okAnswer(T:Tx K mg a){f:aa}{fd:bh}{o:az}{k:Nat}{sp:Sp}(F:aD P w K mg base (aB P w) k f fd [] sp)(ho:base.get? f=some o)(hd:o.data=.func fd)(hb:∀s:ah,nL s fd ⟨[],[]⟩ []) :aD P w K mg base (aB P w) (k+1) a.la a.wC ["find_answer"] (fun vs H Q _=>vs=[.ref f]/\∀E:XK,(∀c q H',Refused a Q c q H'->E c q H')->sp [] H Q E):=by
 refine cn T.qg.fn scAnswerOrRefusal (fun vs H Q E h=>?_) (fun aY A outer s H vs Q E hr h=>?_)
 ·obtain⟨rfl,_⟩:=h
  rfl
 ·obtain⟨rfl,h⟩:=h
  refine⟨_,aE (ps_tryN ⟨rfl,rfl,rfl⟩ (.cons ⟨⟨_,_,_,_,_,rfl,rfl,T.xLongerThanMost.mgx,by decide,fun _=>aE (bE (dI (aj (bV T.iMOST_REFUSED) au)))⟩⟩ (.cons ⟨⟨_,_,_,_,_,rfl,rfl,T.wD.mgx,by decide,fun _=>aE (bE (dI (aj (bV T.iARGUMENTS_REFUSED) au)))⟩⟩ (.cons ⟨⟨_,_,_,_,_,rfl,rfl,T.xWrongText.mgx,by decide,fun _=>aE (bE (dI (aj (bV T.iTEXT_REFUSED) au)))⟩⟩ (.cons ⟨⟨_,_,_,_,_,rfl,rfl,T.xWrongWord.mgx,by decide,fun _=>aE (bE (dI (aj (bV T.iWORD_REFUSED) au)))⟩⟩ (.cons ⟨⟨_,_,_,_,_,rfl,rfl,T.xNoSuch.mgx,by decide,fun _=>aE (bE (dI (aj (bV T.iNO_SUCH_REFUSED) au)))⟩⟩ (.cons ⟨⟨_,_,_,_,_,rfl,rfl,T.xTooLong.mgx,by decide,fun _=>aE (bE (dI (aj (bV T.iTOO_LONG_REFUSED) au)))⟩⟩ (.nil))))))) (fun pins xe E hp=>aE (bE (pe_callV (i:=0) F hr rfl (aQ rfl) ho hd hb hp)))),?_⟩
  refine⟨rfl,h _ fun c q H' hc=>?_⟩
  obtain⟨code,hc,k⟩:=hc
  rcases hc with⟨rfl,rfl⟩|⟨rfl,rfl⟩|⟨rfl,rfl⟩|⟨rfl,rfl⟩|⟨rfl,rfl⟩|⟨rfl,rfl⟩
  ·exact⟨_,rfl,.inl ⟨T.zr,fun _=>⟨(by show 1<=sizeLine;decide),k⟩⟩⟩
  ·exact⟨_,rfl,.inr ⟨T.zt,.inl ⟨T.zu,fun _=>⟨(by show 1<=sizeLine;decide),k⟩⟩⟩⟩
  ·exact⟨_,rfl,.inr ⟨T.zv,.inr ⟨T.zw,.inl ⟨T.zD,fun _=>⟨(by show 1<=sizeLine;decide),k⟩⟩⟩⟩⟩
  ·exact⟨_,rfl,.inr ⟨T.zx,.inr ⟨T.zy,.inr ⟨T.zE,.inl ⟨T.zF,fun _=>⟨(by show 1<=sizeLine;decide),k⟩⟩⟩⟩⟩⟩
  ·exact⟨_,rfl,.inr ⟨T.zB,.inr ⟨T.zC,.inr ⟨T.m_NoSuch_WrongText,.inr ⟨T.m_NoSuch_WrongWord,.inl ⟨T.m_NoSuch_NoSuch,fun _=>⟨(by show 1<=sizeLine;decide),k⟩⟩⟩⟩⟩⟩⟩
  ·exact⟨_,rfl,.inr ⟨T.zz,.inr ⟨T.zA,.inr ⟨T.m_TooLong_WrongText,.inr ⟨T.m_TooLong_WrongWord,.inr ⟨T.m_TooLong_NoSuch,.inl ⟨T.m_TooLong_TooLong,fun _=>⟨(by show 1<=sizeLine;decide),k⟩⟩⟩⟩⟩⟩⟩⟩
theorem okMk{x qual:ag}{st:a6}{f c0:aa}{fd:bh}{N ps:List ag}{k:Nat}{sp:Sp}(F:Fun K x qual st f fd)(hc:fd.code=.ref c0)(S:bQ N ps (aK st))(len:∀vs H Q E,sp vs H Q E->vs.length=ps.length)(hbody:∀(A:bD) (outer:List cg) (s:ah) (H:Hp) (vs:List V) (Q:VK) (E:XK),dP k (A.deeper (envOfC qual (aK st) s.heap.objs.size f (.ref c0)))->sp vs H Q E -> ∃t,PSs (cxE P w K mg base N qual st f (.ref c0) A outer s H E) (bI st) t/\t {nx:=fun _ H'=>Q .bo H',rt:=Q} (start N vs) H):aD P w K mg base (aB P w) (k+1) f fd ps sp:=by
 obtain⟨oc,od,kV,doc,pm,an,aY,ct,osl,rfl,lk,hcd⟩:=F.ex
 obtain rfl:aY=.ref c0:=hc
 exact fn_of lk hcd S len fun A outer s H vs Q E hr hsp=>hbody A outer s H vs Q E hr hsp
end
def a9(j:Nat):Int:=if j%2=0 then((j/2+1:Nat):Int)else -((j/2+1:Nat):Int)
theorem keyZ_inj{i j:Nat}(h:a9 i=a9 j):i=j:=by
 unfold a9 at h
 split at h<;>split at h<;>omega
theorem encL_key(l:kP):encL l=a9 (ixL l):=by
 unfold encL a9 ixL
 cases l.2 with
 |true=>
  simp only[if_true]
  rw[if_neg (by omega)]
  omega
 |false=>
  simp only[dH,if_false]
  rw[if_pos (by omega)]
  omega
def bf:Nat->List aa->List (Key×V)
 |_,[]=>[]
 |j,a :: as=>(a8 (a9 j),V.ref a) :: bf (j+1) as
theorem ij:∀(j:Nat) (as:List aa),(bf j as).length=as.length
 |_,[]=>rfl
 |j,a :: as=>by
  show(bf (j+1) as).length+1=as.length+1
  rw[ij]
theorem key_ne{i j:Nat}(h:i≠j):¬((a8 (a9 i):Key)=a8 (a9 j)):=fun z=>h (keyZ_inj (qd z))
theorem mkv_get:∀(as:List aa) (j i:Nat) (a:aa),as[i]?=some a->c9 (bf j as) (a8 (a9 (j+i)):Key)=some (.ref a)
 |[],_,_,_,h=>by simp at h
 |b :: as,j,0,a,h=>by
  simp at h
  subst h
  exact gU rfl
 |b :: as,j,i+1,a,h=>by
  show c9 ((a8 (a9 j),V.ref b) ::bf (j+1) as) _=_
  rw[gD (key_ne (by omega)),show j+(i+1)=j+1+i by omega]
  exact mkv_get as (j+1) i a (by simpa using h)
theorem mkv_none:∀(as:List aa) (j i:Nat),j+as.length<=i->c9 (bf j as) (a8 (a9 i):Key)=none
 |[],_,_,_=>rfl
 |b :: as,j,i,h=>by
  show c9 ((a8 (a9 j),V.ref b) ::bf (j+1) as) _=_
  simp only[cI]at h
  rw[gD (key_ne (by omega))]
  exact mkv_none as (j+1) i (by omega)
theorem mkv_snoc:∀(as:List aa) (j:Nat) (a:aa),bf j (as++[a])=bf j as++[(a8 (a9 (j+as.length)),.ref a)]
 |[],_,_=>rfl
 |b :: as,j,a=>by
  show(a8 (a9 j),V.ref b) ::bf (j+1) (as++[a])=(a8 (a9 j),V.ref b) ::(bf (j+1) as++_)
  rw[mkv_snoc as (j+1) a,cI,show j+(as.length+1)=j+1+as.length by omega]
def oz:Option Nat->Int
 |none=>-1
 |some q=>(q:Int)
abbrev ov(o:Option Nat):V:=.int (oz o)
theorem oz_none(o:Option Nat):oz o = -1↔o=none:=by
 cases o with
 |none=>simp[oz]
 |some q=>simp only[oz];constructor<;>intro z<;>first|omega|cases z
theorem oz_some(o:Option Nat)(p:Nat):oz o=(p:Int)↔o=some p:=by
 cases o with
 |none=>simp only[oz];constructor<;>intro z<;>first|omega|cases z
 |some q=>simp only[oz,vH];omega
structure eK (H:Hp) (as:List aa) (M:Rows):Prop where
 len:as.length=M.length
 at_:∀(j:Nat) (a:aa) (r:List (Option Nat)),as[j]?=some a->M[j]?=some r->H a=some (.lst (r.map ov))
structure dW (H:Hp) (d:aa) (M:Rows):Prop where
 ex:∃as:List aa,H d=some (.dK (bf 0 as))/\eK H as M
theorem eK.same{H H':Hp}{as:List aa}{M:Rows}(h:eK H as M)(s:aC H H'):eK H' as M:=⟨h.len,fun j a r e1 e2=>s _ _ (h.at_ j a r e1 e2)⟩
theorem dW.same{H H':Hp}{d:aa}{M:Rows}(h:dW H d M)(s:aC H H'):dW H' d M:=by
 obtain⟨as,h1,h2⟩:=h.ex
 exact⟨as,s _ _ h1,h2.same s⟩
theorem dW.row{H:Hp}{d:aa}{M:Rows}(h:dW H d M){j:Nat}{r:List (Option Nat)}(hj:M[j]?=some r):∃a,eT H d (.int (a9 j)) (some (.ref a))/\H a=some (.lst (r.map ov)):=by
 obtain⟨as,h1,h2⟩:=h.ex
 have hl:=(bj.mp hj).1
 rw[<-h2.len]at hl
 refine⟨as[j],?_,h2.at_ j _ r (aH hl) hj⟩
 have z:=eT.k (k:=a8 (a9 j)) h1
 have e:=mkv_get as 0 j as[j] (aH hl)
 rw[fW]at e
 rw[e]at z
 exact z
def WordAt(K:ay)(H:Hp)(q:aa)(w:b8):Prop:=ao K H q (wv w)\/cz K H q (wv w)
theorem cz.same{K:ay}{H H':Hp}{q:aa}{xs:List V}(s:aC H H')(h:cz K H q xs):cz K H' q xs:=by
 rcases h with(h|⟨u,h⟩)|h
 ·exact .inl (.inl (s _ _ h))
 ·exact .inl (.inr ⟨u,s _ _ h⟩)
 ·exact .inr h
theorem WordAt.same{K:ay}{H H':Hp}{q:aa}{w:b8}(h:WordAt K H q w)(s:aC H H'):WordAt K H' q w:=h.elim (fun z=>.inl (s.seq z)) fun z=>.inr (cz.same s z)
theorem foldl_take_succ{α β:Type}(f:β->α->β)(b:β){l:List α}{i:Nat}{x:α}(h:l[i]?=some x):(l.take (i+1)).foldl f b=f ((l.take i).foldl f b) x:=by
 rw[eW,h,n8]
 rfl
theorem ovs_at{r:List (Option Nat)}{p:Nat}(h:p<r.length):atI (r.map ov) (p:Int)=some (ov ((r[p]?).getD none)):=eV (j:=p) (by rw[bH,aH h];rfl)
theorem iteF'{p:Bool}{A B:Prop}(h:p=false)(b:B):if p=true then A else B:=by rw[h];exact b
section
variable{P:aU}{w:aM}{K:ay}{mg:ag->Option af}{base:aA}{a:AD}
def spMovedTo(K:ay):Sp:=fun vs H Q _=>∃(q d:aa) (u:b8) (M:Rows) (k m p:Nat),vs=[.ref q,.ref d,.int p]/\WordAt K H q u/\dW H d M/\cR M k m/\bA k u/\p<m/\Q (ov (eN M u p)) H
theorem scMovedTo:bQ ["word","moves","place","at","number"] ["word","moves","place"] (aK nD):=⟨rfl,rfl,rfl,by decide +kernel,rfl,by decide +kernel,by decide +kernel⟩
theorem okMovedTo (T:Tx K mg a):aD P w K mg base (aB P w) 1 a.kc a.dMovedTo ["word","moves","place"] (spMovedTo K):=by
 refine cn T.gMovedTo.fn scMovedTo (fun vs H Q E h=>?_) (fun aY A outer s H vs Q E hr h=>?_)
 ·obtain ⟨q,d,u,M,k,m,p,rfl,_⟩:=h
  rfl
 ·obtain ⟨q,d,u,M,k,m,p,rfl,hq,hd,hM,hw,hp,kk⟩:=h
  have hu:=ia hr
  refine ⟨_,aF (bB (i:=3) scMovedTo.nd rfl (aQ rfl) (pv 2))
   (aF (fo eO rfl (pi_seq (pv 0)) (cV (i:=4) scMovedTo.nd rfl (aQ rfl))
    (aF (bB (i:=3) scMovedTo.nd rfl (aQ rfl) (dO eG (pe_dget hu (pv 1) (pv 4) (fun _ _=>rfl)) (pv 3) (fun _ _=>rfl)))
    (aE (cF (bP fz (pv 3) (bV T.kg) (bU _)) (aE (bE (bV T.kg))) cU))))
   (aE (bE (pv 3)))),?_⟩
  refine ⟨_,rfl,_,rfl,q,rfl,for_seq (K:=K) (a:=q) (xs:=wv u) hq (fun i σ H'=>H'=H/\∃ (at_:Nat) (v4:Option V),σ=[some (.ref q),some (.ref d),some (.int p),some (.int at_),v4]/\at_<m/\eN M (u.take i) p=some at_)
   ⟨rfl,p,none,rfl,hp,rfl⟩ (fun i σ H' _ e=>by rw [e.1];exact ⟨fun z=>z,fun z=>z⟩) (fun i x σ H' hx hP=>?_) (fun σ H' hP=>?_)⟩
  ·obtain ⟨rfl,at_,v4,rfl,hat,hmv⟩:=hP
   obtain ⟨l,hl,rfl⟩:∃ l,u[i]?=some l/\x=V.int (encL l):=by
    rw [bH] at hx
    cases e:u[i]? with
    | none=>rw [e] at hx;cases hx
    | some l=>rw [e] at hx;exact ⟨l,rfl,(cC hx).symm⟩
   have hlk:ixL l<M.length:=by
    have:=hw l (cW hl)
    rw [hM.len]
    unfold ixL
    split<;>omega
   obtain ⟨a1,g1,g2⟩:=hd.row (aH hlk)
   rw [<-encL_key] at g1
   have hrl:at_<M[ixL l].length:=by rw [hM.row _ (cN hlk)];exact hat
   have e2:eN M (u.take (i+1)) p=getM M (ixL l) at_:=by
    unfold eN at hmv ⊢
    rw [foldl_take_succ _ _ hl,hmv]
    rfl
   have e3:((M[ixL l])[at_]?).getD none=getM M (ixL l) at_:=(fS (aH hlk) at_).symm
   have e4:=ovs_at hrl
   rw [e3] at e4
   refine ⟨_,rfl,_,rfl,d,_,rfl,g1,_,rfl,a1,_,_,_,rfl,rfl,ao.of g2,e4,?_⟩
   refine ⟨_,rfl,rfl,_,rfl,?_⟩
   cases hg:getM M (ixL l) at_ with
   | none=>
    refine iteT ?_
    have e5:eN M u p=none:=by
     rw [hg] at e2
     unfold eN at e2 ⊢
     have:u=u.take (i+1)++u.drop (i+1):=(xM _ _).symm
     rw [this,n8,e2,foldl_none]
    rw [e5] at kk
    exact kk
   | some q'=>
    refine iteF' ?_ ?_
    ·exact decide_eq_false fun z=>by
      have z2:oz (some q') = -1:=V.int.inj z
      rw [oz_none] at z2
      cases z2
    ·exact ⟨rfl,q',_,rfl,lH hM hg,by rw [e2,hg]⟩
  ·obtain ⟨rfl,at_,v4,rfl,hat,hmv⟩:=hP
   rw [fQ,gb] at hmv
   rw [hmv] at kk
   exact ⟨_,rfl,kk⟩
def j2:Sp:=fun vs H Q _=>∃(d:aa) (M:Rows) (k m:Nat),vs=[.ref d]/\dW H d M/\cR M k m/\0<k/\Q (.int m) H
theorem scPlacesOf:bQ ["moves"] ["moves"] (aK nc):=⟨rfl,rfl,rfl,by decide +kernel,rfl,by decide +kernel,by decide +kernel⟩
theorem lu(T:Tx K mg a):aD P w K mg base (aB P w) 1 a.gw a.jh ["moves"] j2:=by
 refine cn T.eP.fn scPlacesOf (fun vs H Q E h=>?_) (fun aY A outer s H vs Q E hr h=>?_)
 ·obtain⟨d,M,k,m,rfl,_⟩:=h
  rfl
 ·obtain⟨d,M,k,m,rfl,hd,hM,hk,kk⟩:=h
  have hu:=ia hr
  refine⟨_,aE (bE (dr eB (by rfl) T.dh dG (aj (pe_dget hu (pv 0) cj (fun _ _=>rfl)) au))),?_⟩
  have h0:0<M.length:=by rw[hM.len];omega
  obtain⟨a1,g1,g2⟩:=hd.row (aH h0)
  refine⟨_,rfl,d,_,rfl,g1,a1,_,rfl,.inl (ao.of g2),?_⟩
  rw[aP,hM.row _ (cN h0)]
  exact kk
structure WordsS (K:ay) (H:Hp) (as:List aa) (ws:List b8):Prop where
 len:as.length=ws.length
 at_:∀(j:Nat) (a:aa) (w:b8),as[j]?=some a->ws[j]?=some w->WordAt K H a w
theorem WordsS.same{K:ay}{H H':Hp}{as:List aa}{ws:List b8}(h:WordsS K H as ws)(s:aC H H'):WordsS K H' as ws:=⟨h.len,fun j a w e1 e2=>(h.at_ j a w e1 e2).same s⟩
theorem fC.s{K:ay}{H:Hp}{as:List aa}{ws:List b8}(h:fC H as ws):WordsS K H as ws:=⟨h.len,fun j a w e1 e2=>.inl (ao.of (h.at_ j a w e1 e2))⟩
def stays(M:Rows)(u:b8)(p:Nat):Bool:=decide (eN M u p=none)||decide (eN M u p=some p)
theorem npm_eq(M:Rows)(m:Nat)(ws:List b8):npm M m ws=ws.all fun u=>(aT m).all fun p=>stays M u p:=rfl
def spNoPlaceMoved(K:ay):Sp:=fun vs H Q _=>∃(q d:aa) (as:List aa) (ws:List b8) (M:Rows) (k m:Nat),vs=[.ref q,.ref d]/\ao K H q (as.map V.ref)/\WordsS K H as ws/\dW H d M/\cR M k m/\0<k/\m<=1000/\(∀u∈ws,bA k u)/\Q (.bl (npm M m ws)) H
theorem qp:bQ ["words","moves","word","place","target"] ["words","moves"] (aK mC):=⟨rfl,rfl,rfl,by decide +kernel,rfl,by decide +kernel,by decide +kernel⟩
theorem okNoPlaceMoved (T:Tx K mg a):aD P w K mg base (aB P w) 2 a.jL a.tI ["words","moves"] (spNoPlaceMoved K):=by
 have GP:aD P w K mg base (aB P w) 1 a.gw a.jh ["moves"] j2:=lu T
 have GM:aD P w K mg base (aB P w) 1 a.kc a.dMovedTo ["word","moves","place"] (spMovedTo K):=okMovedTo T
 refine cn T.qz.fn qp (fun vs H Q E h=>?_) (fun aY A outer s H vs Q E hr h=>?_)
 ·obtain ⟨q,d,as,ws,M,k,m,rfl,_⟩:=h
  rfl
 ·obtain ⟨q,d,as,ws,M,k,m,rfl,hq,hws,hd,hM,hk,hm,hwk,kk⟩:=h
  refine ⟨_,aF (fo eO rfl (ie (pv 0)) (cV (i:=2) qp.nd rfl (aQ rfl))
    (aE (fo eO rfl (ph rfl T.gW (aj (bp GP hr rfl T.eP.mg T.eP.fn.kp T.eP.bd .nil bC (aj (pv 1) (au))) au)) (cV (i:=3) qp.nd rfl (aQ rfl))
     (aF (bB (i:=4) qp.nd rfl (aQ rfl) (bp GM hr rfl T.gMovedTo.mg T.gMovedTo.fn.kp T.gMovedTo.bd .nil bC (aj (pv 2) (aj (pv 1) (aj (pv 3) (au))))))
     (aE (cF (PW.pt (pw_and (bP op_ne (pv 4) (pv 3) (bU _)) (pw_and1 (bP op_ne (pv 4) (bV T.kg) (bU _))))) (aE (bE pe_bl)) cU))))))
   (aE (bE pe_bl)),?_⟩
  refine ⟨_,rfl,q,rfl,⟨_,hq⟩,lB (K:=K) (a:=q) (xs:=as.map V.ref) (fun i σ H'=>H'=H/\∃ v2 v3 v4:Option V,σ=[some (.ref q),some (.ref d),v2,v3,v4]/\npm M m (ws.take i)=true)
   ⟨rfl,none,none,none,rfl,rfl⟩ (fun i σ H' _ e=>by rw [e.1];exact hq) (fun i x σ H' hx hP=>?_) (fun σ H' hP=>?_)⟩
  ·obtain ⟨rfl,v2,v3,v4,rfl,hn⟩:=hP
   obtain ⟨c,hc,rfl⟩:∃ c:aa,as[i]?=some c/\x=V.ref c:=by
    rw [bH] at hx
    cases e:as[i]? with
    | none=>rw [e] at hx;cases hx
    | some c=>rw [e] at hx;exact ⟨c,rfl,(cC hx).symm⟩
   have b7:=(bj.mp hc).1
   rw [hws.len] at b7
   obtain ⟨u,hu⟩:∃ u,ws[i]?=some u:=⟨_,aH b7⟩
   have hcu:=hws.at_ i c u hc hu
   have hum:=cW hu
   refine ⟨_,rfl,d,M,k,m,rfl,hd,hM,hk,(m:Int),rfl,by omega,by omega,?_⟩
   rw [gi]
   refine m8 (lo:=0) (n:=m) (fun j σ H2=>H2=H'/\∃ v3 v4:Option V,σ=[some (.ref q),some (.ref d),some (.ref c),v3,v4]/\(aT j).all (stays M u)=true)
    ⟨rfl,_,_,rfl,rfl⟩ (fun j σ H2 hj hP=>?_) (fun σ H2 hP=>?_)
   ·obtain ⟨rfl,w3,w4,rfl,hal⟩:=hP
    refine ⟨_,rfl,_,rfl,_,rfl,c,d,u,M,k,m,j,by rw [oE];rfl,hcu,hd,hM,hwk u hum,hj,?_⟩
    refine ⟨_,rfl,_,rfl,rfl,_,rfl,?_⟩
    have fin:stays M u j=true->_:=fun hst=>(⟨rfl,some (V.int (0+(j:Int))),some (ov (eN M u j)),rfl,by
     rw [f9,vt,hal];simp [hst]⟩:H2=H2/\∃ v3 v4:Option V,[some (V.ref q),some (V.ref d),some (V.ref c),some (V.int (0+(j:Int))),some (ov (eN M u j))]=[some (V.ref q),some (V.ref d),some (V.ref c),v3,v4]/\(aT (j+1)).all (stays M u)=true)
    refine bF (fun h1=>?_) (fun h1=>?_)
    ·have h1:eN M u j≠some j:=fun z=>by
      have q1:(!decide (ov (eN M u j)=V.int (0+(j:Int))))=true:=h1
      rw [z,decide_eq_true (by show V.int (j:Int)=V.int (0+(j:Int));rw [oE])] at q1
      cases q1
     refine ⟨_,rfl,rfl,_,rfl,?_⟩
     refine bF (fun h2=>?_) (fun h2=>?_)
     ·have h2:eN M u j≠none:=fun z=>by
       have q1:(!decide (ov (eN M u j)=V.int (-1)))=true:=h2
       rw [z,decide_eq_true (show ov none=V.int (-1) from rfl)] at q1
       cases q1
      have ef:npm M m ws=false:=by
       rw [npm_eq,Bool.eq_false_iff]
       intro z
       have z1:=cB.mp (cB.mp z u hum) j (bt.mpr hj)
       unfold stays at z1
       simp [h1,h2] at z1
      rw [ef] at kk
      exact kk
     ·have h2:eN M u j=none:=by
       refine fX fun z=>h2 ?_
       show (!decide (ov (eN M u j)=V.int (-1)))=true
       rw [decide_eq_false fun y=>z ((oz_none _).mp (V.int.inj y))]
       rfl
      exact fin (by unfold stays;simp [h2])
    ·have h1:eN M u j=some j:=by
      refine fX fun z=>h1 ?_
      show (!decide (ov (eN M u j)=V.int (0+(j:Int))))=true
      rw [decide_eq_false fun y=>z ((oz_some _ _).mp (by have:=V.int.inj y;omega))]
      rfl
     exact fin (by unfold stays;simp [h1])
   ·obtain ⟨rfl,w3,w4,rfl,hal⟩:=hP
    refine ⟨rfl,_,_,_,rfl,?_⟩
    rw [npm_eq] at hn ⊢
    rw [eW,hu,vt,hn]
    simp only [vY,nS,xT,vK,yk]
    exact hal
  ·obtain ⟨rfl,v2,v3,v4,rfl,hn⟩:=hP
   rw [aP,hws.len,gb] at hn
   rw [hn] at kk
   exact kk
def mostZ(k:Nat):Int:=([8,7,5,4,3,3,3,3]:List Int).getD (k-1) 0
theorem mostZ_eq{k:Nat}(h0:0<k)(h8:k<=8):mostZ k=l4 k:=by
 have:k=1\/k=2\/k=3\/k=4\/k=5\/k=6\/k=7\/k=8:=by omega
 rcases this with rfl|rfl|rfl|rfl|rfl|rfl|rfl|rfl<;>rfl
theorem iQ.pos{g:jy}{sg:List Nat}(h:iQ g sg):0<g.letters.length:=ve.mpr h.ne
theorem iQ.wok{g:jy}{sg:List Nat}(h:iQ g sg):∀u∈g.nothing,bA g.letters.length u:=by
 have r:=h.rd
 unfold rw_ at r
 split at r
 ·injection r with r
  rw[<-r]
  intro u hu
  simp at hu
 ·exact go_wok r
def spMostPlaces(a:AD):Sp:=fun vs H Q _=>∃(p:aa) (g:jy) (sg:List Nat),vs=[.ref p]/\jq a H p g sg/\iQ g sg/\Q (.int (l4 g.letters.length)) H
theorem scMostPlaces:bQ ["group"] ["group"] (aK mS):=⟨rfl,rfl,rfl,by decide +kernel,rfl,by decide +kernel,by decide +kernel⟩
theorem okMostPlaces(T:Tx K mg a):aD P w K mg base (aB P w) 1 a.jU a.ui ["group"] (spMostPlaces a):=by
 refine cn T.qO.fn scMostPlaces (fun vs H Q E h=>?_) (fun aY A outer s H vs Q E hr h=>?_)
 ·obtain⟨p,g,sg,rfl,_⟩:=h
  rfl
 ·obtain⟨p,g,sg,rfl,GA,GO,k⟩:=h
  obtain⟨dx,l,q,w,as,hp,hl,hq,hw,hws⟩:=GA.ex
  refine⟨_,aE (bE (dO ix_tup (pe_glob rfl T.ll.mg (v:=.ref a.tY) rfl) (c5 op_sub (dr eB (by rfl) T.dh dG (aj (fY (pv 0) rfl) au)) cj) (fun _ _=>rfl))),?_⟩
  refine⟨_,rfl,p,a.dJ,dx,_,_,rfl,hp,T.iB.cl,T.qk,gf_l,l,_,rfl,.inl (ao.of hl),_,_,rfl,rfl,a.tY,_,_,_,rfl,rfl,T.ll.sq H,?_,k⟩
  have h0:=GO.pos
  have h8:=GO.le
  rw[ck,show((g.letters.length:Int)-1)=((g.letters.length-1:Nat):Int) by omega]
  refine eV ?_
  rw[<-mostZ_eq h0 h8]
  generalize g.letters.length=n at h0 h8
  have:n=1\/n=2\/n=3\/n=4\/n=5\/n=6\/n=7\/n=8:=by omega
  rcases this with rfl|rfl|rfl|rfl|rfl|rfl|rfl|rfl<;>rfl
def wA(K:ay)(a:AD):Sp:=fun vs H Q E=>∃(n:Int) (t:aa) (b:List Nat),vs=[.int n,.ref t]/\ao K H t (nv b)/\b.length<=4096 /\
 (¬(1<=n/\n<=8)->∀H',E (.ref a.d7) none H') /\
 (1<=n->n<=8->ResQ a.eF (some 0) a.cE E (gd b) fun g=>(l4 g.letters.length<n->∀H',E (.ref a.d7) none H') /\
  (n<=l4 g.letters.length->∀(H':Hp) (p:aa) (sg:List Nat),jq a H' p g sg->iQ g sg->ar [] H H'->Q (.ref p) H'))
theorem wB:bQ ["n","text","group"] ["n","text"] (aK mj):=⟨rfl,rfl,rfl,by decide +kernel,rfl,by decide +kernel,by decide +kernel⟩
theorem okGroupWithPlaces(T:Tx K mg a):aD P w K mg base (aB P w) 8 a.jD a.sN ["n","text"] (wA K a):=by
 have GL:aD P w K mg base (aB P w) 7 a.jP a.tX ["signs"] (spCheckLength K):=(okCheckLength T).mono (by decide)
 have GR:aD P w K mg base (aB P w) 7 a.iF a.o5 ["number","least","most"] (qJ a):=(t8 T).mono (by decide)
 have GG:aD P w K mg base (aB P w) 7 a.ke a.dGroupOf ["text"] (spGroupOf K a):=okGroupOf T
 have GP:aD P w K mg base (aB P w) 7 a.jU a.ui ["group"] (spMostPlaces a):=(okMostPlaces T).mono (by decide)
 refine cn T.qh.fn wB (fun vs H Q E h=>?_) (fun aY A outer s H vs Q E hr h=>?_)
 ·obtain⟨n,t,b,rfl,_⟩:=h
  rfl
 ·obtain⟨n,t,b,rfl,ht,hb,k1,k2⟩:=h
  refine⟨_,aF (dX (bp GL hr rfl T.qG.mg T.qG.fn.kp T.qG.bd .nil bC (aj (pv 1) (au)))) (aF (dX (bp GR hr rfl T.gC.mg T.gC.fn.kp T.gC.bd .nil bC (aj (pv 0) (aj (cj) (aj (bV T.iMOST_PLACES_AT_ALL) (au)))))) (aF (bB (i:=2) wB.nd rfl (aQ rfl) (bp GG hr rfl T.gGroupOf.mg T.gGroupOf.fn.kp T.gGroupOf.bd .nil bC (aj (pv 1) (au)))) (aF (dX (bp GR hr rfl T.gC.mg T.gC.fn.kp T.gC.bd .nil bC (aj (pv 0) (aj (cj) (aj (bp GP hr rfl T.qO.mg T.qO.fn.kp T.qO.bd .nil bC (aj (pv 2) (au))) (au)))))) (aE (bE (pv 2)))))),?_⟩
  refine⟨_,rfl,t,_,rfl,ht,by rw[ck];exact hb,?_⟩
  refine⟨_,rfl,n,1,8,rfl,fun h1 h2=>?_,fun z=>k1 z _⟩
  have R:=k2 h1 h2
  refine⟨_,rfl,t,b,rfl,ht,hb,?_⟩
  cases e:gd b with
  |error f=>
   rw[e]at R
   cases f<;>exact R
  |ok g=>
   rw[e]at R
   intro H1 p sg GA GO k3
   refine⟨_,rfl,_,rfl,p,g,sg,rfl,GA,GO,?_⟩
   refine⟨n,1,_,rfl,fun _ h4=>⟨_,rfl,R.2 h4 H1 p sg GA GO k3⟩,fun z=>R.1 (by omega) _⟩
end
theorem bootList':bootBuiltins "list" = some (.type "list"):=by decide +kernel
theorem mkv_at:∀(as:List aa) (j i:Nat),(bf j as)[i]?=(as[i]?).map fun a=>((a8 (a9 (j+i)):Key),V.ref a)
 |[],_,_=>by simp[bf]
 |b :: as,j,0=>rfl
 |b :: as,j,i+1=>by
  show(bf (j+1) as)[i]?=(as[i]?).map _
  rw[mkv_at as (j+1) i,show j+1+i=j+(i+1) by omega]
theorem keyZ_bar(j:Nat):a9 (bar j) = -a9 j:=by
 unfold a9 bar
 by_cases h:j%2=0
 ·rw[if_pos h,if_pos h,if_neg (by omega)]
  have:(j+1)/2=j/2:=by omega
  rw[this]
 ·rw[if_neg h,if_neg h,if_pos (by omega)]
  have:(j-1)/2=j/2:=by omega
  rw[this]
  omega
structure MvNw (H H':Hp) (d:aa) (M:Rows):Prop where
 ex:∃as:List aa,H' d=some (.dK (bf 0 as))/\eK H' as M/\H d=none/\∀b∈as,H b=none
theorem MvNw.at_{H H':Hp}{d:aa}{M:Rows}(h:MvNw H H' d M):dW H' d M:=by
 obtain⟨as,h1,h2,_⟩:=h.ex
 exact⟨as,h1,h2⟩
def off(ws:List aa)(H:Hp):Hp:=fun b=>if b∈ws then none else H b
theorem off_in{ws:List aa}{H:Hp}{b:aa}(h:b∈ws):off ws H b=none:=by unfold off;rw[if_pos h]
theorem kr{ws:List aa}{H:Hp}{b:aa}(h:b∉ws):off ws H b=H b:=by unfold off;rw[if_neg h]
theorem off_same{ws:List aa}{H:Hp}:aC (off ws H) H:=fun b o e=>by
 by_cases h:b∈ws
 ·rw[off_in h]at e;cases e
 ·rwa[kr h]at e
theorem off_keep{ws:List aa}{H H':Hp}(k:ar ws H H'):aC (off ws H) (off ws H'):=fun b o e=>by
 by_cases h:b∈ws
 ·rw[off_in h]at e;cases e
 ·rw[kr h]at e ⊢
  exact k b o e h
theorem eK.mem{H:Hp}{as:List aa}{M:Rows}(h:eK H as M){b:aa}(hb:b∈as):∃r,H b=some (.lst r):=by
 obtain⟨j,hj⟩:=fm hb
 have hl:=(bj.mp hj).1
 rw[h.len]at hl
 exact⟨_,h.at_ j b _ hj (aH hl)⟩
theorem MvNw.off{ws:List aa}{H H':Hp}{d:aa}{M:Rows}(h:MvNw H H' d M)(hw:∀b∈ws,H b≠none):dW (off ws H') d M:=by
 obtain⟨as,h1,h2,h3,h4⟩:=h.ex
 have hd:d∉ws:=fun z=>hw d z h3
 refine⟨as,by rw[kr hd];exact h1,h2.len,fun j b r e1 e2=>?_⟩
 have hb:b∉ws:=fun z=>hw b z (h4 b (cW e1))
 rw[kr hb]
 exact h2.at_ j b r e1 e2
theorem MvNw.mono{H0 H H' H2:Hp}{d:aa}{M:Rows}(h:MvNw H H' d M)(s:aC H0 H)(s2:aC H' H2):MvNw H0 H2 d M:=by
 obtain⟨as,h1,h2,h3,h4⟩:=h.ex
 have nn:∀b,H b=none->H0 b=none:=fun b e=>by
  cases z:H0 b with
  |none=>rfl
  |some o=>rw[s b o z]at e;cases e
 exact⟨as,s2 _ _ h1,h2.same s2,nn d h3,fun b hb=>nn b (h4 b hb)⟩
structure f6 (H H':Hp) (ds:List aa) (Ms:List Rows):Prop where
 len:ds.length=Ms.length
 at_:∀(i:Nat) (d:aa) (M:Rows),ds[i]?=some d->Ms[i]?=some M->MvNw H H' d M
structure dy (H:Hp) (ds:List aa) (Ms:List Rows):Prop where
 len:ds.length=Ms.length
 at_:∀(i:Nat) (d:aa) (M:Rows),ds[i]?=some d->Ms[i]?=some M->dW H d M
theorem dy.same{H H':Hp}{ds:List aa}{Ms:List Rows}(h:dy H ds Ms)(s:aC H H'):dy H' ds Ms:=⟨h.len,fun i d M e1 e2=>(h.at_ i d M e1 e2).same s⟩
theorem dy.app{H:Hp}{ds es:List aa}{Ms Ns:List Rows}(h:dy H ds Ms)(g:dy H es Ns):dy H (ds++es) (Ms++Ns):=by
 refine⟨by rw[cx,cx,h.len,g.len],fun i d M e1 e2=>?_⟩
 by_cases hi:i<ds.length
 ·rw[dQ hi]at e1
  rw[dQ (by rw[<-h.len];exact hi)]at e2
  exact h.at_ i d M e1 e2
 ·rw[e9 (by omega)]at e1
  rw[e9 (by rw[<-h.len];omega),<-h.len]at e2
  exact g.at_ _ d M e1 e2
theorem dy.one{H:Hp}{d:aa}{M:Rows}(h:dW H d M):dy H [d] [M]:=⟨rfl,fun i e N e1 e2=>by
 cases i with
 |zero=>cases e1;cases e2;exact h
 |succ i=>simp at e1⟩
theorem dy.nil{H:Hp}:dy H [] []:=⟨rfl,fun i e N e1 e2=>by simp at e1⟩
theorem f6.nil{H H':Hp}:f6 H H' [] []:=⟨rfl,fun i e N e1 e2=>by simp at e1⟩
theorem f6.snoc{H H':Hp}{ds:List aa}{Ms:List Rows}{e:aa}{N:Rows}(h:f6 H H' ds Ms)(g:MvNw H H' e N):f6 H H' (ds++[e]) (Ms++[N]):=by
 refine⟨by simp[h.len],fun i d M e1 e2=>?_⟩
 by_cases hi:i<ds.length
 ·rw[dQ hi]at e1
  rw[dQ (by rw[<-h.len];exact hi)]at e2
  exact h.at_ i d M e1 e2
 ·rw[e9 (by omega)]at e1
  rw[e9 (by rw[<-h.len];omega),<-h.len]at e2
  cases hq:i-ds.length with
  |zero=>rw[hq]at e1 e2;cases e1;cases e2;exact g
  |succ n=>rw[hq]at e1;simp at e1
theorem f6.off{ws:List aa}{H H':Hp}{ds:List aa}{Ms:List Rows}(h:f6 H H' ds Ms)(hw:∀b∈ws,H b≠none):dy (off ws H') ds Ms:=⟨h.len,fun i d M e1 e2=>(h.at_ i d M e1 e2).off hw⟩
theorem f6.mono{H0 H H' H2:Hp}{ds:List aa}{Ms:List Rows}(h:f6 H H' ds Ms)(s:aC H0 H)(s2:aC H' H2):f6 H0 H2 ds Ms:=⟨h.len,fun i d M e1 e2=>(h.at_ i d M e1 e2).mono s s2⟩
theorem f6.keep{H H' H2:Hp}{ds:List aa}{Ms:List Rows}{w:aa}{o:HO}(h:f6 H H' ds Ms)(hw:H w=some o)(k:ar [w] H' H2):f6 H H2 ds Ms:=⟨h.len,fun i d M e1 e2=>by
 obtain⟨as,h1,h2,h3,h4⟩:=(h.at_ i d M e1 e2).ex
 have ne:∀b,H b=none->b∉[w]:=fun b hb z=>by rw[aO.mp z,hw]at hb;cases hb
 exact⟨as,k _ _ h1 (ne _ h3),⟨h2.len,fun j b r e1 e2=>k _ _ (h2.at_ j b r e1 e2) (ne b (h4 b (cW e1)))⟩,h3,h4⟩⟩
theorem eK.snoc{H:Hp}{as:List aa}{M:Rows}{b:aa}{r:List (Option Nat)}(h:eK H as M)(e:H b=some (.lst (r.map ov))):eK H (as++[b]) (M++[r]):=by
 refine⟨by simp[h.len],fun j c x e1 e2=>?_⟩
 by_cases hj:j<as.length
 ·rw[dQ hj]at e1
  rw[dQ (by rw[<-h.len];exact hj)]at e2
  exact h.at_ j c x e1 e2
 ·rw[e9 (by omega)]at e1
  rw[e9 (by rw[<-h.len];omega),<-h.len]at e2
  cases hq:j-as.length with
  |zero=>
   rw[hq]at e1 e2
   cases e1
   cases e2
   exact e
  |succ n=>
   rw[hq]at e1
   simp at e1
theorem eK.keep{H H':Hp}{as:List aa}{M:Rows}{d:aa}{kvs:List (Key×V)}(h:eK H as M)(hd:H d=some (.dK kvs))(k:ar [d] H H'):eK H' as M:=by
 refine⟨h.len,fun j a r e1 e2=>?_⟩
 have z:=h.at_ j a r e1 e2
 exact k _ _ z (by simp only[aO];exact dN z hd (by intro q;cases q))
theorem eK.put{H:Hp}{as:List aa}{M:Rows}{j:Nat}{b:aa}{r':List (Option Nat)}(h:eK H as M)(nd:as.Nodup)(hb:as[j]?=some b):eK (upd H b (.lst (r'.map ov))) as (M.set j r'):=by
 refine⟨by rw[pP];exact h.len,fun i c r e1 e2=>?_⟩
 by_cases hi:i=j
 ·subst hi
  rw[hb]at e1
  cases e1
  have hl:i<M.length:=by rw[<-h.len];exact(bj.mp hb).1
  rw[nR hl]at e2
  cases e2
  exact ax
 ·rw[lR (fun z=>hi z.symm)]at e2
  have hc:c≠b:=fun z=>by
   rw[z]at e1
   exact hi (nd_ix nd e1 hb)
  rw[ak hc]
  exact h.at_ i c r e1 e2
section
variable{P:aU}{w:aM}{K:ay}{mg:ag->Option af}{base:aA}{a:AD}
theorem firstM_succ(i:Nat):firstM (i+1)=firstM i++[[none]]++[[none]]:=by
 unfold firstM
 rw[show 2*(i+1)=2*i+1+1 by omega,uZ,uZ]
def spFirstMoves:Sp:=fun vs H Q _=>∃k:Nat,vs=[.int k]/\k<=8/\∀(H':Hp) (d:aa),MvNw H H' d (firstM k)->ar [] H H'->Q (.ref d) H'
theorem t9:bQ ["letters","moves","letter"] ["letters"] (aK mU):=⟨rfl,rfl,rfl,by decide +kernel,rfl,by decide +kernel,by decide +kernel⟩
theorem okFirstMoves(T:Tx K mg a):aD P w K mg base (aB P w) 1 a.jW a.uk ["letters"] spFirstMoves:=by
 refine cn T.qQ.fn t9 (fun vs H Q E h=>?_) (fun aY A outer s H vs Q E hr h=>?_)
 ·obtain⟨k,rfl,_⟩:=h
  rfl
 ·obtain⟨k,rfl,hk,kk⟩:=h
  have hu:=ia hr
  refine⟨_,aF (bB (i:=1) t9.nd rfl (aQ rfl) (pe_dnewK)) (aF (fo eO rfl (pi_range2 rfl T.gW (aj cj (aj (c5 gN (pv 0) cj) au))) (cV (i:=2) t9.nd rfl (aQ rfl)) (aF (lE hu (pv 1) (pv 2) (dI (aj (bV T.kg) au)) rfl) (aE (lE hu (pv 1) (pe_un i8 (pv 2)) (dI (aj (bV T.kg) au)) rfl)))) (aE (bE (pv 1)))),?_⟩
  intro d hd
  have s0:aC H (upd H d (.dK [])):=(ar.new hd).same
  refine⟨_,rfl,_,_,rfl,rfl,1,(k:Int)+1,rfl,⟨by decide,by decide,by omega,by omega⟩,?_⟩
  rw[show((k:Int)+1-1).toNat=k by omega]
  refine m8 (lo:=1) (n:=k) (fun i σ H2=>∃(v2:Option V) (as:List aa),σ=[some (.int k),some (.ref d),v2]/\aC H H2/\H2 d=some (.dK (bf 0 as))/\eK H2 as (firstM i)/\∀b∈as,H b=none)
   ⟨none,[],rfl,s0,ax,⟨rfl,fun j a r e=>by simp at e⟩,fun _ z=>absurd z (by simp)⟩ (fun i σ H2 hi hP=>?_) (fun σ H2 hP=>?_)
  ·obtain⟨v2,as,rfl,s2,hd2,hR,hf⟩:=hP
   have hal:as.length=2*i:=by rw[hR.len];simp[firstM]
   have key1:(a8 (1+(i:Int)):Key)=a8 (a9 (2*i)):=by unfold a9;rw[if_pos (by omega)];congr 1;omega
   have key2:(a8 (-(1+(i:Int))):Key)=a8 (a9 (2*i+1)):=by unfold a9;rw[if_neg (by omega)];congr 1;omega
   refine⟨(by show 1<=sizeLine;decide),fun l hl=>?_⟩
   have s3:aC H2 (upd H2 l (.lst [V.int (-1)])):=(ar.new hl).same
   have hl3:(upd H2 l (.lst [V.int (-1)])) l=some (.lst [V.int (-1)]):=ax
   have nl:d≠l:=bg hd2 hl
   generalize upd H2 l (.lst [V.int (-1)])=H3 at s3 hl3
   refine⟨_,rfl,_,rfl,d,_,rfl,DPut.k (k:=a8 (1+(i:Int))) (s3 _ _ hd2) (by rw[ij,hal];exact fN (by omega)),?_⟩
   have ep1:putK (bf 0 as) (a8 (1+(i:Int)):Key) (V.ref l)=bf 0 (as++[l]):=by
    rw[key1,putK_new _ (mkv_none as 0 (2*i) (by omega)),mkv_snoc,hal,fW]
   rw[ep1]
   have k4:ar [d] H3 (upd H3 d (.dK (bf 0 (as++[l])))):=ar.upd
   have hd4:(upd H3 d (.dK (bf 0 (as++[l])))) d=some (.dK (bf 0 (as++[l]))):=ax
   generalize upd H3 d (.dK (bf 0 (as++[l])))=H4 at k4 hd4
   refine⟨(by show 1<=sizeLine;decide),fun l2 bZ=>?_⟩
   have s5:aC H4 (upd H4 l2 (.lst [V.int (-1)])):=(ar.new bZ).same
   have hl5:(upd H4 l2 (.lst [V.int (-1)])) l2=some (.lst [V.int (-1)]):=ax
   have nl2:d≠l2:=bg hd4 bZ
   generalize upd H4 l2 (.lst [V.int (-1)])=H5 at s5 hl5
   refine⟨_,rfl,_,rfl,_,rfl,d,_,rfl,DPut.k (k:=a8 (-(1+(i:Int)))) (s5 _ _ hd4) (by rw[ij,cx,hal];exact fN (by simp;omega)),?_⟩
   have ep2:putK (bf 0 (as++[l])) (a8 (-(1+(i:Int))):Key) (V.ref l2)=bf 0 (as++[l]++[l2]):=by
    rw[key2,putK_new _ (mkv_none (as++[l]) 0 (2*i+1) (by simp;omega)),mkv_snoc (as++[l]),cx,hal,fW]
    rfl
   rw[ep2]
   have k6:ar [d] H5 (upd H5 d (.dK (bf 0 (as++[l]++[l2])))):=ar.upd
   have kall:ar [d] H2 (upd H5 d (.dK (bf 0 (as++[l]++[l2])))):=fun b o e nb=>k6 _ _ (s5 _ _ (k4 _ _ (s3 _ _ e) nb)) nb
   have nn:∀b,H2 b=none->H b=none:=fun b e=>by
    cases z:H b with
    |none=>rfl
    |some o=>rw[s2 b o z]at e;cases e
   refine⟨_,as++[l]++[l2],rfl,fun b o e=>kall b o (s2 _ _ e) (by simp only[aO];exact bg e hd),ax,?_,fun b hb=>?_⟩
   ·rw[firstM_succ]
    refine((hR.keep hd2 kall).snoc ?_).snoc ?_
    ·exact k6 _ _ (s5 _ _ (k4 _ _ hl3 (by simp only[aO];exact nl.symm))) (by simp only[aO];exact nl.symm)
    ·exact k6 _ _ hl5 (by simp only[aO];exact nl2.symm)
   ·rcases cQ.mp hb with z|z
    ·rcases cQ.mp z with z|z
     ·exact hf b z
     ·rw[aO.mp z];exact nn l hl
    ·rw[aO.mp z]
     refine nn l2 ?_
     cases e:H2 l2 with
     |none=>rfl
     |some o=>
      have:=k4 _ _ (s3 _ _ e) (by simp only[aO];exact nl2.symm)
      rw[bZ]at this
      cases this
  ·obtain⟨v2,as,rfl,s2,hd2,hR,hf⟩:=hP
   exact⟨_,rfl,kk H2 d ⟨as,hd2,hR,hd,hf⟩ fun b o e _=>s2 b o e⟩
def spWithPlace:Sp:=fun vs H Q _=>∃(d:aa) (M:Rows) (k m:Nat),vs=[.ref d]/\dW H d M/\cR M k m/\k<=8/\m<=1000/\∀(H':Hp) (e:aa),MvNw H H' e (d6 M)->ar [] H H'->Q (.ref e) H'
theorem qS:bQ ["moves","larger","number","row"] ["moves"] (aK m5):=⟨rfl,rfl,rfl,by decide +kernel,rfl,by decide +kernel,by decide +kernel⟩
theorem take_map_succ{α β:Type}(f:α->β){l:List α}{i:Nat}{x:α}(h:l[i]?=some x):(l.take (i+1)).map f=(l.take i).map f++[f x]:=by
 rw[eW,h,dD]
 rfl
theorem okWithPlace(T:Tx K mg a):aD P w K mg base (aB P w) 1 a.j0 a.dWithPlace ["moves"] spWithPlace:=by
 refine cn T.qY.fn qS (fun vs H Q E h=>?_) (fun aY A outer s H vs Q E hr h=>?_)
 ·obtain⟨d,M,k,m,rfl,_⟩:=h
  rfl
 ·obtain⟨d,M,k,m,rfl,hd,hM,hk,hm,kk⟩:=h
  have hu:=ia hr
  obtain⟨as,h1,hR0⟩:=hd.ex
  have hal:as.length=2*k:=by rw[hR0.len,hM.len]
  refine⟨_,aF (bB (i:=1) qS.nd rfl (aQ rfl) (pe_dnewK)) (aF (ps_lock (fo eO rfl (pC (pv 0)) (pg_tup (n:=2) rfl (gT (cV (i:=2) qS.nd rfl (aQ rfl)) (gT (cV (i:=3) qS.nd rfl (aQ rfl)) pgs_nil))) (aE (lE hu (pv 1) (pv 2) (c5 op_cat (pv 3) (dI (aj (bV T.kg) au))) rfl)))) (aE (bE (pv 1)))),?_⟩
  intro e he
  have ned:d≠e:=bg h1 he
  have s0:aC H (upd H e (.dK [])):=(ar.new he).same
  have he0:(upd H e (.dK [])) e=some (.dK []):=ax
  generalize upd H e (.dK [])=H0 at s0 he0
  refine⟨d,.dK (bf 0 as),s0 _ _ h1,trivial,fun od=>?_⟩
  refine⟨_,rfl,d,od,_,rfl,ax,?_⟩
  refine pq (d:=d) (o:=od) (kvs:=bf 0 as) (fun i σ H2=>∃(v2 v3:Option V) (bs:List aa),σ=[some (.ref d),some (.ref e),v2,v3]/\ar [d] H H2/\H2 d=some (.bM od (.dK (bf 0 as)))/\H2 e=some (.dK (bf 0 bs))/\eK H2 bs ((M.take i).map fun r=>r++[none])/\∀b∈bs,H b=none)
   ⟨none,none,[],rfl,fun b o z nb=>by rw[ak (fun y=>nb (by simp[y]))];exact s0 _ _ z,ax,by rw[ak ned.symm];exact he0,⟨rfl,fun j a r e=>by simp at e⟩,fun _ z=>absurd z (by simp)⟩
   (fun i σ H2 _ ⟨_,_,_,_,_,z,_⟩=>z) ?_ ?_
  ·rintro i ky v σ H2 T0 hi ⟨v2,v3,bs,rfl,k2,hd2,he2,hR,hf⟩ hT
   rw[mkv_at]at hi
   obtain⟨c,hc,hcv⟩:∃c,as[i]?=some c/\((a8 (a9 (0+i)):Key),V.ref c)=(ky,v):=by
    cases z:as[i]? with
    |none=>rw[z]at hi;cases hi
    |some c=>rw[z]at hi;exact⟨c,rfl,cC hi⟩
   cases hcv
   rw[fW]
   have b7:=(bj.mp hc).1
   have hiM:i<M.length:=by rw[<-hR0.len];exact b7
   have fM:=hR0.at_ i c _ hc (aH hiM)
   have ncd:c≠d:=dN fM h1 (by intro z;cases z)
   have s3:aC H2 (upd H2 T0 (.tup [kV (a8 (a9 i)),V.ref c])):=(ar.new hT).same
   have hT3:(upd H2 T0 (.tup [kV (a8 (a9 i)),V.ref c])) T0=some (.tup [V.int (a9 i),V.ref c]):=ax
   generalize upd H2 T0 (.tup [kV (a8 (a9 i)),V.ref c])=H3 at s3 hT3
   refine⟨T0,_,rfl,cz.of hT3,rfl,_,_,rfl,_,_,rfl,rfl,?_⟩
   have hrow3:=s3 _ _ (k2 _ _ fM (by simp only[aO];exact ncd))
   refine⟨_,rfl,(by show 1<=sizeLine;decide),fun l hl=>?_⟩
   have s4:aC H3 (upd H3 l (.lst [V.int (-1)])):=(ar.new hl).same
   have hl4:(upd H3 l (.lst [V.int (-1)])) l=some (.lst [V.int (-1)]):=ax
   generalize upd H3 l (.lst [V.int (-1)])=H4 at s4 hl4
   refine⟨c,l,_,_,rfl,rfl,s4 _ _ hrow3,hl4,by rw[aP,hM.row _ (cN hiM)];show m+1<=sizeLine;exact gH (fN (by omega)),fun q hq=>?_⟩
   have erow:(M[i].map ov)++[V.int (-1)]=(M[i]++[none]).map ov:=by rw[dD];rfl
   rw[erow]
   have s5:aC H4 (upd H4 q (.lst ((M[i]++[none]).map ov))):=(ar.new hq).same
   have hq5:(upd H4 q (.lst ((M[i]++[none]).map ov))) q=some (.lst ((M[i]++[none]).map ov)):=ax
   generalize upd H4 q (.lst ((M[i]++[none]).map ov))=H5 at s5 hq5
   have s25:aC H2 H5:=fun b o z=>s5 _ _ (s4 _ _ (s3 _ _ z))
   have he5:=s25 _ _ he2
   have hbl:bs.length=i:=by rw[hR.len,aP,gG];omega
   refine⟨_,rfl,_,rfl,e,_,rfl,DPut.k (k:=a8 (a9 i)) he5 (by rw[ij,hbl];exact fN (by omega)),?_⟩
   have ep:putK (bf 0 bs) (a8 (a9 i):Key) (V.ref q)=bf 0 (bs++[q]):=by
    rw[putK_new _ (mkv_none bs 0 i (by omega)),mkv_snoc,hbl,fW]
   rw[ep]
   have nqe:q≠e:=(bg (s4 _ _ (s3 _ _ he2)) hq).symm
   have k6:ar [e] H5 (upd H5 e (.dK (bf 0 (bs++[q])))):=ar.upd
   have cG:H2 q=none:=by
    cases z:H2 q with
    |none=>rfl
    |some o=>rw[s4 _ _ (s3 _ _ z)]at hq;cases hq
   have nqd:q≠d:=fun z=>by rw[z,hd2]at cG;cases cG
   refine⟨_,_,bs++[q],rfl,fun b o z nb=>k6 _ _ (s25 _ _ (k2 b o z nb)) (by simp only[aO];exact bg z he),?_,ax,?_,fun b hb=>?_⟩
   ·exact k6 _ _ (s25 _ _ hd2) (by simp only[aO];exact ned)
   ·rw[take_map_succ _ (aH hiM)]
    refine eK.snoc ?_ (k6 _ _ hq5 (by simp only[aO];exact nqe))
    exact hR.keep he2 fun b o z nb=>k6 _ _ (s25 _ _ z) nb
   ·rcases cQ.mp hb with z|z
    ·exact hf b z
    ·rw[aO.mp z]
     cases y:H q with
     |none=>rfl
     |some o=>
      rw[k2 q o y (by simp only[aO];exact nqd)]at cG
      cases cG
  ·rintro σ H2 ⟨v2,v3,bs,rfl,k2,hd2,he2,hR,hf⟩
   refine⟨hd2,⟨_,rfl,?_⟩⟩
   have eM:(M.take (bf 0 as).length).map (fun r=>r++[none])=d6 M:=by rw[ij,hR0.len,gb];rfl
   rw[eM]at hR
   refine kk _ e ⟨bs,by rw[ak ned.symm];exact he2,⟨hR.len,fun j b r e1 e2=>?_⟩,he,hf⟩ fun b o z _=>?_
   ·have z:=hR.at_ j b r e1 e2
    rw[ak (dN z hd2 (by intro y;cases y))]
    exact z
   ·by_cases hb:b=d
    ·rw[hb,ax]
     rw[hb,h1]at z
     exact z
    ·rw[ak hb]
     exact k2 b o z (by simp only[aO];exact hb)
end
theorem nodup_snoc{l:List aa}{x:aa}(h:l.Nodup)(hx:x∉l):(l++[x]).Nodup:=by
 rw[ir]
 refine⟨h,by simp,fun a ha b hb=>?_⟩
 rw[aO.mp hb]
 intro e
 exact hx (e▸ha)
theorem rowD{M:Rows}{j:Nat}{r:List (Option Nat)}(h:M[j]?=some r):M.getD j []=r:=by rw[bT,h];rfl
theorem setM_eq{M:Rows}{j:Nat}(h:j<M.length)(p q:Nat):setM M j p q=M.set j (M[j].set p (some q)):=by unfold setM;rw[rowD (aH h)]
theorem ixN_nat{n p:Nat}(h:p<n):ixN n (p:Int)=some p:=by
 unfold ixN
 rw[if_pos (by omega),if_pos (by omega)]
 rfl
section
variable{P:aU}{w:aM}{K:ay}{mg:ag->Option af}{base:aA}{a:AD}
def spWithStep:Sp:=fun vs H Q _=>∃(d:aa) (M:Rows) (k m p j q:Nat),vs=[.ref d,.int p,.int (a9 j),.int q]/\dW H d M/\cR M k m/\k<=8/\m<=1000/\j<2*k/\p<m/\q<m/\∀(H':Hp) (e:aa),MvNw H H' e (dn M j p q)->ar [] H H'->Q (.ref e) H'
theorem ra:bQ ["moves","place","number","target","stepped","other","row"] ["moves","place","number","target"] (aK ng):=⟨rfl,rfl,rfl,by decide +kernel,rfl,by decide +kernel,by decide +kernel⟩
theorem okWithStep(T:Tx K mg a):aD P w K mg base (aB P w) 1 a.j5 a.dWithStep ["moves","place","number","target"] spWithStep:=by
 refine cn T.lz.fn ra (fun vs H Q E h=>?_) (fun aY A outer s H vs Q E hr h=>?_)
 ·obtain⟨d,M,k,m,p,j,q,rfl,_⟩:=h
  rfl
 ·obtain⟨d,M,k,m,p,j,q,rfl,hd,hM,hk,hm,hj,hp,hq,kk⟩:=h
  have hu:=ia hr
  obtain⟨as,h1,hR0⟩:=hd.ex
  have hal:as.length=2*k:=by rw[hR0.len,hM.len]
  refine⟨_,aF (bB (i:=4) ra.nd rfl (aQ rfl) (pe_dnewK)) (aF (ps_lock (fo eO rfl (pC (pv 0)) (pg_tup (n:=2) rfl (gT (cV (i:=5) ra.nd rfl (aQ rfl)) (gT (cV (i:=6) ra.nd rfl (aQ rfl)) pgs_nil))) (aE (lE hu (pv 4) (pv 5) (pj call_list_of (by rfl) T.b_list bootList' (aj (pv 6) au)) rfl)))) (aF (ps_asg (pv 3) (pg_sub (pe_dget hu (pv 4) (pv 2) (fun _ _=>rfl)) (pv 1) set_list)) (aF (ps_asg (pv 1) (pg_sub (pe_dget hu (pv 4) (pe_un i8 (pv 2)) (fun _ _=>rfl)) (pv 3) set_list)) (aE (bE (pv 4)))))),?_⟩
  intro e he
  have ned:d≠e:=bg h1 he
  have s0:aC H (upd H e (.dK [])):=(ar.new he).same
  have he0:(upd H e (.dK [])) e=some (.dK []):=ax
  generalize upd H e (.dK [])=H0 at s0 he0
  refine⟨d,.dK (bf 0 as),s0 _ _ h1,trivial,fun od=>?_⟩
  refine⟨_,rfl,d,od,_,rfl,ax,?_⟩
  refine pq (d:=d) (o:=od) (kvs:=bf 0 as) (fun i σ H2=>∃(v5 v6:Option V) (bs:List aa),σ=[some (.ref d),some (.int p),some (.int (a9 j)),some (.int q),some (.ref e),v5,v6]/\ar [d] H H2/\H2 d=some (.bM od (.dK (bf 0 as)))/\H2 e=some (.dK (bf 0 bs))/\eK H2 bs (M.take i)/\bs.Nodup/\∀b∈bs,H b=none)
   ⟨none,none,[],rfl,fun b o z nb=>by rw[ak (fun y=>nb (by simp[y]))];exact s0 _ _ z,ax,by rw[ak ned.symm];exact he0,⟨rfl,fun j a r e=>by simp at e⟩,nY,fun _ z=>absurd z (by simp)⟩
   (fun i σ H2 _ ⟨_,_,_,_,_,z,_⟩=>z) ?_ ?_
  ·rintro i ky v σ H2 T0 hi ⟨v5,v6,bs,rfl,k2,hd2,he2,hR,hnd,hf⟩ hT
   rw[mkv_at]at hi
   obtain⟨c,hc,hcv⟩:∃c,as[i]?=some c/\((a8 (a9 (0+i)):Key),V.ref c)=(ky,v):=by
    cases z:as[i]? with
    |none=>rw[z]at hi;cases hi
    |some c=>rw[z]at hi;exact⟨c,rfl,cC hi⟩
   cases hcv
   rw[fW]
   have b7:=(bj.mp hc).1
   have hiM:i<M.length:=by rw[<-hR0.len];exact b7
   have fM:=hR0.at_ i c _ hc (aH hiM)
   have ncd:c≠d:=dN fM h1 (by intro z;cases z)
   have s3:aC H2 (upd H2 T0 (.tup [kV (a8 (a9 i)),V.ref c])):=(ar.new hT).same
   have hT3:(upd H2 T0 (.tup [kV (a8 (a9 i)),V.ref c])) T0=some (.tup [V.int (a9 i),V.ref c]):=ax
   generalize upd H2 T0 (.tup [kV (a8 (a9 i)),V.ref c])=H3 at s3 hT3
   refine⟨T0,_,rfl,cz.of hT3,rfl,_,_,rfl,_,_,rfl,rfl,?_⟩
   have hrow3:=s3 _ _ (k2 _ _ fM (by simp only[aO];exact ncd))
   refine⟨_,rfl,c,_,rfl,.inl (ao.of hrow3),fun l hl=>?_⟩
   have s4:aC H3 (upd H3 l (.lst (M[i].map ov))):=(ar.new hl).same
   have hl4:(upd H3 l (.lst (M[i].map ov))) l=some (.lst (M[i].map ov)):=ax
   generalize upd H3 l (.lst (M[i].map ov))=H4 at s4 hl4
   have s24:aC H2 H4:=fun b o z=>s4 _ _ (s3 _ _ z)
   have he4:=s24 _ _ he2
   have hbl:bs.length=i:=by rw[hR.len,gG];omega
   refine⟨_,rfl,_,rfl,e,_,rfl,DPut.k (k:=a8 (a9 i)) he4 (by rw[ij,hbl];exact fN (by omega)),?_⟩
   have ep:putK (bf 0 bs) (a8 (a9 i):Key) (V.ref l)=bf 0 (bs++[l]):=by
    rw[putK_new _ (mkv_none bs 0 i (by omega)),mkv_snoc,hbl,fW]
   rw[ep]
   have nle:l≠e:=(bg (s3 _ _ he2) hl).symm
   have k6:ar [e] H4 (upd H4 e (.dK (bf 0 (bs++[l])))):=ar.upd
   have bZ:H2 l=none:=by
    cases z:H2 l with
    |none=>rfl
    |some o=>rw[s3 _ _ z]at hl;cases hl
   have nld:l≠d:=fun z=>by rw[z,hd2]at bZ;cases bZ
   have nlb:l∉bs:=fun z=>by
    obtain⟨r,hr⟩:=hR.mem z
    rw[bZ]at hr
    cases hr
   refine⟨_,_,bs++[l],rfl,fun b o z nb=>k6 _ _ (s24 _ _ (k2 b o z nb)) (by simp only[aO];exact bg z he),?_,ax,?_,nodup_snoc hnd nlb,fun b hb=>?_⟩
   ·exact k6 _ _ (s24 _ _ hd2) (by simp only[aO];exact ned)
   ·rw[eW,aH hiM]
    refine eK.snoc ?_ (k6 _ _ hl4 (by simp only[aO];exact nle))
    exact hR.keep he2 fun b o z nb=>k6 _ _ (s24 _ _ z) nb
   ·rcases cQ.mp hb with z|z
    ·exact hf b z
    ·rw[aO.mp z]
     cases y:H l with
     |none=>rfl
     |some o=>
      rw[k2 l o y (by simp only[aO];exact nld)]at bZ
      cases bZ
  ·rintro σ H2 ⟨v5,v6,bs,rfl,k2,hd2,he2,hR,hnd,hf⟩
   refine⟨hd2,?_⟩
   have eM:M.take (bf 0 as).length=M:=by rw[ij,hR0.len,gb]
   rw[eM]at hR
   have he3:(upd H2 d (.dK (bf 0 as))) e=some (.dK (bf 0 bs)):=by rw[ak ned.symm];exact he2
   have hR3:eK (upd H2 d (.dK (bf 0 as))) bs M:=⟨hR.len,fun j b r e1 e2=>by
    have z:=hR.at_ j b r e1 e2
    rw[ak (dN z hd2 (by intro y;cases y))]
    exact z⟩
   have k3:aC H (upd H2 d (.dK (bf 0 as))):=fun b o z=>by
    by_cases hb:b=d
    ·rw[hb,ax]
     rw[hb,h1]at z
     exact z
    ·rw[ak hb]
     exact k2 b o z (by simp only[aO];exact hb)
   generalize upd H2 d (.dK (bf 0 as))=H3 at he3 hR3 k3
   have hjM:j<M.length:=by rw[hM.len];exact hj
   have hjb:j<bs.length:=by rw[hR3.len];exact hjM
   have hrj:=hR3.at_ j _ _ (aH hjb) (aH hjM)
   have g1:eT H3 e (.int (a9 j)) (some (.ref bs[j])):=by
    have z:=eT.k (k:=a8 (a9 j)) he3
    have y:=mkv_get bs 0 j bs[j] (aH hjb)
    rw[fW]at y
    rw[y]at z
    exact z
   refine⟨_,rfl,_,rfl,_,rfl,e,_,rfl,g1,_,rfl,bs[j],_,_,p,rfl,rfl,hrj,by rw[aP,hM.row _ (cN hjM)];exact ixN_nat hp,?_⟩
   have eset:(M[j].map ov).set p (V.int (q:Int))=(M[j].set p (some q)).map ov:=by rw[xU];rfl
   rw[eset]
   have e4:setM M j p q=M.set j (M[j].set p (some q)):=by unfold setM;rw[rowD (aH hjM)]
   have hR4:eK (upd H3 bs[j] (.lst ((M[j].set p (some q)).map ov))) bs (setM M j p q):=by
    rw[e4]
    exact hR3.put hnd (aH hjb)
   have nej:e≠bs[j]:=fun z=>by rw[<-z,he3]at hrj;cases hrj
   have he4:(upd H3 bs[j] (.lst ((M[j].set p (some q)).map ov))) e=some (.dK (bf 0 bs)):=by rw[ak nej];exact he3
   have k4:aC H (upd H3 bs[j] (.lst ((M[j].set p (some q)).map ov))):=fun b o z=>by
    have:b≠bs[j]:=fun y=>by
     have:=hf bs[j] (cN hjb)
     rw[<-y,z]at this
     cases this
    rw[ak this]
    exact k3 b o z
   generalize upd H3 bs[j] (.lst ((M[j].set p (some q)).map ov))=H4 at hR4 he4 k4
   have ok1:=setM_ok (p:=p) hM hj hq
   have hb2:=bar_lt hj
   have hjM2:bar j<(setM M j p q).length:=by rw[ok1.len];exact hb2
   have hjb2:bar j<bs.length:=by rw[hR4.len];exact hjM2
   have hrj2:=hR4.at_ (bar j) _ _ (aH hjb2) (aH hjM2)
   have g2:eT H4 e (.int (-a9 j)) (some (.ref bs[bar j])):=by
    rw[<-keyZ_bar]
    have z:=eT.k (k:=a8 (a9 (bar j))) he4
    have y:=mkv_get bs 0 (bar j) bs[bar j] (aH hjb2)
    rw[fW]at y
    rw[y]at z
    exact z
   refine⟨_,rfl,_,rfl,_,rfl,_,rfl,e,_,rfl,g2,_,rfl,bs[bar j],_,_,q,rfl,rfl,hrj2,by rw[aP,ok1.row _ (cN hjM2)];exact ixN_nat hq,?_⟩
   have eset2:((setM M j p q)[bar j].map ov).set q (V.int (p:Int))=((setM M j p q)[bar j].set q (some p)).map ov:=by rw[xU];rfl
   rw[eset2]
   have e5:dn M j p q=(setM M j p q).set (bar j) ((setM M j p q)[bar j].set q (some p)):=setM_eq hjM2 q p
   refine⟨_,rfl,kk _ e ⟨bs,?_,?_,he,hf⟩ fun b o z _=>?_⟩
   ·have:e≠bs[bar j]:=fun z=>by rw[<-z,he4]at hrj2;cases hrj2
    rw[ak this]
    exact he4
   ·rw[e5]
    exact hR4.put hnd (aH hjb2)
   ·have:b≠bs[bar j]:=fun y=>by
     have:=hf bs[bar j] (cN hjb2)
     rw[<-y,z]at this
     cases this
    rw[ak this]
    exact k4 b o z
theorem find_is{β:Type}{f:Nat->Option β}{n i:Nat}{b:β}(hi:i<n)(e:f i=some b)(h:∀i',i'<i->f i'=none):(aT n).findSome? f=some b:=by
 cases z:(aT n).findSome? f with
 |none=>
  have:=oV z i (bt.mpr hi)
  rw[e]at this
  cases this
 |some c=>
  obtain⟨i0,h1,h2,h3⟩:=find_range z
  have e0:i0=i:=by
   rcases pX i0 i with y|y|y
   ·rw[h i0 y]at h2;cases h2
   ·exact y
   ·rw[h3 i y]at e;cases e
  rw[e0,e]at h2
  exact h2.symm
theorem firstU_is{M:Rows}{k m p j:Nat}(hp:p<m)(hj:j<2*k)(h1:∀p',p'<p->∀j',j'<2*k->getM M j' p'≠none)(h2:∀j',j'<j->getM M j' p≠none)(h3:getM M j p=none):fZ M k m=some (p,j):=by
 unfold fZ
 refine find_is hp (find_is hj (by rw[if_pos h3]) fun j' hj'=>by rw[if_neg (h2 j' hj')]) fun p' hp'=>?_
 rw[vv]
 intro j' hj'
 rw[if_neg (h1 p' hp' j' (bt.mp hj'))]
theorem firstU_no{M:Rows}{k m:Nat}(h:∀p,p<m->∀j,j<2*k->getM M j p≠none):fZ M k m=none:=by
 unfold fZ
 rw[vv]
 intro p hp
 rw[vv]
 intro j hj
 rw[if_neg (h p (bt.mp hp) j (bt.mp hj))]
def spFirstUnknown:Sp:=fun vs H Q _=>∃(d:aa) (M:Rows) (k m:Nat),vs=[.ref d]/\dW H d M/\cR M k m/\0<k/\k<=8/\m<=1000/\(fZ M k m=none->∀H',ar [] H H'->Q .bo H') /\
 ∀p j,fZ M k m=some (p,j)->∀(H':Hp) (t:aa),H' t=some (.tup [.int p,.int (a9 j)])->ar [] H H'->Q (.ref t) H'
theorem qr:bQ ["moves","place","number","row"] ["moves"] (aK mB):=⟨rfl,rfl,rfl,by decide +kernel,rfl,by decide +kernel,by decide +kernel⟩
theorem okFirstUnknown (T:Tx K mg a):aD P w K mg base (aB P w) 2 a.jK a.tH ["moves"] spFirstUnknown:=by
 have GP:aD P w K mg base (aB P w) 1 a.gw a.jh ["moves"] j2:=lu T
 refine cn T.qy.fn qr (fun vs H Q E h=>?_) (fun aY A outer s H vs Q E hr h=>?_)
 ·obtain ⟨d,M,k,m,rfl,_⟩:=h
  rfl
 ·obtain ⟨d,M,k,m,rfl,hd,hM,hk0,hk,hm,k1,k2⟩:=h
  obtain ⟨as,h1,hR0⟩:=id hd.ex
  have hal:as.length=2*k:=by rw [hR0.len,hM.len]
  refine ⟨_,aF (fo eO rfl (ph rfl T.gW (aj (bp GP hr rfl T.eP.mg T.eP.fn.kp T.eP.bd .nil bC (aj (pv 0) (au))) au)) (cV (i:=1) qr.nd rfl (aQ rfl))
    (aE (ps_lock (fo eO rfl (pC (pv 0)) (pg_tup (n:=2) rfl (gT (cV (i:=2) qr.nd rfl (aQ rfl)) (gT (cV (i:=3) qr.nd rfl (aQ rfl)) pgs_nil)))
     (aE (cF (bP fz (dO eG (pv 3) (pv 1) (fun _ _=>rfl)) (bV T.kg) (bU _)) (aE (bE (pe_tup (aj (pv 1) (aj (pv 2) au))))) cU))))))
   (aE (bE pe_non)),?_⟩
  refine ⟨_,rfl,d,M,k,m,rfl,hd,hM,hk0,(m:Int),rfl,by omega,by omega,?_⟩
  rw [gi]
  refine m8 (lo:=0) (n:=m) (fun i σ H2=>aC H H2/\∃ v1 v2 v3:Option V,σ=[some (.ref d),v1,v2,v3]/\∀ p',p'<i->∀ j',j'<2*k->getM M j' p'≠none)
   ⟨fun _ _ z=>z,none,none,none,rfl,fun p' hp'=>by omega⟩ (fun i σ H2 hi hP=>?_) (fun σ H2 hP=>?_)
  ·obtain ⟨s2,v1,v2,v3,rfl,hkn⟩:=hP
   rw [oE]
   refine ⟨d,.dK (bf 0 as),s2 _ _ h1,trivial,fun od=>?_⟩
   refine ⟨_,rfl,d,od,_,rfl,ax,?_⟩
   refine pq (d:=d) (o:=od) (kvs:=bf 0 as) (fun j σ H3=>∃ v2 v3:Option V,σ=[some (.ref d),some (.int (i:Int)),v2,v3]/\ar [d] H H3/\H3 d=some (.bM od (.dK (bf 0 as)))/\∀ j',j'<j->getM M j' i≠none)
    ⟨v2,v3,rfl,fun b o z nb=>by rw [ak (fun y=>nb (by simp [y]))];exact s2 _ _ z,ax,fun j' hj'=>by omega⟩ (fun j σ H3 _ ⟨_,_,_,_,z,_⟩=>z) ?_ ?_
   ·rintro j ky v σ H3 T0 hj ⟨v2,v3,rfl,k3,hd3,hk3⟩ hT
    rw [mkv_at] at hj
    obtain ⟨c,hc,hcv⟩:∃ c,as[j]?=some c/\((a8 (a9 (0+j)):Key),V.ref c)=(ky,v):=by
     cases z:as[j]? with
     | none=>rw [z] at hj;cases hj
     | some c=>rw [z] at hj;exact ⟨c,rfl,cC hj⟩
    cases hcv
    rw [fW]
    have cw:=(bj.mp hc).1
    have hjM:j<M.length:=by rw [<-hR0.len];exact cw
    have fM:=hR0.at_ j c _ hc (aH hjM)
    have ncd:c≠d:=dN fM h1 (by intro z;cases z)
    have s4:aC H3 (upd H3 T0 (.tup [kV (a8 (a9 j)),V.ref c])):=(ar.new hT).same
    have hT4:(upd H3 T0 (.tup [kV (a8 (a9 j)),V.ref c])) T0=some (.tup [V.int (a9 j),V.ref c]):=ax
    generalize upd H3 T0 (.tup [kV (a8 (a9 j)),V.ref c])=H4 at s4 hT4
    refine ⟨T0,_,rfl,cz.of hT4,rfl,_,_,rfl,_,_,rfl,rfl,?_⟩
    have hrow4:=s4 _ _ (k3 _ _ fM (by simp only [aO];exact ncd))
    have hrl:i<M[j].length:=by rw [hM.row _ (cN hjM)];exact hi
    have e4:=ovs_at hrl
    rw [<-fS (aH hjM) i] at e4
    refine ⟨_,rfl,_,rfl,c,_,_,_,rfl,rfl,ao.of hrow4,e4,?_⟩
    refine ⟨rfl,_,rfl,?_⟩
    cases hg:getM M j i with
    | none=>
     refine iteT ?_
     refine ⟨_,rfl,_,rfl,(by show 2<=sizeLine;decide),fun t ht=>?_⟩
     have ntd:d≠t:=bg (s4 _ _ hd3) ht
     refine ⟨by rw [ak ntd];exact s4 _ _ hd3,?_⟩
     refine k2 i j (firstU_is hi (by omega) hkn hk3 hg) _ t (by rw [ak ntd.symm];exact ax) fun b o z _=>?_
     by_cases hb:b=d
     ·rw [hb,ax]
      rw [hb,h1] at z
      exact z
     ·have z3:=s4 _ _ (k3 b o z (by simp only [aO];exact hb))
      rw [ak hb,ak (bg z3 ht)]
      exact z3
    | some q'=>
     refine iteF' ?_ ?_
     ·exact decide_eq_false fun z=>by
       have z2:oz (some q') = -1:=V.int.inj z
       rw [oz_none] at z2
       cases z2
     ·refine ⟨_,_,rfl,fun b o z nb=>s4 _ _ (k3 b o z nb),s4 _ _ hd3,fun j' hj'=>?_⟩
      by_cases e:j'=j
      ·rw [e,hg];simp
      ·exact hk3 j' (by omega)
   ·rintro σ H3 ⟨v2,v3,rfl,k3,hd3,hk3⟩
    rw [ij,hal] at hk3
    refine ⟨hd3,fun b o z=>?_,_,_,_,rfl,fun p' hp' j' hj'=>?_⟩
    ·by_cases hb:b=d
     ·rw [hb,ax]
      rw [hb,h1] at z
      exact z
     ·rw [ak hb]
      exact k3 b o z (by simp only [aO];exact hb)
    ·by_cases e:p'=i
     ·rw [e];exact hk3 j' hj'
     ·exact hkn p' (by omega) j' hj'
  ·obtain ⟨s2,v1,v2,v3,rfl,hkn⟩:=hP
   exact k1 (firstU_no hkn) H2 fun b o z _=>s2 b o z
end
theorem bootTuple':bootBuiltins "tuple" = some (.type "tuple"):=by decide +kernel
theorem MvNw.mono2{H0 H H' H2:Hp}{d:aa}{M:Rows}(h:MvNw H H' d M)(nn:∀b,H b=none->H0 b=none)(s2:aC H' H2):MvNw H0 H2 d M:=by
 obtain⟨as,h1,h2,h3,h4⟩:=h.ex
 exact⟨as,s2 _ _ h1,h2.same s2,nn d h3,fun b hb=>nn b (h4 b hb)⟩
theorem none_of_keep{w:aa}{o:HO}{H H2:Hp}(k:ar [w] H H2)(hw:H2 w=some o):∀b,H2 b=none->H b=none:=fun b e=>by
 cases z:H b with
 |none=>rfl
 |some u=>
  by_cases hb:b=w
  ·rw[hb,hw]at e;cases e
  ·rw[k b u z (by simp only[aO];exact hb)]at e;cases e
section
variable{P:aU}{w:aM}{K:ay}{mg:ag->Option af}{base:aA}{a:AD}
def freeT(M:Rows)(j:Nat)(t:Nat):Bool:=decide (getM M (bar j) t=none)
def spAllWays:Sp:=fun vs H Q _=>∃(d:aa) (M:Rows) (k m p j most:Nat),vs=[.ref d,.int p,.int (a9 j),.int most]/\dW H d M/\cR M k m/\0<k/\k<=8/\m<=most/\most<=8/\j<2*k/\p<m /\
 ∀(H':Hp) (l:aa) (ds:List aa),H' l=some (.lst (ds.map V.ref))->H l=none->f6 H H' ds (kids M k m most p j)->ar [] H H'->Q (.ref l) H'
theorem scAllWays:bQ ["moves","place","number","most","places","ways","target"] ["moves","place","number","most"] (aK nB):=⟨rfl,rfl,rfl,by decide +kernel,rfl,by decide +kernel,by decide +kernel⟩
theorem okAllWays (T:Tx K mg a):aD P w K mg base (aB P w) 2 a.kb a.dAllWays ["moves","place","number","most"] spAllWays:=by
 have GP:aD P w K mg base (aB P w) 1 a.gw a.jh ["moves"] j2:=lu T
 have GS:aD P w K mg base (aB P w) 1 a.j5 a.dWithStep ["moves","place","number","target"] spWithStep:=okWithStep T
 have GL:aD P w K mg base (aB P w) 1 a.j0 a.dWithPlace ["moves"] spWithPlace:=okWithPlace T
 refine cn T.gAllWays.fn scAllWays (fun vs H Q E h=>?_) (fun aY A outer s H vs Q E hr h=>?_)
 ·obtain ⟨d,M,k,m,p,j,most,rfl,_⟩:=h
  rfl
 ·obtain ⟨d,M,k,m,p,j,most,rfl,hd,hM,hk0,hk,hmm,hmost,hj,hp,kk⟩:=h
  have hu:=ia hr
  refine ⟨_,aF (bB (i:=4) scAllWays.nd rfl (aQ rfl) (bp GP hr rfl T.eP.mg T.eP.fn.kp T.eP.bd .nil bC (aj (pv 0) (au))))
   (aF (bB (i:=5) scAllWays.nd rfl (aQ rfl) (dI au))
   (aF (fo eO rfl (ph rfl T.gW (aj (pv 4) au)) (cV (i:=6) scAllWays.nd rfl (aQ rfl))
    (aE (cF (bP fz (dO eG (pe_dget hu (pv 0) (pe_un i8 (pv 2)) (fun _ _=>rfl)) (pv 6) (fun _ _=>rfl)) (bV T.kg) (bU _))
     (aE (dX (gp fJ kU kW j3 (pv 5) (aj (bp GS hr rfl T.lz.mg T.lz.fn.kp T.lz.bd .nil bC (aj (pv 0) (aj (pv 1) (aj (pv 2) (aj (pv 6) au))))) au)))) cU)))
   (aF (cF (bP iC (pv 4) (pv 3) (bU _))
     (aE (dX (gp fJ kU kW j3 (pv 5) (aj (bp GS hr rfl T.lz.mg T.lz.fn.kp T.lz.bd .nil bC (aj (bp GL hr rfl T.qY.mg T.qY.fn.kp T.qY.bd .nil bC (aj (pv 0) au)) (aj (pv 1) (aj (pv 2) (aj (pv 4) au))))) au)))) cU)
   (aE (bE (pv 5)))))),?_⟩
  refine ⟨_,rfl,d,M,k,m,rfl,hd,hM,hk0,?_⟩
  refine ⟨(by show 0<=sizeLine;decide),fun q hq=>?_⟩
  have s1:aC H (upd H q (.lst [])):=(ar.new hq).same
  have hq1:(upd H q (.lst [])) q=some (.lst []):=ax
  generalize upd H q (.lst [])=H1 at s1 hq1
  have hbj:bar j<M.length:=by rw [hM.len];exact bar_lt hj
  have hd1:=hd.same s1
  obtain ⟨a1,g1,g2⟩:=hd1.row (aH hbj)
  have nq:∀ (b:aa) o,H b=some o->b≠q:=fun b o z=>bg z hq
  obtain ⟨a0,g10,g20⟩:=hd.row (aH hbj)
  have ha1:a1≠q:=by
   have z1:a1=a0:=by
    have z:=g10
    obtain ⟨as,e1,e2⟩:=hd.ex
    have bZ:bar j<as.length:=by rw [e2.len];exact hbj
    have y:=mkv_get as 0 (bar j) as[bar j] (aH bZ)
    rw [fW] at y
    have d0:eT H d (.int (a9 (bar j))) (some (.ref as[bar j])):=by
     have:=eT.k (k:=a8 (a9 (bar j))) e1
     rw [y] at this
     exact this
    have d1:eT H1 d (.int (a9 (bar j))) (some (.ref as[bar j])):=by
     have:=eT.k (k:=a8 (a9 (bar j))) (s1 _ _ e1)
     rw [y] at this
     exact this
    have un:∀ (HH:Hp) (x y:aa),HH d=some (.dK (bf 0 as))->eT HH d (.int (a9 (bar j))) (some (.ref x))->x=as[bar j]:=fun HH x y' eh gx=>by
     rcases gx with ⟨kvs,kk,r1,r2,r3⟩ | ⟨kvs,kk,b,r1,r2,_⟩
     ·have ek:kk=a8 (a9 (bar j)):=by
       cases kk with
       | inl i=>have:=V.int.inj r2;rw [this]
       | inr x=>cases r2
      have ekv:kvs=bf 0 as:=by
       rcases r1 with r1 | ⟨o,r1⟩
       ·rw [eh] at r1;cases r1;rfl
       ·rw [eh] at r1;cases r1
      rw [ek,ekv,y] at r3
      cases r3
      rfl
     ·cases r2
    rw [un H1 a1 a1 (s1 _ _ e1) g1,un H a0 a0 e1 g10]
   rw [z1]
   exact nq a0 _ g20
  refine ⟨_,rfl,(m:Int),rfl,by omega,by omega,?_⟩
  rw [gi]
  refine m8 (lo:=0) (n:=m) (fun i σ H2=>∃ (v6:Option V) (ds:List aa),σ=[some (.ref d),some (.int p),some (.int (a9 j)),some (.int most),some (.int m),some (.ref q),v6]/\ar [q] H1 H2/\H2 q=some (.lst (ds.map V.ref))/\ds.length<=i/\f6 H1 H2 ds (((aT i).filter (freeT M j)).map fun t=>dn M j p t))
   ⟨none,[],rfl,ar.refl,hq1,aI _,f6.nil⟩ (fun i σ H2 hi hP=>?_) (fun σ H2 hP=>?_)
  ·obtain ⟨v6,ds,rfl,k2,cG,hdl,hMs⟩:=hP
   rw [oE]
   have kq:∀ b o,H b=some o->H2 b=some o:=fun b o z=>k2 b o (s1 b o z) (by simp only [aO];exact nq b o z)
   have hd2:dW H2 d M:=hd.same kq
   have hg2:=k2 _ _ g2 (by simp only [aO];exact ha1)
   have g12:eT H2 d (.int (-a9 j)) (some (.ref a1)):=by
    rw [<-keyZ_bar]
    obtain ⟨as,e1,e2⟩:=hd.ex
    rcases g1 with ⟨kvs,kk',r1,r2,r3⟩ | ⟨kvs,kk',b,r1,r2,_⟩
    ·have ekv:kvs=bf 0 as:=by
      rcases r1 with r1 | ⟨o,r1⟩
      ·rw [s1 _ _ e1] at r1;cases r1;rfl
      ·rw [s1 _ _ e1] at r1;cases r1
     exact .inl ⟨kvs,kk',.inl (by rw [ekv];exact kq _ _ e1),r2,r3⟩
    ·cases r2
   have hrl:i<M[bar j].length:=by rw [hM.row _ (cN hbj)];exact hi
   have e4:=ovs_at hrl
   rw [<-fS (aH hbj) i] at e4
   refine ⟨_,rfl,_,rfl,_,rfl,d,_,rfl,g12,_,rfl,a1,_,_,_,rfl,rfl,ao.of hg2,e4,?_⟩
   refine ⟨rfl,_,rfl,?_⟩
   cases hg:getM M (bar j) i with
   | none=>
    refine iteT ?_
    refine ⟨_,rfl,.inl ⟨rfl,_,ao.of cG⟩,_,rfl,_,rfl,_,rfl,_,rfl,d,M,k,m,p,j,i,rfl,hd2,hM,hk,by omega,hj,hp,hi,fun H3 e hN k3=>?_⟩
    have s3:aC H2 H3:=k3.same
    refine ⟨q,_,_,rfl,rfl,s3 _ _ cG,by rw [aP];exact fN (by omega),?_⟩
    have emap:ds.map V.ref++[V.ref e]=(ds++[e]).map V.ref:=by simp
    rw [emap]
    have k4:ar [q] H3 (upd H3 q (.lst ((ds++[e]).map V.ref))):=ar.upd
    refine ⟨_,ds++[e],rfl,fun b o z nb=>k4 _ _ (s3 _ _ (k2 b o z nb)) nb,ax,by simp;omega,?_⟩
    have ef:((aT (i+1)).filter (freeT M j)).map (fun t=>dn M j p t)=((aT i).filter (freeT M j)).map (fun t=>dn M j p t)++[dn M j p i]:=by
     rw [f9,oh]
     have:[i].filter (freeT M j)=[i]:=by simp [freeT,hg]
     rw [this,dD]
     rfl
    rw [ef]
    exact ((hMs.mono (fun _ _ z=>z) s3).snoc (hN.mono2 (none_of_keep k2 cG) fun _ _ z=>z)).keep hq1 k4
   | some q'=>
    refine iteF' ?_ ?_
    ·exact decide_eq_false fun z=>by
      have z2:oz (some q') = -1:=V.int.inj z
      rw [oz_none] at z2
      cases z2
    ·refine ⟨_,ds,rfl,k2,cG,by omega,?_⟩
     rw [f9,oh]
     have ef:[i].filter (freeT M j)=[]:=by simp [freeT,hg]
     rw [ef,fV]
     exact hMs
  ·obtain ⟨v6,ds,rfl,k2,cG,hdl,hMs⟩:=hP
   have kq:∀ b o,H b=some o->H2 b=some o:=fun b o z=>k2 b o (s1 b o z) (by simp only [aO];exact nq b o z)
   have hd2:dW H2 d M:=hd.same kq
   have hkids:kids M k m most p j=(((aT m).filter (freeT M j)).map fun t=>dn M j p t)++(if m<most then [dn (d6 M) j p m] else []):=rfl
   have nn1:∀ b,H1 b=none->H b=none:=fun b e=>by
    cases z:H b with
    | none=>rfl
    | some u=>rw [s1 b u z] at e;cases e
   refine ⟨_,rfl,_,rfl,_,_,rfl,rfl,_,rfl,?_⟩
   by_cases aR:m<most
   ·have hlt':decide ((m:Int)<(most:Int))=true:=decide_eq_true (by omega)
    rw [hlt']
    refine iteT ?_
    refine ⟨_,rfl,.inl ⟨rfl,_,ao.of cG⟩,_,rfl,d,M,k,m,rfl,hd2,hM,hk,by omega,fun H3 e hN k3=>?_⟩
    have s3:aC H2 H3:=k3.same
    refine ⟨_,rfl,_,rfl,_,rfl,e,d6 M,k,m+1,p,j,m,rfl,hN.at_,placeM_ok hM,hk,by omega,hj,by omega,by omega,fun H4 e2 hN2 k4=>?_⟩
    have s4:aC H3 H4:=k4.same
    have s24:aC H2 H4:=fun b o z=>s4 _ _ (s3 _ _ z)
    refine ⟨q,_,_,rfl,rfl,s24 _ _ cG,by rw [aP];exact fN (by omega),?_⟩
    have emap:ds.map V.ref++[V.ref e2]=(ds++[e2]).map V.ref:=by simp
    rw [emap]
    have k5:ar [q] H4 (upd H4 q (.lst ((ds++[e2]).map V.ref))):=ar.upd
    have nn3:∀ b,H3 b=none->H1 b=none:=fun b e=>none_of_keep k2 cG b (by
     cases z:H2 b with
     | none=>rfl
     | some u=>rw [s3 b u z] at e;cases e)
    have fin:=((hMs.mono (fun _ _ z=>z) s24).snoc (hN2.mono2 nn3 fun _ _ z=>z)).keep hq1 k5
    refine ⟨_,rfl,kk _ q (ds++[e2]) ax hq ?_ fun b o z _=>k5 _ _ (s24 _ _ (kq b o z)) (by simp only [aO];exact nq b o z)⟩
    rw [hkids,if_pos aR]
    exact fin.mono s1 fun _ _ z=>z
   ·have hlt':decide ((m:Int)<(most:Int))=false:=decide_eq_false (by omega)
    rw [hlt']
    refine iteF' rfl ?_
    refine ⟨_,rfl,kk _ q ds cG hq ?_ fun b o z _=>kq b o z⟩
    rw [hkids,if_neg aR,fV]
    exact hMs.mono s1 fun _ _ z=>z
theorem encL_inj{l l':kP}(h:encL l=encL l'):l=l':=by
 unfold encL at h
 obtain⟨i,b⟩:=l
 obtain⟨i',b'⟩:=l'
 cases b<;>cases b'<;>simp at h
 ·rw[show i=i' by omega]
 ·omega
 ·omega
 ·rw[show i=i' by omega]
theorem encL_bars(l:kP):encL (bars l) = -encL l:=by
 unfold encL bars
 obtain⟨i,b⟩:=l
 cases b<;>simp
theorem short1_len(s:b8)(l:kP):(gP s l).length<=s.length+1:=by
 unfold gP
 split
 ·split
  ·simp;omega
  ·simp
 ·simp
theorem short_take{u:b8}{i:Nat}{l:kP}(h:u[i]?=some l):cp (u.take (i+1))=gP (cp (u.take i)) l:=by
 unfold cp
 exact foldl_take_succ _ _ h
theorem shorten_len:∀(u:b8) (i:Nat),(cp (u.take i)).length<=i
 |u,0=>by simp[cp]
 |u,i+1=>by
  have ih:=shorten_len u i
  cases h:u[i]? with
  |none=>
   have:u.take (i+1)=u.take i:=by rw[eW,h];simp
   rw[this];omega
  |some l=>
   rw[short_take h]
   have:=short1_len (cp (u.take i)) l
   omega
def spShortened(K:ay):Sp:=fun vs H Q _=>∃(q:aa) (u:b8),vs=[.ref q]/\ao K H q (wv u)/\u.length<=4096/\∀(H':Hp) (l:aa),H' l=some (.lst (wv (cp u)))->ar [] H H'->Q (.ref l) H'
theorem scShortened:bQ ["word","short","number"] ["word"] (aK mZ):=⟨rfl,rfl,rfl,by decide +kernel,rfl,by decide +kernel,by decide +kernel⟩
theorem okShortened (T:Tx K mg a):aD P w K mg base (aB P w) 1 a.jZ a.dShortened ["word"] (spShortened K):=by
 refine cn T.qX.fn scShortened (fun vs H Q E h=>?_) (fun aY A outer s H vs Q E hr h=>?_)
 ·obtain ⟨q,u,rfl,_⟩:=h
  rfl
 ·obtain ⟨q,u,rfl,hq,hul,kk⟩:=h
  refine ⟨_,aF (bB (i:=1) scShortened.nd rfl (aQ rfl) (dI au))
   (aF (fo eO rfl (ie (pv 0)) (cV (i:=2) scShortened.nd rfl (aQ rfl))
    (aE (cF (PW.pt (pw_and (nr (pv 1) (fun _=>rfl)) (pw_and1 (bP fz (dO eG (pv 1) (pe_un i8 cj) (fun _ _=>rfl)) (pe_un i8 (pv 2)) (bU _)))))
     (aE (dX (pe_bm0 fJ vP vQ mt_pop (pv 1))))
     (aE (dX (gp fJ kU kW j3 (pv 1) (aj (pv 2) au)))))))
   (aE (bE (pv 1)))),?_⟩
  refine ⟨(by show 0<=sizeLine;decide),fun l hl=>?_⟩
  have s0:aC H (upd H l (.lst [])):=(ar.new hl).same
  have hl0:(upd H l (.lst [])) l=some (.lst []):=ax
  generalize upd H l (.lst [])=H0 at s0 hl0
  have nl:∀ (b:aa) o,H b=some o->b≠l:=fun b o z=>bg z hl
  refine ⟨_,rfl,q,rfl,⟨_,s0.seq hq⟩,lB (K:=K) (a:=q) (xs:=wv u) (fun i σ H2=>aC H H2/\∃ v2:Option V,σ=[some (.ref q),some (.ref l),v2]/\H2 l=some (.lst (wv (cp (u.take i)))))
   ⟨s0,none,rfl,hl0⟩ (fun i σ H2 _ e=>e.1.seq hq) (fun i x σ H2 hx hP=>?_) (fun σ H2 hP=>?_)⟩
  ·obtain ⟨s2,v2,rfl,bZ⟩:=hP
   obtain ⟨c,hc,rfl⟩:∃ c,u[i]?=some c/\x=V.int (encL c):=by
    rw [bH] at hx
    cases e:u[i]? with
    | none=>rw [e] at hx;cases hx
    | some c=>rw [e] at hx;exact ⟨c,rfl,(cC hx).symm⟩
   have hsl:=shorten_len u i
   have b7:=(bj.mp hc).1
   have est:=short_take hc
   have app:∀ (k:cp (u.take (i+1))=cp (u.take i)++[c]) (v2:Option V),aC H (upd H2 l (.lst (wv (cp (u.take i))++[V.int (encL c)])))/\∃ v3:Option V,[some (V.ref q),some (V.ref l),v2]=[some (V.ref q),some (V.ref l),v3]/\(upd H2 l (.lst (wv (cp (u.take i))++[V.int (encL c)]))) l=some (.lst (wv (cp (u.take (i+1))))):=fun e v2=>by
    refine ⟨fun b o z=>by rw [ak (nl b o z)];exact s2 b o z,v2,rfl,?_⟩
    rw [ax,e]
    simp
   refine ⟨_,rfl,_,.inl ⟨_,ao.of bZ,rfl⟩,?_⟩
   rcases vf (cp (u.take i)) with hn | ⟨s',m',cJ⟩
   ·rw [hn] at bZ ⊢
    refine iteF' rfl ?_
    refine ⟨_,rfl,.inl ⟨rfl,_,ao.of bZ⟩,_,rfl,l,_,_,rfl,rfl,bZ,(by show 0<sizeLine;decide),?_⟩
    have e1:cp (u.take (i+1))=cp (u.take i)++[c]:=by rw [est,hn];rfl
    have:=app e1 (some (V.int (encL c)))
    rw [hn] at this
    exact this
   ·have cJ:cp (u.take i)=s'++[m']:=by rw [cJ];simp
    have hwv:wv (cp (u.take i))=wv s'++[V.int (encL m')]:=by rw [cJ];simp
    have ba:(wv (cp (u.take i))).isEmpty=false:=by rw [hwv];simp
    rw [ba]
    refine iteT ?_
    refine ⟨_,rfl,_,rfl,l,_,_,_,rfl,rfl,ao.of bZ,by rw [hwv];exact atI_last _ _,_,rfl,_,rfl,rfl,_,rfl,?_⟩
    have e2:gP (cp (u.take i)) c=if m'=bars c then s' else s'++[m']++[c]:=by
     unfold gP
     rw [cJ]
     simp
    by_cases hmc:m'=bars c
    ·have hd:decide (V.int (encL m')=V.int (-encL c))=true:=decide_eq_true (by rw [hmc,encL_bars])
     rw [hd]
     refine iteT ?_
     have hg:(wv (cp (u.take i)))[(wv (cp (u.take i))).length-1]?=some (V.int (encL m')):=by rw [hwv];simp
     refine ⟨_,rfl,.inl ⟨rfl,_,ao.of bZ⟩,l,_,_,rfl,rfl,bZ,hg,?_⟩
     have e3:(wv (cp (u.take i))).dropLast=wv (cp (u.take (i+1))):=by
      rw [hwv,est,e2,if_pos hmc]
      simp
     rw [e3]
     exact ⟨fun b o z=>by rw [ak (nl b o z)];exact s2 b o z,_,rfl,ax⟩
    ·have hd:decide (V.int (encL m')=V.int (-encL c))=false:=decide_eq_false fun z=>hmc (encL_inj (by rw [encL_bars];exact V.int.inj z))
     rw [hd]
     refine iteF' rfl ?_
     refine ⟨_,rfl,.inl ⟨rfl,_,ao.of bZ⟩,_,rfl,l,_,_,rfl,rfl,bZ,by rw [aP];exact jo (by omega),?_⟩
     exact app (by rw [est,e2,if_neg hmc,cJ]) _
  ·obtain ⟨s2,v2,rfl,bZ⟩:=hP
   rw [fQ,gb] at bZ
   exact ⟨_,rfl,kk H2 l bZ fun b o z _=>s2 b o z⟩
end
def ordN(n:Nat):Nat:=([1,2,6,12,60,60,420,840]:List Nat).getD (n-1) 0
theorem ordN_ok:∀n d:Fin 9,1<=n.val->1<=d.val->d.val<=n.val->d.val∣ordN n.val:=by decide
theorem ordN_pos:∀n:Fin 9,1<=n.val->0<ordN n.val/\ordN n.val<=840:=by decide
theorem ord_ok{n:Nat}(h1:1<=n)(h8:n<=8):∀m,m<=n->OrdOk (ordN n) m:=fun m hm d hd1 hd=>ordN_ok ⟨n,by omega⟩ ⟨d,by omega⟩ h1 hd1 (by show d<=n;omega)
def wk(u:b8):List Key:=u.map fun l=>a8 (encL l)
theorem wk_v(u:b8):(wk u).map kV=wv u:=by unfold wk;rw[fG];rfl
theorem wk_inj:∀{u u':b8},wk u=wk u'->u=u'
 |[],[],_=>rfl
 |[],_ :: _,h=>by cases h
 |_ :: _,[],h=>by cases h
 |l :: u,l' :: u',h=>by
  have h:(a8 (encL l):Key) ::wk u=a8 (encL l') ::wk u':=h
  injection h with h1 h2
  rw[encL_inj (qd h1),wk_inj h2]
theorem wv_inj:∀{u u':b8},wv u=wv u'->u=u'
 |[],[],_=>rfl
 |[],_ :: _,h=>by cases h
 |_ :: _,[],h=>by cases h
 |l :: u,l' :: u',h=>by
  have h:V.int (encL l) ::wv u=V.int (encL l') ::wv u':=h
  injection h with h1 h2
  rw[encL_inj (V.int.inj h1),wv_inj h2]
theorem val_of_at{kvs:List (List Key×V)}{i:Nat}{k:List Key}{v:V}(h:kvs[i]?=some (k,v)):(c9 kvs k).isSome=true:=by
 rw[<-lC,lV]
 exact⟨(k,v),cW h,by simp⟩
theorem at_of_val{kvs:List (List Key×V)}{k:List Key}(h:(c9 kvs k).isSome=true):∃(i:Nat) (v:V),kvs[i]?=some (k,v):=by
 rw[<-lC,lV]at h
 obtain⟨⟨k',v⟩,h1,h2⟩:=h
 have h2:k'=k:=by simpa using h2
 subst h2
 obtain⟨i,hi⟩:=fm h1
 exact⟨i,v,hi⟩
section
variable{P:aU}{w:aM}{K:ay}{mg:ag->Option af}{base:aA}{a:AD}
def spWordsByOrder(a:AD):Sp:=fun vs H Q _=>∃(p:aa) (g:jy) (sg:List Nat) (o most:Nat),vs=[.ref p,.int o]/\jq a H p g sg/\iQ g sg/\0<o/\o<=840/\(∀n,n<=most->OrdOk o n) /\
 ∀(H':Hp) (e:aa) (as:List aa) (ws':List b8),H' e=some (.lst (as.map V.ref))->fC H' as ws'->P2 (Rw g.letters.length o most) g.nothing ws'->ar [] H H'->Q (.ref e) H'
theorem scWordsByOrder:bQ ["group","order"] ["group","order"] (aK mr):=⟨rfl,rfl,rfl,by decide +kernel,rfl,by decide +kernel,by decide +kernel⟩
theorem okWordsByOrder(T:Tx K mg a):aD P w K mg base (aB P w) 6 a.jG a.tD ["group","order"] (spWordsByOrder a):=by
 have GW:aD P w K mg base (aB P w) 5 a.jd a.qC ["signs","letters","order"] (tS K a):=okWordsOfText T
 refine cn T.qu.fn scWordsByOrder (fun vs H Q E h=>?_) (fun aY A outer s H vs Q E hr h=>?_)
 ·obtain⟨p,g,sg,o,most,rfl,_⟩:=h
  rfl
 ·obtain⟨p,g,sg,o,most,rfl,GA,GO,h0,h840,ho,kk⟩:=h
  obtain⟨dx,l,q,w2,as,hp,hl,hq,hw,hws⟩:=GA.ex
  refine⟨_,aE (bE (bp GW hr rfl T.lh.mg T.lh.fn.kp T.lh.bd .nil bC (aj (fY (pv 0) rfl) (aj (fY (pv 0) rfl) (aj (pv 1) au))))),?_⟩
  refine⟨_,rfl,p,a.dJ,dx,_,_,rfl,hp,T.iB.cl,T.nGroup_signs,gf_s,_,rfl,p,a.dJ,dx,_,_,rfl,hp,T.iB.cl,T.qk,gf_l,_,rfl,?_⟩
  refine⟨q,l,sg,g.letters,o,rfl,by omega,ao.of hq,ao.of hl,GO.small,GO.nd,by have:=GO.le;omega,GO.sl,?_⟩
  have rd:=GO.rd
  unfold rw_ at rd ⊢
  by_cases hs:sg=[]
  ·rw[if_pos hs]at rd ⊢
   injection rd with rd
   intro H' e as' he hw2 k2
   exact kk H' e as' [] he hw2 (by rw[<-rd];exact .nil) k2
  ·rw[if_neg hs]at rd ⊢
   obtain⟨ws',e1,e2⟩:=go_sim (o:=o) (most:=most) h0 ho rd
   rw[e1]
   intro H' e as' he hw2 k2
   exact kk H' e as' ws' he hw2 e2 k2
def spTellingWords(K:ay):Sp:=fun vs H Q _=>∃(q:aa) (as:List aa) (ws:List b8),vs=[.ref q]/\ao K H q (as.map V.ref)/\fC H as ws/\ws.length<=1000 /\
 ∀(H':Hp) (l:aa) (qs:List aa) (ts:List b8),H' l=some (.lst (qs.map V.ref))->WordsS K H' qs ts->Tells ws ts->ar [] H H'->Q (.ref l) H'
theorem oU:bQ ["words","telling","word"] ["words"] (aK mz):=⟨rfl,rfl,rfl,by decide +kernel,rfl,by decide +kernel,by decide +kernel⟩
theorem okTellingWords (T:Tx K mg a):aD P w K mg base (aB P w) 2 a.jJ a.tG ["words"] (spTellingWords K):=by
 have GS:aD P w K mg base (aB P w) 1 a.jZ a.dShortened ["word"] (spShortened K):=okShortened T
 refine cn T.qx.fn oU (fun vs H Q E h=>?_) (fun aY A outer s H vs Q E hr h=>?_)
 ·obtain ⟨q,as,ws,rfl,_⟩:=h
  rfl
 ·obtain ⟨q,as,ws,rfl,hq,hws,hwl,kk⟩:=h
  have hu:=ia hr
  refine ⟨_,aF (bB (i:=1) oU.nd rfl (aQ rfl) (pe_dnewT))
   (aF (fo eO rfl (ie (pv 0)) (cV (i:=2) oU.nd rfl (aQ rfl))
    (aE (lE hu (pv 1) (pj call_tuple_of (by rfl) T.b_tuple bootTuple' (aj (bp GS hr rfl T.qX.mg T.qX.fn.kp T.qX.bd .nil bC (aj (pv 2) au)) au)) pe_bl rfl)))
   (aE (bE (pe_sortedLen rfl T.pE rfl T.dh (aj (pe_lock (pe_lc (own:=[("word",2)]) rfl oU.nd (pi_keys (pv 1)) (iH (by kernel_rfl)) (fun s H C cl fp=>cV (i:=2) oU.nd rfl (aQ rfl) (.inr rfl)) (fun s H C cl fp=>pts_one (pt_truthK (K:=K) rfl (pv 2) (fun _=>rfl))) (fun s H C cl fp=>pv 2))) au))))),?_⟩
  intro d hd
  have s0:aC H (upd H d (.dT [])):=(ar.new hd).same
  have hd0:(upd H d (.dT [])) d=some (.dT []):=ax
  generalize upd H d (.dT [])=H0 at s0 hd0
  have nd:∀ (b:aa) o,H b=some o->b≠d:=fun b o z=>bg z hd
  refine ⟨_,rfl,q,rfl,⟨_,s0.seq hq⟩,lB (K:=K) (a:=q) (xs:=as.map V.ref) (fun i σ H2=>aC H H2/\∃ (v2:Option V) (kvs:List (List Key × V)),σ=[some (.ref q),some (.ref d),v2]/\H2 d=some (.dT kvs)/\kvs.length<=i/\∀ k,(c9 kvs k).isSome=true↔∃ u∈ws.take i,k=wk (cp u))
   ⟨s0,none,[],rfl,hd0,aI _,fun k=>⟨(fun z=>by cases z),(fun ⟨u,z,_⟩=>absurd z (by simp))⟩⟩ (fun i σ H2 _ e=>e.1.seq hq) (fun i x σ H2 hx hP=>?_) (fun σ H2 hP=>?_)⟩
  ·obtain ⟨s2,v2,kvs,rfl,hd2,hkl,hkv⟩:=hP
   obtain ⟨c,hc,rfl⟩:∃ c:aa,as[i]?=some c/\x=V.ref c:=by
    rw [bH] at hx
    cases e:as[i]? with
    | none=>rw [e] at hx;cases hx
    | some c=>rw [e] at hx;exact ⟨c,rfl,(cC hx).symm⟩
   have b7:=(bj.mp hc).1
   rw [hws.len] at b7
   have hu2:=aH b7
   have hcu:=hws.at_ i c _ hc hu2
   have hul:=hws.ln _ (cN b7)
   have hul:ws[i].length<=4096:=hul
   refine ⟨_,rfl,_,rfl,c,ws[i],rfl,ao.of (s2 _ _ hcu),hul,fun H3 l hl k3=>?_⟩
   have s3:aC H2 H3:=k3.same
   refine ⟨l,_,rfl,.inl ⟨ao.of hl,fun t ht=>?_⟩⟩
   have s4:aC H3 (upd H3 t (.tup (wv (cp ws[i])))):=(ar.new ht).same
   have ht4:(upd H3 t (.tup (wv (cp ws[i])))) t=some (.tup (wv (cp ws[i]))):=ax
   generalize upd H3 t (.tup (wv (cp ws[i])))=H4 at s4 ht4
   have hd4:=s4 _ _ (s3 _ _ hd2)
   refine ⟨d,_,rfl,DPut.t (k:=wk (cp ws[i])) hd4 (by rw [wk_v];exact ht4) (fN (by omega)),?_⟩
   refine ⟨fun b o z=>?_,_,_,rfl,ax,cZ (oZ _ _ _) (by omega),fun k=>?_⟩
   ·rw [ak (nd b o z)]
    exact s4 _ _ (s3 _ _ (s2 b o z))
   ·have et:ws.take (i+1)=ws.take i++[ws[i]]:=by rw [eW,hu2];rfl
    rw [valV_put,et]
    by_cases e:k=wk (cp ws[i])
    ·rw [if_pos e]
     exact ⟨fun _=>⟨ws[i],fP _ (aO.mpr rfl),e⟩,fun _=>rfl⟩
    ·rw [if_neg e,hkv k]
     constructor
     ·rintro ⟨u,h1,h2⟩
      exact ⟨u,dZ _ h1,h2⟩
     ·rintro ⟨u,h1,h2⟩
      rcases cQ.mp h1 with z | z
      ·exact ⟨u,z,h2⟩
      ·have z:u=ws[i]:=by simpa using z
       rw [z] at h2
       exact absurd h2 e
  ·obtain ⟨s2,v2,kvs,rfl,hd2,hkl,hkv⟩:=hP
   rw [aP,hws.len,gb] at hkv
   rw [aP,hws.len] at hkl
   refine ⟨d,_,hd2,trivial,fun od=>?_⟩
   have hdl:(upd H2 d (.bM od (.dT kvs))) d=some (.bM od (.dT kvs)):=ax
   have kl:ar [d] H2 (upd H2 d (.bM od (.dT kvs))):=ar.upd
   generalize upd H2 d (.bM od (.dT kvs))=Hl at hdl kl
   refine ⟨_,rfl,d,od,rfl,.inr ⟨kvs,hdl,fun D hD=>?_⟩⟩
   have nDd:D≠d:=fun z=>by rw [z,hdl] at hD;cases hD
   have kD:∀ acc,aC Hl (upd Hl D (.lst acc)):=fun acc b o e=>by rw [ak (bg e hD)];exact e
   refine lc_keysT (d:=d) (o:=od) (kvs:=kvs) (fun i H'=>∃ (qs:List aa) (ts:List b8),H'=upd Hl D (.lst (qs.map V.ref))/\qs.length=ts.length/\qs.length<=i/\(∀ (j:Nat) (b:aa) (t:b8),qs[j]?=some b->ts[j]?=some t->Hl b=some (.tup (wv t)))/\(∀ t∈ts,∃ u∈ws,t=cp u) /\
     ∀ (i':Nat) (t:b8) (v:V),i'<i->kvs[i']?=some (wk t,v)->t≠[]->t∈ts)
    ⟨[],[],rfl,rfl,aI _,fun j b t e=>by simp at e,fun t z=>absurd z (by simp),fun i' t v z=>by omega⟩
    (fun i H' _ ⟨qs,ts,e,_⟩=>by rw [e];exact kD _ _ _ hdl) (fun i k v q2 H' hk cG hP=>?_) fun H' hP=>?_
   ·obtain ⟨qs,ts,rfl,l1,l2,hat,hof,hall⟩:=hP
    have hi:=(bj.mp hk).1
    obtain ⟨u,hum,hku⟩:=(hkv k).mp (val_of_at hk)
    rw [hku,wk_v] at cG
    have hq2l:Hl q2=some (.tup (wv (cp u))):=by
     have:q2≠D:=fun z=>by rw [z,ax] at cG;cases cG
     rw [ak this] at cG
     exact cG
    refine ⟨rfl,_,rfl,_,.inr (.inl ⟨_,cz.of cG,rfl⟩),?_⟩
    cases hsu:cp u with
    | nil=>
     refine iteF' rfl ?_
     refine ⟨qs,ts,rfl,l1,by omega,hat,hof,fun i' t v' hi' e ba=>?_⟩
     by_cases z:i'=i
     ·subst z
      rw [hk] at e
      cases e
      rw [hsu] at hku
      exact absurd (wk_inj (hku:wk t=wk [])) ba
     ·exact hall i' t v' (by omega) e ba
    | cons c0 r0=>
     refine iteT ?_
     refine ⟨_,rfl,_,ax,by rw [aP];exact fN (by omega),?_⟩
     refine ⟨qs++[q2],ts++[cp u],by rw [upd_upd];simp,by simp [l1],by simp;omega,fun j b t e1 e2=>?_,fun t z=>?_,fun i' t v' hi' e ba=>?_⟩
     ·by_cases hj:j<qs.length
      ·rw [dQ hj] at e1
       rw [dQ (by rw [<-l1];exact hj)] at e2
       exact hat j b t e1 e2
      ·rw [e9 (by omega)] at e1
       rw [e9 (by rw [<-l1];omega),<-l1] at e2
       cases hq:j-qs.length with
       | zero=>rw [hq] at e1 e2;cases e1;cases e2;exact hq2l
       | succ n=>rw [hq] at e1;simp at e1
     ·rcases cQ.mp z with y | y
      ·exact hof t y
      ·rw [aO.mp y];exact ⟨u,hum,rfl⟩
     ·by_cases z:i'=i
      ·subst z
       rw [hk] at e
       cases e
       rw [wk_inj hku]
       simp
      ·exact dZ _ (hall i' t v' (by omega) e ba)
   ·obtain ⟨qs,ts,rfl,l1,l2,hat,hof,hall⟩:=hP
    refine ⟨kD _ _ _ hdl,?_⟩
    have hD5:(upd (upd Hl D (.lst (qs.map V.ref))) d (.dT kvs)) D=some (.lst (qs.map V.ref)):=by rw [ak nDd];exact ax
    have hat5:∀ (j:Nat) (b:aa) (t:b8),qs[j]?=some b->ts[j]?=some t->(upd (upd Hl D (.lst (qs.map V.ref))) d (.dT kvs)) b=some (.tup (wv t)):=fun j b t e1 e2=>by
     have z:=hat j b t e1 e2
     have n1:b≠d:=fun y=>by rw [y,hdl] at z;cases z
     rw [ak n1]
     exact kD _ _ _ z
    have s5:aC H (upd (upd Hl D (.lst (qs.map V.ref))) d (.dT kvs)):=fun b o z=>by
     rw [ak (nd b o z)]
     exact kD _ _ _ (kl _ _ (s2 b o z) (by simp only [aO];exact nd b o z))
    generalize upd (upd Hl D (.lst (qs.map V.ref))) d (.dT kvs)=H5 at hD5 hat5 s5
    refine ⟨D,qs,rfl,ao.of hD5,fun b hb=>?_,fun qs' D' hperm hD'=>?_⟩
    ·obtain ⟨j,hj⟩:=fm hb
     have cw:=(bj.mp hj).1
     rw [l1] at cw
     exact ⟨_,cz.of (hat5 j b _ hj (aH cw))⟩
    ·have s6:aC H5 (upd H5 D' (.lst (qs'.map V.ref))):=(ar.new hD').same
     have pick:∀ b:aa,∃ t:b8,b∈qs->t∈ts/\H5 b=some (.tup (wv t)):=fun b=>by
      by_cases hb:b∈qs
      ·obtain ⟨j,hj⟩:=fm hb
       have cw:=(bj.mp hj).1
       rw [l1] at cw
       exact ⟨ts[j],fun _=>⟨cN cw,hat5 j b _ hj (aH cw)⟩⟩
      ·exact ⟨[],fun z=>absurd z hb⟩
     obtain ⟨f,hf⟩:=vR pick
     refine kk _ D' qs' (qs'.map f) ax ⟨by simp,fun j b t e1 e2=>?_⟩ ⟨fun t ht=>?_,fun u hu=>?_⟩ fun b o z _=>s6 _ _ (s5 b o z)
     ·rw [bH,e1] at e2
      cases e2
      exact .inr (cz.of (s6 _ _ (hf b (hperm.mem_iff.mp (cW e1))).2))
     ·obtain ⟨b,hb,rfl⟩:=bc.mp ht
      exact hof _ (hf b (hperm.mem_iff.mp hb)).1
     ·by_cases ba:cp u=[]
      ·exact .inl ba
      ·right
       obtain ⟨i',v,hi'⟩:=at_of_val ((hkv (wk (cp u))).mpr ⟨u,hu,rfl⟩)
       have hm:=hall i' (cp u) v (bj.mp hi').1 hi' ba
       obtain ⟨j,hj⟩:=fm hm
       have cw:=(bj.mp hj).1
       rw [<-l1] at cw
       have hb:=aH cw
       have h1:=hat5 j _ _ hb hj
       have h2:=(hf qs[j] (cN cw)).2
       rw [h1] at h2
       have h3:wv (cp u)=wv (f qs[j]):=by injection h2 with h2;injection h2
       rw [wv_inj h3]
       exact bc.mpr ⟨qs[j],hperm.mem_iff.mpr (cN cw),rfl⟩
end
theorem snoc_of_ne{α:Type}{l:List α}(h:l≠[]):∃t x,l=t++[x]:=by
 rcases vf l with z|⟨t,x,z⟩
 ·exact absurd z h
 ·exact⟨t,x,by rw[z];simp⟩
theorem dy.split{H:Hp}{ds:List aa}{Ms:List Rows}{M:Rows}(h:dy H ds (Ms++[M])):∃ds' d,ds=ds'++[d]/\dy H ds' Ms/\dW H d M:=by
 have hl:=h.len
 rw[cx]at hl
 have ba:ds≠[]:=fun z=>by rw[z]at hl;simp at hl
 obtain⟨ds',d,rfl⟩:=snoc_of_ne ba
 have bZ:ds'.length=Ms.length:=by simp at hl;exact hl
 refine⟨ds',d,rfl,⟨bZ,fun i e N e1 e2=>?_⟩,?_⟩
 ·have h1:=(bj.mp e1).1
  have h2:=(bj.mp e2).1
  exact h.at_ i e N (by rw[dQ h1];exact e1) (by rw[dQ h2];exact e2)
 ·exact h.at_ ds'.length d M (by simp) (by rw[bZ];simp)
theorem sum_snoc(f:Rows->Nat)(l:List Rows)(M:Rows):((l++[M]).map f).sum=(l.map f).sum+f M:=by simp
section
variable{P:aU}{w:aM}{K:ay}{mg:ag->Option af}{base:aA}{a:AD}
structure WI (ts:List b8) (k n:Nat) (Hw:Hp) (bq fq:aa) (H2:Hp) (bs fs:List aa) (Bs Fs:List Rows) (cs:List Nat):Prop where
 same:aC Hw H2
 nb:Hw bq=none
 nf:Hw fq=none
 ne:bq≠fq
 hb:H2 bq=some (.lst (bs.map V.ref))
 hf:H2 fq=some (.lst (fs.map V.ref))
 mb:dy (off [bq,fq] H2) bs Bs
 mf:dy (off [bq,fq] H2) fs Fs
 si:SI ts k n Fs Bs
 bi:BI k n Bs cs
theorem off_upd{ws:List aa}{H:Hp}{b:aa}{o:HO}(h:b∈ws):off ws (upd H b o)=off ws H:=by
 funext c
 by_cases hc:c∈ws
 ·rw[off_in hc,off_in hc]
 ·rw[kr hc,kr hc,ak (fun z=>hc (by rw[z];exact h))]
theorem off_mono{ws:List aa}{H H':Hp}(s:aC H H'):aC (off ws H) (off ws H'):=off_keep fun b o e _=>s b o e
def spWholeMoves(K:ay)(a:AD):Sp:=fun vs H Q _=>∃(p:aa) (g:jy) (sg:List Nat) (n:Nat),vs=[.ref p,.int n]/\jq a H p g sg/\iQ g sg/\1<=n/\n<=8/\fac n^g.letters.length<=20000 /\
 ∀(H':Hp) (f:aa) (fs:List aa) (Fs:List Rows) (ts:List b8),H' f=some (.lst (fs.map V.ref))->dy H' fs Fs->SI ts g.letters.length n Fs []->(∀u m,hU g.letters.length m u=true->m<=n->ts.all (l0 u m)=g.nothing.all (l0 u m))->ar [] H H'->Q (.ref f) H'
theorem mL:bQ ["group","most","words","begun","found","moves","step"] ["group","most"] (aK mT):=⟨rfl,rfl,rfl,by decide +kernel,rfl,by decide +kernel,by decide +kernel⟩
theorem okWholeMoves (T:Tx K mg a):aD P w K mg base (aB P w) 7 a.jV a.uj ["group","most"] (spWholeMoves K a):=by
 have GO6:aD P w K mg base (aB P w) 6 a.jG a.tD ["group","order"] (spWordsByOrder a):=okWordsByOrder T
 have GT:aD P w K mg base (aB P w) 6 a.jJ a.tG ["words"] (spTellingWords K):=(okTellingWords T).mono (by decide)
 have GF:aD P w K mg base (aB P w) 6 a.jW a.uk ["letters"] spFirstMoves:=(okFirstMoves T).mono (by decide)
 have GN:aD P w K mg base (aB P w) 6 a.jL a.tI ["words","moves"] (spNoPlaceMoved K):=(okNoPlaceMoved T).mono (by decide)
 have GU:aD P w K mg base (aB P w) 6 a.jK a.tH ["moves"] spFirstUnknown:=(okFirstUnknown T).mono (by decide)
 have GW:aD P w K mg base (aB P w) 6 a.kb a.dAllWays ["moves","place","number","most"] spAllWays:=(okAllWays T).mono (by decide)
 refine cn T.qP.fn mL (fun vs H Q E h=>?_) (fun aY A outer s H vs Q E hr h=>?_)
 ·obtain ⟨p,g,sg,n,rfl,_⟩:=h
  rfl
 ·obtain ⟨p,g,sg,n,rfl,GA,GO,hn1,hn8,hfac,kk⟩:=h
  refine ⟨_,aF (bB (i:=2) mL.nd rfl (aQ rfl) (bp GT hr rfl T.qx.mg T.qx.fn.kp T.qx.bd .nil bC (aj (bp GO6 hr rfl T.qu.mg T.qu.fn.kp T.qu.bd .nil bC (aj (pv 0) (aj (dO ix_tup (pe_glob rfl T.lF.mg (v:=.ref a.tORDERS) rfl) (c5 op_sub (pv 1) cj) (fun _ _=>rfl)) au))) au)))
   (aF (bB (i:=3) mL.nd rfl (aQ rfl) (dI (aj (bp GF hr rfl T.qQ.mg T.qQ.fn.kp T.qQ.bd .nil bC (aj (dr eB (by rfl) T.dh dG (aj (fY (pv 0) rfl) au)) au)) au)))
   (aF (bB (i:=4) mL.nd rfl (aQ rfl) (dI au))
   (aF (ps_while eO (nr (pv 3) (fun _=>rfl))
    (aF (bB (i:=5) mL.nd rfl (aQ rfl) (pe_bm0 fJ vP vQ mt_pop (pv 3)))
    (aE (cF (pt_val (bp GN hr rfl T.qz.mg T.qz.fn.kp T.qz.bd .nil bC (aj (pv 2) (aj (pv 5) au))))
     (aF (bB (i:=6) mL.nd rfl (aQ rfl) (bp GU hr rfl T.qy.mg T.qy.fn.kp T.qy.bd .nil bC (aj (pv 5) au)))
     (aE (cF (bP op_isN (pv 6) pe_non (bU _))
      (aE (dX (gp fJ kU kW j3 (pv 4) (aj (pv 5) au))))
      (aE (dX (gp fJ sh sj mt_extend (pv 3) (aj (bp GW hr rfl T.gAllWays.mg T.gAllWays.fn.kp T.gAllWays.bd .nil bC (aj (pv 5) (aj (dO ix_tup (pv 6) cj (fun _ _=>rfl)) (aj (dO ix_tup (pv 6) cj (fun _ _=>rfl)) (aj (pv 1) au))))) au)))))))
     cU))))
   (aE (bE (pv 4)))))),?_⟩
  have hk0:=GO.pos
  have hk8:=GO.le
  have hord:atI (([1,2,6,12,60,60,420,840]:List Int).map V.int) ((n:Int)-1)=some (V.int ((ordN n:Nat):Int)):=by
   rw [show ((n:Int)-1)=((n-1:Nat):Int) by omega]
   refine eV ?_
   have:n=1\/n=2\/n=3\/n=4\/n=5\/n=6\/n=7\/n=8:=by omega
   rcases this with rfl | rfl | rfl | rfl | rfl | rfl | rfl | rfl<;>rfl
  have hop:=ordN_pos ⟨n,by omega⟩ hn1
  refine ⟨_,rfl,_,rfl,_,_,rfl,rfl,a.tORDERS,_,_,_,rfl,rfl,T.lF.sq H,hord,p,g,sg,ordN n,n,rfl,GA,GO,hop.1,hop.2,ord_ok hn1 hn8,fun H1 e as ws' he hws hP2 k1=>?_⟩
  have s1:aC H H1:=k1.same
  have hwl:ws'.length<=1000:=by rw [<-hP2.len];have:=GO.wl;omega
  refine ⟨e,as,ws',rfl,ao.of he,hws,hwl,fun Hw wq qs ts hwq hqs hT k2=>?_⟩
  have sw:aC H Hw:=fun b o z=>k2.same b o (s1 b o z)
  have cH:∀ u m,hU g.letters.length m u=true->m<=n->ts.all (l0 u m)=g.nothing.all (l0 u m):=fun u m ht hm=>tells_still hP2 hT ht hm
  have hwok:∀ t∈ts,bA g.letters.length t:=tells_ok hP2 hT
  obtain ⟨dx,l,q2,w2,as2,hp,hl,cG,hw2,hws2⟩:=(GA.same sw).ex
  refine ⟨_,rfl,p,a.dJ,dx,_,_,rfl,hp,T.iB.cl,T.qk,gf_l,l,_,rfl,.inl (ao.of hl),?_⟩
  rw [ck]
  refine ⟨g.letters.length,rfl,hk8,fun H3 d0 hN3 k3=>?_⟩
  have s3:aC Hw H3:=k3.same
  refine ⟨(by show 1<=sizeLine;decide),fun bq hbq=>?_⟩
  have s4:aC H3 (upd H3 bq (.lst [V.ref d0])):=(ar.new hbq).same
  have hb4:(upd H3 bq (.lst [V.ref d0])) bq=some (.lst [V.ref d0]):=ax
  generalize upd H3 bq (.lst [V.ref d0])=H4 at s4 hb4
  refine ⟨(by show 0<=sizeLine;decide),fun fq hfq=>?_⟩
  have s5:aC H4 (upd H4 fq (.lst [])):=(ar.new hfq).same
  have hf5:(upd H4 fq (.lst [])) fq=some (.lst []):=ax
  generalize upd H4 fq (.lst [])=H5 at s5 hf5
  have nbw:Hw bq=none:=by
   cases z:Hw bq with
   | none=>rfl
   | some o=>rw [s3 _ _ z] at hbq;cases hbq
  have nfw:Hw fq=none:=by
   cases z:Hw fq with
   | none=>rfl
   | some o=>rw [s4 _ _ (s3 _ _ z)] at hfq;cases hfq
  have nbf:bq≠fq:=fun z=>by rw [z] at hb4;rw [hb4] at hfq;cases hfq
  have d5:dW (off [bq,fq] H5) d0 (firstM g.letters.length):=by
   obtain ⟨as3,x1,x2,x3,x4⟩:=hN3.ex
   have nn:∀ (b:aa) o,H3 b=some o->b∉[bq,fq]:=fun b o z m=>by
    simp only [aZ,dC,or_false] at m
    rcases m with m | m
    ·rw [m,hbq] at z;cases z
    ·rw [m] at z;rw [s4 _ _ z] at hfq;cases hfq
   refine ⟨as3,by rw [kr (nn _ _ x1)];exact s5 _ _ (s4 _ _ x1),x2.len,fun j b r e1 e2=>?_⟩
   have z:=x2.at_ j b r e1 e2
   rw [kr (nn _ _ z)]
   exact s5 _ _ (s4 _ _ z)
  refine ⟨fun m σ H2=>∃ (v5 v6:Option V) (bs fs:List aa) (Bs Fs:List Rows) (cs:List Nat),σ=[some (.ref p),some (.int n),some (.ref wq),some (.ref bq),some (.ref fq),v5,v6]/\WI ts g.letters.length n Hw bq fq H2 bs fs Bs Fs cs/\m=(Bs.map (wt g.letters.length n)).sum,
   ⟨_,none,none,[d0],[],[firstM g.letters.length],[],[0],rfl,⟨fun b o z=>s5 _ _ (s4 _ _ (s3 _ _ z)),nbw,nfw,nbf,s5 _ _ hb4,hf5,dy.one d5,dy.nil,SI.first hk0 hn1,BI.first _ _⟩,rfl⟩,?_⟩
  rintro m σ H2 ⟨v5,v6,bs,fs,Bs,Fs,cs,rfl,I,rfl⟩
  refine ⟨_,rfl,_,.inl ⟨_,ao.of I.hb,rfl⟩,?_⟩
  by_cases hBs:Bs=[]
  ·-- nothing is left
   have hbs:bs=[]:=kM.mp (by rw [I.mb.len,hBs];rfl)
   rw [hbs]
   refine iteF' rfl ?_
   have si:=I.si
   rw [hBs] at si
   refine ⟨_,rfl,kk H2 fq fs Fs ts I.hf (I.mf.same off_same) si cH fun b o z _=>I.same _ _ (sw b o z)⟩
  ·obtain ⟨Bs',M,rfl⟩:=snoc_of_ne hBs
   obtain ⟨bs',d,rfl,hmb,hmd⟩:=I.mb.split
   have ba:((bs'++[d]).map V.ref).isEmpty=false:=by simp
   rw [ba]
   refine iteT ⟨fun σ' H'=>∃ m',m'<((Bs'++[M]).map (wt g.letters.length n)).sum/\∃ (v5 v6:Option V) (bs fs:List aa) (Bs Fs:List Rows) (cs:List Nat),σ'=[some (.ref p),some (.int n),some (.ref wq),some (.ref bq),some (.ref fq),v5,v6]/\WI ts g.letters.length n Hw bq fq H' bs fs Bs Fs cs/\m'=(Bs.map (wt g.letters.length n)).sum,fun _ _ z=>z,?_⟩
   have emap:(bs'++[d]).map V.ref=bs'.map V.ref++[V.ref d]:=by simp
   have hb:=I.hb
   rw [emap] at hb
   refine ⟨_,rfl,.inl ⟨rfl,_,ao.of hb⟩,bq,_,V.ref d,rfl,rfl,hb,(by simp),?_⟩
   have edl:(bs'.map V.ref++[V.ref d]).dropLast=bs'.map V.ref:=by simp
   rw [edl]
   have o3:off [bq,fq] (upd H2 bq (.lst (bs'.map V.ref)))=off [bq,fq] H2:=off_upd (by simp)
   have hb3:(upd H2 bq (.lst (bs'.map V.ref))) bq=some (.lst (bs'.map V.ref)):=ax
   have hf3:(upd H2 bq (.lst (bs'.map V.ref))) fq=some (.lst (fs.map V.ref)):=by rw [ak I.ne.symm];exact I.hf
   have sw3:aC Hw (upd H2 bq (.lst (bs'.map V.ref))):=fun b o z=>by rw [ak (bg z I.nb)];exact I.same b o z
   have mb3:=hmb
   have mf3:=I.mf
   have md3:=hmd
   rw [<-o3] at mb3 mf3 md3
   generalize upd H2 bq (.lst (bs'.map V.ref))=H6 at o3 hb3 hf3 sw3 mb3 mf3 md3
   obtain ⟨m',G⟩:=I.si.good M (by simp)
   have hm8:m'<=8:=cZ G.le hn8
   have dd:=md3.same off_same
   have hwt:=wt_pos g.letters.length n M
   have hsum:=sum_snoc (wt g.letters.length n) Bs' M
   refine ⟨_,rfl,_,rfl,wq,d,qs,ts,M,_,m',rfl,ao.of (sw3 _ _ hwq),hqs.same sw3,dd,G.ok,hk0,by omega,hwok,_,rfl,?_⟩
   obtain ⟨cs',c,hbi,hcs,hbl,hkn⟩:=I.bi.pop
   cases hnp:npm M m' ts with
   | false=>
    refine iteF' rfl ?_
    exact ⟨_,(by rw [hsum];omega),_,_,bs',fs,Bs',Fs,cs',rfl,⟨sw3,I.nb,I.nf,I.ne,hb3,hf3,mb3,mf3,I.si.drop hk0 hwok G.ok hnp,hbi⟩,rfl⟩
   | true=>
    refine iteT ?_
    refine ⟨_,rfl,d,M,_,m',rfl,dd,G.ok,hk0,hk8,by omega,fun hfu H7 k7=>?_,fun p' j' hfu H7 t ht k7=>?_⟩
    ·-- found
     have s7:aC H6 H7:=k7.same
     refine ⟨_,rfl,rfl,_,rfl,?_⟩
     refine iteT ?_
     have hfl:=(I.si.take hk0 hwok G hfu hnp).bound hk0
     have hfl2:Fs.length+1<=n*fac n ^ g.letters.length:=by simpa using hfl
     have hfl3:n*fac n ^ g.letters.length<=8*20000:=ot hn8 hfac
     have hfslen:fs.length<sizeLine:=by
      rw [I.mf.len]
      exact du (by omega:Fs.length<160001) (by decide)
     refine ⟨_,rfl,.inl ⟨rfl,_,ao.of (s7 _ _ hf3)⟩,_,rfl,fq,_,_,rfl,rfl,s7 _ _ hf3,by rw [aP];exact hfslen,?_⟩
     have ef:fs.map V.ref++[V.ref d]=(fs++[d]).map V.ref:=by simp
     rw [ef]
     have o8:off [bq,fq] (upd H7 fq (.lst ((fs++[d]).map V.ref)))=off [bq,fq] H7:=off_upd (by simp)
     refine ⟨_,(by rw [hsum];omega),_,_,bs',fs++[d],Bs',Fs++[M],cs',rfl,⟨fun b o z=>?_,I.nb,I.nf,I.ne,?_,ax,?_,?_,I.si.take hk0 hwok G hfu hnp,hbi⟩,rfl⟩
     ·rw [ak (bg z I.nf)]
      exact s7 _ _ (sw3 b o z)
     ·rw [ak I.ne]
      exact s7 _ _ hb3
     ·rw [o8]
      exact mb3.same (off_mono s7)
     ·rw [o8]
      exact (mf3.same (off_mono s7)).app (dy.one (md3.same (off_mono s7)))
    ·-- all ways
     have s7:aC H6 H7:=k7.same
     obtain ⟨hp',hj',hn',hkn'⟩:=o7 hfu
     refine ⟨_,rfl,rfl,_,rfl,?_⟩
     refine iteF' rfl ?_
     refine ⟨_,rfl,.inl ⟨rfl,_,ao.of (s7 _ _ hb3)⟩,_,rfl,_,rfl,t,_,_,_,rfl,rfl,cz.of ht,rfl,_,rfl,t,_,_,_,rfl,rfl,cz.of ht,rfl,_,rfl,d,M,_,m',p',j',n,rfl,dd.same s7,G.ok,hk0,hk8,G.le,hn8,hj',hp',fun H8 l8 ds h8 hn8' hds k8=>?_⟩
     have s8:aC H7 H8:=k8.same
     have hlenb:bs'.length<=10000:=by
      rw [hmb.len]
      have z:=hbi.bound hk0 fun x hx=>I.si.good x (dZ _ hx)
      have z2:(n+1)*(2*g.letters.length*n+1)<=9*129:=ot (by omega) (by
       have:2*g.letters.length*n<=16*8:=ot (by omega) hn8
       omega)
      omega
     have hlenk:=kids_len M g.letters.length m' n p' j'
     have hlend:ds.length<=9:=by rw [hds.len];omega
     refine ⟨bq,l8,_,_,rfl,rfl,s8 _ _ (s7 _ _ hb3),h8,by rw [aP,aP];exact jo (by omega),?_⟩
     have ef:bs'.map V.ref++ds.map V.ref=(bs'++ds).map V.ref:=by simp
     rw [ef]
     have o9:off [bq,fq] (upd H8 bq (.lst ((bs'++ds).map V.ref)))=off [bq,fq] H8:=off_upd (by simp)
     have hkw:=kids_wt G hk0 hfu
     have hc1:c<=2*g.letters.length*p'+j':=gJ fun z=>by
      have y:=hkn _ z
      unfold cv at y
      rw [(fT hj').1,(fT hj').2] at y
      exact y hn'
     refine ⟨_,?_,_,_,bs'++ds,fs,Bs'++kids M g.letters.length m' n p' j',Fs,_,rfl,⟨fun b o z=>?_,I.nb,I.nf,I.ne,ax,?_,?_,?_,I.si.kids G hfu,hbi.push hcs hbl hc1 (cZ hlenk (x6 G.le)) fun K hK x hx=>?_⟩,rfl⟩
     ·rw [hsum,dD,xV]
      omega
     ·rw [ak (bg z I.nb)]
      exact s8 _ _ (s7 _ _ (sw3 b o z))
     ·rw [ak I.ne.symm]
      exact s8 _ _ (s7 _ _ hf3)
     ·rw [o9]
      refine (mb3.same (off_mono fun b o z=>s8 _ _ (s7 _ _ z))).app (hds.off fun b hb=>?_)
      simp only [aZ,dC,or_false] at hb
      rcases hb with z | z
      ·rw [z,s7 _ _ hb3];simp
      ·rw [z,s7 _ _ hf3];simp
     ·rw [o9]
      exact mf3.same (off_mono fun b o z=>s8 _ _ (s7 _ _ z))
     ·obtain ⟨m2,g2,h2⟩:=kids_good G hfu K hK
      exact h2 x hx
end
def numV(M:Rows):Nat->List V
 | 0=>[]
 |i+1=>numV M i++if i%2=0 then(M.getD i []).map ov else[]
theorem numV_len{M:Rows}{k m:Nat}(h:cR M k m):∀i,(numV M i).length<=i*m
 | 0=>by simp[numV]
 |i+1=>by
  have ih:=numV_len h i
  have:(if i%2=0 then(M.getD i []).map ov else[]).length<=m:=by
   split
   ·rw[aP,bT]
    cases e:M[i]? with
    |none=>simp
    |some r=>exact om (h.row r (cW e))
   ·simp
  rw[numV,cx,ou,pW]
  omega
theorem keyZ_pos(j:Nat):(0<a9 j)↔j%2=0:=by
 unfold a9
 split
 ·rename_i h;exact⟨fun _=>h,fun _=>by omega⟩
 ·rename_i h;exact⟨fun z=>by omega,fun z=>absurd z h⟩
theorem numV_full{k n:Nat}{u:iw}(h:hU k n u=true):∀i,i<=k->numV (bY u n) (2*i)=(fv (u.take i).flatten).map V.int
 | 0,_=>rfl
 |i+1,hi=>by
  have hu:i<u.length:=by rw[(ib h).1];omega
  have e:=(fullM_at n u i u[i] (aH hu)).1
  rw[show 2*(i+1)=2*i+1+1 by omega,numV,numV,if_neg (show ¬(2*i+1)%2=0 by omega),if_pos (show 2*i%2=0 by omega),fV,numV_full h i (by omega),bT,e,eW,aH hu]
  show _++(u[i].map some).map ov=_
  unfold fv
  simp only[vY,xE,dD,jv,List.flatten_nil,fV]
  congr 1
  rw[fG,fG]
  rfl
section
variable{P:aU}{w:aM}{K:ay}{mg:ag->Option af}{base:aA}{a:AD}
def spTableNumbers:Sp:=fun vs H Q _=>∃(d:aa) (M:Rows) (k m:Nat),vs=[.ref d]/\dW H d M/\cR M k m/\k<=8/\m<=8/\∀(H':Hp) (l:aa),H l=none->H' l=some (.lst (numV M (2*k)))->ar [] H H'->Q (.ref l) H'
theorem qt:bQ ["moves","numbers","number","row"] ["moves"] (aK mD):=⟨rfl,rfl,rfl,by decide +kernel,rfl,by decide +kernel,by decide +kernel⟩
theorem okTableNumbers(T:Tx K mg a):aD P w K mg base (aB P w) 1 a.jM a.tJ ["moves"] spTableNumbers:=by
 refine cn T.qA.fn qt (fun vs H Q E h=>?_) (fun aY A outer s H vs Q E hr h=>?_)
 ·obtain⟨d,M,k,m,rfl,_⟩:=h
  rfl
 ·obtain⟨d,M,k,m,rfl,hd,hM,hk,hm,kk⟩:=h
  have hu:=ia hr
  obtain⟨as,h1,hR0⟩:=hd.ex
  have hal:as.length=2*k:=by rw[hR0.len,hM.len]
  refine⟨_,aF (bB (i:=1) qt.nd rfl (aQ rfl) (dI au)) (aF (ps_lock (fo eO rfl (pC (pv 0)) (pg_tup (n:=2) rfl (gT (cV (i:=2) qt.nd rfl (aQ rfl)) (gT (cV (i:=3) qt.nd rfl (aQ rfl)) pgs_nil)))
   (aE (cF (bP hZ (pv 2) cj (bU _)) (aE (dX (gp fJ sh sj mt_extend (pv 1) (aj (pv 3) au)))) cU)))) (aE (bE (pv 1)))),?_⟩
  refine⟨(by show 0<=sizeLine;decide),fun e he=>?_⟩
  have ned:d≠e:=bg h1 he
  have s0:aC H (upd H e (.lst [])):=(ar.new he).same
  have he0:(upd H e (.lst [])) e=some (.lst []):=ax
  generalize upd H e (.lst [])=H0 at s0 he0
  refine⟨d,.dK (bf 0 as),s0 _ _ h1,trivial,fun od=>?_⟩
  refine⟨_,rfl,d,od,_,rfl,ax,?_⟩
  refine pq (d:=d) (o:=od) (kvs:=bf 0 as) (fun i σ H2=>∃(v2 v3:Option V),σ=[some (.ref d),some (.ref e),v2,v3]/\ar [d] H H2/\H2 d=some (.bM od (.dK (bf 0 as)))/\H2 e=some (.lst (numV M i)))
   ⟨none,none,rfl,fun b o z nb=>by rw[ak (fun y=>nb (by simp[y]))];exact s0 _ _ z,ax,by rw[ak ned.symm];exact he0⟩
   (fun i σ H2 _ ⟨_,_,_,_,z,_⟩=>z) ?_ ?_
  ·rintro i ky v σ H2 T0 hi ⟨v2,v3,rfl,k2,hd2,he2⟩ hT
   rw[mkv_at]at hi
   obtain⟨c,hc,hcv⟩:∃c,as[i]?=some c/\((a8 (a9 (0+i)):Key),V.ref c)=(ky,v):=by
    cases z:as[i]? with
    |none=>rw[z]at hi;cases hi
    |some c=>rw[z]at hi;exact⟨c,rfl,cC hi⟩
   cases hcv
   rw[fW]
   have b7:=(bj.mp hc).1
   have hiM:i<M.length:=by rw[<-hR0.len];exact b7
   have fM:=hR0.at_ i c _ hc (aH hiM)
   have ncd:c≠d:=dN fM h1 (by intro z;cases z)
   have nce:c≠e:=bg fM he
   have s3:aC H2 (upd H2 T0 (.tup [kV (a8 (a9 i)),V.ref c])):=(ar.new hT).same
   have hT3:(upd H2 T0 (.tup [kV (a8 (a9 i)),V.ref c])) T0=some (.tup [V.int (a9 i),V.ref c]):=ax
   generalize upd H2 T0 (.tup [kV (a8 (a9 i)),V.ref c])=H3 at s3 hT3
   refine⟨T0,_,rfl,cz.of hT3,rfl,_,_,rfl,_,_,rfl,rfl,?_⟩
   have hrow3:=s3 _ _ (k2 _ _ fM (by simp only[aO];exact ncd))
   have eg:M.getD i []=M[i]:=by rw[bT,aH hiM];rfl
   refine⟨_,rfl,_,_,rfl,rfl,_,rfl,?_⟩
   refine bF (fun h=>?_) (fun h=>?_)
   ·have h:i%2=0:=(keyZ_pos i).mp (of_decide_eq_true h)
    have z1:=numV_len hM i
    have z2:i*m<=16*8:=ot (by omega) hm
    refine⟨_,rfl,.inl ⟨rfl,_,ao.of (s3 _ _ he2)⟩,_,rfl,e,c,_,_,rfl,rfl,s3 _ _ he2,hrow3,by rw[aP,hM.row _ (cN hiM)];exact gH (fN (by omega)),?_⟩
    have k6:ar [e] H3 (upd H3 e (.lst (numV M i++M[i].map ov))):=ar.upd
    refine⟨_,_,rfl,fun b o z nb=>k6 _ _ (s3 _ _ (k2 b o z nb)) (by simp only[aO];exact bg z he),k6 _ _ (s3 _ _ hd2) (by simp only[aO];exact ned),?_⟩
    rw[numV,if_pos h,eg]
    exact ax
   ·have h:¬i%2=0:=fun z=>h (decide_eq_true ((keyZ_pos i).mpr z))
    refine⟨_,_,rfl,fun b o z nb=>s3 _ _ (k2 b o z nb),s3 _ _ hd2,?_⟩
    rw[numV,if_neg h,fV]
    exact s3 _ _ he2
  ·rintro σ H2 ⟨v2,v3,rfl,k2,hd2,he2⟩
   refine⟨hd2,⟨_,rfl,?_⟩⟩
   rw[ij,hal]at he2
   refine kk _ e he (by rw[ak ned.symm];exact he2) fun b o z _=>?_
   by_cases hb:b=d
   ·rw[hb,ax]
    rw[hb,h1]at z
    exact z
   ·rw[ak hb]
    exact k2 b o z (by simp only[aO];exact hb)
end
theorem dy.snoc{H:Hp}{ds:List aa}{Ms:List Rows}{d:aa}{M:Rows}(h:dy H ds Ms)(hd:dW H d M):dy H (ds++[d]) (Ms++[M]):=
 h.app ⟨rfl,fun i e N e1 e2=>by
  cases i with
  |zero=>cases e1;cases e2;exact hd
  |succ i=>simp at e1⟩
section
variable{P:aU}{w:aM}{K:ay}{mg:ag->Option af}{base:aA}{a:AD}
def spOfPlaces(K:ay):Sp:=fun vs H Q _=>∃(f:aa) (fs:List aa) (Fs:List Rows) (n k:Nat),vs=[.ref f,.int n]/\H f=some (.lst (fs.map V.ref))/\dy H fs Fs/\0<k/\(∀M∈Fs,∃m,cR M k m)/\Fs.length<sizeLine /\
 ∀(H':Hp) (l:aa) (ds:List aa),H' l=some (.lst (ds.map V.ref))->dy H' ds (ofN n Fs)->ar [] H H'->Q (.ref l) H'
theorem scOfPlaces:bQ ["whole","n","moves"] ["whole","n"] (aK nj):=⟨rfl,rfl,rfl,by decide +kernel,rfl,by decide +kernel,by decide +kernel⟩
theorem okOfPlaces(T:Tx K mg a):aD P w K mg base (aB P w) 2 a.j8 a.dOfPlaces ["whole","n"] (spOfPlaces K):=by
 have GP:aD P w K mg base (aB P w) 1 a.gw a.jh ["moves"] j2:=lu T
 refine cn T.gOfPlaces.fn scOfPlaces (fun vs H Q E h=>?_) (fun aY A outer s H vs Q E hr h=>?_)
 ·obtain⟨f,fs,Fs,n,k,rfl,_⟩:=h
  rfl
 ·obtain⟨f,fs,Fs,n,k,rfl,hf,hms,hk,aG,hsz,kk⟩:=h
  refine⟨_,aE (bE (pe_lc (own:=[("moves",2)]) rfl scOfPlaces.nd (ie (pv 0)) (iH (by kernel_rfl)) (fun s H C cl fp=>cV (i:=2) scOfPlaces.nd rfl (aQ rfl) (.inr rfl))
   (fun s H C cl fp=>pts_one (bP fz (bp GP hr rfl T.eP.mg T.eP.fn.kp T.eP.bd .nil passF (aj (pv 2) au)) (pv 1) (bU _))) (fun s H C cl fp=>pv 2))),?_⟩
  refine⟨_,rfl,f,rfl,⟨_,ao.of hf⟩,fun D hD=>?_⟩
  have kD:∀acc,aC H (upd H D (.lst acc)):=fun acc b o e=>by rw[ak (bg e hD)];exact e
  refine lc_list (K:=K) (a:=f) (xs:=fs.map V.ref) (fun i H'=>∃ds:List aa,H'=upd H D (.lst (ds.map V.ref))/\dy H ds (ofN n (Fs.take i))/\ds.length<=i) ⟨[],rfl,⟨rfl,fun i d M e=>by simp at e⟩,aI _⟩
   (fun i H' _ ⟨ds,e,_⟩=>by rw[e];exact ao.of (kD _ _ _ hf)) (fun i x H' hx ⟨ds,e,hds,hdl⟩=>?_) (fun H' ⟨ds,e,hds,_⟩=>?_)
  ·subst e
   obtain⟨c,hc,rfl⟩:∃c:aa,fs[i]?=some c/\x=V.ref c:=by
    rw[bH]at hx
    cases e:fs[i]? with
    |none=>rw[e]at hx;cases hx
    |some c=>rw[e]at hx;exact⟨c,rfl,(cC hx).symm⟩
   have b7:=(bj.mp hc).1
   rw[hms.len]at b7
   have hMv:=hms.at_ i c _ hc (aH b7)
   obtain⟨m,hm⟩:=aG Fs[i] (cN b7)
   have hp:pl Fs[i]=m:=hm.pl hk
   have et:ofN n (Fs.take (i+1))=ofN n (Fs.take i)++if m=n then[Fs[i]]else[]:=by
    unfold ofN
    rw[eW,aH b7,oh]
    show _++xW _ [Fs[i]]=_
    rw[rO,hp]
    by_cases z:m=n<;>simp[z]
   refine⟨rfl,_,rfl,c,Fs[i],k,m,rfl,hMv.same (kD _),hm,hk,_,rfl,rfl,_,rfl,?_⟩
   refine bF (fun h=>?_) (fun h=>?_)
   ·have h:m=n:=by
     have z:=of_decide_eq_true h
     exact Int.ofNat.inj (V.int.inj z)
    rw[if_pos h]at et
    rw[et]
    refine⟨_,rfl,_,ax,by rw[aP];omega,ds++[c],?_,hds.snoc hMv,by rw[cx];exact Nat.add_le_add_right hdl 1⟩
    rw[upd_upd,dD]
    rfl
   ·have h:m≠n:=fun z=>h (decide_eq_true (by rw[z]))
    rw[if_neg h,fV]at et
    rw[et]
    exact⟨ds,rfl,hds,by omega⟩
  ·subst e
   rw[aP,hms.len,gb]at hds
   exact kk _ D ds ax (hds.same (kD _)) fun b o z _=>kD _ b o z
end
theorem nv_get{l:List Nat}{i:Nat}(h:i<l.length):(nv l)[i]?=some (V.int (l.getD i 0:Nat)):=by
 unfold nv
 rw[bH,bT,aH h]
 rfl
theorem nv_flat(l:List Nat):(nv l).all gn=true:=by
 unfold nv
 rw[cB]
 intro y hy
 obtain⟨z,_,rfl⟩:=bc.mp hy
 rfl
theorem in_nv(x:Nat)(l:List Nat):inV (V.int (x:Nat)) (nv l)=decide (x∈l):=by
 unfold inV nv
 rw[uS,i4,lV,decide_eq_true_eq]
 constructor
 ·rintro⟨y,hy,e⟩
  have e:((y:Nat):Int)=(x:Nat):=by simpa[eqV]using e
  have:y=x:=by omega
  exact this▸hy
 ·intro h
  exact⟨x,h,by simp[eqV]⟩
theorem nv_snoc(l:List Nat)(x:Nat):nv l++[V.int (x:Nat)]=nv (l++[x]):=by unfold nv;rw[dD];rfl
theorem full_row{u:iw}{k n:Nat}(ht:hU k n u=true){j:Nat}(hj:j<2*k):∃r,(bY u n)[j]?=some r/\r.length=n/\∀x,x<n->r[x]?=some (some (cell u j x)):=by
 have hM:=gE ht
 have hl:j<(bY u n).length:=by rw[hM.len];exact hj
 refine⟨(bY u n)[j],aH hl,hM.row _ (cN hl),fun x hx=>?_⟩
 have z:=getM_cell ht hj hx
 rw[fS (aH hl)]at z
 have hx2:x<(bY u n)[j].length:=by rw[hM.row _ (cN hl)];exact hx
 rw[aH hx2]at z ⊢
 exact congrArg some z
section
variable{P:aU}{w:aM}{K:ay}{mg:ag->Option af}{base:aA}{a:AD}
def spMetFrom:Sp:=fun vs H Q _=>∃(d:aa) (u:iw) (k n p m:Nat) (L:List Nat),vs=[.ref d,.int p]/\dW H d (bY u n)/\hU k n u=true/\0<k/\k<=8/\n<=8/\Met u k n p m L /\
 ∀(H':Hp) (l:aa),H l=none->H' l=some (.lst (nv L))->ar [] H H'->Q (.ref l) H'
theorem pA:bQ ["moves","start","met","looked_at","row"] ["moves","start"] (aK nE):=⟨rfl,rfl,rfl,by decide +kernel,rfl,by decide +kernel,by decide +kernel⟩
theorem okMetFrom (T:Tx K mg a):aD P w K mg base (aB P w) 1 a.kd a.dMetFrom ["moves","start"] spMetFrom:=by
 refine cn T.gMetFrom.fn pA (fun vs H Q E h=>?_) (fun aY A outer s H vs Q E hr h=>?_)
 ·obtain ⟨d,u,k,n,p,m,L,rfl,_⟩:=h
  rfl
 ·obtain ⟨d,u,k,n,p,m,L,rfl,hd,ht,hk,hk8,hn8,M,kk⟩:=h
  have hu:=ia hr
  obtain ⟨as,h1,hR0⟩:=hd.ex
  have hM:=gE ht
  have hal:as.length=2*k:=by rw [hR0.len,hM.len]
  refine ⟨_,aF (bB (i:=2) pA.nd rfl (aQ rfl) (dI (aj (pv 1) au))) (aF (bB (i:=3) pA.nd rfl (aQ rfl) cj)
   (aF (ps_while eO (bP iC (pv 3) (dr eB (by rfl) T.dh dG (aj (pv 2) au)) (bU _))
    (aF (ps_lock (fo eO rfl (pi_values (pv 0)) (cV (i:=4) pA.nd rfl (aQ rfl))
     (aE (cF (bP op_notIn_seq (dO eG (pv 4) (dO eG (pv 2) (pv 3) (fun _ _=>rfl)) (fun _ _=>rfl)) (pv 2) rfl)
      (aE (dX (gp fJ kU kW j3 (pv 2) (aj (dO eG (pv 4) (dO eG (pv 2) (pv 3) (fun _ _=>rfl)) (fun _ _=>rfl)) au)))) cU))))
    (aE (bB (i:=3) pA.nd rfl (aQ rfl) (c5 gN (pv 3) cj)))))
   (aE (bE (pv 2))))),?_⟩
  refine ⟨_,rfl,(by show 1<=sizeLine;decide),fun q hq=>?_⟩
  have s1:aC H (upd H q (.lst [V.int p])):=(ar.new hq).same
  have hq1:(upd H q (.lst [V.int p])) q=some (.lst (nv (aJ u k p (2*k*0)))):=ax
  have nqd:q≠d:=(bg h1 hq).symm
  generalize upd H q (.lst [V.int p])=H1 at s1 hq1
  have big:∀ c,(aJ u k p c).length<=8:=fun c=>cZ (scan_small ht hk (by have:=M.lt _ (fh (by rw [M.len];exact M.m1):L.getD 0 0∈L);rwa [M.zero] at this) c) hn8
  refine ⟨fun c σ H2=>∃ (i:Nat) (v4:Option V),c=m-i/\i<=m/\σ=[some (.ref d),some (.int p),some (.ref q),some (.int (i:Nat)),v4]/\aC H H2/\H2 q=some (.lst (nv (aJ u k p (2*k*i)))),⟨m,0,none,by omega,de _,rfl,s1,hq1⟩,?_⟩
  rintro c σ H2 ⟨i,v4,rfl,him,rfl,s2,cG⟩
  refine ⟨_,rfl,_,rfl,q,_,rfl,.inl (ao.of cG),_,_,rfl,rfl,_,rfl,?_⟩
  rw [ck]
  refine bF (fun h=>?_) (fun h=>?_)
  ·have h:i<(aJ u k p (2*k*i)).length:=by have:=of_decide_eq_true h;omega
   have hi:i<m:=by
    rcases gA i m with z | z
    ·exact z
    ·rw [show i=m by omega,<-M.scan,M.len] at h
     omega
   refine ⟨fun σ' H'=>∃ v4:Option V,σ'=[some (.ref d),some (.int p),some (.ref q),some (.int ((i+1:Nat):Int)),v4]/\aC H H'/\H' q=some (.lst (nv (aJ u k p (2*k*(i+1))))),fun σ' H' ⟨v4,e,s',q'⟩=>⟨m-(i+1),by omega,i+1,v4,rfl,hi,e,s',q'⟩,?_⟩
   refine ⟨d,.dK (bf 0 as),s2 _ _ h1,trivial,fun od=>?_⟩
   refine ⟨_,rfl,d,od,_,rfl,ax,?_⟩
   refine for_vals (d:=d) (o:=od) (kvs:=bf 0 as) (fun j σ H3=>∃ v4:Option V,σ=[some (.ref d),some (.int p),some (.ref q),some (.int (i:Nat)),v4]/\ar [d] H H3/\H3 d=some (.bM od (.dK (bf 0 as)))/\H3 q=some (.lst (nv (aJ u k p (2*k*i+j)))))
    ⟨v4,rfl,fun b o z nb=>by rw [ak (fun y=>nb (by simp [y]))];exact s2 _ _ z,ax,by rw [ak nqd];exact cG⟩ (fun j σ H3 _ ⟨_,_,_,z,_⟩=>z) ?_ ?_
   ·rintro j ky v σ H3 hj ⟨v4,rfl,k3,hd3,hq3⟩
    rw [mkv_at] at hj
    obtain ⟨b,hb,hbv⟩:∃ b,as[j]?=some b/\((a8 (a9 (0+j)):Key),V.ref b)=(ky,v):=by
     cases z:as[j]? with
     | none=>rw [z] at hj;cases hj
     | some b=>rw [z] at hj;exact ⟨b,rfl,cC hj⟩
    cases hbv
    have cw:=(bj.mp hb).1
    rw [hal] at cw
    obtain ⟨r,hr1,hr2,hr3⟩:=full_row ht cw
    have fM:=hR0.at_ j b r hb hr1
    have nbd:b≠d:=dN fM h1 (by intro z;cases z)
    have hrow3:=k3 _ _ fM (by simp only [aO];exact nbd)
    obtain ⟨t,et⟩:=scan_pre u k p (2*k*i) j
    have hi3:i<(aJ u k p (2*k*i+j)).length:=by rw [et,cx];omega
    have eg:(aJ u k p (2*k*i+j)).getD i 0=(aJ u k p (2*k*i)).getD i 0:=by rw [et];exact getD_app h
    have hx:(aJ u k p (2*k*i+j)).getD i 0<n:=scan_lt ht hk (by have:=M.lt _ (fh (by rw [M.len];exact M.m1):L.getD 0 0∈L);rwa [M.zero] at this) _ _ (fh hi3)
    obtain ⟨e1,e2⟩:=fT (k:=k) (p:=i) (j:=j) cw
    have nx:aJ u k p (2*k*i+(j+1))=if cell u j ((aJ u k p (2*k*i+j)).getD i 0)∈aJ u k p (2*k*i+j) then aJ u k p (2*k*i+j) else aJ u k p (2*k*i+j)++[cell u j ((aJ u k p (2*k*i+j)).getD i 0)]:=by
     show aJ u k p (2*k*i+j+1)=_
     simp only [aJ]
     rw [e1,e2]
    have ixm:atI (nv (aJ u k p (2*k*i+j))) (i:Int)=some (V.int (((aJ u k p (2*k*i+j)).getD i 0:Nat):Int)):=eV (nv_get hi3)
    have ixr:atI (r.map ov) (((aJ u k p (2*k*i+j)).getD i 0:Nat):Int)=some (V.int ((cell u j ((aJ u k p (2*k*i+j)).getD i 0):Nat):Int)):=eV (by rw [bH,hr3 _ hx];rfl)
    have big3:=big (2*k*i+j)
    generalize cell u j ((aJ u k p (2*k*i+j)).getD i 0)=y at nx ixr
    refine ⟨_,rfl,_,rfl,_,rfl,q,_,_,_,rfl,rfl,ao.of hq3,ixm,b,_,_,_,rfl,rfl,ao.of hrow3,ixr,_,rfl,q,_,rfl,.inl (ao.of hq3),rfl,nv_flat _,_,rfl,?_⟩
    simp only [if_true,in_nv]
    refine bF (fun g=>?_) (fun g=>?_)
    ·have g:y∉aJ u k p (2*k*i+j):=by simpa using g
     refine ⟨_,rfl,.inl ⟨rfl,_,ao.of hq3⟩,_,rfl,_,rfl,_,rfl,q,_,_,_,rfl,rfl,ao.of hq3,ixm,b,_,_,_,rfl,rfl,ao.of hrow3,ixr,q,_,_,rfl,rfl,hq3,by rw [ck];exact fN (by omega),?_⟩
     rw [nv_snoc]
     have k6:ar [q] H3 (upd H3 q (.lst (nv (aJ u k p (2*k*i+j)++[y])))):=ar.upd
     refine ⟨_,rfl,fun b o z nb=>k6 _ _ (k3 b o z nb) (by simp only [aO];exact bg z hq),k6 _ _ hd3 (by simp only [aO];exact nqd.symm),?_⟩
     rw [nx,if_neg g]
     exact ax
    ·have g:y∈aJ u k p (2*k*i+j):=by simpa using g
     refine ⟨_,rfl,k3,hd3,?_⟩
     rw [nx,if_pos g]
     exact hq3
   ·rintro σ H3 ⟨v4,rfl,k3,hd3,hq3⟩
    rw [ij,hal] at hq3
    refine ⟨hd3,⟨_,rfl,_,_,rfl,rfl,v4,rfl,fun b o z=>?_,?_⟩⟩
    ·by_cases hb:b=d
     ·rw [hb,ax]
      rw [hb,h1] at z
      exact z
     ·rw [ak hb]
      exact k3 b o z (by simp only [aO];exact hb)
    ·rw [ak nqd,hq3,show 2*k*(i+1)=2*k*i+2*k by rw [rV,rW]]
  ·have h:¬ i<(aJ u k p (2*k*i)).length:=fun z=>h (decide_eq_true (by omega))
   have hi:i=m:=by
    rcases gA i m with z | z
    ·exact absurd (M.on i z) h
    ·omega
   subst hi
   rw [<-M.scan] at cG
   exact ⟨_,rfl,kk H2 q hq cG fun b o z _=>s2 b o z⟩
end
theorem ix_listK{X:Cx}{K:ay}(h:X.K=K):IxR X (rIxL K):=h▸eG
theorem mt_indexX{X:Cx}{K:ay}(h:X.K=K):MtR X "list.index" (rIndex K):=h▸mt_index
def hX(t:iw)(i:Nat):List Int:=fv (t.take ((i+1)/2)).flatten
theorem rowsTo_odd(t:iw){i:Nat}(h:¬i%2=0):hX t (i+1)=hX t i:=by unfold hX;rw[show(i+1+1)/2=(i+1)/2 by omega]
theorem rowsTo_even{t:iw}{i:Nat}{r:List Nat}(h:i%2=0)(hr:t[i/2]?=some r):hX t (i+1)=hX t i++fv r:=by
 unfold hX fv
 rw[show(i+1+1)/2=i/2+1 by omega,show(i+1)/2=i/2 by omega,eW,hr]
 simp
theorem re_row{u:iw}{k n m:Nat}{L:List Nat}(C:Cl u k n m L){i:Nat}(hi:i<k):(cP u k m L)[i]?=some (L.map fun x=>L.idxOf (cell u (2*i) x)):=by
 rw[reT_row C hi]
 congr 1
 refine iV fun a=>?_
 rw[bH,bH]
 by_cases ha:a<m
 ·have hl:a<L.length:=by rw[C.len];exact ha
  rw[fI ha,aH hl,i6,i6,bT,aH hl]
  rfl
 ·rw[d3 (by simpa using ha),d3 (by rw[C.len];omega)]
  rfl
theorem asV(l:List Nat):(fv l).map V.int=nv l:=by unfold fv nv;rw[fG];rfl
section
variable{P:aU}{w:aM}{K:ay}{mg:ag->Option af}{base:aA}{a:AD}
def tT:Sp:=fun vs H Q _=>∃(d:aa) (u:iw) (k n p m:Nat) (L:List Nat),vs=[.ref d,.int p]/\dW H d (bY u n)/\hU k n u=true/\0<k/\k<=8/\n<=8/\Met u k n p m L /\
 ∀(H':Hp) (l:aa),H l=none->H' l=some (.lst ((nums (cP u k m L)).map V.int))->ar [] H H'->Q (.ref l) H'
theorem lg:bQ ["moves","start","met","numbers","number","row","place"] ["moves","start"] (aK mI):=⟨rfl,rfl,rfl,by decide +kernel,rfl,by decide +kernel,by decide +kernel⟩
theorem okNumbersFrom (T:Tx K mg a):aD P w K mg base (aB P w) 2 a.je a.qD ["moves","start"] tT:=by
 have GF:aD P w K mg base (aB P w) 1 a.kd a.dMetFrom ["moves","start"] spMetFrom:=okMetFrom T
 refine cn T.lj.fn lg (fun vs H Q E h=>?_) (fun aY A outer s H vs Q E hr h=>?_)
 ·obtain ⟨d,u,k,n,p,m,L,rfl,_⟩:=h
  rfl
 ·obtain ⟨d,u,k,n,p,m,L,rfl,hd,ht,hk,hk8,hn8,M,kk⟩:=h
  have hu:=ia hr
  refine ⟨_,aF (bB (i:=2) lg.nd rfl (lX rfl) (bp GF hr rfl T.gMetFrom.mg T.gMetFrom.fn.kp T.gMetFrom.bd .nil bC (aj (pv 0) (aj (pv 1) au))))
   (aF (bB (i:=3) lg.nd rfl (aQ rfl) (dI au))
   (aF (ps_lock (fo eO rfl (pC (pv 0)) (pg_tup (n:=2) rfl (gT (cV (i:=4) lg.nd rfl (aQ rfl)) (gT (cV (i:=5) lg.nd rfl (lX rfl)) pgs_nil)))
    (aE (cF (bP hZ (pv 4) cj (bU _)) (aE (dX (gp fJ sh sj mt_extend (pv 3) (aj
     (pe_lc (own:=[("place",6)]) rfl lg.nd (ie (pv 2)) (iH (by kernel_rfl)) (fun s H C cl fp=>cV (i:=6) lg.nd rfl (aQ rfl) (.inr rfl)) (fun s H C cl fp=>pts_nil)
      (fun s H C cl fp=>pe_bmK (K:=K) rfl fJ vN yB (mt_indexX (K:=K) rfl) (pv 2) (aj (dO (ix_listK (K:=K) rfl) (pv 5) (pv 6) (fun _ _=>rfl)) au))) au)))) cU))))
   (aE (bE (pv 3))))),?_⟩
  obtain ⟨as,h1,hR0⟩:=hd.ex
  have hM:=gE ht
  have hal:as.length=2*k:=by rw [hR0.len,hM.len]
  refine ⟨_,rfl,_,rfl,d,u,k,n,p,m,L,rfl,hd,ht,hk,hk8,hn8,M,fun H1 q hq0 hq1 k1=>?_⟩
  have s1:aC H H1:=k1.same
  refine ⟨(by show 0<=sizeLine;decide),fun e he=>?_⟩
  have nqe:q≠e:=fun z=>by rw [z,he] at hq1;cases hq1
  have hd1:=s1 _ _ h1
  have ned:d≠e:=bg hd1 he
  have nqd:q≠d:=fun z=>by rw [z,h1] at hq0;cases hq0
  have s0:aC H (upd H1 e (.lst [])):=fun b o z=>(ar.new he).same _ _ (s1 _ _ z)
  have hqe:(upd H1 e (.lst [])) q=some (.lst (nv L)):=by rw [ak nqe];exact hq1
  have he0:(upd H1 e (.lst [])) e=some (.lst ((hX (cP u k m L) 0).map V.int)):=ax
  generalize upd H1 e (.lst [])=H0 at s0 he0 hqe
  have hLm:=M.mn
  refine ⟨d,.dK (bf 0 as),s0 _ _ h1,trivial,fun od=>?_⟩
  refine ⟨_,rfl,d,od,_,rfl,ax,?_⟩
  have he2:H e=none:=by
   cases z:H e with
   | none=>rfl
   | some o=>rw [s1 _ _ z] at he;cases he
  refine pq (d:=d) (o:=od) (kvs:=bf 0 as) (fun i σ H2=>∃ (v4 v5 v6:Option V),σ=[some (.ref d),some (.int p),some (.ref q),some (.ref e),v4,v5,v6]/\ar [d] H H2/\H2 d=some (.bM od (.dK (bf 0 as)))/\H2 q=some (.lst (nv L))/\H2 e=some (.lst ((hX (cP u k m L) i).map V.int))/\(hX (cP u k m L) i).length<=i*8)
   ⟨none,none,none,rfl,fun b o z nb=>by rw [ak (fun y=>nb (by simp [y]))];exact s0 _ _ z,ax,by rw [ak nqd];exact hqe,by rw [ak ned.symm];exact he0,aI _⟩
   (fun i σ H2 _ ⟨_,_,_,_,_,z,_⟩=>z) ?_ ?_
  ·rintro i ky v σ H2 T0 hi ⟨v4,v5,v6,rfl,k2,hd2,cG,he3,hlen⟩ hT
   rw [mkv_at] at hi
   obtain ⟨c,hc,hcv⟩:∃ c,as[i]?=some c/\((a8 (a9 (0+i)):Key),V.ref c)=(ky,v):=by
    cases z:as[i]? with
    | none=>rw [z] at hi;cases hi
    | some c=>rw [z] at hi;exact ⟨c,rfl,cC hi⟩
   cases hcv
   rw [fW]
   have b7:=(bj.mp hc).1
   rw [hal] at b7
   obtain ⟨r,hr1,hr2,hr3⟩:=full_row ht b7
   have fM:=hR0.at_ i c r hc hr1
   have ncd:c≠d:=dN fM h1 (by intro z;cases z)
   have s3:aC H2 (upd H2 T0 (.tup [kV (a8 (a9 i)),V.ref c])):=(ar.new hT).same
   have hT3:(upd H2 T0 (.tup [kV (a8 (a9 i)),V.ref c])) T0=some (.tup [V.int (a9 i),V.ref c]):=ax
   generalize upd H2 T0 (.tup [kV (a8 (a9 i)),V.ref c])=H3 at s3 hT3
   refine ⟨T0,_,rfl,cz.of hT3,rfl,_,_,rfl,_,_,rfl,rfl,?_⟩
   have hrow3:=s3 _ _ (k2 _ _ fM (by simp only [aO];exact ncd))
   refine ⟨_,rfl,_,_,rfl,rfl,_,rfl,?_⟩
   refine bF (fun h=>?_) (fun h=>?_)
   ·have h:i % 2=0:=(keyZ_pos i).mp (of_decide_eq_true h)
    have ei:2*(i / 2)=i:=by omega
    have hrw:=re_row M.toCl (i:=i / 2) (by omega)
    rw [ei] at hrw
    refine ⟨_,rfl,.inl ⟨rfl,_,ao.of (s3 _ _ he3)⟩,?_⟩
    refine ⟨_,rfl,q,rfl,⟨_,ao.of (s3 _ _ cG)⟩,fun D hD=>?_⟩
    have kD:∀ acc,aC H3 (upd H3 D (.lst acc)):=fun acc b o z=>by rw [ak (bg z hD)];exact z
    refine lc_list (K:=K) (a:=q) (xs:=nv L) (fun b H'=>H'=upd H3 D (.lst (nv ((L.take b).map fun x=>L.idxOf (cell u i x))))) rfl (fun b H' _ z=>by rw [z];exact ao.of (kD _ _ _ (s3 _ _ cG))) (fun b y H' hy z=>?_) fun H' z=>?_
    ·subst z
     have hbl:b<L.length:=by
      have:=(bj.mp hy).1
      rwa [ck] at this
     have ey:y=V.int ((L[b]:Nat):Int):=by
      rw [nv_get hbl,bT,aH hbl] at hy
      exact (cC hy).symm
     subst ey
     have hxn:L[b]<n:=M.lt _ (cN hbl)
     have hbm:b<m:=by rw [<-M.len];exact hbl
     have eLb:L.getD b 0=L[b]:=by rw [bT,aH hbl];rfl
     have hin:cell u i L[b]∈L:=by have z:=M.cl i b b7 hbm;rwa [eLb] at z
     have hix:=iq.mpr hin
     have hrowD:=kD (nv ((L.take b).map fun x=>L.idxOf (cell u i x))) _ _ hrow3
     refine ⟨rfl,_,rfl,.inl ⟨rfl,_,ao.of (kD _ _ _ (s3 _ _ cG))⟩,_,rfl,_,rfl,c,_,_,V.int ((cell u i L[b]:Nat):Int),rfl,rfl,ao.of hrowD,eV (by rw [bH,hr3 _ hxn];rfl),
      q,nv L,_,L.idxOf (cell u i L[b]),V.int ((cell u i L[b]:Nat):Int),rfl,rfl,ao.of (kD _ _ _ (s3 _ _ cG)),rfl,nv_flat _,by rw [nv_get hix,gF hin],by simp [eqV],fun m' z' hm' hz'=>?_,_,ax,?_,?_⟩
     ·have hml:m'<L.length:=by omega
      rw [nv_get hml] at hz'
      cases hz'
      have ne:L.getD m' 0≠cell u i L[b]:=fun z=>by
       have q1:=iP M.nd (a:=m') hml
       rw [z] at q1
       omega
      have:¬ ((L.getD m' 0:Nat):Int)=((cell u i L[b]:Nat):Int):=fun z=>ne (by omega)
      simpa [eqV] using this
     ·rw [ck,aP,gG]
      exact fN (by have:=M.len;omega)
     ·show upd (upd H3 D _) D _=upd H3 D _
      rw [upd_upd,nv_snoc,eW,aH hbl,dD]
      rfl
    ·subst z
     rw [ck,gb]
     have nDe:D≠e:=fun z=>by rw [z,s3 _ _ he3] at hD;cases hD
     have hlr:(L.map fun x=>L.idxOf (cell u i x)).length<=8:=by rw [aP,M.len];omega
     refine ⟨e,D,_,_,rfl,rfl,kD _ _ _ (s3 _ _ he3),ax,?_,?_⟩
     ·rw [aP,ck]
      exact gH (fN (by omega))
     have k6:ar [e] (upd H3 D (.lst (nv (L.map fun x=>L.idxOf (cell u i x))))) (upd (upd H3 D (.lst (nv (L.map fun x=>L.idxOf (cell u i x))))) e (.lst ((hX (cP u k m L) i).map V.int++nv (L.map fun x=>L.idxOf (cell u i x))))):=ar.upd
     refine ⟨_,_,_,rfl,fun b o z nb=>k6 _ _ (kD _ _ _ (s3 _ _ (k2 b o z nb))) (by simp only [aO];exact bg z he2),k6 _ _ (kD _ _ _ (s3 _ _ hd2)) (by simp only [aO];exact ned),k6 _ _ (kD _ _ _ (s3 _ _ cG)) (by simp only [aO];exact nqe),?_,?_⟩
     ·rw [ax,rowsTo_even h hrw,dD,asV]
     ·rw [rowsTo_even h hrw,cx]
      unfold fv
      rw [aP]
      omega
   ·have h:¬ i % 2=0:=fun z=>h (decide_eq_true ((keyZ_pos i).mpr z))
    refine ⟨_,_,_,rfl,fun b o z nb=>s3 _ _ (k2 b o z nb),s3 _ _ hd2,s3 _ _ cG,?_,?_⟩
    ·rw [rowsTo_odd _ h]
     exact s3 _ _ he3
    ·rw [rowsTo_odd _ h]
     omega
  ·rintro σ H2 ⟨v4,v5,v6,rfl,k2,hd2,cG,he3,_⟩
   refine ⟨hd2,⟨_,rfl,?_⟩⟩
   rw [ij,hal] at he3
   have et:hX (cP u k m L) (2*k)=nums (cP u k m L):=by
    unfold hX nums
    rw [show (2*k+1) / 2=k by omega,lU (by unfold cP;simp)]
   rw [et] at he3
   refine kk _ e he2 (by rw [ak ned.symm];exact he3) fun b o z _=>?_
   by_cases hb:b=d
   ·rw [hb,ax]
    rw [hb,h1] at z
    exact z
   ·rw [ak hb]
    exact k2 b o z (by simp only [aO];exact hb)
end
theorem bootMin:bootBuiltins "min" = some (.builtin "min"):=by decide +kernel
def zOf:V->Int
 |.int z=>z
 |_=>0
def listZ(H:Hp)(r:aa):List Int:=match H r with
 |some (.lst xs)=>xs.map zOf
 |_=>[]
theorem listZ_of{H:Hp}{r:aa}{z:List Int}(h:H r=some (.lst (z.map V.int))):listZ H r=z:=by
 unfold listZ
 rw[h]
 show(z.map V.int).map zOf=z
 rw[fG]
 exact kL _
structure ZsAt (c:List V->HO) (H:Hp) (rs:List aa) (zs:List (List Int)):Prop where
 len:rs.length=zs.length
 at_:∀(i:Nat) (r:aa) (z:List Int),rs[i]?=some r->zs[i]?=some z->H r=some (c (z.map V.int))
theorem ZsAt.keep{c:List V->HO}{H H':Hp}{rs:List aa}{zs:List (List Int)}(h:ZsAt c H rs zs)(s:∀r∈rs,∀o,H r=some o->H' r=some o):ZsAt c H' rs zs:=
 ⟨h.len,fun i r z e1 e2=>s r (cW e1) _ (h.at_ i r z e1 e2)⟩
theorem ZsAt.snoc{c:List V->HO}{H:Hp}{rs:List aa}{zs:List (List Int)}{r:aa}{z:List Int}(h:ZsAt c H rs zs)(hr:H r=some (c (z.map V.int))):ZsAt c H (rs++[r]) (zs++[z]):=by
 refine⟨by rw[cx,cx,h.len];rfl,fun i x y e1 e2=>?_⟩
 rcases pX i rs.length with q|q|q
 ·rw[dQ q]at e1
  rw[dQ (by rw[<-h.len];exact q)]at e2
  exact h.at_ i x y e1 e2
 ·rw[e9 (by omega),show i-rs.length=0 by omega]at e1
  rw[e9 (by have:=h.len;omega),show i-zs.length=0 by have:=h.len;omega]at e2
  cases e1;cases e2;exact hr
 ·rw[d3 (by rw[cx];exact q)]at e1
  cases e1
theorem ZsAt.mem{c:List V->HO}{H:Hp}{rs:List aa}{zs:List (List Int)}(h:ZsAt c H rs zs){r:aa}(hr:r∈rs):∃z∈zs,H r=some (c (z.map V.int)):=by
 obtain⟨i,hi⟩:=fm hr
 have hl:=(bj.mp hi).1
 rw[h.len]at hl
 exact⟨_,cN hl,h.at_ i r _ hi (aH hl)⟩
theorem ZsAt.of{c:List V->HO}{H:Hp}{rs:List aa}{zs:List (List Int)}(h:ZsAt c H rs zs){z:List Int}(hz:z∈zs):∃r∈rs,H r=some (c (z.map V.int)):=by
 obtain⟨i,hi⟩:=fm hz
 have hl:=(bj.mp hi).1
 rw[<-h.len]at hl
 exact⟨_,cN hl,h.at_ i _ z (aH hl) hi⟩
section
variable{P:aU}{w:aM}{K:ay}{mg:ag->Option af}{base:aA}{a:AD}
def spLeastAlike:Sp:=fun vs H Q _=>∃(d:aa) (u:iw) (k n:Nat),vs=[.ref d]/\dW H d (bY u n)/\hU k n u=true/\0<k/\k<=8/\1<=n/\n<=8/\InOrd u k n /\
 ∀(H':Hp) (b:aa) (z:List Int),H' b=some (.lst (z.map V.int))->(∃p,p<n/\z=nums (kR u n p))->(∀p,p<n->ltI (nums (kR u n p)) z=false)->ar [] H H'->Q (.ref b) H'
theorem ua:bQ ["moves","place"] ["moves"] (aK lq):=⟨rfl,rfl,rfl,by decide +kernel,rfl,by decide +kernel,by decide +kernel⟩
theorem okLeastAlike(T:Tx K mg a):aD P w K mg base (aB P w) 3 a.jf a.um ["moves"] spLeastAlike:=by
 have GP:aD P w K mg base (aB P w) 2 a.gw a.jh ["moves"] j2:=(lu T).mono (by decide)
 have GN:aD P w K mg base (aB P w) 2 a.je a.qD ["moves","start"] tT:=okNumbersFrom T
 refine cn T.qR.fn ua (fun vs H Q E h=>?_) (fun aY A outer s H vs Q E hr h=>?_)
 ·obtain⟨d,u,k,n,rfl,_⟩:=h
  rfl
 ·obtain⟨d,u,k,n,rfl,hd,ht,hk,hk8,hn1,hn8,ho,kk⟩:=h
  have hu4:(cxE P w K mg base ["moves","place"] "least_alike" lq a.jf aY A outer s H E).A.units+4<cLine:=by
   refine iu (m:=(A.deeper _).units+16*2+200) ?_ hr.un
   show(A.deeper _).units+4<=(A.deeper _).units+16*2+200
   omega
  refine⟨_,aE (bE (dr (cr_minL rfl hu4) (by rfl) T.b_min bootMin (aj (pe_lc (own:=[("place",1)]) rfl ua.nd
   (ph rfl T.gW (aj (bp GP hr rfl T.eP.mg T.eP.fn.kp T.eP.bd .nil bC (aj (pv 0) au)) au)) (iH (by kernel_rfl)) (fun s H C cl fp=>cV (i:=1) ua.nd rfl (aQ rfl) (.inr rfl)) (fun s H C cl fp=>pts_nil)
   (fun s H C cl fp=>bp GN hr rfl T.lj.mg T.lj.fn.kp T.lj.bd .nil passF (aj (pv 0) (aj (pv 1) au)))) au))),?_⟩
  refine⟨_,rfl,d,_,k,n,rfl,hd,gE ht,hk,(n:Int),rfl,by omega,by omega,fun D hD=>?_⟩
  rw[gi]
  refine lc_range (lo:=0) (n:=n) (fun j H'=>∃rs:List aa,aC H H'/\H' D=some (.lst (rs.map V.ref))/\ZsAt HO.lst H' rs ((aT j).map fun p=>nums (kR u n p))/\∀r∈rs,r≠D)
   ⟨[],fun b o e=>by rw[ak (bg e hD)];exact e,ax,⟨rfl,fun i r z e=>by simp at e⟩,fun r z=>absurd z (by simp)⟩ (fun j H' hj ⟨rs,s4,hD4,hrs,ba⟩=>?_) (fun H' ⟨rs,s4,hD4,hrs,ba⟩=>?_)
  ·obtain⟨L,M⟩:=from_met ht hk hn1 ho hj
   have hrl:rs.length=j:=by rw[hrs.len,aP,fH]
   refine⟨rfl,_,rfl,_,rfl,d,u,k,n,j,n,L,by rw[oE];rfl,hd.same s4,ht,hk,hk8,hn8,M,fun H5 r hr0 hr5 k5=>?_⟩
   have s5:aC H' H5:=k5.same
   have nrD:r≠D:=fun z=>by rw[z,hD4]at hr0;cases hr0
   rw[<-same_is ht hk M]at hr5
   refine⟨_,s5 _ _ hD4,by rw[aP,hrl];exact fN (by omega),rs++[r],fun b o z=>?_,by rw[ax,dD];rfl,?_,fun q hq=>?_⟩
   ·rw[ak (bg z hD)]
    exact s5 _ _ (s4 _ _ z)
   ·rw[f9,dD]
    refine ZsAt.snoc (hrs.keep fun q hq o z=>?_) ?_
    ·rw[ak (ba q hq)]
     exact s5 _ _ z
    ·rw[ak nrD]
     exact hr5
   ·rcases cQ.mp hq with z|z
    ·exact ba q z
    ·rw[aO.mp z]
     exact nrD
  ·refine⟨D,rs,listZ H',rfl,ao.of hD4,fun r hr=>?_,by rw[hrs.len,aP,fH];omega,fun b hB=>?_⟩
   ·obtain⟨z,_,e⟩:=hrs.mem hr
    rw[listZ_of e]
    exact e
   ·obtain⟨hb1,hb2⟩:=hB
    obtain⟨z,hz,e⟩:=hrs.mem hb1
    rw[listZ_of e]at hb2
    obtain⟨p,hp,rfl⟩:=bc.mp hz
    refine kk H' b _ e ⟨p,bt.mp hp,rfl⟩ (fun p' hp'=>?_) fun b o z _=>s4 b o z
    obtain⟨r',hr',e'⟩:=hrs.of (bc.mpr ⟨p',bt.mpr hp',rfl⟩)
    have:=hb2 r' hr'
    rwa[listZ_of e']at this
end
theorem bootAll:bootBuiltins "all" = some (.builtin "all"):=by decide +kernel
theorem bootSet:bootBuiltins "set" = some (.type "set"):=by decide +kernel
theorem op_eqDK{X:Cx}{K:ay}(h:X.K=K)(hu:X.A.units+64<cLine):OpR X (compareOp .Eq) (rEqD K):=h▸op_eqD hu
theorem call_tupleK{X:Cx}{K:ay}(h:X.K=K):gR X (.type "tuple") (fun xs H Q=>∃p ys,xs=[.ref p]/\((ao K H p ys/\∀l,H l=none->Q (.ref l) (upd H l (.tup ys)))\/(cz K H p ys/\Q (.ref p) H))):=h▸call_tuple_of
theorem eqv_ints:∀l1 l2:List Int,qc (l1.map oM) (l2.map oM)=decide (l1=l2)
 |[],[]=>by simp[qc]
 |[],_ :: _=>by simp[qc]
 |_ :: _,[]=>by simp[qc]
 |x :: t,y :: u=>by
  rw[dB,dB,qc,eqv_ints t u,sA]
  by_cases h:x=y
  ·subst h;simp
  ·simp[h]
theorem dp_ints{K:ay}{H:Hp}:∀ns:List Int,DpAll K H (ns.map V.int) (ns.map oM)
 |[]=>.nil
 |n :: t=>.cons (.int n) (dp_ints t)
theorem canLay_ints:∀ns:List Int,yS (ns.map oM)=true
 |[]=>rfl
 |n :: t=>by
  rw[dB,yS,canLay_ints t]
  rfl
theorem depth_ints:∀ns:List Int,yT (ns.map oM)=0
 |[]=>rfl
 |n :: t=>by
  rw[dB,yT,depth_ints t]
  rfl
theorem shaped_ints(ns:List Int):sD (PyData.list (ns.map oM))=true:=by
 unfold sD
 rw[PyData.canLay0,canLay_ints,PyData.depth,depth_ints]
 rfl
section
variable{P:aU}{w:aM}{K:ay}{mg:ag->Option af}{base:aA}{a:AD}
def spIsNormal:Sp:=fun vs H Q _=>∃(d:aa) (u:iw) (k n:Nat),vs=[.ref d]/\dW H d (bY u n)/\hU k n u=true/\0<k/\k<=8/\1<=n/\n<=8/\InOrd u k n/\∀H':Hp,ar [] H H'->Q (.bl (jz u n)) H'
theorem rb:bQ ["moves","itself","place"] ["moves"] (aK nh):=⟨rfl,rfl,rfl,by decide +kernel,rfl,by decide +kernel,by decide +kernel⟩
theorem okIsNormal(T:Tx K mg a):aD P w K mg base (aB P w) 3 a.j6 a.dIsNormal ["moves"] spIsNormal:=by
 have GP:aD P w K mg base (aB P w) 2 a.gw a.jh ["moves"] j2:=(lu T).mono (by decide)
 have GT:aD P w K mg base (aB P w) 2 a.jM a.tJ ["moves"] spTableNumbers:=(okTableNumbers T).mono (by decide)
 have GN:aD P w K mg base (aB P w) 2 a.je a.qD ["moves","start"] tT:=okNumbersFrom T
 refine cn T.gIsNormal.fn rb (fun vs H Q E h=>?_) (fun aY A outer s H vs Q E hr h=>?_)
 ·obtain⟨d,u,k,n,rfl,_⟩:=h
  rfl
 ·obtain⟨d,u,k,n,rfl,hd,ht,hk,hk8,hn1,hn8,ho,kk⟩:=h
  have hu64:=hr.units
  refine⟨_,aF (bB (i:=1) rb.nd rfl (lX rfl) (bp GT hr rfl T.qA.mg T.qA.fn.kp T.qA.bd .nil bC (aj (pv 0) au)))
   (aE (bE (dr (cr_all rfl) (by rfl) T.b_all bootAll (aj (pe_lc (own:=[("place",2)]) rfl rb.nd
   (ph rfl T.gW (aj (bp GP hr rfl T.eP.mg T.eP.fn.kp T.eP.bd .nil bC (aj (pv 0) au)) au)) (iH (by kernel_rfl)) (fun s H C cl fp=>cV (i:=2) rb.nd rfl (aQ rfl) (.inr rfl)) (fun s H C cl fp=>pts_nil)
   (fun s H C cl fp=>pe_cmpR (op_eqDK (K:=K) rfl hu64) (bp GN hr rfl T.lj.mg T.lj.fn.kp T.lj.bd .nil passF (aj (pv 0) (aj (pv 2) au))) (pv 1) (bU _))) au)))),?_⟩
  refine⟨_,rfl,d,_,k,n,rfl,hd,gE ht,hk8,hn8,fun H1 q hq0 hq1 k1=>?_⟩
  have s1:aC H H1:=k1.same
  rw[numV_full ht k (aI _),lU (by rw[(ib ht).1];exact aI _)]at hq1
  refine⟨_,rfl,d,_,k,n,rfl,hd.same s1,gE ht,hk,(n:Int),rfl,by omega,by omega,fun D hD=>?_⟩
  rw[gi]
  refine lc_range (lo:=0) (n:=n) (fun j H'=>aC H1 H'/\H' D=some (.lst (((aT j).map fun p=>kR u n p==u).map V.bl)))
   ⟨fun b o e=>by rw[ak (bg e hD)];exact e,ax⟩ (fun j H' hj ⟨s4,hD4⟩=>?_) (fun H' ⟨s4,hD4⟩=>?_)
  ·obtain⟨L,M⟩:=from_met ht hk hn1 ho hj
   refine⟨rfl,_,rfl,_,rfl,d,u,k,n,j,n,L,by rw[oE];rfl,(hd.same s1).same s4,ht,hk,hk8,hn8,M,fun H5 r hr0 hr5 k5=>?_⟩
   have s5:aC H' H5:=k5.same
   rw[<-same_is ht hk M]at hr5
   refine⟨_,rfl,_,_,.lst (ao.of hr5) (dp_ints _),.lst (ao.of (s5 _ _ (s4 _ _ hq1))) (dp_ints _),shaped_ints _,shaped_ints _,_,s5 _ _ hD4,by rw[aP,aP,fH];exact fN (by omega),fun b o z=>?_,?_⟩
   ·rw[ak (bg z hD)]
    exact s5 _ _ (s4 _ _ z)
   ·rw[ax,f9,dD,dD]
    congr 3
    show[V.bl (sA _ _)]=[V.bl _]
    congr 2
    rw[sA,eqv_ints]
    rw[i4,decide_eq_true_eq,beq_iff_eq]
    constructor
    ·intro e
     refine nums_inj ?_ ht e
     rw[same_is ht hk M]
     exact ic ht M.toCl
    ·intro e
     show nums _=nums _
     rw[e]
  ·refine⟨D,(aT n).map fun p=>kR u n p==u,rfl,ao.of hD4,?_⟩
   have e:(((aT n).map fun p=>kR u n p==u).all id)=jz u n:=by
    unfold jz
    rw[uT]
    rfl
   rw[e]
   exact kk H' fun b o z _=>s4 _ _ (s1 b o z)
end
def lK(u:iw)(n:Nat)(z:List Int):Prop:=(∃p,p<n/\z=nums (kR u n p))/\∀p,p<n->ltI (nums (kR u n p)) z=false
def tupZ(H:Hp)(r:aa):List Int:=match H r with
 |some (.tup xs)=>xs.map zOf
 |_=>[]
theorem tupZ_of{H:Hp}{r:aa}{z:List Int}(h:H r=some (.tup (z.map V.int))):tupZ H r=z:=by
 unfold tupZ
 rw[h]
 show(z.map V.int).map zOf=z
 rw[fG]
 exact kL _
section
variable{P:aU}{w:aM}{K:ay}{mg:ag->Option af}{base:aA}{a:AD}
def spCountUnalike(K:ay):Sp:=fun vs H Q _=>∃(l:aa) (ds:List aa) (Fs:List Rows) (k n:Nat),vs=[.ref l]/\H l=some (.lst (ds.map V.ref))/\dy H ds Fs/\0<k/\k<=8/\1<=n/\n<=8/\Fs.length<=9000 /\
 (∀M∈Fs,∃u,M=bY u n/\hU k n u=true/\InOrd u k n) /\
 ∀(H':Hp) (ls zs:List (List Int)),ls.length=Fs.length->(∀(i:Nat) u z,Fs[i]?=some (bY u n)->hU k n u=true->ls[i]?=some z->lK u n z)->zs.Nodup->(∀z,z∈zs↔z∈ls)->ar [] H H'->Q (.int zs.length) H'
theorem tu:bQ ["whole","moves"] ["whole"] (aK lb):=⟨rfl,rfl,rfl,by decide +kernel,rfl,by decide +kernel,by decide +kernel⟩
theorem okCountUnalike(T:Tx K mg a):aD P w K mg base (aB P w) 4 a.jc a.tK ["whole"] (spCountUnalike K):=by
 have GL:aD P w K mg base (aB P w) 3 a.jf a.um ["moves"] spLeastAlike:=okLeastAlike T
 refine cn T.qB.fn tu (fun vs H Q E h=>?_) (fun aY A outer s H vs Q E hr h=>?_)
 ·obtain⟨l,ds,Fs,k,n,rfl,_⟩:=h
  rfl
 ·obtain⟨l,ds,Fs,k,n,rfl,hl,hds,hk,hk8,hn1,hn8,hF9,hFs,kk⟩:=h
  have hu8:(cxE P w K mg base ["whole","moves"] "count_unalike" lb a.jc aY A outer s H E).A.units+8<cLine:=by
   refine iu (m:=(A.deeper _).units+16*3+200) ?_ hr.un
   show(A.deeper _).units+8<=(A.deeper _).units+16*3+200
   omega
  refine⟨_,aE (bE (dr cr_lenN (by rfl) T.dh dG (aj (pj (cr_setT rfl hu8) (by rfl) T.b_set bootSet (aj (pe_lc (own:=[("moves",1)]) rfl tu.nd (ie (pv 0)) (iH (by kernel_rfl))
   (fun s H C cl fp=>cV (i:=1) tu.nd rfl (aQ rfl) (.inr rfl)) (fun s H C cl fp=>pts_nil)
   (fun s H C cl fp=>pj (call_tupleK (K:=K) rfl) (by rfl) T.b_tuple bootTuple' (aj (bp GL hr rfl T.qR.mg T.qR.fn.kp T.qR.bd .nil passF (aj (pv 1) au)) au))) au)) au))),?_⟩
  refine⟨_,rfl,l,rfl,⟨_,ao.of hl⟩,fun D hD=>?_⟩
  refine lc_list (K:=K) (a:=l) (xs:=ds.map V.ref) (fun i H'=>∃(rs:List aa) (ls:List (List Int)),aC H H'/\H' D=some (.lst (rs.map V.ref))/\ZsAt HO.tup H' rs ls/\ls.length=i/\(∀r∈rs,r≠D) /\
    ∀(i:Nat) u z,Fs[i]?=some (bY u n)->hU k n u=true->ls[i]?=some z->lK u n z)
   ⟨[],[],fun b o e=>by rw[ak (bg e hD)];exact e,ax,⟨rfl,fun i r z e=>by simp at e⟩,rfl,fun r z=>absurd z (by simp),fun i u z _ _ e=>by simp at e⟩
   (fun i H' _ ⟨rs,ls,z,_⟩=>ao.of (z _ _ hl)) (fun i x H' hx ⟨rs,ls,s4,hD4,hrs,hls,ba,hlst⟩=>?_) (fun H' ⟨rs,ls,s4,hD4,hrs,hls,ba,hlst⟩=>?_)
  ·obtain⟨c,hc,rfl⟩:∃c:aa,ds[i]?=some c/\x=V.ref c:=by
    rw[bH]at hx
    cases e:ds[i]? with
    |none=>rw[e]at hx;cases hx
    |some c=>rw[e]at hx;exact⟨c,rfl,(cC hx).symm⟩
   have b7:=(bj.mp hc).1
   rw[hds.len]at b7
   have hM:=aH b7
   have hMv:=hds.at_ i c _ hc hM
   obtain⟨u,eM,ht,ho⟩:=hFs _ (cN b7)
   rw[eM]at hMv
   have hrl:rs.length=i:=by rw[hrs.len,hls]
   refine⟨rfl,_,rfl,c,u,k,n,rfl,hMv.same s4,ht,hk,hk8,hn1,hn8,ho,fun H5 b z hb5 z1 z2 k5=>?_⟩
   have s5:aC H' H5:=k5.same
   refine⟨b,_,rfl,.inl ⟨ao.of hb5,fun t ht0=>?_⟩⟩
   have s6:aC H5 (upd H5 t (.tup (z.map V.int))):=(ar.new ht0).same
   have ht6:(upd H5 t (.tup (z.map V.int))) t=some (.tup (z.map V.int)):=ax
   have ntD:t≠D:=fun y=>by rw[y,s5 _ _ hD4]at ht0;cases ht0
   generalize upd H5 t (.tup (z.map V.int))=H6 at s6 ht6
   refine⟨_,s6 _ _ (s5 _ _ hD4),by rw[aP,hrl];exact du (by omega:i<9001) (by decide),rs++[t],ls++[z],fun b o z=>?_,by rw[ax,dD];rfl,?_,by rw[cx,hls];rfl,fun q hq=>?_,fun j u' z' e1 e2 e3=>?_⟩
   ·rw[ak (bg z hD)]
    exact s6 _ _ (s5 _ _ (s4 _ _ z))
   ·refine ZsAt.snoc (hrs.keep fun q hq o z=>?_) ?_
    ·rw[ak (ba q hq)]
     exact s6 _ _ (s5 _ _ z)
    ·rw[ak ntD]
     exact ht6
   ·rcases cQ.mp hq with y|y
    ·exact ba q y
    ·rw[aO.mp y]
     exact ntD
   ·rcases gA j ls.length with y|y
    ·rw[dQ y]at e3
     exact hlst j u' z' e1 e2 e3
    ·have ej:j=i:=by
      have:=(bj.mp e3).1
      rw[cx]at this
      simp at this
      omega
     subst ej
     rw[<-hls,e9 (aI _),rX]at e3
     cases e3
     rw[hM,eM]at e1
     have eu:=cC e1
     have e4:u=u':=by rw[<-nI ht,eu,nI e2]
     subst e4
     exact⟨z1,z2⟩
  ·rw[aP,hds.len]at hls
   refine⟨D,rs,tupZ H',rfl,ao.of hD4,fun r hr=>?_,by rw[hrs.len,hls];exact hF9,fun q zs nd hz hq=>?_⟩
   ·obtain⟨z,_,e⟩:=hrs.mem hr
    rw[tupZ_of e]
    exact e
   ·have s7:aC H' (upd H' q (.ext (SetN q zs.length))):=(ar.new hq).same
    refine⟨q,zs.length,rfl,ax,kk _ ls zs hls hlst nd (fun z=>?_) fun b o z _=>s7 _ _ (s4 b o z)⟩
    rw[hz]
    constructor
    ·rintro⟨r,hr,e⟩
     obtain⟨z',hz',e'⟩:=hrs.mem hr
     rw[tupZ_of e']at e
     exact e▸hz'
    ·intro h
     obtain⟨r,hr,e⟩:=hrs.of h
     exact⟨r,hr,tupZ_of e⟩
end
theorem count_pl(m:Nat):∀Fs:List Rows,(fv (Fs.map pl)).countP (fun z=>z==(m:Int))=(ofN m Fs).length
 |[]=>rfl
 |M :: Fs=>by
  have ih:=count_pl m Fs
  unfold fv at ih ⊢
  unfold ofN at ih ⊢
  rw[dB,dB,vk,ih,rO]
  by_cases e:pl M=m
  ·rw[if_pos (by simp[e]),if_pos (by simp[e])]
   rfl
  ·rw[if_neg (by simpa using fun z=>e (by omega)),if_neg (by simp[e])]
   rfl
theorem fall_small:∀l,l<8->∀m,m<9->eU l m<=5040:=by decide
def ku(C A:Nat->Nat)(t j:Nat):Nat:=((aT j).map fun q=>eU (t-1) q*(A (q+1)*C (t-(q+1)))).sum
theorem partSum_succ(C A:Nat->Nat)(t j:Nat):ku C A t (j+1)=ku C A t j+eU (t-1) j*(A (j+1)*C (t-(j+1))):=by
 unfold ku
 rw[f9,dD,xV]
 simp
section
variable{P:aU}{w:aM}{K:ay}{mg:ag->Option af}{base:aA}{a:AD}
def spCountAll(K:ay):Sp:=fun vs H Q _=>∃(l:aa) (ds:List aa) (Fs:List Rows) (k n:Nat) (C:Nat->Nat),vs=[.ref l,.int n]/\H l=some (.lst (ds.map V.ref))/\dy H ds Fs/\0<k/\n<=8/\Fs.length<=160000/\(∀M∈Fs,∃m,cR M k m) /\
 C 0=1/\(∀t,1<=t->t<=n->C t=ku C (fun m=>(ofN m Fs).length) t t)/\∀H':Hp,ar [] H H'->Q (.int (C n:Nat)) H'
theorem iG:bQ ["whole","places","sizes","counts","total","count","ways","met","moves"] ["whole","places"] (aK ni):=⟨rfl,rfl,rfl,by decide +kernel,rfl,by decide +kernel,by decide +kernel⟩
theorem okCountAll (T:Tx K mg a):aD P w K mg base (aB P w) 2 a.j7 a.dCountAll ["whole","places"] (spCountAll K):=by
 have GP:aD P w K mg base (aB P w) 1 a.gw a.jh ["moves"] j2:=lu T
 refine cn T.gCountAll.fn iG (fun vs H Q E h=>?_) (fun aY A outer s H vs Q E hr h=>?_)
 ·obtain ⟨l,ds,Fs,k,n,C,rfl,_⟩:=h
  rfl
 ·obtain ⟨l,ds,Fs,k,n,C,rfl,hl,hds,hk,hn8,hF,aG,hC0,hC,kk⟩:=h
  refine ⟨_,aF (ps_setLc (i:=2) (own:=[("moves",8)]) rfl iG.nd rfl rfl (sw_true rfl rfl rfl rfl) (ie (pv 0)) (iH (by kernel_rfl)) (fun s H C cl fp=>cV (i:=8) iG.nd rfl (aQ rfl) (.inr rfl)) (fun s H C cl fp=>pts_nil)
    (fun s H C cl fp=>bp GP hr rfl T.eP.mg T.eP.fn.kp T.eP.bd .nil passF (aj (pv 8) au)))
   (aF (bB (i:=3) iG.nd rfl (aQ rfl) (dI (aj cj au)))
   (aF (fo eO rfl (pi_range2 rfl T.gW (aj cj (aj (c5 gN (pv 1) cj) au))) (cV (i:=4) iG.nd rfl (aQ rfl))
    (aF (bB (i:=5) iG.nd rfl (aQ rfl) cj)
    (aF (bB (i:=6) iG.nd rfl (aQ rfl) cj)
    (aF (fo eO rfl (pi_range2 rfl T.gW (aj cj (aj (c5 gN (pv 4) cj) au))) (cV (i:=7) iG.nd rfl (aQ rfl))
     (aF (bB (i:=5) iG.nd rfl (aQ rfl) (c5 gN (pv 5) (c5 op_mul (c5 op_mul (gp fJ yA PySem.F.type_list_count mt_countI (pv 2) (aj (pv 7) au)) (pv 6)) (dO eG (pv 3) (c5 op_sub (pv 4) (pv 7)) (fun _ _=>rfl)))))
     (aE (bB (i:=6) iG.nd rfl (aQ rfl) (c5 op_mul (pv 6) (c5 op_sub (pv 4) (pv 7)))))))
    (aE (dX (gp fJ kU kW j3 (pv 3) (aj (pv 5) au))))))))
   (aE (bE (dO eG (pv 3) (pv 1) (fun _ _=>rfl)))))),?_⟩
  refine ⟨_,rfl,l,rfl,⟨_,ao.of hl⟩,fun D hD=>?_⟩
  have kD:∀ acc,aC H (upd H D (.lst acc)):=fun acc b o e=>by rw [ak (bg e hD)];exact e
  refine lc_list (K:=K) (a:=l) (xs:=ds.map V.ref) (fun i H'=>H'=upd H D (.lst (nv ((Fs.take i).map pl)))) rfl (fun i H' _ e=>by rw [e];exact ao.of (kD _ _ _ hl)) (fun i x H' hx e=>?_) (fun H' e=>?_)
  ·subst e
   obtain ⟨c,hc,rfl⟩:∃ c:aa,ds[i]?=some c/\x=V.ref c:=by
    rw [bH] at hx
    cases e:ds[i]? with
    | none=>rw [e] at hx;cases hx
    | some c=>rw [e] at hx;exact ⟨c,rfl,(cC hx).symm⟩
   have b7:=(bj.mp hc).1
   rw [hds.len] at b7
   have hM:=aH b7
   have hMv:=hds.at_ i c _ hc hM
   obtain ⟨m,hm⟩:=aG Fs[i] (cN b7)
   refine ⟨rfl,_,rfl,c,Fs[i],k,m,rfl,hMv.same (kD _),hm,hk,_,ax,?_,?_⟩
   ·rw [ck,aP,gG]
    exact du (by omega:min i Fs.length<160001) (by decide)
   ·show upd (upd H D _) D _=upd H D _
    rw [upd_upd,nv_snoc,eW,hM,dD,<-hm.pl hk]
    rfl
  ·subst e
   rw [aP,hds.len,gb]
   have s1:=kD (nv (Fs.map pl))
   have hD1:(upd H D (.lst (nv (Fs.map pl)))) D=some (.lst (nv (Fs.map pl))):=ax
   generalize upd H D (.lst (nv (Fs.map pl)))=H1 at s1 hD1
   refine ⟨(by show 1<=sizeLine;decide),fun q hq=>?_⟩
   have nqD:D≠q:=fun z=>by rw [z,hq] at hD1;cases hD1
   have s2:aC H1 (upd H1 q (.lst [V.int 1])):=(ar.new hq).same
   have cG:(upd H1 q (.lst [V.int 1])) q=some (.lst (nv ((aT 1).map C))):=by
    rw [ax]
    show _=some (HO.lst [V.int ((C 0:Nat):Int)])
    rw [hC0]
    rfl
   have hD2:=s2 _ _ hD1
   generalize upd H1 q (.lst [V.int 1])=H2 at s2 cG hD2
   have hqH:H q=none:=by
    cases z:H q with
    | none=>rfl
    | some o=>rw [s1 _ _ z] at hq;cases hq
   refine ⟨_,rfl,_,_,rfl,rfl,1,(n:Int)+1,rfl,⟨by decide,by decide,by omega,by omega⟩,?_⟩
   rw [show ((n:Int)+1-1).toNat=n by omega]
   refine m8 (lo:=1) (n:=n) (fun i σ H3=>∃ (v4 v5 v6 v7 v8:Option V),σ=[some (.ref l),some (.int n),some (.ref D),some (.ref q),v4,v5,v6,v7,v8]/\aC H H3/\H3 D=some (.lst (nv (Fs.map pl)))/\H3 q=some (.lst (nv ((aT (i+1)).map C))))
    ⟨none,none,none,none,none,rfl,fun b o z=>s2 _ _ (s1 _ _ z),hD2,cG⟩ (fun i σ H3 hi hP=>?_) (fun σ H3 hP=>?_)
   ·obtain ⟨v4,v5,v6,v7,v8,rfl,s3,hD3,hq3⟩:=hP
    have ei:(1:Int)+(i:Nat)=((i+1:Nat):Int):=by omega
    refine ⟨_,rfl,_,_,rfl,rfl,1,(1+(i:Int))+1,rfl,⟨by decide,by decide,by omega,by omega⟩,?_⟩
    rw [show ((1:Int)+(i:Nat)+1-1).toNat=i+1 by omega]
    refine m8 (lo:=1) (n:=i+1) (fun j σ H4=>∃ (v7 v8:Option V),H4=H3/\σ=[some (.ref l),some (.int n),some (.ref D),some (.ref q),some (.int (1+(i:Nat))),some (.int (ku C (fun m=>(ofN m Fs).length) (i+1) j:Nat)),some (.int (eU i j:Nat)),v7,v8])
     ⟨v7,v8,rfl,rfl⟩ (fun j σ H4 hj hP=>?_) (fun σ H4 hP=>?_)
    ·obtain ⟨v7,v8,rfl,rfl⟩:=hP
     have hf:=fall_small i (by omega) j (by omega)
     have hA:(ofN (j+1) Fs).length<=160000:=cZ (n6 _ _) hF
     have eA:((fv (Fs.map pl)).countP fun z=>z==(1:Int)+(j:Nat))=(ofN (j+1) Fs).length:=by
      rw [show (1:Int)+(j:Nat)=((j+1:Nat):Int) by omega]
      exact count_pl (j+1) Fs
     have hD3':H4 D=some (.lst ((fv (Fs.map pl)).map V.int)):=by rw [asV];exact hD3
     have ix:atI (nv ((aT (i+1)).map C)) ((1:Int)+(i:Nat)-(1+(j:Nat)))=some (V.int ((C (i+1-(j+1)):Nat):Int)):=by
      rw [show (1:Int)+(i:Nat)-(1+(j:Nat))=((i+1-(j+1):Nat):Int) by omega]
      refine eV ?_
      have hl:i+1-(j+1)<((aT (i+1)).map C).length:=by rw [aP,fH];omega
      rw [nv_get hl,bT,bH,fI (by omega)]
      rfl
     have hAf:((ofN (j+1) Fs).length:Int)*(eU i j:Nat)<=160000*5040:=Int.mul_le_mul (by omega) (by omega) (by omega) (by omega)
     have hAf0:0<=((ofN (j+1) Fs).length:Int)*(eU i j:Nat):=Int.mul_nonneg (by omega) (by omega)
     refine ⟨_,rfl,_,rfl,.inl ⟨rfl,_,ao.of hD3⟩,_,rfl,D,fv (Fs.map pl),_,rfl,rfl,ao.of hD3',?_⟩
     rw [eA]
     refine ⟨_,rfl,_,_,rfl,rfl,.inl ⟨by omega,by omega⟩,_,rfl,_,rfl,_,rfl,_,_,rfl,rfl,q,_,_,_,rfl,rfl,ao.of hq3,ix,_,_,rfl,rfl,.inl ⟨by omega,by omega⟩,_,_,rfl,rfl,?_⟩
     refine ⟨_,rfl,_,rfl,_,rfl,_,_,rfl,rfl,_,_,rfl,rfl,.inl ⟨by omega,by omega⟩,some (.int (1+(j:Nat))),v8,rfl,?_⟩
     have e1:((ku C (fun m=>(ofN m Fs).length) (i+1) j:Nat):Int)+((ofN (j+1) Fs).length:Int)*(eU i j:Nat)*(C (i+1-(j+1)):Nat)=((ku C (fun m=>(ofN m Fs).length) (i+1) (j+1):Nat):Int):=by
      rw [partSum_succ,show i+1-1=i from rfl,Int.natCast_add,vS,vS,Int.mul_comm ((ofN (j+1) Fs).length:Int) (eU i j:Nat),Int.mul_assoc]
     have e2:((eU i j:Nat):Int)*((1:Int)+(i:Nat)-(1+(j:Nat)))=((eU i (j+1):Nat):Int):=by
      rw [fall_succ,vS,show (1:Int)+(i:Nat)-(1+(j:Nat))=((i-j:Nat):Int) by omega]
     show [_,_,_,_,_,some (V.int (_+_)),some (V.int (_*_)),_,_]=_
     rw [e1,e2]
    ·obtain ⟨v7,v8,rfl,rfl⟩:=hP
     refine ⟨_,rfl,.inl ⟨rfl,_,ao.of hq3⟩,_,rfl,q,_,_,rfl,rfl,hq3,by rw [ck,aP,fH];exact fN (by omega),?_⟩
     have k6:ar [q] H4 (upd H4 q (.lst (nv ((aT (i+1)).map C)++[V.int (ku C (fun m=>(ofN m Fs).length) (i+1) (i+1):Nat)]))):=ar.upd
     refine ⟨_,_,_,_,_,rfl,fun b o z=>k6 _ _ (s3 b o z) (by simp only [aO];exact bg z hqH),k6 _ _ hD3 (by simp only [aO];exact nqD),?_⟩
     rw [ax,nv_snoc,f9 (n:=i+1),dD,<-hC (i+1) (by omega) (by omega)]
     rfl
   ·obtain ⟨v4,v5,v6,v7,v8,rfl,s3,hD3,hq3⟩:=hP
    have hl:n<((aT (n+1)).map C).length:=by rw [aP,fH];omega
    have eg:((aT (n+1)).map C).getD n 0=C n:=by rw [bT,bH,fI (by omega)];rfl
    refine ⟨_,rfl,_,rfl,q,_,_,V.int ((C n:Nat):Int),rfl,rfl,ao.of hq3,eV (by rw [nv_get hl,eg]),kk H3 fun b o z _=>s3 b o z⟩
def jm(g:jy)(n:Nat)(bX:Int):Nat:=if bX=0 then(Sa54.all g n).length else if bX=1 then(x8 g n).length else if bX=2 then((Sa54.all g n).filter fun t=>jz t n).length else(Sa54.every g n).length
def iM(n bX:Int)(b:List Nat):List Int:=if ¬(0<=bX/\bX<=3)\/¬(1<=n/\n<=8)then[-2]else match gd b with
 |.error f=>[x9 f (-3)]
 |.ok g=>if l4 g.letters.length<n then[-2]else[(jm g n.toNat bX:Nat)]
def tU(K:ay)(a:AD):Sp:=fun vs H Q E=>∃(n bX:Int) (t:aa) (b:List Nat),vs=[.int n,.int bX,.ref t]/\ao K H t (nv b)/\b.length<=4096 /\
 (1<=n->n<=8->∀g,gd b=.ok g->fac n.toNat^g.letters.length<=20000) /\
 (∀(c:aa) (q':Option aa) (code:Int) (H':Hp),CodeOf a (.ref c) code->iM n bX b=[code]->E (.ref c) q' H')/\∀(H':Hp) (l:aa),H' l=some (.lst ((iM n bX b).map V.int))->Q (.ref l) H'
theorem mF:bQ ["n","what","text","group","up_to_n","whole","moves"] ["n","what","text"] (aK mJ):=⟨rfl,rfl,rfl,by decide +kernel,rfl,by decide +kernel,by decide +kernel⟩
theorem okCountAnswer(T:Tx K mg a):aD P w K mg base (aB P w) 9 a.jO a.tW ["n","what","text"] (tU K a):=by
 have GR:aD P w K mg base (aB P w) 8 a.iF a.o5 ["number","least","most"] (qJ a):=(t8 T).mono (by decide)
 have GG:aD P w K mg base (aB P w) 8 a.jD a.sN ["n","text"] (wA K a):=okGroupWithPlaces T
 have GM:aD P w K mg base (aB P w) 8 a.jV a.uj ["group","most"] (spWholeMoves K a):=(okWholeMoves T).mono (by decide)
 have GO:aD P w K mg base (aB P w) 8 a.j8 a.dOfPlaces ["whole","n"] (spOfPlaces K):=(okOfPlaces T).mono (by decide)
 have GA:aD P w K mg base (aB P w) 8 a.j7 a.dCountAll ["whole","places"] (spCountAll K):=(okCountAll T).mono (by decide)
 have GU:aD P w K mg base (aB P w) 8 a.jc a.tK ["whole"] (spCountUnalike K):=(okCountUnalike T).mono (by decide)
 have GI:aD P w K mg base (aB P w) 8 a.j6 a.dIsNormal ["moves"] spIsNormal:=(okIsNormal T).mono (by decide)
 refine cn T.qF.fn mF (fun vs H Q E h=>?_) (fun aY A outer s H vs Q E hr h=>?_)
 ·obtain⟨n,bX,t,b,rfl,_⟩:=h
  rfl
 ·obtain⟨n,bX,t,b,rfl,ht,hb,hfac,kE,kQ⟩:=h
  refine⟨_,aF (dX (bp GR hr rfl T.gC.mg T.gC.fn.kp T.gC.bd .nil bC (aj (pv 1) (aj (bV T.iCOUNT_WHOLE) (aj (bV T.iCOUNT_ALL) au)))))
   (aF (bB (i:=3) mF.nd rfl (aQ rfl) (bp GG hr rfl T.qh.mg T.qh.fn.kp T.qh.bd .nil bC (aj (pv 0) (aj (pv 2) au))))
   (aF (bB (i:=4) mF.nd rfl (aQ rfl) (bp GM hr rfl T.qP.mg T.qP.fn.kp T.qP.bd .nil bC (aj (pv 3) (aj (pv 0) au))))
   (aF (cF (bP fz (pv 1) (bV T.iCOUNT_ALL) (bU _)) (aE (bE (dI (aj (bp GA hr rfl T.gCountAll.mg T.gCountAll.fn.kp T.gCountAll.bd .nil bC (aj (pv 4) (aj (pv 0) au))) au)))) cU)
   (aF (bB (i:=5) mF.nd rfl (aQ rfl) (bp GO hr rfl T.gOfPlaces.mg T.gOfPlaces.fn.kp T.gOfPlaces.bd .nil bC (aj (pv 4) (aj (pv 0) au))))
   (aF (cF (bP fz (pv 1) (bV T.iCOUNT_UNALIKE) (bU _)) (aE (bE (dI (aj (bp GU hr rfl T.qB.mg T.qB.fn.kp T.qB.bd .nil bC (aj (pv 5) au)) au)))) cU)
   (aF (cF (bP fz (pv 1) (bV T.iCOUNT_NORMAL) (bU _)) (aE (bE (dI (aj (dr eB (by rfl) T.dh dG (aj (pe_lc (own:=[("moves",6)]) rfl mF.nd (ie (pv 5)) (iH (by kernel_rfl))
     (fun s H C cl fp=>cV (i:=6) mF.nd rfl (aQ rfl) (.inr rfl)) (fun s H C cl fp=>pts_one (pt_val (bp GI hr rfl T.gIsNormal.mg T.gIsNormal.fn.kp T.gIsNormal.bd .nil passF (aj (pv 6) au)))) (fun s H C cl fp=>pv 6)) au)) au)))) cU)
   (aE (bE (dI (aj (dr eB (by rfl) T.dh dG (aj (pv 5) au)) au)))))))))),?_⟩
  have cA:CodeOf a (.ref a.d7) (-2):=.inr (.inl ⟨rfl,rfl⟩)
  have cT:CodeOf a (.ref a.eF) (-3):=.inr (.inr (.inl ⟨rfl,rfl⟩))
  have cL:CodeOf a (.ref a.cE) (-6):=.inr (.inr (.inr (.inr (.inr ⟨rfl,rfl⟩))))
  refine⟨_,rfl,bX,0,3,rfl,fun w1 w2=>?_,fun z=>kE _ _ _ _ cA (by unfold iM;rw[if_pos (.inl z)])⟩
  refine⟨_,rfl,_,rfl,n,t,b,rfl,ht,hb,fun z H'=>kE _ _ _ H' cA (by unfold iM;rw[if_pos (.inr z)]),fun h1 h8=>?_⟩
  have hin:¬(¬(0<=bX/\bX<=3)\/¬(1<=n/\n<=8)):=fun z=>z.elim (fun y=>y ⟨w1,w2⟩) fun y=>y ⟨h1,h8⟩
  unfold iM at kE kQ
  rw[if_neg hin]at kE kQ
  have hfac:=hfac h1 h8
  cases eg:gd b with
  |error f=>
   rw[eg]at kE
   cases f with
   |wrong=>exact fun H'=>kE _ _ _ H' cT rfl
   |full=>exact fun H'=>kE _ _ _ H' cL rfl
  |ok g=>
   rw[eg]at kE kQ
   simp only at kE kQ
   have hfac:=hfac g eg
   refine⟨fun hm H'=>kE _ _ _ H' cA (by rw[if_pos hm]),fun hm H1 p sg GA GO k1=>?_⟩
   rw[if_neg (by omega)]at kE kQ
   obtain⟨m,hmn⟩:∃m:Nat,n=(m:Int):=⟨n.toNat,by omega⟩
   subst hmn
   rw[gi]at kE kQ hfac
   refine⟨_,rfl,_,rfl,p,g,sg,m,rfl,GA,GO,by omega,by omega,hfac,fun H2 f fs Fs ts hf hms hsi cH k2=>?_⟩
   have hm1:1<=m:=by omega
   have hFl:Fs.length<=160000:=by
    have hfl:=hsi.bound GO.pos
    have hfl3:m*fac m^g.letters.length<=8*20000:=ot (by omega) hfac
    omega
   have aG:∀M∈Fs,∃q,cR M g.letters.length q:=fun M hM=>by obtain⟨u,q,S,rfl⟩:=hsi.fnd M hM;exact⟨q,gE S.tb⟩
   have h9:=few_sols GO.pos GO.le GO.wok cH hsi hm1 (by omega) hfac
   unfold jm at kQ
   have fin:∀(H':Hp) (x:Nat),[(x:Int)]=[((jm g m bX:Nat):Int)]->∀q,H' q=none->Q (.ref q) (upd H' q (.lst [V.int (x:Nat)])):=fun H' x e q _=>by
    refine kQ _ q ?_
    rw[ax]
    have e2:x=jm g m bX:=by have:=(iA e).1;omega
    rw[e2]
    rfl
   refine⟨_,rfl,rfl,_,rfl,?_⟩
   refine bF (fun h=>?_) (fun h=>?_)
   ·have h:bX=3:=by
     have z:=of_decide_eq_true h
     exact V.int.inj z
    refine⟨_,rfl,_,rfl,f,fs,Fs,g.letters.length,m,fun q=>(Sa54.every g q).length,rfl,hf,hms,GO.pos,by omega,hFl,aG,every_zero g,fun q q1 q2=>?_,fun H3 k3=>?_⟩
    ·exact every_count GO.pos GO.wok cH hsi q1 q2
    ·refine⟨(by show 1<=sizeLine;decide),fun q hq=>fin H3 _ ?_ q hq⟩
     unfold jm
     rw[if_neg (by omega),if_neg (by omega),if_neg (by omega)]
   ·have h3:bX≠3:=fun z=>h (decide_eq_true (by rw[z]))
    refine⟨_,rfl,_,rfl,f,fs,Fs,m,g.letters.length,rfl,hf,hms,GO.pos,aG,du (by omega:Fs.length<160001) (by decide),fun H3 l ds hl hds k3=>?_⟩
    have hM2:∀M∈ofN m Fs,∃u,M=bY u m/\hU g.letters.length m u=true/\InOrd u g.letters.length m:=fun M hM=>by
     obtain⟨z1,z2⟩:=f7.mp hM
     obtain⟨u,q,S,rfl⟩:=hsi.fnd M z1
     have z3:pl (bY u q)=m:=of_decide_eq_true z2
     rw[(gE S.tb).pl GO.pos]at z3
     subst z3
     exact⟨u,rfl,S.tb,S.ord⟩
    have pm:=found_perm GO.pos hm1 cH hsi
    have sols:=pf (m:=m) GO.pos hsi
    refine⟨_,rfl,rfl,_,rfl,?_⟩
    refine bF (fun h=>?_) (fun h=>?_)
    ·have h:bX=1:=V.int.inj (of_decide_eq_true h)
     refine⟨_,rfl,l,ds,ofN m Fs,g.letters.length,m,rfl,hl,hds,GO.pos,GO.le,hm1,by omega,h9,hM2,fun H4 ls zs hls hlst nd hz k4=>?_⟩
     refine⟨(by show 1<=sizeLine;decide),fun q hq=>fin H4 _ ?_ q hq⟩
     unfold jm
     rw[if_neg (by omega),if_pos h]
     have key:zs.length=(x8 g m).length:=by
      have look:∀t,Sol ts g.letters.length m t m->∃z,z∈ls/\lK t m z:=fun t S=>by
       obtain⟨M,hM,e⟩:=bc.mp ((sols.2 t).mpr S)
       obtain⟨u,eM,ht',_⟩:=hM2 M hM
       obtain⟨i,hi⟩:=fm hM
       have b7:=(bj.mp hi).1
       rw[<-hls]at b7
       rw[eM,nI ht']at e
       subst e
       rw[eM]at hi
       exact⟨ls[i],cN b7,hlst i u _ hi ht' (aH b7)⟩
      have look2:∀z,z∈ls->∃t,Sol ts g.letters.length m t m/\lK t m z:=fun z hz'=>by
       obtain⟨i,hi⟩:=fm hz'
       have b7:=(bj.mp hi).1
       rw[hls]at b7
       obtain⟨u,eM,ht',_⟩:=hM2 _ (cN b7)
       have h2:(ofN m Fs)[i]?=some (bY u m):=by rw[aH b7,eM]
       refine⟨u,?_,hlst i u z h2 ht' hi⟩
       refine(sols.2 u).mp (bc.mpr ⟨bY u m,cW h2,nI ht'⟩)
      have one:∀t z z',lK t m z->lK t m z'->z=z':=fun t z z' ⟨⟨p1,q1,e1⟩,a1⟩ ⟨⟨p2,q2,e2⟩,a2⟩=>by
       have x1:=a1 p2 q2
       have x2:=a2 p1 q1
       rw[<-e2]at x1
       rw[<-e1]at x2
       exact ltI_anti x2 x1
      have ch:∀t,∃z:List Int,Sol ts g.letters.length m t m->z∈ls/\lK t m z:=fun t=>by
       by_cases S:Sol ts g.letters.length m t m
       ·obtain⟨z,hz'⟩:=look t S
        exact⟨z,fun _=>hz'⟩
       ·exact⟨[],fun z=>absurd z S⟩
      obtain⟨lst,bZ⟩:=vR ch
      refine classes_due GO.pos hm1 GO.wok cH (lst:=lst) (fun t S=>(bZ t S).2.1) (fun t S=>(bZ t S).2.2) nd fun z=>?_
      rw[hz]
      constructor
      ·intro hz'
       obtain⟨t,S,il⟩:=look2 z hz'
       exact⟨t,S,one t _ _ il (bZ t S).2⟩
      ·rintro⟨t,S,rfl⟩
       exact(bZ t S).1
     rw[key]
    ·have h1':bX≠1:=fun z=>h (decide_eq_true (by rw[z]))
     refine⟨_,rfl,rfl,_,rfl,?_⟩
     refine bF (fun h=>?_) (fun h=>?_)
     ·have h:bX=2:=V.int.inj (of_decide_eq_true h)
      refine⟨_,rfl,l,rfl,⟨_,ao.of hl⟩,fun D hD=>?_⟩
      refine lc_list (K:=K) (a:=l) (xs:=ds.map V.ref) (fun i H'=>∃es:List aa,aC H3 H'/\H' D=some (.lst (es.map V.ref))/\es.length=(((ofN m Fs).take i).filter fun M=>jz (bz M g.letters.length) m).length)
       ⟨[],fun b o e=>by rw[ak (bg e hD)];exact e,ax,rfl⟩ (fun i H' _ ⟨es,z,_⟩=>ao.of (z _ _ hl)) (fun i x H' hx ⟨es,s4,hD4,hel⟩=>?_) (fun H' ⟨es,s4,hD4,hel⟩=>?_)
      ·obtain⟨c,hc,rfl⟩:∃c:aa,ds[i]?=some c/\x=V.ref c:=by
        rw[bH]at hx
        cases e:ds[i]? with
        |none=>rw[e]at hx;cases hx
        |some c=>rw[e]at hx;exact⟨c,rfl,(cC hx).symm⟩
       have b7:=(bj.mp hc).1
       rw[hds.len]at b7
       have hM:=aH b7
       have hMv:=hds.at_ i c _ hc hM
       obtain⟨u,eM,ht',ho⟩:=hM2 _ (cN b7)
       rw[eM]at hMv
       have et:(((ofN m Fs).take (i+1)).filter fun M=>jz (bz M g.letters.length) m)=(((ofN m Fs).take i).filter fun M=>jz (bz M g.letters.length) m)++if jz u m=true then[bY u m]else[]:=by
        rw[eW,hM,oh,eM]
        congr 1
        show xW _ [bY u m]=_
        rw[rO,nI ht']
        rfl
       have hels:es.length<=9000:=by
        rw[hel]
        exact cZ (n6 _ _) (cZ (by rw[gG];omega) h9)
       refine⟨rfl,_,rfl,c,u,g.letters.length,m,rfl,hMv.same s4,ht',GO.pos,GO.le,hm1,by omega,ho,fun H5 k5=>?_⟩
       have s5:aC H' H5:=k5.same
       refine⟨_,rfl,?_⟩
       refine bF (fun hn=>?_) (fun hn=>?_)
       ·rw[if_pos hn]at et
        refine⟨_,rfl,_,s5 _ _ hD4,by rw[aP];exact du (by omega:es.length<9001) (by decide),es++[c],fun b o z=>?_,by rw[ax,dD];rfl,?_⟩
        ·rw[ak (bg z hD)]
         exact s5 _ _ (s4 _ _ z)
        ·rw[et,cx,cx,hel]
         rfl
       ·rw[if_neg hn,fV]at et
        exact⟨es,fun b o z=>s5 _ _ (s4 _ _ z),s5 _ _ hD4,by rw[et];exact hel⟩
      ·rw[aP,hds.len,gb]at hel
       refine⟨D,_,rfl,.inl (ao.of hD4),?_⟩
       rw[aP,hel]
       refine⟨(by show 1<=sizeLine;decide),fun q hq=>fin H' _ ?_ q hq⟩
       unfold jm
       rw[if_neg (by omega),if_neg (by omega),if_pos h]
       have z:=(pm.filter fun t=>jz t m).length_eq
       rw[List.filter_map,aP]at z
       rw[<-z]
       rfl
     ·have h2':bX≠2:=fun z=>h (decide_eq_true (by rw[z]))
      refine⟨_,rfl,l,_,rfl,.inl (ao.of hl),?_⟩
      rw[aP,hds.len]
      refine⟨(by show 1<=sizeLine;decide),fun q hq=>fin H3 _ ?_ q hq⟩
      unfold jm
      rw[if_pos (by omega),<-pm.length_eq,aP]
def spCount(K:ay)(P0:aa):Sp:=fun vs H Q _=>∃(n bX:Int) (t:aa) (b:List Nat),vs=[.int n,.int bX,.ref t]/\ao K H t (nv b)/\b.length<=4096 /\
 (1<=n->n<=8->∀g,gd b=.ok g->fac n.toNat^g.letters.length<=20000)/\H P0=some (.bz #[])/\∀(H':Hp) (l:aa),H' l=some (.lst ((iM n bX b).map V.int))->Q (.ref l) H'
theorem scCount:bQ ["n","what","text"] ["n","what","text"] (aK nF):=⟨rfl,rfl,rfl,by decide +kernel,rfl,by decide +kernel,by decide +kernel⟩
theorem okCount(T:Tx K mg a){c0 P0:aa}(MI:MakerIn base mg c0 P0)(hc:a.dGwCount.code=.ref c0):aD P w K mg base (aB P w) 12 a.iJ a.dGwCount ["n","what","text"] (spCount K P0):=by
 refine okMk T.gGwCount.fn hc scCount (fun vs H Q E h=>?_) (fun A outer s H vs Q E hr h=>?_)
 ·obtain⟨n,bX,t,b,rfl,_⟩:=h
  rfl
 ·obtain⟨n,bX,t,b,rfl,ht,hb,hfac,hP,k⟩:=h
  refine⟨_,aE (bE (pe_lamcall (p0:="find_answer") (c0:=c0) (P0:=P0) ⟨rfl,rfl,rfl⟩ ⟨rfl,MI.hd,MI.bm⟩ ⟨rfl,rfl,rfl,by decide +kernel,by kernel_rfl⟩ rfl T.qg.mg T.qg.fn.kp bC (by kernel_rfl) (by kernel_rfl) rfl rfl)),?_⟩
  refine⟨[.int n,.int bX,.ref t],rfl,hP,fun base1 f c ctv pm cl more KX NX LA=>?_⟩
  have GA:aD P w K mg base1 (aB P w) 9 a.jO a.tW ["n","what","text"] (tU K a):=okCountAnswer T
  have GF:=lam_ok (CX:=aB P w) (P:=P) (w:=w) (K:=K) (mg:=mg) (k:=9) (sp:=fun H Q E=>tU K a [.int n,.int bX,.ref t] H Q E) LA ⟨rfl,rfl,rfl,by decide +kernel,by kernel_rfl⟩ (fun A outer s H Q E hr h=>⟨_,bp GA hr rfl T.qF.mg T.qF.fn.kp T.qF.bd .nil takes_lam.pass (aj (pv 0) (aj (pv 1) (aj (pv 2) au))),_,rfl,_,rfl,_,rfl,h⟩)
  refine⟨11,_,_,okAnswer T GF LA.ob rfl (fun s=>BindsTo.of_eq rfl),hr,T.qg.bd,rfl,fun E' hE=>⟨rfl,n,bX,t,b,rfl,ao.bz ht hP,hb,hfac,fun c q' code H' hco e=>hE _ _ _ ⟨code,hco,fun l hl=>k _ l (by rw[ax,e];rfl)⟩,k⟩⟩
end
theorem within18(n:Int):(iX n 1 8=false)↔¬(1<=n/\n<=8):=by
 unfold iX
 by_cases h1:1<=n<;>by_cases h2:n<=8<;>simp[h1,h2]
theorem within4096(k:Nat)(h:k<=4096):iX (k:Int) 0 4096=true:=by unfold iX;simp;omega
def flat(a:Sa54.Ans):List Int:=a.v ::a.l.map fun(y:Nat)=>(y:Int)
theorem does_count(b:List Nat)(k:Nat)(n bX:Int)(hk:k<=4096):flat (oN (.count b (k:Int) n bX))=iM n bX b:=by
 have hg:Sa54.good (.count b (k:Int) n bX)=iX bX 0 3:=by
  show(iX (k:Int) 0 4096&&iX bX 0 3)=_
  rw[within4096 k hk]
  rfl
 have hw:(iX bX 0 3=false)↔¬(0<=bX/\bX<=3):=by
  unfold iX
  by_cases h1:0<=bX<;>by_cases h2:bX<=3<;>simp[h1,h2]
 by_cases hn:¬(0<=bX/\bX<=3)\/¬(1<=n/\n<=8)
 ·have e:oN (.count b (k:Int) n bX)=rZ (-2):=by
   unfold oN
   refine if_pos (hn.imp (fun z=>?_) fun z=>(within18 n).mpr z)
   rw[hg]
   exact hw.mpr z
  rw[e]
  unfold iM
  rw[if_pos hn]
  rfl
 ·have h0:¬(Sa54.good (.count b (k:Int) n bX)=false\/iX (Sa54.placesOf (.count b (k:Int) n bX)) 1 8=false):=by
   rintro(z|z)
   ·rw[hg]at z
    exact hn (.inl (hw.mp z))
   ·exact hn (.inr ((within18 n).mp z))
  have e:oN (.count b (k:Int) n bX)=match gd b with
    |.error e=>rZ (x9 e (-3))
    |.ok g=>if l4 g.letters.length<n then rZ (-2)else rZ (jm g n.toNat bX:Nat):=by
   unfold oN
   rw[if_neg h0]
   rfl
  rw[e]
  unfold iM
  rw[if_neg hn]
  cases eg:gd b with
  |error f=>rfl
  |ok g=>
   simp only
   by_cases hm2:l4 g.letters.length<n
   ·rw[if_pos hm2,if_pos hm2]
    rfl
   ·rw[if_neg hm2,if_neg hm2]
    rfl
theorem nats_eq(l:List Int):Sx32Neutral.nats l=l.map kX:=rfl
theorem nv_of(ns:List Int)(h:∀x∈ns,0<=x):ns.map V.int=nv (ns.map kX):=by
 unfold nv
 rw[fG]
 refine pR fun x hx=>?_
 have:=h x hx
 show V.int x=V.int ((x.toNat:Nat):Int)
 congr 1
 omega
theorem in_list{lo hi:Int}{a b:Nat}{ns:List Int}(h:(wa a b ns&&ns.all (qf lo hi))=true):ns.length<=b/\∀x∈ns,lo<=x/\x<=hi:=by
 simp only[gh]at h
 refine⟨?_,fun x hx=>?_⟩
 ·have z:=h.1
  unfold wa zM at z
  simp at z
  omega
 ·have z:=cB.mp h.2 x hx
  unfold qf at z
  simpa using z
theorem app_eq(f:PySem.W.Codec.fn Bool PySem.Challenge.rw_tablegroups_s03_gw_count.args)(n j:Int)(ts:List Int)(un:PySem.W.Codec.denoteAll []):PySem.W.Codec.app PySem.Challenge.rw_tablegroups_s03_gw_count.args f (n,j,ts,un)=(show Int->Int->List Int->Bool from f) n j ts:=rfl
theorem asked_is:(show Int->Int->List Int->Bool from PySem.Challenge.rw_tablegroups_s03_gw_count.asked)=PySx32.gw_count_asked:=by kernel_rfl
theorem asked_of{n j:Int}{ts:List Int}{un:PySem.W.Codec.denoteAll []}(h:PySem.W.Codec.app PySem.Challenge.rw_tablegroups_s03_gw_count.args PySem.Challenge.rw_tablegroups_s03_gw_count.asked (n,j,ts,un)=true):PySx32.gw_count_asked n j ts=true:=by
 rw[app_eq]at h
 have e:=congrFun (congrFun (congrFun asked_is n) j) ts
 exact e.symm.trans h
theorem fac_is:∀n,yZ n=fac n
 | 0=>rfl
 |n+1=>by
  show(n+1)*yZ n=(n+1)*fac n
  rw[fac_is n]
theorem small_of{n:Int}{b:List Int}(z2:wu n b=true):1<=n->n<=8->∀g,gd (b.map kX)=.ok g->fac n.toNat^g.letters.length<=20000:=fun h1 h8 g eg=>by
 unfold wu at z2
 rw[nats_eq,eg]at z2
 simp only[yh,decide_eq_true_eq]at z2
 rw[<-fac_is]
 rcases z2 with y|y|y
 ·omega
 ·omega
 ·exact y
theorem few_of{n j:Int}{ts:List Int}(h:PySx32.gw_count_asked n j ts=true):1<=n->n<=8->∀g,gd (ts.map kX)=.ok g->fac n.toNat^g.letters.length<=20000:=by
 have h:((wx (ts.length:Int)&&(wx n&&wx j))&&(Sx32Neutral.text (ts.length:Int) ts&&wu n ts))=true:=h
 have h:=oy.mp h
 exact small_of (oy.mp h.2).2
theorem said:PySem.Challenge.rw_tablegroups_s03_gw_count.wellSaid=true:=by decide +kernel
theorem args_of{K:Params->PySem.W.Frag}(P:Params)(h:Heap)(args:List PySem.W.WData)(vals:List Value)(hpre:PySem.Challenge.rw_tablegroups_s03_gw_count.pre args=true)(hw:PySem.W.WellAll P h vals args):∃(as:List LArg) (vs:List V) (out:List Int),(∀x∈as,x.Ok h)/\Vals vs vals/\vals.length=3/\PySem.Challenge.rw_tablegroups_s03_gw_count.post args (.list (out.map PySem.W.WData.int))=true /\ ∀(w:World) (H:Hp) (P0:Addr),H P0=some (.bz #[])->(∀x∈as,ao (K w.params) H x.a (x.ns.map V.int))->spCount (K w.params) P0 vs H (fun v H'=>∃l,v=.ref l/\H' l=some (.lst (out.map V.int))) fun _ _ _=>False:=by
 obtain⟨av,hwi,hask,rfl⟩:=PySem.W.os_pre said hpre
 obtain⟨n,j,ts,un⟩:=av
 have h1:(qf (-2147483648) 2147483647 n&&(qf (-2147483648) 2147483647 j&&((wa 0 4096 ts&&ts.all (qf 0 255))&&true)))=true:=hwi
 simp only[gh,vK]at h1
 obtain⟨hn,hj,ht⟩:=h1
 obtain⟨t1,t2⟩:=in_list (oy.mpr ht)
 have hfew:=few_of (asked_of hask)
 have hw:xq P h vals [.int n,.int j,.list (ts.map qe)]:=hw
 cases hw with
 |cons u1 hw=>
 cases hw with
 |cons u2 hw=>
 cases hw with
 |cons u3 hw=>
 cases hw
 cases u1 with
 |int i tk=>
 cases u2 with
 |int i2 tk2=>
 cases u3 with
 |list ho3 hall3=>
 rename_i a3 vs3
 have hi3:=Att.ints_of_wellAll ts _ hall3
 refine⟨[⟨a3,vs3,ts⟩],[.int n,.int j,.ref a3],iM n j (ts.map kX),fun x hx=>?_,.cons ⟨_,rfl⟩ (.cons ⟨_,rfl⟩ (.cons rfl .nil)),rfl,?_,fun w H P0 hP hS=>?_⟩
 ·rw[aO.mp hx]
  exact⟨ho3,hi3,cZ t1 (by decide)⟩
 ·refine PySem.W.os_shut said hwi ?_
  show _=zL ((zq n j ts).map qe)
  have e:zq n j ts=flat (oN (.count (ts.map kX) (ts.length:Int) n j)):=rfl
  rw[e,does_count _ _ _ _ t1]
 ·have S3:=hS ⟨a3,vs3,ts⟩ (by simp)
  rw[nv_of _ fun x hx=>(t2 x hx).1]at S3
  exact⟨n,j,a3,_,rfl,S3,by rw[aP];exact t1,hfew,hP,fun H' l hl=>⟨l,rfl,hl⟩⟩
theorem walk{q:Program}{loose:List Str}{XP:(Str->Option Value)->Heap->Prop}{YP:World->Heap->Prop}{d:DefRec}{K:Params->PySem.W.Frag}(hdf:d.params.defaults=[])(hrec:(recsOf q).find? (fun e=>e.name==d.name)=some d)(hnt:∀p:Params,PySem.W.noTabs (K p)=true)(hY:∀(w:World) (h:Heap),YP w h->(K w.params).In h)(F:∀(w:World) (mg:Str->Option Value) (fa:Addr) (h:Heap),(K w.params).In h->h.Ns mainGlobals mg->mg d.name=some (.ref fa)->∃a,Tx (K w.params) mg a/\fa=a.iJ) :PySem.W.WalkOS q loose XP YP PySem.Challenge.rw_tablegroups_s03_gw_count d [] (fun f vs=>PySem.call f vs):=by
 refine L2.walk_os (k:=12) (ps:=["n","what","text"]) (CX:=fun w=>aB PySem.Challenge.rw_tablegroups_s03_gw_count.prog w) (sp:=fun w P0=>spCount (K w.params) P0) hdf ⟨rfl,by decide,by decide⟩ hrec hnt hY (fun w mg fa h KX G hmg=>?_) (fun P h args vals=>args_of P h args vals) (fun w H s e s'=>cxe_none _ w H s e s')
 obtain⟨a,T,rfl⟩:=F w mg fa h KX G hmg
 obtain⟨oc,od,kV,doc,pm,an,aY,ct,osl,_,lk,_⟩:=T.gGwCount.fn.ex
 exact⟨a.dGwCount,⟨oc,od,osl,lk⟩,fun s us hk hl=>by
  have z:=T.gGwCount.bd s us hk (by rw[fV];exact hl)
  rw[fV]at z
  exact z,fun base c0 P0 _ _ MI hc=>okCount T MI hc⟩
end Gw
open PySem PySem.W PyProof.Rows PySem.Calls
def Gw.without:List Nat->Nat->List a6->List a6
 |_,_,[]=>[]
 |[],_,s :: l=>s :: l
 |c :: cs,n,s :: l=>match Nat.beq c n with
  |true=>Gw.without cs (n+1) l
  |false=>s :: Gw.without (c :: cs) (n+1) l
def Gw.view:PySem.Program:={PySem.Challenge.pw_tablegroups_s03_gw_count with main:={PySem.Challenge.pw_tablegroups_s03_gw_count.main with body:=Gw.without [0,44,67] 0 PySem.Challenge.pw_tablegroups_s03_gw_count.main.body}}
theorem Gw.lookA(w:World)(os:OsState):(L2.topT PySem.Challenge.pw_tablegroups_s03_gw_count 4406 w os).map (fun s=>((L2.fc PySem.Challenge.pw_tablegroups_s03_gw_count Gw.view s).1,(L2.fc PySem.Challenge.pw_tablegroups_s03_gw_count Gw.view s).2.1,(L2.fc PySem.Challenge.pw_tablegroups_s03_gw_count Gw.view s).2.2.2.1,(L2.fc PySem.Challenge.pw_tablegroups_s03_gw_count Gw.view s).2.2.2.2.1))=some (expectedOf Gw.view,bltViewBooted,true,pinGoodD (drecsOf Gw.view)):=by kernel_rfl
theorem Gw.lookB(w:World)(os:OsState):(L2.topT PySem.Challenge.pw_tablegroups_s03_gw_count 4406 w os).map (fun s=>(L2.fc PySem.Challenge.pw_tablegroups_s03_gw_count Gw.view s).2.2.1)=some true:=by kernel_rfl
theorem Gw.lookC(w:World)(os:OsState):(L2.topT PySem.Challenge.pw_tablegroups_s03_gw_count 4406 w os).map (fun s=>((L2.fc PySem.Challenge.pw_tablegroups_s03_gw_count Gw.view s).2.2.2.2.2.1,(L2.fc PySem.Challenge.pw_tablegroups_s03_gw_count Gw.view s).2.2.2.2.2.2.1))=some (plainGoodE Gw.view (looseW Gw.view []),plainGoodD Gw.view []):=by kernel_rfl
theorem Gw.lookD(w:World)(os:OsState):(L2.topT PySem.Challenge.pw_tablegroups_s03_gw_count 4406 w os).map (fun s=>((L2.fc PySem.Challenge.pw_tablegroups_s03_gw_count Gw.view s).2.2.2.2.2.2.2.1,(L2.fc PySem.Challenge.pw_tablegroups_s03_gw_count Gw.view s).2.2.2.2.2.2.2.2,staticsOk (Fast.tw5923862056798008813 PySem.Challenge.pw_tablegroups_s03_gw_count.main.body) (boot_heap w.params) s.abs.heap&&namesBound PySem.Challenge.pw_tablegroups_s03_gw_count s.abs.heap&&gensDone s.abs&&laidKept (boot_heap w.params) s.abs.heap))=some (wideGood Gw.view,clsGoodW Gw.view [],true):=by kernel_rfl
open PySem PySem.W PyProof.Rows
local macro_rules | `(tactic| o_headS $H) => `(tactic| (
 refine' holds_os (q:=Gw.view) (loose:=[]) (Xt:=fun s=>xlAt Gw.view [] s&&recOk [] s) (XP:=XL Gw.view []) (Yf:=Hook.obs $H) (Ya:=Hook.val $H) (YP:=Hook.says $H) (N:=7312) (L2.left_parts (M:=4406) rfl rfl rfl (fun _=>rfl) Gw.lookA Gw.lookB Gw.lookC Gw.lookD ?_) (Hook.of $H) (Hook.keeps $H) (fun s e=>xl_of s (oy.mp e).1) XL.keeps (by rfl) (by rfl) (by rfl) (fun s e=>recFacts_of (oy.mp e).2) os_shapes (by decide +kernel) (by decide +kernel) ⟨rfl,rfl,rfl,rfl,rfl,by decide +kernel⟩ ?_ ?_
 ·intro w os;kernel_rfl
 ·exact⟨[.int 1,.int 0,.list []],by decide +kernel,by decide +kernel⟩))
set_option maxHeartbeats 0 in
theorem PySem.Challenge.cw_tablegroups_s03_gw_count_holds : PySem.Challenge.rw_tablegroups_s03_gw_count.Holds := by
 w_on;k_headS
 k_fillS
 refine Gw.walk rfl ?hrec ?hnt (fun w h Y=>PySem.W.kIn_of Y) ?F
 case hrec=>kernel_rfl
 case hnt=>intro p;kernel_rfl
 case F=>
  intro w mg fa h KX G hmg
  have T:∃a,Gw.Tx (L2.KOf KX) mg a/\mg "gw_count" = some (.ref a.iJ):=by
   dsimp only[L2.KOf]
   refine' Gw.txt_mk KX G ?a_51 ?e_51 ?a_40 ?e_40 ?a_2 ?e_2 ?a_3 ?e_3 ?a_28 ?e_28 ?a_29 ?e_29 ?a_50 ?e_50 ?m_2_2 ?m_3_2 ?m_3_3 ?m_28_2 ?m_28_3 ?m_28_28 ?m_29_2 ?m_29_3 ?m_29_28 ?m_29_29 ?m_50_2 ?m_50_3 ?m_50_28 ?m_50_29 ?m_50_50 ?m_40_2 ?m_40_3 ?m_40_28 ?m_40_29 ?m_40_50 ?m_40_40 ?m_51_51 ?m_40_51 ?a_52 ?fi_52 ?if_52 ?l_52 ?cd__52 ?k_52 ?pg_52 ?hd_52 ?po_52 ?sa_52 ?mk_52 ?kc_52 ?tL ?uo ?uq ?a_53 ?fi_53 ?if_53 ?l_53 ?cd__53 ?k_53 ?pg_53 ?hd_53 ?po_53 ?sa_53 ?mk_53 ?kc_53 ?tM ?na_53_ended ?tN ?sV ?a_34 ?l_34 ?cd__34 ?k_34 ?a_6 ?l_6 ?cd__6 ?k_6 ?a_14 ?l_14 ?cd__14 ?k_14 ?a_4 ?l_4 ?cd__4 ?k_4 ?a_7 ?l_7 ?cd__7 ?k_7 ?a_30 ?l_30 ?cd__30 ?k_30 ?a_5 ?l_5 ?cd__5 ?k_5 ?a_31 ?l_31 ?cd__31 ?k_31 ?a_41 ?l_41 ?cd__41 ?k_41 ?a_8 ?l_8 ?cd__8 ?k_8 ?a_42 ?l_42 ?cd__42 ?k_42 ?a_19 ?l_19 ?cd__19 ?k_19 ?a_20 ?l_20 ?cd__20 ?k_20 ?a_43 ?l_43 ?cd__43 ?k_43 ?a_21 ?l_21 ?cd__21 ?k_21 ?a_15 ?l_15 ?cd__15 ?k_15 ?a_22 ?l_22 ?cd__22 ?k_22 ?a_44 ?l_44 ?cd__44 ?k_44 ?a_23 ?l_23 ?cd__23 ?k_23 ?a_24 ?l_24 ?cd__24 ?k_24 ?a_9 ?l_9 ?cd__9 ?k_9 ?a_32 ?l_32 ?cd__32 ?k_32 ?a_25 ?l_25 ?cd__25 ?k_25 ?a_35 ?l_35 ?cd__35 ?k_35 ?a_10 ?l_10 ?cd__10 ?k_10 ?a_45 ?l_45 ?cd__45 ?k_45 ?a_36 ?l_36 ?cd__36 ?k_36 ?a_33 ?l_33 ?cd__33 ?k_33 ?a_11 ?l_11 ?cd__11 ?k_11 ?a_46 ?l_46 ?cd__46 ?k_46 ?a_12 ?l_12 ?cd__12 ?k_12 ?a_16 ?l_16 ?cd__16 ?k_16 ?a_47 ?l_47 ?cd__47 ?k_47 ?a_26 ?l_26 ?cd__26 ?k_26 ?a_37 ?l_37 ?cd__37 ?k_37 ?a_38 ?l_38 ?cd__38 ?k_38 ?a_13 ?l_13 ?cd__13 ?k_13 ?a_48 ?l_48 ?cd__48 ?k_48 ?a_0 ?l_0 ?cd__0 ?k_0 ?a_17 ?l_17 ?cd__17 ?k_17 ?a_39 ?l_39 ?cd__39 ?k_39 ?a_18 ?l_18 ?cd__18 ?k_18 ?a_27 ?l_27 ?cd__27 ?k_27 ?a_1 ?l_1 ?cd__1 ?k_1 ?a_49 ?l_49 ?cd__49 ?k_49 ?sW ?tZ ?sP ?sX ?tO ?v_BLANK ?v_ROUND ?v_ROUND_END ?v_COMMA ?v_MINUS ?v_ZERO ?v_NINE ?v_SQUARE ?t4 ?v_SMALL_A ?v_SMALL_Z ?v_BAR ?sQ ?t5 ?sO ?v_NO_ORDER ?v_NOWHERE ?v_LONGEST ?sI ?tP ?sR ?sY ?v_COUNT_ALL ?sZ ?sJ ?tj ?tm ?sM ?sL ?tQ ?tR ?a_ORDERS ?l_ORDERS ?b_abs ?b_all ?o6 ?dh ?b_list ?b_min ?gW ?pb ?b_set ?pE ?b_tuple
   (case a_51=>k_is)
   (case e_51=>first|k_exc|kernel_rfl)
   (case a_40=>k_is)
   (case e_40=>first|k_exc|kernel_rfl)
   (case a_2=>k_is)
   (case e_2=>first|k_exc|kernel_rfl)
   (case a_3=>k_is)
   (case e_3=>first|k_exc|kernel_rfl)
   (case a_28=>k_is)
   (case e_28=>first|k_exc|kernel_rfl)
   (case a_29=>k_is)
   (case e_29=>first|k_exc|kernel_rfl)
   (case a_50=>k_is)
   (case e_50=>first|k_exc|kernel_rfl)
   (case m_2_2=>kernel_rfl)
   (case m_3_2=>kernel_rfl)
   (case m_3_3=>kernel_rfl)
   (case m_28_2=>kernel_rfl)
   (case m_28_3=>kernel_rfl)
   (case m_28_28=>kernel_rfl)
   (case m_29_2=>kernel_rfl)
   (case m_29_3=>kernel_rfl)
   (case m_29_28=>kernel_rfl)
   (case m_29_29=>kernel_rfl)
   (case m_50_2=>kernel_rfl)
   (case m_50_3=>kernel_rfl)
   (case m_50_28=>kernel_rfl)
   (case m_50_29=>kernel_rfl)
   (case m_50_50=>kernel_rfl)
   (case m_40_2=>kernel_rfl)
   (case m_40_3=>kernel_rfl)
   (case m_40_28=>kernel_rfl)
   (case m_40_29=>kernel_rfl)
   (case m_40_50=>kernel_rfl)
   (case m_40_40=>kernel_rfl)
   (case m_51_51=>kernel_rfl)
   (case m_40_51=>kernel_rfl)
   (case a_52=>k_is)
   (case fi_52=>k_is)
   (case if_52=>k_is)
   (case l_52=>k_is)
   (case cd__52=>k_is)
   (case k_52=>k_is)
   (case pg_52=>k_is)
   (case hd_52=>k_is)
   (case po_52=>k_is)
   (case sa_52=>k_is)
   (case mk_52=>k_is)
   (case kc_52=>k_is)
   (case tL=>k_is)
   (case uo=>k_is)
   (case uq=>k_is)
   (case a_53=>k_is)
   (case fi_53=>k_is)
   (case if_53=>k_is)
   (case l_53=>k_is)
   (case cd__53=>k_is)
   (case k_53=>k_is)
   (case pg_53=>k_is)
   (case hd_53=>k_is)
   (case po_53=>k_is)
   (case sa_53=>k_is)
   (case mk_53=>k_is)
   (case kc_53=>k_is)
   (case tM=>k_is)
   (case na_53_ended=>k_is)
   (case tN=>k_is)
   (case sV=>k_is)
   (case a_34=>k_is)
   (case l_34=>k_is)
   (case cd__34=>k_is)
   (case k_34=>k_is)
   (case a_6=>k_is)
   (case l_6=>k_is)
   (case cd__6=>k_is)
   (case k_6=>k_is)
   (case a_14=>k_is)
   (case l_14=>k_is)
   (case cd__14=>k_is)
   (case k_14=>k_is)
   (case a_4=>k_is)
   (case l_4=>k_is)
   (case cd__4=>k_is)
   (case k_4=>k_is)
   (case a_7=>k_is)
   (case l_7=>k_is)
   (case cd__7=>k_is)
   (case k_7=>k_is)
   (case a_30=>k_is)
   (case l_30=>k_is)
   (case cd__30=>k_is)
   (case k_30=>k_is)
   (case a_5=>k_is)
   (case l_5=>k_is)
   (case cd__5=>k_is)
   (case k_5=>k_is)
   (case a_31=>k_is)
   (case l_31=>k_is)
   (case cd__31=>k_is)
   (case k_31=>k_is)
   (case a_41=>k_is)
   (case l_41=>k_is)
   (case cd__41=>k_is)
   (case k_41=>k_is)
   (case a_8=>k_is)
   (case l_8=>k_is)
   (case cd__8=>k_is)
   (case k_8=>k_is)
   (case a_42=>k_is)
   (case l_42=>k_is)
   (case cd__42=>k_is)
   (case k_42=>k_is)
   (case a_19=>k_is)
   (case l_19=>k_is)
   (case cd__19=>k_is)
   (case k_19=>k_is)
   (case a_20=>k_is)
   (case l_20=>k_is)
   (case cd__20=>k_is)
   (case k_20=>k_is)
   (case a_43=>k_is)
   (case l_43=>k_is)
   (case cd__43=>k_is)
   (case k_43=>k_is)
   (case a_21=>k_is)
   (case l_21=>k_is)
   (case cd__21=>k_is)
   (case k_21=>k_is)
   (case a_15=>k_is)
   (case l_15=>k_is)
   (case cd__15=>k_is)
   (case k_15=>k_is)
   (case a_22=>k_is)
   (case l_22=>k_is)
   (case cd__22=>k_is)
   (case k_22=>k_is)
   (case a_44=>k_is)
   (case l_44=>k_is)
   (case cd__44=>k_is)
   (case k_44=>k_is)
   (case a_23=>k_is)
   (case l_23=>k_is)
   (case cd__23=>k_is)
   (case k_23=>k_is)
   (case a_24=>k_is)
   (case l_24=>k_is)
   (case cd__24=>k_is)
   (case k_24=>k_is)
   (case a_9=>k_is)
   (case l_9=>k_is)
   (case cd__9=>k_is)
   (case k_9=>k_is)
   (case a_32=>k_is)
   (case l_32=>k_is)
   (case cd__32=>k_is)
   (case k_32=>k_is)
   (case a_25=>k_is)
   (case l_25=>k_is)
   (case cd__25=>k_is)
   (case k_25=>k_is)
   (case a_35=>k_is)
   (case l_35=>k_is)
   (case cd__35=>k_is)
   (case k_35=>k_is)
   (case a_10=>k_is)
   (case l_10=>k_is)
   (case cd__10=>k_is)
   (case k_10=>k_is)
   (case a_45=>k_is)
   (case l_45=>k_is)
   (case cd__45=>k_is)
   (case k_45=>k_is)
   (case a_36=>k_is)
   (case l_36=>k_is)
   (case cd__36=>k_is)
   (case k_36=>k_is)
   (case a_33=>k_is)
   (case l_33=>k_is)
   (case cd__33=>k_is)
   (case k_33=>k_is)
   (case a_11=>k_is)
   (case l_11=>k_is)
   (case cd__11=>k_is)
   (case k_11=>k_is)
   (case a_46=>k_is)
   (case l_46=>k_is)
   (case cd__46=>k_is)
   (case k_46=>k_is)
   (case a_12=>k_is)
   (case l_12=>k_is)
   (case cd__12=>k_is)
   (case k_12=>k_is)
   (case a_16=>k_is)
   (case l_16=>k_is)
   (case cd__16=>k_is)
   (case k_16=>k_is)
   (case a_47=>k_is)
   (case l_47=>k_is)
   (case cd__47=>k_is)
   (case k_47=>k_is)
   (case a_26=>k_is)
   (case l_26=>k_is)
   (case cd__26=>k_is)
   (case k_26=>k_is)
   (case a_37=>k_is)
   (case l_37=>k_is)
   (case cd__37=>k_is)
   (case k_37=>k_is)
   (case a_38=>k_is)
   (case l_38=>k_is)
   (case cd__38=>k_is)
   (case k_38=>k_is)
   (case a_13=>k_is)
   (case l_13=>k_is)
   (case cd__13=>k_is)
   (case k_13=>k_is)
   (case a_48=>k_is)
   (case l_48=>k_is)
   (case cd__48=>k_is)
   (case k_48=>k_is)
   (case a_0=>k_is)
   (case l_0=>k_is)
   (case cd__0=>k_is)
   (case k_0=>k_is)
   (case a_17=>k_is)
   (case l_17=>k_is)
   (case cd__17=>k_is)
   (case k_17=>k_is)
   (case a_39=>k_is)
   (case l_39=>k_is)
   (case cd__39=>k_is)
   (case k_39=>k_is)
   (case a_18=>k_is)
   (case l_18=>k_is)
   (case cd__18=>k_is)
   (case k_18=>k_is)
   (case a_27=>k_is)
   (case l_27=>k_is)
   (case cd__27=>k_is)
   (case k_27=>k_is)
   (case a_1=>k_is)
   (case l_1=>k_is)
   (case cd__1=>k_is)
   (case k_1=>k_is)
   (case a_49=>k_is)
   (case l_49=>k_is)
   (case cd__49=>k_is)
   (case k_49=>k_is)
   (case sW=>k_is)
   (case tZ=>k_is)
   (case sP=>k_is)
   (case sX=>k_is)
   (case tO=>k_is)
   (case v_BLANK=>k_is)
   (case v_ROUND=>k_is)
   (case v_ROUND_END=>k_is)
   (case v_COMMA=>k_is)
   (case v_MINUS=>k_is)
   (case v_ZERO=>k_is)
   (case v_NINE=>k_is)
   (case v_SQUARE=>k_is)
   (case t4=>k_is)
   (case v_SMALL_A=>k_is)
   (case v_SMALL_Z=>k_is)
   (case v_BAR=>k_is)
   (case sQ=>k_is)
   (case t5=>k_is)
   (case sO=>k_is)
   (case v_NO_ORDER=>k_is)
   (case v_NOWHERE=>k_is)
   (case v_LONGEST=>k_is)
   (case sI=>k_is)
   (case tP=>k_is)
   (case sR=>k_is)
   (case sY=>k_is)
   (case v_COUNT_ALL=>k_is)
   (case sZ=>k_is)
   (case sJ=>k_is)
   (case tj=>k_is)
   (case tm=>k_is)
   (case sM=>k_is)
   (case sL=>k_is)
   (case tQ=>k_is)
   (case tR=>k_is)
   (case a_ORDERS=>k_is)
   (case l_ORDERS=>k_is)
   (case b_abs=>k_is)
   (case b_all=>k_is)
   (case o6=>k_is)
   (case dh=>k_is)
   (case b_list=>k_is)
   (case b_min=>k_is)
   (case gW=>k_is)
   (case pb=>k_is)
   (case b_set=>k_is)
   (case pE=>k_is)
   (case b_tuple=>k_is)
  obtain⟨a,T,e⟩:=T
  refine⟨a,T,?_⟩
  have e0:=hmg.symm.trans e
  injection e0 with e0
  injection e0
#print axioms PySem.Challenge.cw_tablegroups_s03_gw_count_holds
