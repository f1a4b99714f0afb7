import PyProof.Rows.All
import Wide.All
import OpenK.AllK
import Wide.FinOn
import PyProof.EqAt
import PyProof.EqKinds
import PyProof.TupleCall
import KE.BitLaws
import Open.SpecLaws
import KE.OsHead
import KE.OsGo
import PySem.Challenge.RW_withheld_s01_answers
import PyProof.Rows.SortG.SortRunsSt
import KE.KSortTup
import KE.KLam
import KE.KNestM
set_option Elab.async false
set_option linter.all false
set_option maxRecDepth 100000
def aE:=@List.length_map
def bq:=@decide_eq_true
def au:=@if_neg
def dZ:=@List.getElem?_eq_getElem
def aw:=@if_pos
def aZ:=@PySem.wpAny_bind
def fh:=@List.getElem?_eq_some_iff
def cM:=@decide_eq_false
def dR:=@List.mem_cons_of_mem
def cR:=@List.map_append
def cF:=@List.mem_cons_self
def bZ:=@Option.some.inj
def cC:=@List.getElem?_map
def cK:=@of_decide_eq_true
def cW:=@List.mem_singleton
def eI:=@List.getD_eq_getElem?_getD
def bE:=@List.mem_cons
def br:=@List.mem_map
def du:=@List.mem_of_getElem?
def cZ:=@List.length_range
def ed:=@PySem.Heap.get?_push_of_some
def cw:=@PySem.W.mg_of
def bx:=@Nat.le_refl
def cO:=@List.mem_append
def dC:=@List.length_append
def dt:=@List.size_toArray
def dr:=@List.length_cons
def cB:=@Nat.le_trans
def bz:=@PySem.wpAny_pure
def dX:=@Nat.lt_of_le_of_lt
def dA:=@Bool.and_eq_true
def fi:=@List.mem_append_right
def fz:=@List.contains_iff_mem
def cV:=@List.map_cons
def cQ:=@List.map_map
def e_:=@Bool.false_ne_true
def dM:=@List.mem_range
def cY:=@PySem.Heap.lt_size
def gu:=@PySem.Heap.get?_push_size
def gq:=@Nat.lt_of_lt_of_le
def i6:=@PySem.F.plainAttrs_list
def gW:=@decide_eq_true_eq
def iS:=@List.mem_append_left
def dW:=@Nat.zero_le
def iR:=@PySem.mem_of_lookup
def jo:=@List.length_filter_le
def gU:=@List.mem_filter
def jm:=@List.map_congr_left
def ly:=@Classical.byContradiction
def gT:=@List.length_take
def fw:=@Nat.ne_of_lt
def iH:=@List.take_length
def iG:=@List.append_nil
def lM:=@PySem.F.type_list_append
def lL:=@PySem.F.slot_list_append
def il:=@Nat.lt_irrefl
def iQ:=@List.range_succ
def px:=@List.getElem?_append_right
def ik:=@Nat.mul_comm
def ot:=@Nat.add_sub_cancel_left
def lx:=@List.mem_map_of_mem
def lq:=@List.filter_sublist
def pw:=@List.getElem?_append_left
def jk:=@List.length_set
def jS:=@List.append_assoc
def oq:=@List.getElem?_eq_none
def jR:=@List.all_eq_true
def lK:=@List.filter_append
def lp:=@List.lookup_cons
def ll:=@List.filter_cons
def i5:=@Nat.succ_mul
def lJ:=@List.take_add_one
def oo:=@PySem.W.mg_none_of
def lj:=@List.nodup_cons
def rb:=@PyProof.Rows.boot_list
def tJ:=@List.drop_eq_getElem_cons
def om:=@Int.toNat_natCast
def lh:=@Nat.mul_le_mul
def pq:=@List.pairwise_cons
def lg:=@PySem.Heap.size_push
def wF:=@PySem.F.slot_dict_keyiterator_next
def i4:=@beq_iff_eq
def oj:=@List.find?_cons
def iZ:=@PySem.wpAny_mono
def jQ:=@PySem.Sem.wp_bind'
def pj:=@PySem.wpAny_truthy_bool
def tI:=@List.length_singleton
def tH:=@PySem.Heap.get?_update_other
def oh:=@PySem.boot_len
def tG:=@Nat.mul_le_mul_right
def tF:=@List.mem_iff_getElem
def tE:=@beq_eq_false_iff_ne
def tz:=@List.toList_toArray
def tw:=@List.flatMap_append
def tu:=@Array.length_toList
def lI:=@List.map_nil
def tq:=@List.mem_filterMap
def wD:=@List.mem_iff_getElem?
def tj:=@PySem.wpAny_Call_Name_kw
def s_:=@List.flatMap_cons
def qu:=@List.getElem?_range
def qt:=@List.filterMap_cons
def oJ:=@Int.natCast_mul
def oI:=@PySem.F.plain_min_loop
def qr:=@Nat.lt_succ_of_lt
def yV:=@PySem.wpAny_typeNameOfWhole_keyiter
def yU:=@PyProof.Rows.callWith_type1
def ki:=@Int.mul_add
def oH:=@PySem.wpAny_passesOwn
def uv:=@Nat.div_lt_of_lt_mul
def lT:=@PySem.wpAny_holding
def lS:=@List.set_set
def yT:=@List.getElem?_zip_eq_some
def uu:=@PySem.Around.under_plainId
def yS:=@List.getElem?_take_of_lt
def qp:=@List.foldl_cons
def ur:=@Bool.false_eq_true
def uq:=@PySem.Heap.get?_update_ne
def uo:=@List.ext_getElem?
def yR:=@PySem.wpAny_typeNameOf_keyiter
def yQ:=@PyProof.Rows.boot_sum
def yP:=@List.filterMap_append
def um:=@beq_self_eq_true
def uk:=@Nat.mod_eq_of_lt
def uj:=@Nat.div_eq_of_lt
def ui:=@List.mem_flatMap
def qo:=@Bool.true_and
def jN:=@if_false
def oG:=@Int.le_refl
def uh:=@PySem.wpAny_newObj_type
def yO:=@List.pairwise_append
def yN:=@Array.size_replicate
def ug:=@Nat.mul_add_mod
def uf:=@Nat.mul_add_div
def ue:=@Nat.div_add_mod
def yM:=@List.filter_eq_self
def yL:=@PySem.Heap.get?_update_self
def jq:=@Ne.symm
def qm:=@Nat.zero_mul
def ql:=@Nat.zero_add
def qk:=@PySem.plainId_quiet
def ud:=@Bool.false_and
def yK:=@of_decide_eq_false
def uc:=@PySem.codeAny_builtin
def Dh:=@Array.getElem?_eq_getElem
def yJ:=@Nat.le_of_succ_le
def yI:=@List.nodup_append
def yH:=@List.getElem?_set
def qj:=@PySem.Sem.wp_pure'
def t_:=@List.any_cons
def Dg:=@PySem.F.type_list_extend
def Df:=@PySem.F.slot_list_extend
def tZ:=@PySem.wpAny_tryCatch
def yG:=@Nat.min_le_right
def yF:=@Nat.lt_succ_self
def yE:=@Nat.le_add_right
def yD:=@List.drop_length
def yC:=@List.countP_cons
def De:=@PySem.F.slot_list_count
def Dd:=@List.pairwise_singleton
def Dc:=@List.length_eq_zero_iff
def C_:=@List.getElem?_cons_zero
def qh:=@Nat.mod_lt
def tY:=@Nat.le_of_lt
def tX:=@Int.mul_zero
def C9:=@List.getElem?_set_self
def yB:=@Bool.eq_iff_iff
def tW:=@PySem.wpAny_standAt
def C8:=@PySem.W.methodCall_KW
def C7:=@List.getElem?_toArray
def tV:=@Nat.le_succ
def yA:=@PySem.wpAny_call_entry
def yz:=@List.forIn_nil
def C6:=@List.getElem?_set_ne
def lR:=@if_true
def tT:=@PySem.codeAny_mono
def C5:=@PySem.W.plainGet_of
def yx:=@PySem.wpAny_execs_nil
def yw:=@PySem.pushCells_keeps
def yu:=@List.set_comm
def yt:=@List.map_take
def yr:=@List.map_drop
def C4:=@PySem.W.callWith_K
def C3:=@List.getElem?_drop
def C2:=@List.find?_eq_none
def tS:=@PySem.wpAny_letGo
def yq:=@Nat.mul_zero
def yp:=@Nat.le_of_eq
def yo:=@Int.mul_comm
def C0:=@Option.some.injEq
def CZ:=@List.pairwise_map
def CY:=@List.filter_congr
def CW:=@Bool.not_eq_true'
def CV:=@List.map_flatMap
def CU:=@List.getElem_inj
def CS:=@List.ext_getElem
def CQ:=@List.any_eq_true
def yn:=@Sum.inl.inj
def ym:=@Int.add_mul
def yl:=@PyProof.Rows.get?_update_seq
def CO:=@PySem.tupleKind_room_in1
def CM:=@List.of_mem_zip
def CK:=@List.length_nil
def CJ:=@List.forIn_cons
def CI:=@List.countP_map
def K4:=@PySem.W.length_le_weightAllW
def K3:=@List.mem_zipIdx_iff_getElem?
def CG:=@PySem.wpAny_dictEntries
def CF:=@PySem.slot_list_getitem
def CD:=@List.nodup_nil
def CC:=@List.drop_drop
def CB:=@PySem.Heap.get?_push_ne
def K2:=@PySem.F.slot_dict_getitem
def KZ:=@List.pairwise_iff_getElem
def CA:=@PySem.wpAny_eqBool_int
def Cz:=@Nat.add_assoc
def Cy:=@List.all_cons
def Cw:=@PySem.Heap.size_update
def Cv:=@PySem.F.entry_min_loop
def KY:=@PyProof.Rows.callWith_kw
def KW:=@PyProof.Rows.boot_sorted
def KU:=@List.length_filterMap_le
def KS:=@PySem.F.args_dict_keyiterator_next_1
def yk:=@PySem.sizeLine_eq
def yj:=@PySem.Sem.wp_mono
def KQ:=@PySem.F.type_list_count
def KP:=@Nat.toDigits_of_lt_base
def KO:=@List.getElem?_cons_succ
def KN:=@PySem.F.entry_dict_keyiterator_next
def qg:=@not_or
def yi:=@PyProof.Rows.listUpdate_at
def Cu:=@PySem.wpAny_updateSeq
def Cs:=@PySem.wpAny_dictEpoch
def Cr:=@Nat.ne_of_gt
def Cq:=@Nat.lt_trans
def Cp:=@List.any_map
def KL:=@PySem.W.cellsFrom_some
def KJ:=@PyProof.noPylong_small
def KI:=@List.drop_of_length_le
def KH:=@PySem.F.slot_dict_keyiterator_iter
def KG:=@Array.toList_replicate
def KE:=@Array.getElem?_eq_none
def KC:=@List.length_replicate
def KA:=@List.countP_mono_left
def Kz:=@Bool.beq_eq_decide_eq
def yh:=@PySem.wpAny_call
def Co:=@PySem.wpAny_seqItems
def Ky:=@List.map_id
def Kx:=@Nat.pow_le_pow_right
def Kw:=@List.getElem?_modify
def Kv:=@PySem.Calls.Name_function_global
def Ku:=@Bool.or_eq_false_iff
def Kt:=@Bool.and_eq_true_iff
def yg:=@PySem.MeetsSeq3.plain_eq_loop
def Ks:=@PySem.W.callWith_K0
def Kr:=@Nat.add_le_add_left
def Kq:=@List.take_succ_cons
def Kp:=@List.replicate_succ
def Ko:=@List.map_eq_nil_iff
def Km:=@Int.toNat_of_nonneg
def Cn:=@PySem.wpAny_attempt
def Cm:=@bne_iff_ne
def Kl:=@PySem.wpAny_getItem_list_slice
def Kk:=@Option.isSome_some
def Kj:=@Nat.eq_zero_or_pos
def Ki:=@List.countP_append
def Kh:=@List.append_of_mem
def Kg:=@PySem.wpAny_callSpecial?_slot
def Kf:=@Option.isSome_map
def Ke:=@List.countP_congr
def Kd:=@Int.mul_left_comm
def Kc:=@PySem.wpAny_pyNext_range_end
def Kb:=@PySem.wpAny_pyIter_rangeiter
def Ka:=@Option.getD_none
def J_:=@List.not_mem_nil
def J9:=@List.length_drop
def J4:=@List.getElem_map
def J3:=@List.flatMap_map
def J1:=@List.flatMap_def
def J0:=@PySem.Calls.callWith_builtin
def JZ:=@Array.toList_inj
def JY:=@PySem.wpAny_isTrue_Compare1
def JX:=@PySem.wpAny_isOneOf_keyiter
def JW:=@ne_of_beq_false
def JV:=@StateT.run_pure
def JU:=@StateT.run_bind
def JT:=@Option.map_some
def JS:=@Nat.not_lt_zero
def JR:=@List.length_zip
def JQ:=@Int.natCast_add
def JP:=@Bool.or_eq_true
def Ck:=@PySem.seqIndex_of
def JO:=@List.range_add
def JN:=@List.Perm.refl
def JM:=@Int.mul_nonneg
def JL:=@PySem.Calls.evalArgs_plain
def JK:=@PySem.Around.frames_deeper
section
namespace L2
open PySem PySem.Spec PyProof.Rows
abbrev Key:=Sum Int Str
def lN:Key->Value->Bool|.inl k,v=>Value.isInt k v|.inr x,v=>Value.isStrOf x v
def aaA(w:World):Key->Int|.inl k=>hashInt k|.inr x=>hashStr w x
def dY:∀{k:Key}{v:Value},lN k v=true->(∃i t,k=Sum.inl i/\v=Value.int i t)\/(∃x t,k=Sum.inr x/\v=Value.str x t)|.inl i,v,h=>by obtain⟨t,e⟩:=Value.isInt_shape (k:=i) (v:=v) h;exact .inl ⟨i,t,rfl,e⟩|.inr x,v,h=>by obtain⟨t,e⟩:=Value.isStrOf_shape (x:=x) (v:=v) h;exact .inr ⟨x,t,rfl,e⟩
def HD(i:Int)(t:Tok):lN (.inl i) (.int i t)=true:=by simp[lN,Value.isInt]
def HC(x:Str)(t:Tok):lN (.inr x) (.str x t)=true:=by simp[lN,Value.isStrOf]
def Tn(a b:Int):decide ((Sum.inl a:Key)=Sum.inl b)=(a==b):=by
 by_cases e:a=b;.subst e;simp
 have h:¬(Sum.inl a:Key)=Sum.inl b:=λq=>e (yn q);rw[cM h];exact(tE.mpr e).symm
def Tg(a b:Str):decide ((Sum.inr a:Key)=Sum.inr b)=decide (a=b):=by
 by_cases e:a=b;.subst e;simp
 have h:¬(Sum.inr a:Key)=Sum.inr b:=λq=>e (Sum.inr.inj q);rw[cM h,cM e]
def Tj(a:Int)(b:Str):decide ((Sum.inl a:Key)=Sum.inr b)=false:=cM (λq=>nomatch q)
def Th(a:Str)(b:Int):decide ((Sum.inr a:Key)=Sum.inl b)=false:=cM (λq=>nomatch q)
def eh(prog:Program)(w:World):PySem.KeyKind prog w Key where
  is:=lN
  hash:=aaA w
  inj:=λv a b ha hb=>by
    rcases dY ha with⟨i,t,rfl,rfl⟩|⟨x,t,rfl,rfl⟩
    · rcases dY hb with⟨j,u,rfl,e⟩|⟨y,u,rfl,e⟩
      · injection e with e1 _;rw[e1]
      · exact nomatch e
    · rcases dY hb with⟨j,u,rfl,e⟩|⟨y,u,rfl,e⟩
      · exact nomatch e
      · injection e with e1 _;rw[e1]
  byValue:=λk v h=>by
    rcases dY h with⟨i,t,rfl,rfl⟩|⟨x,t,rfl,rfl⟩<;>rfl
  pyHash:=λhv h=>by
    rcases dY hv with⟨i,t,rfl,rfl⟩|⟨x,t,rfl,rfl⟩
    · exact wpAny_pyHash_int h
    · exact wpAny_pyHash_str h
  eqBool:=λhu hv h=>by
    rcases dY hu with⟨i,t,rfl,rfl⟩|⟨x,t,rfl,rfl⟩
    · rcases dY hv with⟨j,u,rfl,rfl⟩|⟨y,u,rfl,rfl⟩
      · rw[Tn]at h;exact CA h
      · rw[Tj]at h;exact SeqAt.EqAt.int_str i t y u _ _ _ _ h
    · rcases dY hv with⟨j,u,rfl,rfl⟩|⟨y,u,rfl,rfl⟩
      · rw[Th]at h;exact SeqAt.EqAt.str_int x t j u _ _ _ _ h
      · rw[Tg]at h;exact wpAny_eqBool_str h
  «strs»:=λk x t v h=>by
    rcases dY h with⟨i,u,rfl,e⟩|⟨y,u,rfl,e⟩
    · exact nomatch e
    · injection e with e1 _
      subst e1
      cases v<;>rfl
def BW(prog:Program)(w:World)(i:Int)(t:Tok):(eh prog w).is (.inl i) (.int i t)=true:=HD i t
def BV(prog:Program)(w:World)(x:Str)(t:Tok):(eh prog w).is (.inr x) (.str x t)=true:=HC x t
end L2
namespace L2
open PySem PySem.Spec PyProof.Rows
inductive V where
  |dQ|bl (b:Bool)|int (i:Int)|str (x:Str)|Ax (b:Array UInt8)|Vr (b:UInt64)|ref (a:Addr)|ty (n:String)
  deriving DecidableEq
def RelV:V->Value->Prop|.dQ,u=>u=Value.none|.bl b,u=>u=Value.bool b|.int i,u=>∃t,u=Value.int i t|.str x,u=>∃t,u=Value.str x t|.Ax b,u=>∃t,u=Value.bytes b t|.Vr b,u=>∃t,u=Value.float b t|.ref a,u=>u=Value.ref a|.ty n,u=>u=Value.type n
abbrev ck:List V->List Value->Prop:=Paired RelV
theorem ck.length(r:ck xs us):xs.length=us.length:=Paired.length r
theorem ck.get:∀{xs:List V}{us:List Value}{i:Nat}{x:V},ck xs us->xs[i]?=some x->∃u,us[i]?=some u/\RelV x u|_,_,_,_,.nil,e=>by simp at e|_,_,0,_,.cons r _,e=>by simp at e;subst e;exact⟨_,rfl,r⟩|_,_,i+1,x,.cons _ t,e=>by obtain⟨u,h1,h2⟩:=ck.get (i:=i) (x:=x) t (by simpa using e);exact⟨u,by simpa using h1,h2⟩
theorem ck.set(r:RelV x u):∀{xs:List V}{us:List Value}(i:Nat),ck xs us->ck (xs.set i x) (us.set i u)|_,_,_,.nil=>.nil|_,_,0,.cons _ t=>.cons r t|_,_,i+1,.cons q t=>.cons q (ck.set r i t)
theorem ck.append:∀{xs ys:List V}{us ws:List Value},ck xs us->ck ys ws->ck (xs++ys) (us++ws)|_,_,_,_,.nil,s=>s|_,_,_,_,.cons r t,s=>.cons r (ck.append t s)
theorem ck.take:∀{xs:List V}{us:List Value}(n:Nat),ck xs us->ck (xs.take n) (us.take n)|_,_,0,_=>.nil|_,_,_+1,.nil=>.nil|_,_,n+1,.cons r t=>.cons r (ck.take n t)
theorem ck.drop:∀{xs:List V}{us:List Value}(n:Nat),ck xs us->ck (xs.drop n) (us.drop n)|_,_,0,r=>r|_,_,_+1,.nil=>.nil|_,_,n+1,.cons _ t=>ck.drop n t
def og:Option V->Option Value->Prop|some v,some u=>RelV v u|none,none=>True|_,_=>False
def KV{κ:Type}:List (κ×V)->List (κ×Value)->Prop:=Paired λ(p:κ×V)(q:κ×Value)=>p.1=q.1/\RelV p.2 q.2
def kV:Key->V|.inl i=>.int i|.inr x=>.str x
inductive HO where
  |lst (xs:List V)
  |tup (xs:List V)
  |dK (bc:List (Key×V))|dT (bc:List (List Key×V))
  |set (S:Int->Bool) (n:Nat)
  |ins (C dx:Addr) (fs:List (Str×V))
  |own (x:Addr)
  |xd (fs:List (Str×V))
  |met (f x:Addr)
  |QW (lo hi:Int)
  |ke (o:Obj) (u:HO)
  |vW (ps:Array Value)
  |ext (φ:Heap->Prop)
abbrev Hp:=Addr->Option HO
def upd(H:Hp)(a:Addr)(o:HO):Hp:=λb=>if b=a then some o else H b
def ai:upd H a o a=some o:=by unfold upd;rw[aw rfl]
def ah(h:b≠a):upd H a o b=H b:=by unfold upd;rw[au h]
def aI{H:Hp}{a b:Addr}{o u:HO}(h:H a=some o)(h':H b=some u)(d:o≠u):a≠b:=by intro e;subst e;rw[h]at h';exact d (bZ h')
def aa{H:Hp}{a b:Addr}{o:HO}(h:H a=some o)(h':H b=none):a≠b:=by intro e;subst e;rw[h]at h';cases h'
section
variable (P:Program) (w:World)
def eK(H:Hp)(h:Heap)(a:Addr):HO->Prop|.lst xs=>xs.length<=sizeLine/\∃(b_:List Value)(n:Nat),ck xs b_/\h.get? a=some {cls:=.type "list",data:=.seq b_.toArray n}|.tup xs=>xs.length<=sizeLine/\∃b_:List Value,ck xs b_/\IsTup h a b_.toArray|.dK bc=>bc.length<=sizeLine/\(a==sysModules)=false/\∃vs,KV bc vs/\h.DictOf (eh P w) a vs|.dT bc=>bc.length<=sizeLine/\(a==sysModules)=false/\∃xs:List (List Key×Addr×Value),Paired (λ(p:List Key×V)(q:List Key×Addr×Value)=>p.1=q.1/\H q.2.1=some (.tup (p.1.map kV))/\RelV p.2 q.2.2) bc xs/\∃o es ep,h.get? a=some o/\o.ExactDict/\o.data=.dict es ep/\es.toList=xs.map (entryOfKey (tupleKind (eh P w)))/\(xs.map (·.1)).Nodup|.set S n=>h.SetOf (intKind P w) a S n|.ins C dx fs=>H dx=some (.own a)/\fs.length<=1000/\dx≠a/\h.get? a=some (PySem.W.instObj C dx)/\∃mA,h.Ns1 dx mA/\(∀f,og (fs.lookup f) (mA f))/\PySem.Within mA (fs.map (·.1))|.own _=>∃o,h.get? a=some o|.xd fs=>∃mA,h.Ns1 a mA/\∀f,og (fs.lookup f) (mA f)|.QW lo hi=>∃t u v,h.get? a=some {cls:=.type "range",data:=.fields #[.int lo t,.int hi u,.int 1 v]}|.ke o u=>h.get? a=some o/\eK H h a u|.vW ps=>h.get? a=some {cls:=.none,data:=.fields ps}|.met f x=>h.get? a=some (PySem.W.methodObj (.ref f) (.ref x))|.ext φ=>φ h/\(∃o,h.get? a=some o)/\∀h1 h2:Heap,φ h1->(∀o,h1.get? a=some o->h2.get? a=some o)->φ h2
def lE(H:Hp)(h:Heap):Prop:=∀a o,H a=some o->eK P w H h a o
end
section
variable {P:Program} {w:World} {H H':Hp} {h h':Heap} {a:Addr} {o:HO}
theorem eK.lt(x:eK P w H h a o):a<h.objs.size:=by cases o with|lst xs=>obtain⟨_,_,_,_,e⟩:=x;exact cY e|tup xs=>obtain⟨_,_,_,p⟩:=x;exact p.lt|dK bc=>obtain⟨_,_,_,_,o,_,_,e,_⟩:=x;exact cY e|dT bc=>obtain⟨_,_,_,_,o,_,_,e,_⟩:=x;exact cY e|set S n=>obtain⟨o,_,_,_,e,_⟩:=x;exact cY e|ins C dx fs=>obtain⟨_,_,_,e,_⟩:=x;exact cY e|own y=>obtain⟨_,e⟩:=x;exact cY e|xd fs=>obtain⟨_,⟨_,_,_,e,_⟩,_⟩:=x;exact cY e|QW lo hi=>obtain⟨_,_,_,e⟩:=x;exact cY e|ke ob u=>obtain⟨e,_⟩:=x;exact cY e|vW ps=>exact cY (show h.get? a=some _ from x)|met f y=>exact cY (show h.get? a=some _ from x)|ext φ=>obtain⟨_,⟨_,e⟩,_⟩:=x;exact cY e
theorem Paired.Gs{α β:Type}{F G:α->β->Prop}:∀{l₁:List α}{l₂:List β},Paired F l₁ l₂->(∀a b,F a b->G a b)->Paired G l₁ l₂|_,_,.nil,_=>.nil|_,_,.cons r t,f=>.cons (f _ _ r) (Paired.Gs t f)
def eK.n_(x:eK P w H h a o)(k:∀b u,(b=a\/H b=some (.own a))->h.get? b=some u->h'.get? b=some u)(ho:∀b,H b=some (.own a)->H' b=some (.own a))(ht:∀b xs,H b=some (.tup xs)->H' b=some (.tup xs)):eK P w H' h' a o:=by induction o with|lst xs=>obtain⟨z,b_,n,r,e⟩:=x;exact⟨z,b_,n,r,k _ _ (.inl rfl) e⟩|tup xs=>obtain⟨z,b_,r,ob,e,c⟩:=x;exact⟨z,b_,r,ob,k _ _ (.inl rfl) e,c⟩|dK bc=>obtain⟨z,y,vs,r,ob,es,ep,e,c⟩:=x;exact⟨z,y,vs,r,ob,es,ep,k _ _ (.inl rfl) e,c⟩|dT bc=>obtain⟨z,y,xs,r,ob,es,ep,e,c⟩:=x;exact⟨z,y,xs,Paired.Gs r λp q z=>⟨z.1,ht _ _ z.2.1,z.2.2⟩,ob,es,ep,k _ _ (.inl rfl) e,c⟩|set S n=>obtain⟨ob,es,ep,t,e,c⟩:=x;exact⟨ob,es,ep,t,k _ _ (.inl rfl) e,c⟩|ins C dx fs=>obtain⟨d,z,ne,e,mA,⟨od,es,ep,e2,c⟩,r⟩:=x;exact⟨ho _ d,z,ne,k _ _ (.inl rfl) e,mA,⟨od,es,ep,k _ _ (.inr d) e2,c⟩,r⟩|own y=>obtain⟨ob,e⟩:=x;exact⟨ob,k _ _ (.inl rfl) e⟩|xd fs=>obtain⟨mA,⟨od,es,ep,e,c⟩,r⟩:=x;exact⟨mA,⟨od,es,ep,k _ _ (.inl rfl) e,c⟩,r⟩|QW lo hi=>obtain⟨t,u,v,e⟩:=x;exact⟨t,u,v,k _ _ (.inl rfl) e⟩|ke ob u ih=>obtain⟨e,q⟩:=x;exact⟨k _ _ (.inl rfl) e,ih q⟩|vW ps=>have e:h.get? a=some {cls:=.none,data:=.fields ps}:=x;show h'.get? a=some {cls:=.none,data:=.fields ps};exact k a _ (.inl rfl) e|met f y=>have e:h.get? a=some (PySem.W.methodObj (.ref f) (.ref y)):=x;show h'.get? a=some (PySem.W.methodObj (.ref f) (.ref y));exact k a _ (.inl rfl) e|ext φ=>obtain⟨p,⟨o,e⟩,st⟩:=x;exact⟨st _ _ p λo q=>k _ _ (.inl rfl) q,⟨o,k _ _ (.inl rfl) e⟩,st⟩
theorem lE.lt(x:lE P w H h)(e:H a=some o):a<h.objs.size:=(x a o e).lt
def lE.fresh(x:lE P w H h)(e:h.objs.size<=a):H a=none:=by cases q:H a with|none=>rfl|some u=>exact absurd (gq (x.lt q) e) (il _)
def lE.kept(x:lE P w H h)(k:∀b u,h.get? b=some u->h'.get? b=some u):lE P w H h':=λa o e=>(x a o e).n_ (λb u _ q=>k b u q) (λ_ q=>q) λ_ _ q=>q
def lE.laid(x:lE P w H h)(k:∀b u,h.get? b=some u->h'.get? b=some u)(hp:h.objs.size<=a)(new:eK P w (upd H a o) h' a o):lE P w (upd H a o) h':=λb u e=>by
 have hn:=x.fresh hp;by_cases hb:b=a;.subst hb;rw[ai]at e;cases e;exact new
 rw[ah hb]at e;exact(x b u e).n_ (λc v _ q=>k c v q) (λc q=>by rw[ah (aa q hn)];exact q) λc xs q=>by rw[ah (aa q hn)];exact q
end
def Rd(H:Hp)(a:Addr)(u:HO):Prop:=H a=some u\/∃o,H a=some (.ke o u)
def Rd.ok(r:Rd H a u)(x:lE P w H h):eK P w H h a u:=by
 rcases r with r|⟨o,r⟩;.exact x a u r
 obtain⟨_,q⟩:=x a _ r;exact q
def Qr:Option HO->Prop|some (.lst _)=>True|some (.dK _)=>True|some (.dT _)=>True|some (.set _ _)=>True|some (.ins _ _ _)=>True|some (.ext _)=>True|_=>False
section
variable {P:Program} {w:World} {H:Hp} {h h':Heap} {x e:Addr} {o':HO}
def lE.write(ok:lE P w H h)(mu:Qr (H x))(he:e=x\/H e=some (.own x))(k:∀b u,b≠e->h.get? b=some u->h'.get? b=some u)(Uv:∃u,h'.get? e=some u)(new:eK P w (upd H x o') h' x o'):lE P w (upd H x o') h':=λb u q=>by
 have V6:∀c y,H c=some (.own y)->c≠x:=λc y r z=>by subst z;rw[r]at mu;exact mu
 have aau:∀c xs,H c=some (.tup xs)->c≠x:=λc xs r z=>by subst z;rw[r]at mu;exact mu
 by_cases hb:b=x;.subst hb;rw[ai]at q;cases q;exact new
 rw[ah hb]at q;by_cases Ca:b=e
 .have q':H b=some (.own x):=by
   rcases he with z|z;.exact absurd (Ca.trans z) hb
   rw[Ca];exact z
  rw[q]at q';cases q';obtain⟨v,hv⟩:=Uv;exact⟨v,by rw[Ca];exact hv⟩
 refine(ok b u q).n_ (λc v hc r=>k c v ?_ r) (λc r=>by rw[ah (V6 c b r)];exact r) λc xs r=>by rw[ah (aau c xs r)];exact r
 rcases hc with rfl|hc;.exact Ca
 rintro rfl;rcases he with z|z;.exact V6 c b hc z
 rw[hc]at z;cases z;exact hb rfl
end
structure Un (fs ex:List Addr) (H H':Hp) (h h':Heap):Prop where
  keep:∀b o,h.get? b=some o->H b=none->b∉fs->b∉ex->h'.get? b=some o
  slot:∀b o,h.get? b=some o->H b=none->b∈fs->b∉ex->∃sl,h'.get? b=some {o with slots:=sl}
  free:∀b o,h.get? b=some o->H b=none->b∉ex->H' b=none
  there:∀b o,h.get? b=some o->b∉ex->∃o',h'.get? b=some o'
  oE:∀b xs,H b=some (.tup xs)->H' b=some (.tup xs)
  sY:∀b o u,H b=some (.ke o u)->H' b=some (.ke o u)
  wc:∀b ps,H b=some (.vW ps)->∃more,H' b=some (.vW (ps++more))
section
variable {fs fs' ex ex':List Addr} {H H1 H2:Hp} {h h1 h2 h':Heap} {a x e:Addr} {o:HO}
def Un.any(u:Un fs ex H H1 h h1)(q:h.get? b=some ob)(n:H b=none)(hx:b∉ex):∃sl,h1.get? b=some {ob with slots:=sl}:=by
 by_cases hb:b∈fs;.exact u.slot b ob q n hb hx
 exact⟨ob.slots,u.keep b ob q n hb hx⟩
def Un.kept(k:∀b u,h.get? b=some u->h'.get? b=some u):Un fs ex H H h h':=⟨λb ob q _ _ _=>k b ob q,λb ob q _ _ _=>⟨ob.slots,k b ob q⟩,λ_ _ _ n _=>n,λb ob q _=>⟨ob,k b ob q⟩,λ_ _ q=>q,λ_ _ _ q=>q,λ_ ps q=>⟨#[],by rw[q];simp⟩⟩
def Un.refl:Un fs ex H H h h:=Un.kept λ_ _ q=>q
def Un.laid(k:∀b u,h.get? b=some u->h'.get? b=some u)(hp:h.objs.size<=a)(hn:H a=none):Un fs ex H (upd H a o) h h' where
  keep:=λb u q _ _ _=>k b u q
  slot:=λb u q _ _ _=>⟨u.slots,k b u q⟩
  free:=λb u q n _=>by rw[ah (fw (gq (cY q) hp))];exact n
  there:=λb u q _=>⟨u,k b u q⟩
  oE:=λb xs q=>by rw[ah (aa q hn)];exact q
  sY:=λb u xs q=>by rw[ah (aa q hn)];exact q
  wc:=λb ps q=>⟨#[],by rw[ah (aa q hn),q];simp⟩
def Un.write(mu:Qr (H x))(he:e=x\/H e=some (.own x))(k:∀b u,b≠e->h.get? b=some u->h'.get? b=some u)(Uv:∃u,h'.get? e=some u):Un fs ex H (upd H x o) h h':=by
 have hx:∀b,H b=none->b≠x:=λb n z=>by subst z;rw[n]at mu;exact mu
 have hb:∀b,H b=none->b≠e:=λb n z=>by
  subst z;rcases he with r|r;.exact hx b n r
  rw[n]at r;cases r
 have hm:∀b u,H b=some u->¬Qr (some u)->b≠x:=λb u q nm z=>by subst z;rw[q]at mu;exact nm mu
 refine⟨λb u q n _ _=>k b u (hb b n) q,λb u q n _ _=>⟨u.slots,k b u (hb b n) q⟩,λb u q n _=>by rw[ah (hx b n)];exact n,λb u q _=>?_,λb xs q=>by rw[ah (hm b _ q λz=>z)];exact q,λb u xs q=>by rw[ah (hm b _ q λz=>z)];exact q,λb ps q=>⟨#[],by rw[ah (hm b _ q λz=>z),q];simp⟩⟩;by_cases Ca:b=e;.subst Ca;exact Uv
 exact⟨u,k b u Ca q⟩
end
def XU(h:Heap)(H:Hp):List Addr:=(List.range h.objs.size).filter λa=>(H a).isSome
def wg(h:Heap)(H:Hp):Heap:=PySem.W.hideAll h (XU h H)
def HF(h:Heap)(H:Hp):(wg h H).objs.size=h.objs.size:=PySem.W.hideAll_size _ _
def MC(e:h.get? b=some o)(n:H b=none):(wg h H).get? b=some o:=PySem.W.hideAll_get _ e λhm=>by have q:(H b).isSome=true:=(gU.mp hm).2;rw[n]at q;simp at q
def Pd(e:(wg h H).get? b=some o):h.get? b=some o/\H b=none:=by have e':h.get? b=some o:=PySem.W.of_hideAll (XU h H) e;refine⟨e',?_⟩;cases q:H b with|none=>rfl|some x=>have hm:b∈XU h H:=gU.mpr ⟨dM.mpr (cY e'),by simp[q]⟩;have z:(wg h H).get? b=none:=PySem.W.hideAll_none (XU h H) hm;rw[z]at e;cases e
end L2
namespace L2
open PySem PySem.Spec PyProof.Rows
structure Mod (K:PySem.W.Frag) (mg:Str->Option Value) (base:Heap):Prop where
  Uh:K.In base
  glob:base.Ns mainGlobals mg
  blt:∃mb,base.Ns builtinsNs mb/\∀x:Str,x≠"__name__"->mb x=bootBuiltins x
  nolimit:base.NoLimit
structure Cx where
  prog:Program
  w:World
  K:PySem.W.Frag
  mg:Str->Option Value
  base:Heap
  A:Around
  N:List Str
  sP:Shared
  Qs:Hp
  env:Env
  outer:List Env
  stack:List Env
  ex:List Addr
  fn:Str->Bool
  calm:Bool
  pn:List (Addr×Obj)
  xe:Value->Shared->Prop
def II(l:List Env):List Addr:=l.filterMap (·.frame)
abbrev Cx.fs(X:Cx):List Addr:=II X.outer
def UI(sc:Scope)(x:Str):Prop:=sc.names.lookup x=some .local\/sc.names.lookup x=some .cell\/sc.names.lookup x=some .free
def Loc(sc:Scope)(x:Str):Prop:=sc.names.lookup x=some .local\/sc.names.lookup x=some .cell
def Look(env:Env)(h:Heap)(m:Str->Option Value)(x:Str)(u:Value):Prop:=(env.kindOf x=some .local/\m x=some u)\/((env.kindOf x=some .cell\/env.kindOf x=some .free)/\∃c,env.cells.lookup x=some c/\h.IsCell c (some u))
structure Cx.Ok (X:Cx):Prop where
  mod:Mod X.K X.mg X.base
  kind:X.env.scope.kind=.function
  glob:X.env.globals=mainGlobals
  blt:X.env.builtins=builtinsNs
  above:X.sP.heap.objs.size<=X.env.locals
  inj:∀x y c,X.env.cells.lookup x=some c->X.env.cells.lookup y=some c->x=y
  has:∀x,(X.env.kindOf x=some .cell\/X.env.kindOf x=some .free)->∃c,X.env.cells.lookup x=some c
  Vz:∀x c,X.fn x=true->X.env.cells.lookup x=some c->X.sP.heap.objs.size<=c
  hd:X.calm=true->X.A.handled=none
  frames:X.A.frames=some X.stack
  XY:X.stack=X.outer\/(X.stack=X.env::X.outer/\X.env.frame=some X.env.locals)
  YG:∀b∈X.ex,b≠X.env.locals/\∀x c,X.env.cells.lookup x=some c->c≠b
  bs:∀b o,X.base.get? b=some o->X.sP.heap.get? b=some o/\X.Qs b=none
  Ir:X.base.objs.size<=X.sP.heap.objs.size
  IS:∀b o,X.base.get? b=some o->b∉X.ex
  I_:∀b∈X.ex,b∉X.fs
  pf:X.sP.heap.FunFrames X.base X.outer
  NI:∀b∈X.fs,X.Qs b=none
structure Inv (X:Cx) (pins:List (Addr×Obj)) (σ:List (Option V)) (H:Hp) (s:Shared):Prop where
  ok:X.Ok
  os:s.os=X.sP.os
  bare:AllBare s.gens
  base:Un X.fs X.ex X.Qs H X.sP.heap s.heap
  loc:∃m,s.heap.Ns X.env.locals m/\∀(i:Nat) (x:Str) (v:V),X.N[i]?=some x->σ[i]?=some (some v)->UI X.env.scope x->∃u,RelV v u/\Look X.env s.heap m x u
  cell:∀x c,X.env.cells.lookup x=some c->∃v,s.heap.IsCell c v
  free:H X.env.locals=none
  jE:∀x c,X.env.cells.lookup x=some c->H c=none
  pin:∀p∈X.pn++pins,s.heap.get? p.1=some p.2/\H p.1=none/\p.1≠X.env.locals/\p.1∉X.fs/\∀v,p.2.data≠.cell v
  dg:lE X.prog X.w H s.heap
  len:σ.length=X.N.length
section
variable {X:Cx} {pins:List (Addr×Obj)} {σ:List (Option V)} {H H':Hp} {s:Shared} {h':Heap}
def Cx.Ok.aav(ok:X.Ok)(e:X.base.get? b=some o):b∉X.fs:=λhb=>by have:=(ok.pf.mem hb).1;rw[e]at this;cases this
theorem Inv.bs(I:Inv X pins σ H s):∀b o,X.base.get? b=some o->s.heap.get? b=some o/\H b=none:=λb o e=>⟨I.base.keep b o (I.ok.bs b o e).1 (I.ok.bs b o e).2 (I.ok.aav e) (I.ok.IS b o e),I.base.free b o (I.ok.bs b o e).1 (I.ok.bs b o e).2 (I.ok.IS b o e)⟩
def Inv.bk(I:Inv X pins σ H s):∀b o,X.base.get? b=some o->s.heap.get? b=some o:=λb o e=>(I.bs b o e).1
theorem Inv.mod(I:Inv X pins σ H s):Mod X.K X.mg X.base:=I.ok.mod
def Inv.An(I:Inv X pins σ H s):X.K.In s.heap:=I.ok.mod.Uh.keeps I.bk
def Inv.fr(I:Inv X pins σ H s):∃m,Fr X.base X.env.locals s.heap m:=let⟨m,hn,_⟩:=I.loc;⟨m,hn,I.bk,cB I.ok.Ir I.ok.above⟩
theorem Inv.lt(I:Inv X pins σ H s):X.env.locals<s.heap.objs.size:=let⟨_,hn,_⟩:=I.loc;hn.lt
def Inv.sz(I:Inv X pins σ H s):X.sP.heap.objs.size<=s.heap.objs.size:=cB I.ok.above (tY I.lt)
def Inv.NV(I:Inv X pins σ H s)(h:s.heap.objs.size<=a):a∉X.fs:=λhb=>by obtain⟨_,o,ho,_⟩:=I.ok.pf.mem hb;exact absurd (gq (cY ho) (cB I.sz h)) (il _)
def Inv.Rk(I:Inv X pins σ H s):∀x c,X.env.cells.lookup x=some c->c≠X.env.locals:=λx c e z=>by obtain⟨v,o,ho,hd⟩:=I.cell x c e;obtain⟨m,⟨o',es,ep,Ey,Vm,_⟩,_⟩:=I.loc;rw[z,Ey]at ho;cases ho;rw[Vm]at hd;cases hd
theorem Inv.pf(I:Inv X pins σ H s):s.heap.FunFrames X.base X.outer:=by
 have all:∀(l:List Env),(∀b∈II l,b∈X.fs)->X.sP.heap.FunFrames X.base l->s.heap.FunFrames X.base l:=by intro l;induction l with|nil=>intro _ _;trivial|cons env r ih=>intro hs hl;obtain⟨hk,⟨L,o,hf,hn,ho,hd⟩,hr⟩:=hl;have hL:L∈X.fs:=hs L (by unfold II;rw[qt,hf];exact cF);obtain⟨sl,e⟩:=I.base.slot L o ho (I.ok.NI L hL) hL λz=>I.ok.I_ L z hL;exact⟨hk,⟨L,_,hf,hn,e,hd⟩,ih (λb hb=>hs b (by unfold II;rw[qt,hf];exact dR _ hb)) hr⟩
 exact all X.outer (λ_ hb=>hb) I.ok.pf
theorem Inv.stack(I:Inv X pins σ H s):s.heap.FunFrames X.base X.stack:=by
 rcases I.ok.XY with e|⟨e,hf⟩;.rw[e];exact I.pf
 rw[e];obtain⟨m,hn,_⟩:=I.loc;refine .cons (by rw[I.ok.kind];decide) hf hn ?_ I.pf;exact Heap.get?_none_of_le (cB I.ok.Ir I.ok.above)
def Inv.Dl(I:Inv X pins σ H s):∀b∈II X.stack,b∈X.env.locals::X.fs:=λb hb=>by
 rcases I.ok.XY with e|⟨e,hf⟩;.rw[e]at hb;exact dR _ hb
 rw[e]at hb;unfold II at hb;rw[qt,hf]at hb;exact hb
def Inv.E8(I:Inv X pins σ H s):∀b∈II X.stack,H b=none:=λb hb=>by
 rcases bE.mp (I.Dl b hb)with e|hb;.rw[e];exact I.free
 obtain⟨_,o,ho,_⟩:=I.ok.pf.mem hb;exact I.base.free b o ho (I.ok.NI b hb) λz=>I.ok.I_ b z hb
def Inv.step{g':Array GenState}{t':Nat}{d':Drawn}{ch:List Addr}(I:Inv X pins σ H s)(Ik:∀b∈ch,(b∈X.ex\/X.sP.heap.objs.size<=b)/\b≠X.env.locals/\(∀x c,X.env.cells.lookup x=some c->c≠b)/\∀p∈X.pn++pins,p.1≠b)(keep:∀b o,b≠X.env.locals->b∉X.fs->b∉ch->s.heap.get? b=some o->H b=none->h'.get? b=some o)(slot:∀b o,b≠X.env.locals->b∈X.fs->b∉ch->s.heap.get? b=some o->H b=none->∃sl,h'.get? b=some {o with slots:=sl})(free:∀b o,b∉ch->s.heap.get? b=some o->H b=none->H' b=none)(there:∀b o,b∉ch->s.heap.get? b=some o->∃o',h'.get? b=some o')(oE:∀b xs,H b=some (.tup xs)->H' b=some (.tup xs))(sY:∀b o u,H b=some (.ke o u)->H' b=some (.ke o u))(wc:∀b ps,H b=some (.vW ps)->∃more,H' b=some (.vW (ps++more)))(ns:∀m,s.heap.Ns X.env.locals m->h'.Ns X.env.locals m)(dg:lE X.prog X.w H' h')(hg:AllBare g'):Inv X pins σ H' {s with heap:=h',gens:=g',drawn:=d',toks:=t'}:=by
 have neL:∀b o,X.sP.heap.get? b=some o->b≠X.env.locals:=λb o e=>fw (gq (cY e) I.ok.above);have X_:∀b o,X.sP.heap.get? b=some o->b∉X.ex->b∉ch:=λb o e hx hb=>by
  rcases (Ik b hb).1 with z|z;.exact hx z
  exact absurd (gq (cY e) z) (il _)
 have cellK:∀x c,X.env.cells.lookup x=some c->∀v,s.heap.IsCell c v->h'.IsCell c v:=λx c e v⟨o,ho,hd⟩=>by
  have UU:c∉ch:=λz=>(Ik c z).2.2.1 x c e rfl;by_cases hc:c∈X.fs;.obtain⟨sl,q⟩:=slot c o (I.Rk x c e) hc UU ho (I.jE x c e);exact⟨_,q,hd⟩
  exact⟨o,keep c o (I.Rk x c e) hc UU ho (I.jE x c e),hd⟩
 refine⟨I.ok,I.os,hg,⟨λb o e n hb hx=>?_,λb o e n hb hx=>?_,λb o e n hx=>?_,λb o e hx=>?_,λb xs e=>oE b xs (I.base.oE b xs e),λb o xs e=>sY b o xs (I.base.sY b o xs e),λb ps e=>?_⟩,?_,λx c e=>?_,?_,λx c e=>?_,λp hp=>?_,dg,I.len⟩;.exact keep b o (neL b o e) hb (X_ b o e hx) (I.base.keep b o e n hb hx) (I.base.free b o e n hx)
 .obtain⟨sl,e1⟩:=I.base.slot b o e n hb hx;obtain⟨sl',e2⟩:=slot b _ (neL b o e) hb (X_ b o e hx) e1 (I.base.free b o e n hx);exact⟨sl',e2⟩
 .obtain⟨o',e1⟩:=I.base.there b o e hx;exact free b o' (X_ b o e hx) e1 (I.base.free b o e n hx)
 .obtain⟨o',e1⟩:=I.base.there b o e hx;exact there b o' (X_ b o e hx) e1
 .obtain⟨m1,e1⟩:=I.base.wc b ps e;obtain⟨m2,e2⟩:=wc b _ e1;exact⟨m1++m2,by rw[e2,Array.append_assoc]⟩
 .obtain⟨m,hn,hl⟩:=I.loc;refine⟨m,ns m hn,λi x v e1 e2 e3=>?_⟩;obtain⟨u,r,l⟩:=hl i x v e1 e2 e3;refine⟨u,r,?_⟩;rcases l with l|⟨k,c,e,z⟩;.exact .inl l
  exact .inr ⟨k,c,e,cellK x c e _ z⟩
 .obtain⟨v,z⟩:=I.cell x c e;exact⟨v,cellK x c e v z⟩
 .obtain⟨m,⟨o,_,_,ho,_⟩,_⟩:=I.loc;exact free _ o (λz=>(Ik _ z).2.1 rfl) ho I.free
 .obtain⟨v,o,ho,hd⟩:=I.cell x c e;exact free c o (λz=>(Ik c z).2.2.1 x c e rfl) ho (I.jE x c e)
 obtain⟨e,n,ne,nf,d⟩:=I.pin p hp;have UU:p.1∉ch:=λz=>(Ik p.1 z).2.2.2 p hp rfl;exact⟨keep p.1 p.2 ne nf UU e n,free p.1 p.2 UU e n,ne,nf,d⟩
def Inv.un{t':Nat}(I:Inv X pins σ H s)(u:Un X.fs [] H H' s.heap h')(dg:lE X.prog X.w H' h'):Inv X pins σ H' {s with heap:=h',toks:=t'}:=by obtain⟨m,⟨o,es,ep,ho,r⟩,_⟩:=id I.loc;obtain⟨sl,hL⟩:=u.any ho I.free (by simp);exact I.step (g':=s.gens) (d':=s.drawn) (ch:=[]) (λ_ z=>nomatch z) (λb o _ hb _ e n=>u.keep b o e n hb (by simp)) (λb o _ hb _ e n=>u.slot b o e n hb (by simp)) (λb o _ e n=>u.free b o e n (by simp)) (λb o _ e=>u.there b o e (by simp)) u.oE u.sY u.wc (λm' hm=>by obtain⟨o',Ni,Nj,Ey,r'⟩:=hm;rw[ho]at Ey;cases Ey;exact⟨_,Ni,Nj,hL,r'⟩) dg I.bare
def Inv.call{g':Array GenState}{t':Nat}{d':Drawn}{ch:List Addr}(I:Inv X pins σ H s)(u:Un (II X.stack) ch H H' s.heap h')(dg:lE X.prog X.w H' h')(hg:AllBare g')(Ik:∀b∈ch,(b∈X.ex\/X.sP.heap.objs.size<=b)/\b≠X.env.locals/\(∀x c,X.env.cells.lookup x=some c->c≠b)/\∀p∈X.pn++pins,p.1≠b):Inv X pins σ H' {s with heap:=h',gens:=g',drawn:=d',toks:=t'}:=by obtain⟨m,⟨o,es,ep,ho,r⟩,_⟩:=id I.loc;obtain⟨sl,hL⟩:=u.any ho I.free λz=>(Ik _ z).2.1 rfl;exact I.step (ch:=ch) Ik (λb o hL hb hc e n=>u.keep b o e n (λz=>(bE.mp (I.Dl b z)).elim hL hb) hc) (λb o _ _ hc e n=>u.any e n hc) (λb o hc e n=>u.free b o e n hc) (λb o hc e=>u.there b o e hc) u.oE u.sY u.wc (λm' hm=>by obtain⟨o',Ni,Nj,Ey,r'⟩:=hm;rw[ho]at Ey;cases Ey;exact⟨_,Ni,Nj,hL,r'⟩) dg hg
def Inv.turned{t':Nat}(I:Inv X pins σ H s)(k:∀b o,b≠it->s.heap.get? b=some o->h'.get? b=some o)(hn:H it=none)(hL:it≠X.env.locals)(h1:it∈X.ex\/X.sP.heap.objs.size<=it)(h2:∀x c,X.env.cells.lookup x=some c->c≠it)(h3:∀p∈X.pn++pins,p.1≠it):Inv X pins σ H {s with heap:=h',toks:=t'}:=by
 have Qe:∀b u,H b=some u->b≠it:=λb u e z=>by rw[z,hn]at e;cases e
 refine I.step (g':=s.gens) (d':=s.drawn) (ch:=[it]) (λb hb=>?_) (λb o _ _ hc e _=>k b o (λz=>hc (by simp[z])) e) (λb o _ _ hc e _=>⟨o.slots,k b o (λz=>hc (by simp[z])) e⟩) (λ_ _ _ _ n=>n) (λb o hc e=>⟨o,k b o (λz=>hc (by simp[z])) e⟩) (λ_ _ e=>e) (λ_ _ _ e=>e) (λb ps e=>⟨#[],by rw[e];simp⟩) (λm hm=>?_) (λb u e=>?_) I.bare
 .have e:b=it:=by simpa using hb
  subst e;exact⟨h1,hL,h2,h3⟩
 .obtain⟨o,es,ep,ho,r⟩:=hm;exact⟨o,es,ep,k _ o (jq hL) ho,r⟩
 refine(I.dg b u e).n_ (λc v hc q=>k c v ?_ q) (λ_ q=>q) λ_ _ q=>q;rcases hc with z|z;.rw[z];exact Qe b u e
 exact Qe c _ z
def Inv.tok(I:Inv X pins σ H s)(t:Nat):Inv X pins σ H {s with toks:=t}:=I.un (h':=s.heap) (t':=t) Un.refl I.dg
theorem Inv.kept(I:Inv X pins σ H s)(k:∀b u,s.heap.get? b=some u->h'.get? b=some u):Inv X pins σ H {s with heap:=h',toks:=t'}:=I.un (Un.kept k) (I.dg.kept k)
theorem Inv.laid(I:Inv X pins σ H s)(k:∀b u,s.heap.get? b=some u->h'.get? b=some u)(hp:s.heap.objs.size<=a)(new:eK X.prog X.w (upd H a o) h' a o):Inv X pins σ (upd H a o) {s with heap:=h',toks:=t'}:=I.un (Un.laid k hp (I.dg.fresh hp)) (I.dg.laid k hp new)
theorem Inv.write(I:Inv X pins σ H s)(mu:Qr (H x))(he:e=x\/H e=some (.own x))(k:∀b u,b≠e->s.heap.get? b=some u->h'.get? b=some u)(Uv:∃u,h'.get? e=some u)(new:eK X.prog X.w (upd H x o) h' x o):Inv X pins σ (upd H x o) {s with heap:=h',toks:=t'}:=I.un (Un.write mu he k Uv) (I.dg.write mu he k Uv new)
def Inv.weak(I:Inv X pins σ H s)(hl:σ'.length=σ.length)(w:∀(i:Nat)v,σ'[i]?=some (some v)->σ[i]?=some (some v)):Inv X pins σ' H s:=⟨I.ok,I.os,I.bare,I.base,let⟨m,hn,rY⟩:=I.loc;⟨m,hn,λi x v e1 e2 e3=>rY i x v e1 (w i v e2) e3⟩,I.cell,I.free,I.jE,I.pin,I.dg,hl.trans I.len⟩
def Inv.sk(I:Inv X pins σ H s)(h:∀p∈Xa,s.heap.get? p.1=some p.2/\H p.1=none/\p.1≠X.env.locals/\p.1∉X.fs/\∀v,p.2.data≠.cell v):Inv X Xa σ H s:=⟨I.ok,I.os,I.bare,I.base,I.loc,I.cell,I.free,I.jE,λp hp=>(cO.mp hp).elim (λz=>I.pin p (iS _ z)) (h p),I.dg,I.len⟩
def u_{N:List Str}(hN:N.Nodup){i j:Nat}{x:Str}(a:N[i]?=some x)(b:N[j]?=some x):i=j:=by obtain⟨h1,e1⟩:=fh.mp a;obtain⟨h2,e2⟩:=fh.mp b;exact(CU hN).mp (e1.trans e2.symm)
def wY{M:Model}{E:Value->Shared->Prop}{i:Nat}{x:Str}{Q:Unit->Shared->Prop}(I:Inv X pins σ H s)(hN:X.N.Nodup)(hi:X.N[i]?=some x)(hx:Loc X.env.scope x)(r:RelV v u)(h:∀s',Inv X pins (σ.set i (some v)) H s'->(∃a,Heap.SameBut a s.heap s'.heap/\(a=X.env.locals\/X.env.cells.lookup x=some a))->Q () s')(hf:X.fn x=true\/X.env.scope.names.lookup x=some .local:=by first|exact .inl rfl|exact .inr rfl|assumption):wpAny M A (storeName X.env x u) Q E s:=by
 obtain⟨m,hn,hl⟩:=id I.loc;have aa9:(X.env.scope.kind==.class || (X.env.scope.kind==.module&&X.env.locals !=X.env.globals))=false:=by rw[I.ok.kind];rfl
 have hiσ:i<σ.length:=by rw[I.len];exact(fh.mp hi).1
 have Rk:=I.Rk;have tracked:∀{a:Addr}{h':Heap},(∃o,s.heap.get? a=some o/\H a=none)->Heap.SameBut a s.heap h'->lE X.prog X.w H h':=fun {a h'} ha hs b ob e=>by
  obtain⟨_,_,wN⟩:=ha;refine(I.dg b ob e).n_ (λc w' hc q=>(hs.2 c ?_).trans q) (λ_ q=>q) λ_ _ q=>q;rintro rfl;rcases hc with rfl|hc;.rw[wN]at e;cases e
  rw[wN]at hc;cases hc
 rcases hx with hk|hk
 .refine wpAny_storeName_local hk hn (λh' Nb hs=>?_) aa9;obtain⟨oL,_,_,hoL,_⟩:=id hn;refine h _ ⟨I.ok,I.os,I.bare,⟨λb o e n hb hx=>?_,λb o e n hb hx=>?_,I.base.free,λb o e hx=>?_,I.base.oE,I.base.sY,I.base.wc⟩,⟨_,Nb,λj y v' e1 e2 e3=>?_⟩,λy c e=>?_,I.free,I.jE,λp hp=>?_,tracked ⟨oL,hoL,I.free⟩ hs,by simpa using I.len⟩ ⟨_,hs,.inl rfl⟩;.exact(hs.2 b (fw (gq (cY e) I.ok.above))).trans (I.base.keep b o e n hb hx)
  .obtain⟨sl,e1⟩:=I.base.slot b o e n hb hx;exact⟨sl,(hs.2 b (fw (gq (cY e) I.ok.above))).trans e1⟩
  .obtain⟨o',e1⟩:=I.base.there b o e hx;exact⟨o',(hs.2 b (fw (gq (cY e) I.ok.above))).trans e1⟩
  .by_cases hj:j=i;.subst hj;rw[hi]at e1;cases e1;rw[C9 hiσ]at e2;cases e2;exact⟨u,r,.inl ⟨hk,by simp⟩⟩
   rw[C6 (jq hj)]at e2;obtain⟨u',r',q⟩:=hl j y v' e1 e2 e3;refine⟨u',r',?_⟩;rcases q with⟨k,e⟩|⟨k,c,e,z⟩;.refine .inl ⟨k,?_⟩;have:y≠x:=λe=>hj (u_ hN e1 (e▸hi));simp[this,e]
   exact .inr ⟨k,c,e,z.sameBut hs (Rk y c e)⟩
  .obtain⟨w',z⟩:=I.cell y c e;exact⟨w',z.sameBut hs (Rk y c e)⟩
  obtain⟨e,n,ne,nf,d⟩:=I.pin p hp;exact⟨(hs.2 p.1 ne).trans e,n,ne,nf,d⟩
 have Z7:X.fn x=true:=by
  rcases hf with z|z;.exact z
  rw[z]at hk;cases hk
 obtain⟨c,hc⟩:=I.ok.has x (.inl hk);obtain⟨w',z⟩:=I.cell x c hc;refine wpAny_storeName_cell I.ok.kind hk hc z (λh' IF hs=>?_);obtain⟨oc,hoc,aaV⟩:=id z;refine h {s with heap:=h'} ⟨I.ok,I.os,I.bare,⟨λb o e n hb hx=>?_,λb o e n hb hx=>?_,I.base.free,λb o e hx=>?_,I.base.oE,I.base.sY,I.base.wc⟩,⟨m,hn.sameBut hs (jq (Rk x c hc)),λj y v' e1 e2 e3=>?_⟩,λy c' e=>?_,I.free,I.jE,λp hp=>?_,tracked ⟨oc,hoc,I.jE x c hc⟩ hs,by simpa using I.len⟩ ⟨c,hs,.inr hc⟩;.exact(hs.2 b (fw (gq (cY e) (I.ok.Vz x c Z7 hc)))).trans (I.base.keep b o e n hb hx)
 .obtain⟨sl,e1⟩:=I.base.slot b o e n hb hx;exact⟨sl,(hs.2 b (fw (gq (cY e) (I.ok.Vz x c Z7 hc)))).trans e1⟩
 .obtain⟨o',e1⟩:=I.base.there b o e hx;exact⟨o',(hs.2 b (fw (gq (cY e) (I.ok.Vz x c Z7 hc)))).trans e1⟩
 .by_cases hj:j=i;.subst hj;rw[hi]at e1;cases e1;rw[C9 hiσ]at e2;cases e2;exact⟨u,r,.inr ⟨.inl hk,c,hc,IF⟩⟩
  rw[C6 (jq hj)]at e2;obtain⟨u',r',q⟩:=hl j y v' e1 e2 e3;refine⟨u',r',?_⟩;rcases q with q|⟨k,c',e,z'⟩;.exact .inl q
  refine .inr ⟨k,c',e,z'.sameBut hs ?_⟩;rintro rfl;exact hj (u_ hN e1 (I.ok.inj _ _ _ e hc▸hi))
 .by_cases ND:c'=c;.subst ND;exact⟨_,IF⟩
  obtain⟨w2,z2⟩:=I.cell y c' e;exact⟨w2,z2.sameBut hs ND⟩
 obtain⟨e,n,ne,nf,d⟩:=I.pin p hp;refine⟨(hs.2 p.1 ?_).trans e,n,ne,nf,d⟩;intro q;rw[q,hoc]at e;have q':oc=p.2:=bZ e;exact d w' (by rw[<-q'];exact aaV)
def Bc{E:Value->Shared->Prop}{Q:Unit->Shared->Prop}(I:Inv X pins σ H s)(hN:X.N.Nodup)(hi:X.N[i]?=some x)(hx:Loc X.env.scope x)(r:RelV v u)(h:∀s',Inv X pins (σ.set i (some v)) H s'->Q () s')(hf:X.fn x=true\/X.env.scope.names.lookup x=some .local:=by first|exact .inl rfl|exact .inr rfl|assumption):wpAny M A (storeName X.env x u) Q E s:=wY I hN hi hx r (λs' I' _=>h s' I') hf
def Inv.XA(I:Inv X pins σ H s)(ho:s'.os=s.os)(u:Un (II X.stack) ch H H' s.heap s'.heap)(dg:lE X.prog X.w H' s'.heap)(hg:AllBare s'.gens)(Ik:∀b∈ch,(b∈X.ex\/X.sP.heap.objs.size<=b)/\b≠X.env.locals/\(∀x c,X.env.cells.lookup x=some c->c≠b)/\∀p∈X.pn++pins,p.1≠b):Inv X pins σ H' s':=by obtain⟨h',g',d',t',o'⟩:=s';have e:o'=s.os:=ho;subst e;exact I.call (g':=g') (t':=t') (d':=d') u dg hg Ik
end
abbrev XK:=Value->Option Addr->Hp->Prop
abbrev St:=List (Option V)
abbrev VK:=V->Hp->Prop
abbrev TE:=St->Hp->VK->Prop
abbrev TT:=St->Hp->(Bool->Hp->Prop)->Prop
abbrev TA:=St->Hp->(List V->Hp->Prop)->Prop
structure Ends where
  nx:St->Hp->Prop
  rt:VK
  bk:St->Hp->Prop:=λ_ _=>False
  ct:St->Hp->Prop:=λ_ _=>False
abbrev TS:=Ends->St->Hp->Prop
def EP(X:Cx)(pins:List (Addr×Obj))(σ:St)(Q:VK)(u:Value)(s':Shared):Prop:=∃v H',Inv X pins σ H' s'/\RelV v u/\Q v H'
def TP(X:Cx)(pins:List (Addr×Obj))(σ:St)(Q:Bool->Hp->Prop)(b:Bool)(s':Shared):Prop:=∃H',Inv X pins σ H' s'/\Q b H'
def AP(X:Cx)(pins:List (Addr×Obj))(σ:St)(Q:List V->Hp->Prop)(us:List Value)(s':Shared):Prop:=∃vs H',Inv X pins σ H' s'/\ck vs us/\Q vs H'
def SP(X:Cx)(pins:List (Addr×Obj))(D:Ends)(f:Flow)(s':Shared):Prop:=match f with|.next=>∃σ' H',Inv X pins σ' H' s'/\D.nx σ' H'|.brk=>∃σ' H',Inv X pins σ' H' s'/\D.bk σ' H'|.cont=>∃σ' H',Inv X pins σ' H' s'/\D.ct σ' H'|.ret u=>∃v σ' H',Inv X pins σ' H' s'/\RelV v u/\D.rt v H'
def PE(X:Cx)(e:Expr)(t:TE):Prop:=∀(pins:List (Addr×Obj))(s:Shared)(σ:St)(H:Hp)(Q:VK),Inv X pins σ H s->t σ H Q->wpAny (model X.prog X.w) X.A (eval e X.env) (EP X pins σ Q) X.xe s
def PT(X:Cx)(e:Expr)(t:TT):Prop:=∀(pins:List (Addr×Obj))(s:Shared)(σ:St)(H:Hp)(Q:Bool->Hp->Prop),Inv X pins σ H s->t σ H Q->wpAny (model X.prog X.w) X.A (isTrue e X.env (eval e X.env)) (TP X pins σ Q) X.xe s
def PW(X:Cx)(e:Expr)(t:TT):Prop:=∀(whole:Sem Value)(pins:List (Addr×Obj))(s:Shared)(σ:St)(H:Hp)(Q:Bool->Hp->Prop),Inv X pins σ H s->t σ H Q->wpAny (model X.prog X.w) X.A (isTrue e X.env whole) (TP X pins σ Q) X.xe s
def PW.pt(h:PW X e t):PT X e t:=h _
def PA(X:Cx)(es:List Expr)(t:TA):Prop:=∀(pos:Pos)(pins:List (Addr×Obj))(s:Shared)(σ:St)(H:Hp)(Q:List V->Hp->Prop),Inv X pins σ H s->t σ H Q->wpAny (model X.prog X.w) X.A (spliced (backTo pos (starEach es X.env))) (AP X pins σ Q) X.xe s
def PS(X:Cx)(st:Stmt)(t:TS):Prop:=∀(pins:List (Addr×Obj))(s:Shared)(σ:St)(H:Hp)(D:Ends),Inv X pins σ H s->t D σ H->wpAny (model X.prog X.w) X.A (exec st X.env) (SP X pins D) X.xe s
def Cd(X:Cx)(st:List Stmt)(t:TS):Prop:=∀(pins:List (Addr×Obj))(s:Shared)(σ:St)(H:Hp)(D:Ends),Inv X pins σ H s->t D σ H->wpAny (model X.prog X.w) X.A (execs st X.env) (SP X pins D) X.xe s
def dH{α:Type}{t:Sem α}{Q Q':α->Shared->Prop}{M:Model}{A:Around}{E:Value->Shared->Prop}{s:Shared}(h:wpAny M A t Q E s)(hQ:∀a s,Q a s->Q' a s):wpAny M A t Q' E s:=iZ h hQ λ_ _ x=>x
end L2
namespace L2
open PySem PySem.Spec PyProof.Rows
section
variable {X:Cx}
def bin{a b:Expr}{ta tb:TE}(ha:PE X a ta)(hb:PE X b tb){pins:List (Addr×Obj)}{s:Shared}{σ:St}{H:Hp}{R:V->V->Hp->Prop}(I:Inv X pins σ H s)(h:ta σ H λx H1=>tb σ H1 λy H2=>R x y H2){α:Type}{Q:α->Shared->Prop}{f:Value->Value->Sem α}(hf:∀v u s2 x y H2,Inv X pins σ H2 s2->RelV x v->RelV y u->R x y H2->wpAny (model X.prog X.w) X.A (f v u) Q X.xe s2):wpAny (model X.prog X.w) X.A (eval a X.env) (λv s₁=>wpAny (model X.prog X.w) X.A (eval b X.env) (λu s₂=>wpAny (model X.prog X.w) X.A (f v u) Q X.xe s₂) X.xe s₁) X.xe s:=by refine dH (ha pins s σ H _ I h) λv s1⟨x,H1,I1,r1,q1⟩=>?_;refine dH (hb pins s1 σ H1 _ I1 q1) λu s2⟨y,H2,I2,r2,q2⟩=>?_;exact hf v u s2 x y H2 I2 r1 r2 q2
inductive WD (i:Nat) (σ:St) (H:Hp) (Q:VK):Prop|mk (v:V) (e:σ[i]?=some (some v)) (q:Q v H):WD i σ H Q
def cJ(i:Nat):TE:=fun σ H Q=>WD i σ H Q
def tC(v:V):TE:=λ_ H Q=>Q v H
def SW(hN:X.N[i]?=some x)(hv:UI X.env.scope x)(hd:(x==("__debug__":Str))=false:=by decide)(As:(x==("__classdict__":Str))=false:=by decide):PE X (.Name x pos) (cJ i):=by
 intro pins s σ H Q I h;obtain⟨v,e,h⟩:=h;obtain⟨m,hn,hl⟩:=I.loc;obtain⟨u,r,l⟩:=hl i x v hN e hv;have fin:EP X pins σ Q u s:=⟨v,H,I,r,h⟩;rcases l with⟨hk,hm⟩|⟨hk,c,hc,QE⟩;.exact wpAny_Name (wpAny_loadName_local I.ok.kind hk hn hm fin) hd
 rcases hk with hk|hk;.exact wpAny_Name (wpAny_loadName_cell I.ok.kind hk hc QE fin) hd
 exact wpAny_Name (wpAny_loadName_free I.ok.kind hk hc QE fin As) hd
def aU{i j pos}:PE X (.Constant (.int i) j pos) (tC (.int i)):=λ_ _ _ H _ I h=>wpAny_Constant_int ⟨.int i,H,I.tok _,⟨_,rfl⟩,h⟩
def ou{b j pos}:PE X (.Constant (.bool b) j pos) (tC (.bl b)):=λ_ _ _ H _ I h=>Constant_bool ⟨.bl b,H,I,rfl,h⟩
def jO{j pos}:PE X (.Constant .none j pos) (tC .dQ):=λ_ _ _ H _ I h=>Constant_none ⟨.dQ,H,I,rfl,h⟩
def uC{x j pos}:PE X (.Constant (.str x) j pos) (tC (.str x)):=λ_ _ _ H _ I h=>Calls.Constant_str ⟨.str x,H,I.tok _,⟨_,rfl⟩,h⟩
def Gl(X:Cx)(x:Str):Prop:=X.env.kindOf x=some .globalImplicit
def sD{E:Value->Shared->Prop}{Q:Value->Shared->Prop}(I:Inv X pins σ H s)(hg:Gl X x)(hm:X.mg x=some u)(h:Q u s)(hd:(x==("__debug__":Str))=false:=by decide):wpAny (model X.prog X.w) X.A (eval (.Name x pos) X.env) Q E s:=Kv I.ok.kind hg (Calls.loadGlobal_global (by rw[I.ok.glob];exact I.mod.glob.keeps I.bk) hm h) hd
def oQ{E:Value->Shared->Prop}{Q:Value->Shared->Prop}(I:Inv X pins σ H s)(hg:Gl X x)(hm:X.mg x=none)(hv:bootBuiltins x=some u)(h:Q u s)(hn:x≠"__name__":=by decide)(hd:(x==("__debug__":Str))=false:=by decide):wpAny (model X.prog X.w) X.A (eval (.Name x pos) X.env) Q E s:=by obtain⟨mb,h1,h2⟩:=I.mod.blt;exact Kv I.ok.kind hg (Calls.loadGlobal_builtin (by rw[I.ok.glob];exact I.mod.glob.keeps I.bk) hm (by rw[I.ok.blt];exact h1.keeps I.bk) ((h2 x hn).trans hv) h) hd
def bj(hg:Gl X x)(hm:X.mg x=some u)(r:RelV v u)(hd:(x==("__debug__":Str))=false:=by decide):PE X (.Name x pos) (tC v):=λ_ _ _ H _ I h=>sD I hg hm ⟨v,H,I,r,h⟩ hd
inductive b2I (k:Int->Int->Hp->Prop) (x y:V) (H:Hp):Prop|mk (i j:Int) (e1:x=.int i) (e2:y=.int j) (q:k i j H):b2I k x y H
def t2I(ta tb:TE)(k:Int->Int->Hp->Prop):St->Hp->Prop:=fun σ H=>ta σ H λx H1=>tb σ H1 λy H2=>b2I k x y H2
variable {a b:Expr} {ta tb:TE} {pos:Pos}
def PC(X:Cx)(op:CmpOp)(a b:Expr)(t:TE):Prop:=∀(pins:List (Addr×Obj))(s:Shared)(σ:St)(H:Hp)(Q:VK),Inv X pins σ H s->t σ H Q->wpAny (model X.prog X.w) X.A (eval a X.env) (λv s₁=>wpAny (model X.prog X.w) X.A (eval b X.env) (λu s₂=>wpAny (model X.prog X.w) X.A (compareOp op v u) (EP X pins σ Q) X.xe s₂) X.xe s₁) X.xe s
def Bu(b:Expr)(h:op≠.In)(h2:op≠.NotIn):behindInMarks op b=false:=by
 have e1:(op==CmpOp.In)=false:=by cases op<;>first|rfl|exact absurd rfl h
 have e2:(op==CmpOp.NotIn)=false:=by cases op<;>first|rfl|exact absurd rfl h2
 cases b<;>simp[behindInMarks,e1,e2]
def Gp(p:Int->Int->Bool)(ta tb:TE):TE:=fun σ H Q=>t2I ta tb (λi j H2=>Q (.bl (p i j)) H2) σ H
abbrev tLt:TE->TE->TE:=Gp λi j=>decide (i<j)
abbrev tLe:TE->TE->TE:=Gp λi j=>decide (i<=j)
abbrev tGt:TE->TE->TE:=Gp λi j=>decide (j<i)
abbrev Rw:TE->TE->TE:=Gp λi j=>decide (i=j)
abbrev VT:TE->TE->TE:=Gp λi j=>!decide (i=j)
def uD(ha:PE X a ta)(hb:PE X b tb)(rule:∀(i j:Int)(t u:Tok)(Q:Value->Shared->Prop)(s:Shared),Q (.bool (p i j)) s->wpAny (model X.prog X.w) X.A (compareOp op (.int i t) (.int j u)) Q X.xe s):PC X op a b (Gp p ta tb):=by intro pins s σ H Q I h;refine bin ha hb I h λv u s2 x y H2 I2 rx ry q=>?_;obtain⟨i,j,rfl,rfl,q⟩:=q;obtain⟨t,rfl⟩:=rx;obtain⟨t',rfl⟩:=ry;exact rule i j t t' _ s2 ⟨.bl _,H2,I2,rfl,q⟩
def EJ(ha:PE X a ta)(hb:PE X b tb):PC X .Lt a b (tLt ta tb):=uD ha hb λ_ _ _ _ _ _ h=>lt_int h
def EK(ha:PE X a ta)(hb:PE X b tb):PC X .LtE a b (tLe ta tb):=uD ha hb λ_ _ _ _ _ _ h=>le_int h
def wI(ha:PE X a ta)(hb:PE X b tb):PC X .Gt a b (tGt ta tb):=uD ha hb λ_ _ _ _ _ _ h=>gt_int h
def gy(ha:PE X a ta)(hb:PE X b tb):PC X .Eq a b (Rw ta tb):=uD ha hb λ_ _ _ _ _ _ h=>eq_int (by rw[Kz];exact h)
def qA(ha:PE X a ta)(hb:PE X b tb):PC X .NotEq a b (VT ta tb):=uD ha hb λ_ _ _ _ _ _ h=>ne_int (by rw[bne,Kz];exact h)
def aah(ta:TE):TE:=fun σ H Q=>ta σ H λx H1=>Q (.bl (decide (x=.dQ))) H1
def WO(ta:TE):TE:=fun σ H Q=>ta σ H λx H1=>Q (.bl (!decide (x=.dQ))) H1
def RelV.Bt(r:RelV x v):(v==Value.none)=decide (x=.dQ):=by cases x with|dQ=>cases r;rfl|bl _=>cases r;rfl|int _=>obtain⟨t,rfl⟩:=r;rfl|str _=>obtain⟨t,rfl⟩:=r;rfl|Ax _=>obtain⟨t,rfl⟩:=r;rfl|Vr _=>obtain⟨t,rfl⟩:=r;rfl|ref _=>cases r;rfl|ty _=>cases r;rfl
def oO{j pos'}(ha:PE X a ta):PC X .Is a (.Constant .none j pos') (aah ta):=by intro pins s σ H Q I h;refine dH (ha pins s σ H _ I h) λv s1⟨x,H1,I1,r1,q1⟩=>?_;exact Constant_none (is_none_gen ⟨.bl _,H1,I1,by rw[r1.Bt];rfl,q1⟩)
def so{j pos'}(ha:PE X a ta):PC X .IsNot a (.Constant .none j pos') (WO ta):=by intro pins s σ H Q I h;refine dH (ha pins s σ H _ I h) λv s1⟨x,H1,I1,r1,q1⟩=>?_;exact Constant_none (isnot_none_gen ⟨.bl _,H1,I1,by rw[r1.Bt];rfl,q1⟩)
inductive bB (Q:Bool->Hp->Prop) (x:V) (H:Hp):Prop|mk (c:Bool) (e:x=.bl c) (q:Q c H):bB Q x H
def tB(t:TE):TT:=fun σ H Q=>t σ H λx H1=>bB Q x H1
def oN(h:PC X op a b t)(h1:behindInMarks op b=false:=by first|exact Bu _ (by decide) (by decide)|rfl):PE X (.Compare a [op] [b] pos) t:=λpins s σ H Q I hw=>wpAny_Compare1 (h pins s σ H Q I hw) h1
def cq{op:CmpOp}(h:PC X op a b t)(h1:behindInMarks op b=false:=by first|exact Bu _ (by decide) (by decide)|rfl):PT X (.Compare a [op] [b] pos) (tB t):=by intro pins s σ H Q I hw;refine JY (dH (h pins s σ H _ I hw) λv s1 h1=>dH h1 λu s2 h2=>dH h2 λc s3⟨x,H1,I1,r1,q1⟩=>?_) h1;obtain⟨d,rfl,q⟩:=q1;cases r1;exact pj ⟨H1,I1,q⟩
def dj(h:PE X e t)(he:∀whole,isTrue e X.env whole=(do let v <-whole;standAt e.pos;holding [v] (truthy v)):=by intro _;rfl):PT X e (tB t):=by intro pins s σ H Q I hw;refine isTrue_plain (dH (h pins s σ H _ I hw) λv s1⟨x,H1,I1,r1,q1⟩=>?_) (he _);obtain⟨d,rfl,q⟩:=q1;cases r1;exact pj ⟨H1,I1,q⟩
variable {tA XX:TT} {rest:List Expr}
def aaj(t u:TT):TT:=fun σ H Q=>t σ H λc H1=>if c=true then u σ H1 Q else Q false H1
def tOr(t u:TT):TT:=fun σ H Q=>t σ H λc H1=>if c=true then Q true H1 else u σ H1 Q
def aag(t:TT):TT:=fun σ H Q=>t σ H λc H1=>Q (!c) H1
def zI(ha:PT X a tA):PW X (.BoolOp .And [a] pos) tA:=by intro wh pins s σ H Q I h;refine isTrue_and (dH (ha pins s σ H Q I h) λc s1 e=>?_);cases c with|true=>exact isTrue_and_nil e|false=>exact e
def qy(ha:PT X a tA):PW X (.BoolOp .Or [a] pos) tA:=by intro wh pins s σ H Q I h;refine isTrue_or (dH (ha pins s σ H Q I h) λc s1 e=>?_);cases c with|false=>exact isTrue_or_nil e|true=>exact e
def zd(ha:PT X a tA)(hb:PW X (.BoolOp .And (b::rest) pos) XX):PW X (.BoolOp .And (a::b::rest) pos) (aaj tA XX):=by intro wh pins s σ H Q I h;refine isTrue_and (dH (ha pins s σ H _ I h) λc s1⟨H1,I1,q1⟩=>?_);cases c with|true=>exact hb wh pins s1 σ H1 Q I1 q1|false=>exact⟨H1,I1,q1⟩
def tM(ha:PT X a tA)(hb:PW X (.BoolOp .Or (b::rest) pos) XX):PW X (.BoolOp .Or (a::b::rest) pos) (tOr tA XX):=by intro wh pins s σ H Q I h;refine isTrue_or (dH (ha pins s σ H _ I h) λc s1⟨H1,I1,q1⟩=>?_);cases c with|true=>exact⟨H1,I1,q1⟩|false=>exact hb wh pins s1 σ H1 Q I1 q1
def fm(ha:PT X a tA):PT X (.UnaryOp .Not a pos) (aag tA):=by intro pins s σ H Q I h;exact isTrue_not (ha pins s σ H (λc H1=>Q (!c) H1) I h)
def WV(ta tb:TE):TE:=fun σ H Q=>ta σ H λx H1=>∃c,x=.bl c/\if c=true then tb σ H1 Q else Q (.bl false) H1
def aaf(ta tb:TE):TE:=fun σ H Q=>ta σ H λx H1=>∃c,x=.bl c/\if c=true then Q (.bl true) H1 else tb σ H1 Q
def Lh{op}(h:PE X a t):PE X (.BoolOp op [a] pos) t:=λpins s σ H Q I hw=>BoolOp_one (h pins s σ H Q I hw)
def SX(ha:PE X a ta)(hb:PE X (.BoolOp .And (b::rest) pos) tb):PE X (.BoolOp .And (a::b::rest) pos) (WV ta tb):=by intro pins s σ H Q I h;refine BoolOp_and (dH (ha pins s σ H _ I h) λv s1⟨x,H1,I1,r1,q1⟩=>?_);obtain⟨c,rfl,q1⟩:=q1;cases r1;refine pj ?_;cases c with|true=>exact hb pins s1 σ H1 Q I1 q1|false=>exact⟨.bl false,H1,I1,rfl,q1⟩
def Xb(ha:PE X a ta)(hb:PE X (.BoolOp .Or (b::rest) pos) tb):PE X (.BoolOp .Or (a::b::rest) pos) (aaf ta tb):=by intro pins s σ H Q I h;refine BoolOp_or (dH (ha pins s σ H _ I h) λv s1⟨x,H1,I1,r1,q1⟩=>?_);obtain⟨c,rfl,q1⟩:=q1;cases r1;refine pj ?_;cases c with|false=>exact hb pins s1 σ H1 Q I1 q1|true=>exact⟨.bl true,H1,I1,rfl,q1⟩
def tIf(t:TT)(ta tb:TE):TE:=fun σ H Q=>t σ H λc H1=>if c=true then ta σ H1 Q else tb σ H1 Q
def jv(hc:PT X c tA)(ha:PE X a ta)(hb:PE X b tb):PE X (.IfExp c a b pos) (tIf tA ta tb):=by intro pins s σ H Q I h;refine wpAny_IfExp (dH (hc pins s σ H _ I h) λd s1⟨H1,I1,q1⟩=>?_);cases d with|true=>exact ha pins s1 σ H1 Q I1 q1|false=>exact hb pins s1 σ H1 Q I1 q1
end
end L2
namespace L2
open PySem PySem.Spec PyProof.Rows
def bp(K:PySem.W.Frag)(H:Hp)(a:Addr)(xs:List V):Prop:=Rd H a (.lst xs)\/∃(o:Obj)(b_:Array Value)(n:Nat),K.lookup a=some o/\o.cls=.type "list"/\o.dict=none/\o.data=.seq b_ n/\b_.size<=sizeLine/\ck xs b_.toList
def qb(K:PySem.W.Frag)(H:Hp)(a:Addr)(xs:List V):Prop:=Rd H a (.tup xs)\/∃(o:Obj)(b_:Array Value)(n:Nat),K.lookup a=some o/\o.cls=.type "tuple"/\o.data=.seq b_ n/\b_.size<=sizeLine/\ck xs b_.toList
def abp:Value->Option V|.none=>some .dQ|.bool b=>some (.bl b)|.int i _=>some (.int i)|.str x _=>some (.str x)|.bytes b _=>some (.Ax b)|.float b _=>some (.Vr b)|.ref a=>some (.ref a)|.type n=>some (.ty n)|_=>none
def RelV.abs(r:RelV x u):abp u=some x:=by cases x with|dQ=>cases r;rfl|bl _=>cases r;rfl|int _=>obtain⟨t,rfl⟩:=r;rfl|str _=>obtain⟨t,rfl⟩:=r;rfl|Ax _=>obtain⟨t,rfl⟩:=r;rfl|Vr _=>obtain⟨t,rfl⟩:=r;rfl|ref _=>cases r;rfl|ty _=>cases r;rfl
theorem RelV.inj(r:RelV x u)(q:RelV y u):x=y:=bZ (r.abs.symm.trans q.abs)
theorem ck.inj:∀{xs ys:List V}{us:List Value},ck xs us->ck ys us->xs=ys|_,_,_,.nil,.nil=>rfl|_,_,_,.cons r t,.cons r' t'=>by rw[r.inj r',ck.inj t t']
section
variable {X:Cx} {pins:List (Addr×Obj)} {σ:St} {H:Hp} {s:Shared} {a:Addr} {xs ys:List V}
def bp.of{K:PySem.W.Frag}(h:H a=some (.lst xs)):bp K H a xs:=.inl (.inl h)
def qb.of{K:PySem.W.Frag}(h:H a=some (.tup xs)):qb K H a xs:=.inl (.inl h)
def Inv.list(I:Inv X pins σ H s)(h:bp X.K H a xs):∃b_:List Value,ck xs b_/\PlainL s.heap a b_.toArray/\xs.length<=sizeLine:=by
 rcases h with h|⟨o,b_,n,hk,hc,hd,hs,hz,r⟩;.obtain⟨z,b_,n,r,e⟩:=h.ok I.dg;exact⟨b_,r,⟨_,n,e,rfl,rfl,rfl⟩,z⟩
 refine⟨b_.toList,r,⟨o,n,I.An a o hk,hc,hd,by simpa using hs⟩,?_⟩;have e:=r.length;simp only[tu]at e;omega
def Inv.tuple(I:Inv X pins σ H s)(h:qb X.K H a xs):∃b_:List Value,ck xs b_/\IsTup s.heap a b_.toArray/\xs.length<=sizeLine:=by
 rcases h with h|⟨o,b_,n,hk,hc,hs,hz,r⟩;.obtain⟨z,b_,r,p⟩:=h.ok I.dg;exact⟨b_,r,p,z⟩
 refine⟨b_.toList,r,⟨o,I.An a o hk,hc,n,by simpa using hs⟩,?_⟩;have e:=r.length;simp only[tu]at e;omega
def Inv.vn(I:Inv X pins σ H s)(h:bp X.K H a xs)(h':bp X.K H a ys):xs=ys:=by
 obtain⟨b_,r,⟨o,n,e,_,_,d⟩,_⟩:=I.list h;obtain⟨its',r',⟨o',n',e',_,_,d'⟩,_⟩:=I.list h';rw[e]at e';cases e';rw[d]at d';injection d' with d1 _
 have:b_=its':=by simpa using congrArg Array.toList d1
 subst this;exact r.inj r'
end
abbrev Cx.v_(X:Cx)(E:Value->Shared->Prop):Cx:={X with xe:=E}
abbrev Cx.QZ(X:Cx):Cx:=X.v_ λ_ _=>False
theorem Cx.Ok.v_{X:Cx}(ok:X.Ok)(E:Value->Shared->Prop):(X.v_ E).Ok:=⟨ok.mod,ok.kind,ok.glob,ok.blt,ok.above,ok.inj,ok.has,ok.Vz,ok.hd,ok.frames,ok.XY,ok.YG,ok.bs,ok.Ir,ok.IS,ok.I_,ok.pf,ok.NI⟩
def Cx.Ok.lU{X:Cx}{E:Value->Shared->Prop}(ok:(X.v_ E).Ok):X.Ok:=⟨ok.mod,ok.kind,ok.glob,ok.blt,ok.above,ok.inj,ok.has,ok.Vz,ok.hd,ok.frames,ok.XY,ok.YG,ok.bs,ok.Ir,ok.IS,ok.I_,ok.pf,ok.NI⟩
section
variable {X:Cx} {pins:List (Addr×Obj)} {σ:St} {H:Hp} {s:Shared} {E:Value->Shared->Prop}
theorem Inv.v_(I:Inv X pins σ H s)(E:Value->Shared->Prop):Inv (X.v_ E) pins σ H s:=⟨I.ok.v_ E,I.os,I.bare,I.base,I.loc,I.cell,I.free,I.jE,I.pin,I.dg,I.len⟩
theorem Inv.lU(I:Inv (X.v_ E) pins σ H s):Inv X pins σ H s:=⟨I.ok.lU,I.os,I.bare,I.base,I.loc,I.cell,I.free,I.jE,I.pin,I.dg,I.len⟩
theorem SP.lU(h:SP (X.v_ E) pins D f s'):SP X pins D f s':=by cases f with|next=>obtain⟨σ',H',I,q⟩:=h;exact⟨σ',H',I.lU,q⟩|brk=>obtain⟨σ',H',I,q⟩:=h;exact⟨σ',H',I.lU,q⟩|cont=>obtain⟨σ',H',I,q⟩:=h;exact⟨σ',H',I.lU,q⟩|ret u=>obtain⟨v,σ',H',I,r,q⟩:=h;exact⟨v,σ',H',I.lU,r,q⟩
theorem Cd.QZ{st:List Stmt}{t:TS}(h:Cd X.QZ st t):Cd X st t:=λpins s σ H D I hw=>iZ (h pins s σ H D (I.v_ _) hw) (λ_ _ q=>q.lU) λ_ _ z=>False.elim z
end
section
variable {X:Cx} {st:Stmt} {rest:List Stmt} {t u:TS} {e:Expr} {te:TE} {pos:Pos}
def Je:TS:=λD σ H=>D.nx σ H
def Rp(t u:TS):TS:=λD σ H=>t {D with nx:=u D} σ H
def ba:Cd X [] Je:=λ_ _ σ H _ I h=>yx ⟨σ,H,I,h⟩
def aj(h1:PS X st t)(h2:Cd X rest u):Cd X (st::rest) (Rp t u):=by intro pins s σ H D I h;refine wpAny_execs_cons (dH (h1 pins s σ H {D with nx:=u D} I h) λf s1 q=>?_);cases f with|next=>obtain⟨σ',H',I',q⟩:=q;exact h2 pins s1 σ' H' D I' q|ret v=>exact q|brk=>exact q|cont=>exact q
def aq(h1:PS X st t):Cd X [st] t:=by intro pins s σ H D I h;refine wpAny_execs_cons (dH (h1 pins s σ H D I h) λf s1 q=>?_);cases f with|next=>exact yx q|ret v=>exact q|brk=>exact q|cont=>exact q
def Inv.quiet(I:Inv X pins σ H s):interactive X.env=false:=by simp[interactive,I.ok.kind]
def Jh(te:TE):TS:=λD σ H=>te σ H λ_ H1=>D.nx σ H1
def cA(he:PE X e te)(hs:swapsWith e none pos.line X.env=pure false:=by rfl):PS X (.Expr e pos) (Jh te):=by intro pins s σ H D I h;exact wpAny_Expr_any (dH (he pins s σ H _ I h) λv s1⟨x,H1,I1,r1,q1⟩=>⟨σ,H1,I1,q1⟩) I.quiet hs
def Rq(te:TE):TS:=λD σ H=>te σ H D.rt
def aH(he:PE X e te):PS X (.Return (some e) pos) (Rq te):=by intro pins s σ H D I h;exact wpAny_Return_some (dH (he pins s σ H _ I h) λv s1⟨x,H1,I1,r1,q1⟩=>⟨x,σ,H1,I1,r1,q1⟩)
def Ru(c:TT)(t u:TS):TS:=λD σ H=>c σ H λb H1=>if b=true then t D σ H1 else u D σ H1
def cG{tc:TT}(hc:PT X c tc)(ha:Cd X a t)(hb:Cd X b u):PS X (.If c a b pos) (Ru tc t u):=by intro pins s σ H D I h;refine wpAny_If (dH (hc pins s σ H _ I h) λd s1⟨H1,I1,q1⟩=>?_);cases d with|true=>exact ha pins s1 σ H1 D I1 q1|false=>exact hb pins s1 σ H1 D I1 q1
end
abbrev TG:=V->St->Hp->(St->Hp->Prop)->Prop
abbrev UJ:=List V->St->Hp->(St->Hp->Prop)->Prop
def PG(X:Cx)(target:Expr)(t:TG):Prop:=∀(pins:List (Addr×Obj))(s:Shared)(σ:St)(H:Hp)(v:V)(u:Value)(Q:St->Hp->Prop),Inv X pins σ H s->RelV v u->t v σ H Q->wpAny (model X.prog X.w) X.A (assign target X.env u) (λ_ s'=>∃σ' H',Inv X pins σ' H' s'/\Q σ' H') X.xe s
def YX(X:Cx)(ts:List Expr)(t:UJ):Prop:=∀(pins:List (Addr×Obj))(s:Shared)(σ:St)(H:Hp)(vs:List V)(us:List Value)(Q:St->Hp->Prop),Inv X pins σ H s->ck vs us->t vs σ H Q->wpAny (model X.prog X.w) X.A (assignInOrder ((assignEach ts X.env).map (·.2)) us) (λ_ s'=>∃σ' H',Inv X pins σ' H' s'/\Q σ' H') X.xe s
abbrev Sn:=V->V->V->Hp->(Hp->Prop)->Prop
def WK(X:Cx)(t:Sn):Prop:=∀(pins:List (Addr×Obj))(s:Shared)(σ:St)(H:Hp)(o i v:V)(ov iv u:Value)(Q:Hp->Prop),Inv X pins σ H s->RelV o ov->RelV i iv->RelV v u->t o i v H Q->wpAny (model X.prog X.w) X.A (setItem ov iv u) (λ_ s'=>∃H',Inv X pins σ H' s'/\Q H') X.xe s
section
variable {X:Cx} {pos:Pos}
def gg(i:Nat):TG:=λv σ H Q=>Q (σ.set i (some v)) H
def bb(hN:X.N.Nodup)(hi:X.N[i]?=some x)(hx:Loc X.env.scope x)(hf:X.fn x=true\/X.env.scope.names.lookup x=some .local:=by first|exact .inl rfl|exact .inr rfl|assumption):PG X (.Name x pos) (gg i):=by intro pins s σ H v u Q I r h;exact wpAny_assign_Name (Bc I hN hi hx r (λs' I'=>⟨_,H,I',h⟩) hf)
def Wv:UJ:=λvs σ H Q=>vs=[]/\Q σ H
def JH(t:TG)(u:UJ):UJ:=λvs σ H Q=>∃v r,vs=v::r/\t v σ H fun σ' H'=>u r σ' H' Q
def m_:YX X [] Wv:=by intro pins s σ H vs us Q I r h;obtain⟨e,h⟩:=h;subst e;cases r;exact assignInOrder_nil ⟨σ,H,I,h⟩
def eP{es:List Expr}{t:TG}{u:UJ}(h1:PG X e t)(h2:YX X es u)(hs:(assignEach (e::es) X.env).map (·.2)=assign e X.env::(assignEach es X.env).map (·.2):=by rfl):YX X (e::es) (JH t u):=by intro pins s σ H vs us Q I r h;obtain⟨v,vr,e1,h⟩:=h;subst e1;cases r with|cons r rr=>rw[hs];refine assignInOrder_cons (dH (h1 pins s σ H _ _ _ I r h) λ_ s1⟨σ1,H1,I1,q1⟩=>?_);exact h2 pins s1 σ1 H1 _ _ Q I1 rr q1
def Wu(K:PySem.W.Frag)(n:Nat)(t:UJ):TG:=λv σ H Q=>∃a xs,v=.ref a/\qb K H a xs/\xs.length=n/\t xs σ H Q
def qz(hc:X.calm=true)(h:YX X es t)(hn:(assignEach es X.env).length=n:=by rfl)(sS:(assignEach es X.env).findIdx? (·.1)=none:=by rfl):PG X (.Tuple es k pos) (Wu X.K n t):=by intro pins s σ H v u Q I r hw;obtain⟨a,xs,e1,hq,hl,hw⟩:=hw;subst e1;cases r;obtain⟨b_,rv,ht,hz⟩:=I.tuple hq;refine assign_Tuple_tuple (I.ok.hd hc) ht (by simp[hn,<-hl,rv.length]) sS λh' hx=>?_;have I1:Inv X pins σ H {s with heap:=h'}:=I.kept (t':=s.toks) λb o e=>hx b o (fw (cY e)) e;exact h pins _ σ H xs _ Q I1 (by simpa using rv) hw
def abe(to ti:TE)(t:Sn):TG:=λv σ H Q=>to σ H λo H1=>ti σ H1 λi H2=>t o i v H2 λH3=>Q σ H3
def kl{t:Sn}(ho:PE X o to)(hi:PE X i ti)(hs:WK X t)
    (ha:∀v,assign (.Subscript o i pos) X.env v=(do
      let ov <-holding [v] (eval o X.env)
      let iv <-holding [v,ov] (eval i X.env)
      standAt pos
      holding [v,ov,iv] (setItem ov iv v)
      release [v,ov,iv] []):=by intro _;rfl):PG X (.Subscript o i pos) (abe to ti t):=by
  intro pins s σ H v u Q I r h
  rw[ha]
  refine aZ (lT (dH (ho pins s σ H _ I h) λov s1⟨x,H1,I1,r1,q1⟩=>?_))
  refine aZ (lT (dH (hi pins s1 σ H1 _ I1 q1) λiv s2⟨y,H2,I2,r2,q2⟩=>?_))
  refine aZ (tW (aZ (lT (dH (hs pins s2 σ H2 x y v ov iv u _ I2 r1 r2 r q2) λ_ s3⟨H3,I3,q3⟩=>?_))))
  exact wpAny_release ⟨σ,H3,I3,q3⟩
def IM(te:TE)(g:TG):TS:=λD σ H=>te σ H λx H1=>g x σ H1 D.nx
def kj{g:TG}(he:PE X e te)(hg:PG X tg g)(hs:swapsWithSole [tg] e pos.line X.env=pure false:=by rfl)(hw:swappedStores [tg] e X.env=pure none:=by rfl)(h1:(assignEach [tg] X.env).map (·.2)=[assign tg X.env]:=by rfl):PS X (.Assign [tg] e pos) (IM te g):=by intro pins s σ H D I h;refine wpAny_Assign_stores (dH (he pins s σ H _ I h) λv s1⟨x,H1,I1,r1,q1⟩=>?_) hs hw;rw[h1];exact dH (hg pins s1 σ H1 x v _ I1 r1 q1) λ_ s2 q=>q
def bh{i:Nat}{x:Str}(hN:X.N.Nodup)(hi:X.N[i]?=some x)(hx:Loc X.env.scope x)(he:PE X e te)(hs:swapsWith e (some (.Name x pos')) pos.line X.env=pure false:=by rfl)(hf:X.fn x=true\/X.env.scope.names.lookup x=some .local:=by first|exact .inl rfl|exact .inr rfl|assumption):PS X (.Assign [.Name x pos'] e pos) (IM te (gg i)):=by intro pins s σ H D I h;refine wpAny_Assign_Name (dH (he pins s σ H _ I h) λv s1⟨y,H1,I1,r1,q1⟩=>?_) hs;exact Bc I1 hN hi hx r1 (λs2 I2=>⟨_,H1,I2,q1⟩) hf
end
section
variable {X:Cx} {pos:Pos}
def Sw(c:TT)(tb:TS):TS:=λD σ H=>∃W:Nat->St->Hp->Prop,(∃m,W m σ H)/\∀m σ H,W m σ H->c σ H λb H1=>if b=true then ∃N:St->Hp->Prop,(∀σ' H',N σ' H'->∃m',m'<m/\W m' σ' H')/\tb {D with nx:=N,ct:=N,bk:=D.nx} σ H1 else D.nx σ H1
def mi{tc:TT}(hp:PassesOwn (model X.prog X.w) X.A X.env X.xe)(hc:PT X c tc)(hb:Cd X body tb):PS X (.While c body [] pos) (Sw tc tb):=by
 intro pins s σ H D I h;obtain⟨W,⟨m0,w0⟩,turn⟩:=h;refine wpAny_While (codeAny_whileLoop (λn s'=>∃σ' H',Inv X pins σ' H' s'/\W n σ' H') ?_ m0 ⟨σ,H,I,w0⟩);rintro n s1 ⟨σ1,H1,I1,w1⟩;refine oH hp (dH (hc pins s1 σ1 H1 _ I1 (turn n σ1 H1 w1)) λb s2⟨H2,I2,q2⟩=>?_);cases b with
 |true=>obtain⟨N,hN,q2⟩:=q2;rw[aw rfl];refine oH hp (dH (hb pins s2 σ1 H2 _ I2 q2) λf s3 q3=>?_);cases f with|next=>obtain⟨σ3,H3,I3,n3⟩:=q3;obtain⟨m',hm,w3⟩:=hN σ3 H3 n3;exact⟨m',hm,σ3,H3,I3,w3⟩|cont=>obtain⟨σ3,H3,I3,n3⟩:=q3;obtain⟨m',hm,w3⟩:=hN σ3 H3 n3;exact⟨m',hm,σ3,H3,I3,w3⟩|brk=>exact q3|ret v=>exact q3
 |false=>rw[au e_];exact yx ⟨σ1,H2,I2,q2⟩
end
structure It where
  go:Nat->Hp->Prop
  Es:Nat->Hp->V->Hp->Prop
  stop:Nat->Hp->Prop
def rR(X:Cx)(pins:List (Addr×Obj))(H:Hp)(b:Addr):Prop:=H b=none/\b≠X.env.locals/\b∉X.fs/\(b∈X.ex\/X.sP.heap.objs.size<=b)/\(∀x c,X.env.cells.lookup x=some c->c≠b)/\∀p∈X.pn++pins,p.1≠b
def Inv.I0(I:Inv X pins σ H s)(hb:s.heap.objs.size<=b)(hn:H' b=none):rR X pins H' b:=by
 refine⟨hn,Cr (gq I.lt hb),I.NV hb,.inr (cB I.sz hb),λx c e z=>?_,λp hp z=>?_⟩;.obtain⟨v,q⟩:=I.cell x c e;exact absurd (gq q.lt (by rw[z];exact hb)) (il _)
 exact absurd (gq (cY (I.pin p hp).1) (by rw[z];exact hb)) (il _)
structure Turn (P:Program) (w:World) (K:PySem.W.Frag) (tg:Expr) (J:It) (fp:List Addr) (it:Addr) (tn:Nat->Heap->Prop):Prop where
  mem:it∈fp
  obj:∀i h,tn i h->∀b∈fp,∃o,h.get? b=some o/\∀v,o.data≠.cell v
  keep:∀i h h',tn i h->(∀b∈fp,∀o,h.get? b=some o->h'.get? b=some o)->tn i h'
  item:∀(X:Cx),X.prog=P->X.w=w->X.K=K->X.calm=true->∀(i:Nat) (pins:List (Addr×Obj)) (s:Shared) (σ:St) (H:Hp) (E:Value->Shared->Prop),Inv X pins σ H s->(∀b∈fp,rR X pins H b)->tn i s.heap->J.go i H->
    wpAny (model P w) X.A (pyNext (.ref it)) (λr s1=>∃u,r=some u/\
      wpAny (model P w) X.A (letOwnedTupleGo tg (.ref it) u) (λ_ s2=>∃x H',Inv X pins σ H' s2/\RelV x u/\J.Es i H x H'/\tn (i+1) s2.heap/\∀b∈fp,H' b=none) E s1) E s
  done:∀(X:Cx),X.prog=P->X.w=w->X.K=K->X.calm=true->∀(i:Nat) (pins:List (Addr×Obj)) (s:Shared) (σ:St) (H:Hp) (E:Value->Shared->Prop),Inv X pins σ H s->(∀b∈fp,rR X pins H b)->tn i s.heap->J.stop i H->
    wpAny (model P w) X.A (pyNext (.ref it)) (λr s1=>r=none/\Inv X pins σ H s1) E s
  self:∀(A:Around) (i:Nat) (s:Shared) (Q:Value->Shared->Prop) (E:Value->Shared->Prop),tn i s.heap->Q (.ref it) s->wpAny (model P w) A (pyIter (.ref it)) Q E s
abbrev TI:=St->Hp->(It->Hp->Prop)->Prop
def PIE(X:Cx)(pins:List (Addr×Obj))(σ:St)(tg:Expr)(R:It->Hp->Prop)(ZN:Value)(s2:Shared):Prop:=∃(it:Addr)(fp:List Addr)(tn:Nat->Heap->Prop)(J:It)(H':Hp),ZN=.ref it/\Inv X pins σ H' s2/\Turn X.prog X.w X.K tg J fp it tn/\tn 0 s2.heap/\(∀b∈fp,rR X pins H' b)/\R J H'
def PI(X:Cx)(tg iter:Expr)(wi:TI):Prop:=∀(pins:List (Addr×Obj))(s:Shared)(σ:St)(H:Hp)(R:It->Hp->Prop),Inv X pins σ H s->wi σ H R->wpAny (model X.prog X.w) X.A (eval iter X.env) (λv s1=>wpAny (model X.prog X.w) X.A (pyIter v) (PIE X pins σ tg R) X.xe s1) X.xe s
def wQ{E:Value->Shared->Prop}{Q:Unit->Shared->Prop}(ho:s.heap.get? it=some o)(hc:o.cls=.type n)(hd:o.data=.fields vs)(hn:["enumerate","zip","dict_itemiterator","dict_reverseitemiterator","odict_iterator","itertools.zip_longest","itertools.pairwise"].contains n=false)(hQ:Q () s):wpAny M A (letOwnedTupleGo tg (.ref it) u) Q E s:=by
 unfold letOwnedTupleGo;cases tg<;>first
  |exact bz hQ
  |(cases u<;>first|exact bz hQ|(refine aZ (wpAny_load ho ?_);rw[hc,hd];show wpAny M A (if (["enumerate","zip","dict_itemiterator","dict_reverseitemiterator","odict_iterator","itertools.zip_longest","itertools.pairwise"].contains n&&vs[0]?==some (rawInt _))=true then _ else _) Q E s;rw[au (by intro h;rw[hn,ud]at h;cases h)];exact bz hQ))
def EA(K:PySem.W.Frag)(a:Addr):It:=⟨λi H=>∃xs x,bp K H a xs/\xs[i]?=some x,λi H x H'=>H'=H/\∀xs,bp K H a xs->xs[i]?=some x,λi H=>∃xs,bp K H a xs/\xs.length<=i⟩
def NL(lo:Int)(n:Nat):It:=⟨λi _=>i<n,λi H x H'=>H'=H/\x=.int (lo+i),λi _=>n<=i⟩
def GF{P:Program}{w:World}{K:PySem.W.Frag}{tg:Expr}(a it:Addr):Turn P w K tg (EA K a) [it] it (λi h=>h.IsListIter it a i) where
  mem:=by simp
  obj:=λi h st b hb=>by
    have e:b=it:=by simpa using hb
    subst e
    obtain⟨o,e,c,d⟩:=st
    exact⟨o,e,λv z=>by rw[d]at z;cases z⟩
  keep:=λi h h' st k=>st.at λo e=>k it (by simp) o e
  item:=by
    intro X hP hw hK hc i pins s σ H E I hf st hg
    subst hP hw hK
    obtain⟨xs,x,hq,hx⟩:=hg
    obtain⟨b_,rv,p,hz⟩:=I.list hq
    obtain⟨u,hu,ru⟩:=rv.get hx
    obtain⟨f0,f1,f2,f3,f4,f5⟩:=hf it (by simp)
    refine wpAny_pyNext_list_item st p.isList (x:=u) (by simpa using hu) λh' jB sb=>?_
    have I1:Inv X pins σ H {s with heap:=h'}:=I.turned (t':=s.toks) (λb o hb e=>(sb.2 b hb).trans e) f0 f1 f3 f4 f5
    obtain⟨o,e,c,d⟩:=id jB
    exact⟨u,rfl,wQ (s:={s with heap:=h'}) e c d (by decide) ⟨x,H,I1,ru,⟨rfl,λys hy=>by rw[I.vn hy hq];exact hx⟩,jB,λb hb=>(hf b hb).1⟩⟩
  done:=by
    intro X hP hw hK hc i pins s σ H E I hf st hg
    subst hP hw hK
    obtain⟨xs,hq,hx⟩:=hg
    obtain⟨b_,rv,p,hz⟩:=I.list hq
    obtain⟨f0,f1,f2,f3,f4,f5⟩:=hf it (by simp)
    have hl:=rv.length
    exact wpAny_pyNext_list_end (I.ok.hd hc) st p.isList (by simp;omega) λh' eb=>⟨rfl,I.turned (t':=s.toks) (λb o hb e=>eb b o hb e) f0 f1 f3 f4 f5⟩
  self:=λ_ _ _ _ _ st h=>wpAny_pyIter_listiter st h
def DU{P:Program}{w:World}{K:PySem.W.Frag}{tg:Expr}(it:Addr)(lo:Int)(n:Nat):Turn P w K tg (NL lo n) [it] it (λi h=>IsRangeIter h it (lo+(i:Nat)*1) ((n:Int)-(i:Nat)) 1) where
  mem:=by simp
  obj:=λi h st b hb=>by
    have e:b=it:=by simpa using hb
    subst e
    exact⟨_,st,λv z=>by
      have z':Data.fields _=Data.cell v:=z
      cases z'⟩
  keep:=λi h h' st k=>k it (by simp) _ st
  item:=by
    intro X hP hw hK hc i pins s σ H E I hf st hg
    subst hP hw hK
    obtain⟨f0,f1,f2,f3,f4,f5⟩:=hf it (by simp)
    have W:=Walks.range (prog:=X.prog) (w:=X.w) (I.ok.hd hc) it lo 1 n
    refine W.item i s _ _ hg st λv h' tk hv jB kk=>?_
    obtain⟨t,rfl⟩:=hv
    have I1:Inv X pins σ H {s with heap:=h',toks:=tk}:=I.turned (λb o hb e=>kk b o (by simpa using hb) e) f0 f1 f3 f4 f5
    refine⟨_,rfl,wQ (s:={s with heap:=h',toks:=tk}) (n:="range_iterator") jB rfl rfl (by decide) ⟨.int (lo+i),H,I1,⟨t,?_⟩,⟨rfl,rfl⟩,jB,λb hb=>(hf b hb).1⟩⟩
    rw[Int.mul_one]
  done:=by
    intro X hP hw hK hc i pins s σ H E I hf st hg
    subst hP hw hK
    obtain⟨f0,f1,f2,f3,f4,f5⟩:=hf it (by simp)
    exact Kc (I.ok.hd hc) st (by have:n<=i:=hg;omega) λh' eb=>⟨rfl,I.turned (t':=s.toks) (λb o hb e=>eb b o hb e) f0 f1 f3 f4 f5⟩
  self:=λ_ _ _ _ _ st h=>Kb st h
end L2
namespace L2
open PySem PySem.Spec PyProof.Rows
section
variable {X:Cx} {tg:Expr}
inductive QL (K:PySem.W.Frag) (x:V) (H:Hp) (R:It->Hp->Prop):Prop|mk (a:Addr) (e1:x=.ref a) (e2:∃xs,bp K H a xs) (q:R (EA K a) H):QL K x H R
def QC(K:PySem.W.Frag)(tl:TE):TI:=fun σ H R=>tl σ H λx H1=>QL K x H1 R
def c9{l:Expr}{tl:TE}(hl:PE X l tl):PI X tg l (QC X.K tl):=by
 intro pins s σ H R I h;refine dH (hl pins s σ H _ I h) λv s1⟨x,H1,I1,r1,q1⟩=>?_;obtain⟨a,e,⟨xs,hq⟩,q⟩:=q1;subst e;cases r1;obtain⟨b_,rv,p,hz⟩:=I1.list hq;refine wpAny_pyIter_list p.isList ?_;refine⟨s1.heap.objs.size,[s1.heap.objs.size],_,_,H1,rfl,I1.kept (t':=s1.toks) λb o e=>ed _ e,GF a _,⟨_,gu _ rfl,rfl,rfl⟩,λb hb=>?_,q⟩;have e:b=s1.heap.objs.size:=by simpa using hb
 subst e;exact I1.I0 (bx _) (I1.dg.fresh (bx _))
def LZ{pins:List (Addr×Obj)}{R:It->Hp->Prop}{E:Value->Shared->Prop}{lo hi:Int}{t u v:Tok}{tk:Nat}(I:Inv X pins σ H s)(h1:-(2^62)<=lo)(h2:lo<2^62)(h3:-(2^62)<=hi)(h4:hi<2^62)(q:R (NL lo (hi-lo).toNat) H):wpAny (model X.prog X.w) X.A (pyIter (.ref s.heap.objs.size)) (PIE X pins σ tg R) E {s with heap:=s.heap.push {cls:=.type "range",data:=.fields #[.int lo t,.int hi u,.int 1 v]},toks:=tk}:=by
 refine wpAny_pyIter_range (IsRange.new ..) (small_one h1 h2 h3 h4) ?_;have I1:Inv X pins σ H {s with heap:=s.heap.push {cls:=.type "range",data:=.fields #[.int lo t,.int hi u,.int 1 v]},toks:=tk}:=I.kept λb o e=>ed _ e;refine⟨(s.heap.push {cls:=.type "range",data:=.fields #[.int lo t,.int hi u,.int 1 v]}).objs.size,[(s.heap.push {cls:=.type "range",data:=.fields #[.int lo t,.int hi u,.int 1 v]}).objs.size],_,_,H,rfl,I1.kept (t':=tk) λb o e=>ed _ e,DU _ lo (hi-lo).toNat,?_,λb hb=>?_,q⟩
 .have e1:lo+((0:Nat):Int)*1=lo:=by simp
  have e2:(((hi-lo).toNat:Nat):Int)-((0:Nat):Int)=Builtin.Range.rangeSize lo hi 1:=by rw[rangeSize_one];split<;>omega
  show IsRangeIter _ _ (lo+((0:Nat):Int)*1) ((((hi-lo).toNat:Nat):Int)-((0:Nat):Int)) 1;rw[e1,e2];exact gu _ rfl
 have e:b=(s.heap.push {cls:=.type "range",data:=.fields #[.int lo t,.int hi u,.int 1 v]}).objs.size:=by simpa using hb
 subst e;exact I1.I0 (bx _) (I1.dg.fresh (bx _))
def Xl(ta:TA):TI:=fun σ H R=>ta σ H λvs H1=>∃j:Int,vs=[.int j]/\-(2^62)<=j/\j<2^62/\R (NL 0 j.toNat) H1
def iu(hg:Gl X "range")(hm:X.mg "range"=none)(ha:PA X [a] ta)(hs:starEach [a] X.env=[(false,eval a X.env)]:=by rfl):PI X tg (.Call (.Name "range" p) [a] [] pos) (Xl ta):=by intro pins s σ H R I h;refine Call_ (oQ I hg hm boot_range (yU (dH (ha pos pins s σ H _ I h) λus s1⟨vs,H1,I1,r1,q1⟩=>?_) hs rfl));obtain⟨j,e,q1,q2,q⟩:=q1;subst e;cases r1 with|cons r rr=>cases rr;obtain⟨t,rfl⟩:=r;exact call_range_1 (LZ I1 (by omega) (by omega) q1 q2 (by simpa using q))
def aai(wi:TI)(g:TG)(tb:TS):TS:=λD σ H=>wi σ H λJ H1=>∃W:Nat->Nat->St->Hp->Prop,(∃m,W 0 m σ H1)/\∀i m σ H,W i m σ H->(J.stop i H/\D.nx σ H)\/(J.go i H/\∃N:St->Hp->Prop,(∀σ' H',N σ' H'->∃m',m'<m/\W (i+1) m' σ' H')/\∀x H',J.Es i H x H'->g x σ H' fun σ2 H2=>tb {D with nx:=N,ct:=N,bk:=D.nx} σ2 H2)
def uA(fp:List Addr)(h:Heap):List (Addr×Obj):=fp.filterMap λb=>(h.get? b).map λo=>(b,o)
def o9(hb:b∈fp)(e:h.get? b=some o):(b,o)∈uA fp h:=tq.mpr ⟨b,hb,by rw[e];rfl⟩
def Hq(hp:p∈uA fp h):p.1∈fp/\h.get? p.1=some p.2:=by obtain⟨b,hb,e⟩:=tq.mp hp;cases q:h.get? b with|none=>rw[q]at e;cases e|some o=>rw[q]at e;have e':(b,o)=p:=bZ e;subst e';exact⟨hb,q⟩
def Inv.pinned(I:Inv X pins σ H s)(hf:∀b∈fp,rR X pins H b)(ho:∀b∈fp,∃o,s.heap.get? b=some o/\∀v,o.data≠.cell v):Inv X (pins++uA fp s.heap) σ H s:=I.sk λp hp=>(cO.mp hp).elim (λz=>I.pin p (fi _ z)) λz=>by obtain⟨hb,e⟩:=Hq z;obtain⟨f0,f1,f2,_⟩:=hf p.1 hb;obtain⟨o,e',d⟩:=ho p.1 hb;rw[e]at e';cases e';exact⟨e,f0,f1,f2,d⟩
def Inv.jX(I:Inv X (pins++pl) σ H s):Inv X pins σ H s:=I.sk λp hp=>I.pin p (fi _ (iS _ hp))
def gd(hp:PassesOwn (model X.prog X.w) X.A X.env X.xe)(hc:X.calm=true)(hi:PI X tg iter wi)(hg:PG X tg g)(hb:Cd X body tb)(hs:∀x,foldedSetIterable iter X.env x=pure x:=by intro _;rfl):PS X (.For tg iter body [] pos) (aai wi g tb):=by
 intro pins s σ H D I h;refine wpAny_For (dH (hi pins s σ H _ I h) λv s1 h1=>dH h1 λZN s2 h2=>?_) hs;obtain⟨it,fp,tn,J,H2,e,I2,T,M5,f2,W,⟨m0,w0⟩,turn⟩:=h2;subst e;have Ce:∀{H':Hp},(∀b∈fp,H' b=none)->∀b∈fp,rR X pins H' b:=λhn b hb=>⟨hn b hb,(f2 b hb).2⟩;refine codeAny_forLoop_any (λn s'=>∃i σ' H',Inv X pins σ' H' s'/\tn i s'.heap/\(∀b∈fp,H' b=none)/\W i n σ' H') ?_ m0 ⟨0,σ,H2,I2,M5,λb hb=>(f2 b hb).1,w0⟩;rintro n s3 ⟨i,σ3,H3,I3,QU,fr3,w3⟩;rcases turn i n σ3 H3 w3 with⟨stop,qn⟩|⟨go,N,hN,step⟩;.refine oH hp (dH (T.done X rfl rfl rfl hc i pins s3 σ3 H3 X.xe I3 (Ce fr3) QU stop) λr s4⟨hr,I4⟩=>?_);subst hr;exact yx ⟨σ3,H3,I4,qn⟩
 refine oH hp (dH (T.item X rfl rfl rfl hc i pins s3 σ3 H3 X.xe I3 (Ce fr3) QU go) λr s4⟨u,hr,h4⟩=>?_);subst hr;refine oH hp (dH h4 λ_ s5⟨x,H5,I5,r5,y5,Ub,fr5⟩=>?_);have I5':=I5.pinned (Ce fr5) (T.obj _ _ Ub);refine oH hp (dH (hg _ s5 σ3 H5 x u _ I5' r5 (step x H5 y5)) λ_ s6⟨σ6,H6,I6,q6⟩=>?_);refine oH hp (dH (hb _ s6 σ6 H6 _ I6 q6) λf s7 q7=>?_);have again:∀{σ7:St}{H7:Hp},Inv X (pins++uA fp s5.heap) σ7 H7 s7->N σ7 H7->∃m,m<n/\∃i σ' H',Inv X pins σ' H' s7/\tn i s7.heap/\(∀b∈fp,H' b=none)/\W i m σ' H':=fun {σ7 H7} I7 n7=>by obtain⟨m',hm,w7⟩:=hN σ7 H7 n7;refine⟨m',hm,i+1,σ7,H7,I7.jX,T.keep _ _ _ Ub λb hb o e=>(I7.pin (b,o) (fi _ (fi _ (o9 hb e)))).1,λb hb=>?_,w7⟩;obtain⟨o,e,d⟩:=T.obj _ _ Ub b hb;exact(I7.pin (b,o) (fi _ (fi _ (o9 hb e)))).2.1
 cases f with|next=>obtain⟨σ7,H7,I7,n7⟩:=q7;exact again I7 n7|cont=>obtain⟨σ7,H7,I7,n7⟩:=q7;exact again I7 n7|brk=>obtain⟨σ7,H7,I7,q7⟩:=q7;exact⟨σ7,H7,I7.jX,q7⟩|ret v=>obtain⟨x7,σ7,H7,I7,r7,q7⟩:=q7;exact⟨x7,σ7,H7,I7.jX,r7,q7⟩
end
def fJ{K:PySem.W.Frag}{a:Addr}{xs:List V}{g:TG}{tb:TS}{D:Ends}{σ:St}{H:Hp}(Pv:Nat->St->Hp->Prop)(h0:Pv 0 σ H)(hl:∀i σ H,i<=xs.length->Pv i σ H->bp K H a xs)(hs:∀i x σ H,xs[i]?=some x->Pv i σ H->g x σ H fun σ2 H2=>tb {D with nx:=Pv (i+1),ct:=Pv (i+1),bk:=D.nx} σ2 H2)(hd:∀σ H,Pv xs.length σ H->D.nx σ H):∃W:Nat->Nat->St->Hp->Prop,(∃m,W 0 m σ H)/\∀i m σ H,W i m σ H->((EA K a).stop i H/\D.nx σ H)\/((EA K a).go i H/\∃N:St->Hp->Prop,(∀σ' H',N σ' H'->∃m',m'<m/\W (i+1) m' σ' H')/\∀x H',(EA K a).Es i H x H'->g x σ H' fun σ2 H2=>tb {D with nx:=N,ct:=N,bk:=D.nx} σ2 H2):=by
 refine⟨λi m σ H=>m=xs.length-i/\i<=xs.length/\Pv i σ H,⟨xs.length,by simp,dW _,h0⟩,?_⟩;rintro i m σ H ⟨rfl,hi,p⟩;have q:=hl i σ H hi p;by_cases ij:i<xs.length;.refine .inr ⟨⟨xs,xs[i],q,by simp[ij]⟩,Pv (i+1),fun σ' H' p'=>⟨xs.length-(i+1),by omega,rfl,ij,p'⟩,λx H' y=>?_⟩;obtain⟨e,y⟩:=y;subst e;exact hs i x σ _ (y xs q) p
 have e:i=xs.length:=by omega
 subst e;exact .inl ⟨⟨xs,q,bx _⟩,hd σ H p⟩
def qV{lo:Int}{n:Nat}{g:TG}{tb:TS}{D:Ends}{σ:St}{H:Hp}(Pv:Nat->St->Hp->Prop)(h0:Pv 0 σ H)(hs:∀i σ H,i<n->Pv i σ H->g (.int (lo+i)) σ H fun σ2 H2=>tb {D with nx:=Pv (i+1),ct:=Pv (i+1),bk:=D.nx} σ2 H2)(hd:∀σ H,Pv n σ H->D.nx σ H):∃W:Nat->Nat->St->Hp->Prop,(∃m,W 0 m σ H)/\∀i m σ H,W i m σ H->((NL lo n).stop i H/\D.nx σ H)\/((NL lo n).go i H/\∃N:St->Hp->Prop,(∀σ' H',N σ' H'->∃m',m'<m/\W (i+1) m' σ' H')/\∀x H',(NL lo n).Es i H x H'->g x σ H' fun σ2 H2=>tb {D with nx:=N,ct:=N,bk:=D.nx} σ2 H2):=by
 refine⟨λi m σ H=>m=n-i/\i<=n/\Pv i σ H,⟨n,by simp,dW _,h0⟩,?_⟩;rintro i m σ H ⟨rfl,hi,p⟩;by_cases ij:i<n;.refine .inr ⟨ij,Pv (i+1),fun σ' H' p'=>⟨n-(i+1),by omega,rfl,ij,p'⟩,λx H' y=>?_⟩;obtain⟨e,y⟩:=y;subst e y;exact hs i σ _ ij p
 have e:i=n:=by omega
 subst e;exact .inl ⟨bx _,hd σ H p⟩
end L2
namespace L2
open PySem PySem.Spec PyProof.Rows
abbrev R2:=V->V->Hp->VK->Prop
def sU(X:Cx)(f:Value->Value->Sem Value)(r:R2):Prop:=∀(pins:List (Addr×Obj))(s:Shared)(σ:St)(H:Hp)(x y:V)(v u:Value)(Q:VK),Inv X pins σ H s->RelV x v->RelV y u->r x y H Q->wpAny (model X.prog X.w) X.A (f v u) (EP X pins σ Q) X.xe s
def UnR(X:Cx)(f:Value->Sem Value)(r:V->Hp->VK->Prop):Prop:=∀(pins:List (Addr×Obj))(s:Shared)(σ:St)(H:Hp)(x:V)(v:Value)(Q:VK),Inv X pins σ H s->RelV x v->r x H Q->wpAny (model X.prog X.w) X.A (f v) (EP X pins σ Q) X.xe s
def ox(X:Cx)(f:Value)(r:List V->Hp->VK->Prop):Prop:=∀(pins:List (Addr×Obj))(s:Shared)(σ:St)(H:Hp)(xs:List V)(us:List Value)(Q:VK),Inv X pins σ H s->ck xs us->r xs H Q->wpAny (model X.prog X.w) X.A (call f us) (EP X pins σ Q) X.xe s
def Ae(r:R2)(ta tb:TE):TE:=fun σ H Q=>ta σ H λx H1=>tb σ H1 λy H2=>r x y H2 Q
def tUn(r:V->Hp->VK->Prop)(ta:TE):TE:=fun σ H Q=>ta σ H λx H1=>r x H1 Q
inductive bI (C:Int->Int->Prop) (g:Int->Int->V) (x y:V) (H:Hp) (Q:VK):Prop|mk (i j:Int) (e1:x=.int i) (e2:y=.int j) (c:C i j) (q:Q (g i j) H):bI C g x y H Q
def rI(C:Int->Int->Prop)(g:Int->Int->V):R2:=λx y H Q=>bI C g x y H Q
inductive bI0 (g:Int->Int->V) (x y:V) (H:Hp) (Q:VK):Prop|mk (i j:Int) (e1:x=.int i) (e2:y=.int j) (q:Q (g i j) H):bI0 g x y H Q
def FW(g:Int->Int->V):R2:=λx y H Q=>bI0 g x y H Q
def rU(g:Int->V):V->Hp->VK->Prop:=λx H Q=>∃i,x=.int i/\Q (g i) H
section
variable {X:Cx} {a b c:Expr} {ta tb tc:TE} {pos:Pos}
def Si(ha:PE X a ta)(hb:PE X b tb){pins:List (Addr×Obj)}{s:Shared}{σ:St}{H:Hp}{R:V->V->Hp->Prop}(I:Inv X pins σ H s)(h:ta σ H λx H1=>tb σ H1 λy H2=>R x y H2){Q:Value->Shared->Prop}{f:Value->Value->Sem Value}(hf:∀v u s2 x y H2,Inv X pins σ H2 s2->RelV x v->RelV y u->R x y H2->wpAny (model X.prog X.w) X.A (f v u) Q X.xe s2):wpAny (model X.prog X.w) X.A (eval a X.env) (λv s₁=>wpAny (model X.prog X.w) X.A (eval b X.env) (λu s₂=>wpAny (model X.prog X.w) X.A (f v u) Q X.xe s₂) X.xe s₁) X.xe s:=by refine dH (ha pins s σ H _ I h) λv s1⟨x,H1,I1,r1,q1⟩=>?_;refine dH (hb pins s1 σ H1 _ I1 q1) λu s2⟨y,H2,I2,r2,q2⟩=>?_;exact hf v u s2 x y H2 I2 r1 r2 q2
def dv(ho:sU X (binaryOp op) r)(ha:PE X a ta)(hb:PE X b tb):PE X (.BinOp a op b pos) (Ae r ta tb):=by intro pins s σ H Q I h;exact wpAny_BinOp (Si ha hb I h λv u s2 x y H2 I2 rx ry q=>ho pins s2 σ H2 x y v u Q I2 rx ry q)
def Qz{r:V->Hp->VK->Prop}(ho:UnR X (unaryOp op) r)(ha:PE X a ta):PE X (.UnaryOp op a pos) (tUn r ta):=by intro pins s σ H Q I h;exact UnaryOp_ (dH (ha pins s σ H _ I h) λv s1⟨x,H1,I1,r1,q1⟩=>ho pins s1 σ H1 x v Q I1 r1 q1)
def Zs{f:Value->Value->Sem Value}{C:Int->Int->Prop}{g:Int->Int->Int}(rule:∀(i j:Int)(t u:Tok)(s:Shared)(Q:Value->Shared->Prop)(E:Value->Shared->Prop),C i j->Q (.int (g i j) s.toks) {s with toks:=s.toks+1}->wpAny (model X.prog X.w) X.A (f (.int i t) (.int j u)) Q E s):sU X f (rI C λi j=>.int (g i j)):=by intro pins s σ H x y v u Q I rx ry h;obtain⟨i,j,rfl,rfl,hc,q⟩:=h;obtain⟨t,rfl⟩:=rx;obtain⟨t',rfl⟩:=ry;exact rule i j t t' s _ _ hc ⟨.int (g i j),H,I.tok _,⟨_,rfl⟩,q⟩
def V4{f:Value->Value->Sem Value}{g:Int->Int->Int}(rule:∀(i j:Int)(t u:Tok)(s:Shared)(Q:Value->Shared->Prop)(E:Value->Shared->Prop),Q (.int (g i j) s.toks) {s with toks:=s.toks+1}->wpAny (model X.prog X.w) X.A (f (.int i t) (.int j u)) Q E s):sU X f (FW λi j=>.int (g i j)):=by intro pins s σ H x y v u Q I rx ry h;obtain⟨i,j,rfl,rfl,q⟩:=h;obtain⟨t,rfl⟩:=rx;obtain⟨t',rfl⟩:=ry;exact rule i j t t' s _ _ ⟨.int (g i j),H,I.tok _,⟨_,rfl⟩,q⟩
def V5{f:Value->Value->Sem Value}{g:Int->Int->Bool}(rule:∀(i j:Int)(t u:Tok)(s:Shared)(Q:Value->Shared->Prop)(E:Value->Shared->Prop),Q (.bool (g i j)) s->wpAny (model X.prog X.w) X.A (f (.int i t) (.int j u)) Q E s):sU X f (FW λi j=>.bl (g i j)):=by intro pins s σ H x y v u Q I rx ry h;obtain⟨i,j,rfl,rfl,q⟩:=h;obtain⟨t,rfl⟩:=rx;obtain⟨t',rfl⟩:=ry;exact rule i j t t' s _ _ ⟨.bl (g i j),H,I,rfl,q⟩
def WM(i j:Int):Prop:=0<j/\j<1073741824
def Ss(i j:Int):Prop:=(-(2^64)<i/\i<2^64)\/(-(2^64)<j/\j<2^64)
def Ss.ok(h:Ss i j):IntMulOk i j:=by
 rcases h with⟨h1,h2⟩|⟨h1,h2⟩;.exact .of_left (intBits_le_64 h1 h2)
 exact .of_right (intBits_le_64 h1 h2)
def gR:sU X (binaryOp .Add) (FW λi j=>.int (i+j)):=V4 λ_ _ _ _ _ _ _ q=>add_int q
def Lj:sU X (binaryOp .Sub) (FW λi j=>.int (i-j)):=V4 λ_ _ _ _ _ _ _ q=>sub_int q
def qB:sU X (binaryOp .Mult) (rI Ss λi j=>.int (i*j)):=Zs λ_ _ _ _ _ _ _ hc q=>mul_int q hc.ok
def O1:sU X (binaryOp .FloorDiv) (rI WM λi j=>.int (i/j)):=Zs λi j _ _ _ _ _ hc q=>by have h1:(0:Int)<j:=hc.1;have h2:j<1073741824:=hc.2;exact floordiv_int (by omega) (by rw[Int.fdiv_eq_ediv_of_nonneg i (by omega)];exact q) (.inl (KJ (by omega)))
def Lk:sU X (binaryOp .Mod) (rI (λ_ j=>0<j) λi j=>.int (i%j)):=Zs λi j _ _ _ _ _ hc q=>by have h1:(0:Int)<j:=hc;exact mod_int' (by omega) (by rw[Int.fmod_eq_emod_of_nonneg i (by omega)];exact q)
def unI{f:Value->Sem Value}{g:Int->Int}(rule:∀(i:Int)(t:Tok)(s:Shared)(Q:Value->Shared->Prop)(E:Value->Shared->Prop),Q (.int (g i) s.toks) {s with toks:=s.toks+1}->wpAny (model X.prog X.w) X.A (f (.int i t)) Q E s):UnR X f (rU λi=>.int (g i)):=by intro pins s σ H x v Q I rx h;obtain⟨i,rfl,q⟩:=h;obtain⟨t,rfl⟩:=rx;exact rule i t s _ _ ⟨.int (g i),H,I.tok _,⟨_,rfl⟩,q⟩
def K7:UnR X (unaryOp .USub) (rU λi=>.int (-i)):=unI λ_ _ _ _ _ q=>neg_int q
end
def VY:V->V->Bool|.dQ,.dQ=>true|.dQ,.int _=>true|.int _,.dQ=>true|.dQ,.bl _=>true|.bl _,.dQ=>true|.dQ,.str _=>true|.str _,.dQ=>true|.int _,.int _=>true|.bl _,.bl _=>true|.str _,.str _=>true|.Ax _,.Ax _=>true|.int _,.str _=>true|.str _,.int _=>true|.bl _,.str _=>true|.str _,.bl _=>true|_,_=>false
def rEq:R2:=λx y H Q=>VY x y=true/\Q (.bl (decide (x=y))) H
def rNe:R2:=λx y H Q=>VY x y=true/\Q (.bl (!decide (x=y))) H
def FH:decide (V.int i=V.int j)=(i==j):=by rw[yB];simp
def Ly:decide (V.bl i=V.bl j)=(i==j):=by rw[yB];simp
def FF:decide (V.str i=V.str j)=(i==j):=by rw[yB];simp
def FJ:decide (V.Ax i=V.Ax j)=(i.toList==j.toList):=by rw[yB];cases i;cases j;simp
section
variable {X:Cx} {a b c:Expr} {ta tb tc:TE} {pos:Pos}
def df(I:Inv X pins σ H s)(q:Q (.bl k) H)(e:k=k'):EP X pins σ Q (.bool k') s:=by subst e;exact⟨.bl k,H,I,rfl,q⟩
def Xe:sU X (compareOp .Eq) rEq:=by
 intro pins s σ H x y v u Q I rx ry h;obtain⟨hs,q⟩:=h;cases x with
 |dQ=>cases rx;cases y with|dQ=>cases ry;exact PySem.EqNone.eq_none_none (df I q (by simp))|bl j=>cases ry;exact PySem.EqNone.eq_none_bool (df I q (by simp))|int j=>obtain⟨t',rfl⟩:=ry;exact PySem.EqNone.eq_none_int (df I q (by simp))|str j=>obtain⟨t',rfl⟩:=ry;exact PySem.EqNone.eq_none_str (df I q (by simp))|_=>exact absurd (show false=true from hs) e_
 |bl i=>cases rx;cases y with|dQ=>cases ry;exact PySem.EqNone.eq_bool_none (df I q (by simp))|bl j=>cases ry;exact eq_bool (df I q Ly)|str j=>obtain⟨t',rfl⟩:=ry;exact PySem.EqMixed.eq_bool_str (df I q (by simp))|_=>exact absurd (show false=true from hs) e_
 |int i=>obtain⟨t,rfl⟩:=rx;cases y with|dQ=>cases ry;exact PySem.EqNone.eq_int_none (df I q (by simp))|int j=>obtain⟨t',rfl⟩:=ry;exact eq_int (df I q FH)|str j=>obtain⟨t',rfl⟩:=ry;exact PySem.EqMixed.eq_int_str (df I q (by simp))|_=>exact absurd (show false=true from hs) e_
 |str i=>obtain⟨t,rfl⟩:=rx;cases y with|dQ=>cases ry;exact PySem.EqNone.eq_str_none (df I q (by simp))|bl j=>cases ry;exact PySem.EqMixed.eq_str_bool (df I q (by simp))|int j=>obtain⟨t',rfl⟩:=ry;exact PySem.EqMixed.eq_str_int (df I q (by simp))|str j=>obtain⟨t',rfl⟩:=ry;exact eq_str (df I q FF)|_=>exact absurd (show false=true from hs) e_
 |Ax i=>obtain⟨t,rfl⟩:=rx;cases y with|Ax j=>obtain⟨t',rfl⟩:=ry;exact PySem.W.eq_bytes (df I q FJ)|_=>exact absurd (show false=true from hs) e_
 |_=>cases y<;>exact absurd (show false=true from hs) e_
def QA:sU X (compareOp .NotEq) rNe:=by
 intro pins s σ H x y v u Q I rx ry h;obtain⟨hs,q⟩:=h;cases x with
 |dQ=>cases rx;cases y with|dQ=>cases ry;exact PySem.EqNone.ne_none_none (df I q (by simp))|bl j=>cases ry;exact PySem.EqNone.ne_none_bool (df I q (by simp))|int j=>obtain⟨t',rfl⟩:=ry;exact PySem.EqNone.ne_none_int (df I q (by simp))|str j=>obtain⟨t',rfl⟩:=ry;exact PySem.EqNone.ne_none_str (df I q (by simp))|_=>exact absurd (show false=true from hs) e_
 |bl i=>cases rx;cases y with|dQ=>cases ry;exact PySem.EqNone.ne_bool_none (df I q (by simp))|bl j=>cases ry;exact ne_bool (df I q (congrArg not Ly))|str j=>obtain⟨t',rfl⟩:=ry;exact PySem.EqMixed.ne_bool_str (df I q (by simp))|_=>exact absurd (show false=true from hs) e_
 |int i=>obtain⟨t,rfl⟩:=rx;cases y with|dQ=>cases ry;exact PySem.EqNone.ne_int_none (df I q (by simp))|int j=>obtain⟨t',rfl⟩:=ry;exact ne_int (df I q (congrArg not FH))|str j=>obtain⟨t',rfl⟩:=ry;exact PySem.EqMixed.ne_int_str (df I q (by simp))|_=>exact absurd (show false=true from hs) e_
 |str i=>obtain⟨t,rfl⟩:=rx;cases y with|dQ=>cases ry;exact PySem.EqNone.ne_str_none (df I q (by simp))|bl j=>cases ry;exact PySem.EqMixed.ne_str_bool (df I q (by simp))|int j=>obtain⟨t',rfl⟩:=ry;exact PySem.EqMixed.ne_str_int (df I q (by simp))|str j=>obtain⟨t',rfl⟩:=ry;exact ne_str (df I q (congrArg not FF))|_=>exact absurd (show false=true from hs) e_
 |Ax i=>obtain⟨t,rfl⟩:=rx;cases y with|Ax j=>obtain⟨t',rfl⟩:=ry;exact PySem.W.ne_bytes (df I q (congrArg not FJ))|_=>exact absurd (show false=true from hs) e_
 |_=>cases y<;>exact absurd (show false=true from hs) e_
def Xd:sU X (compareOp .Lt) (FW λi j=>.bl (decide (i<j))):=V5 λ_ _ _ _ _ _ _ q=>lt_int q
def pB:sU X (compareOp .LtE) (FW λi j=>.bl (decide (i<=j))):=V5 λ_ _ _ _ _ _ _ q=>le_int q
def DK(b:Expr)(h:op≠.In:=by decide)(h2:op≠.NotIn:=by decide):behindInMarks op b=false:=by
 have e1:(op==CmpOp.In)=false:=by cases op<;>first|rfl|exact absurd rfl h
 have e2:(op==CmpOp.NotIn)=false:=by cases op<;>first|rfl|exact absurd rfl h2
 cases b<;>simp[behindInMarks,e1,e2]
def zK(ho:sU X (compareOp op) r)(ha:PE X a ta)(hb:PE X b tb)(hm:behindInMarks op b=false):PE X (.Compare a [op] [b] pos) (Ae r ta tb):=by intro pins s σ H Q I h;exact wpAny_Compare1 (Si ha hb I h λv u s2 x y H2 I2 rx ry q=>ho pins s2 σ H2 x y v u Q I2 rx ry q) hm
def EB(t:TE):TT:=fun σ H Q=>t σ H λx H'=>bB Q x H'
def zJ(ho:sU X (compareOp op) r)(ha:PE X a ta)(hb:PE X b tb)(hm:behindInMarks op b=false):PT X (.Compare a [op] [b] pos) (EB (Ae r ta tb)):=by intro pins s σ H Q I h;refine JY (dH (ha pins s σ H _ I h) λv s1⟨x,H1,I1,r1,q1⟩=>dH (hb pins s1 σ H1 _ I1 q1) λu s2⟨y,H2,I2,r2,q2⟩=>dH (ho pins s2 σ H2 x y v u _ I2 r1 r2 q2) λc s3⟨z,H3,I3,r3,k,e,q3⟩=>?_) hm;subst e;cases r3;exact pj ⟨H3,I3,q3⟩
def yX(r r':R2)(ta tb tc:TE):TE:=fun σ H Q=>ta σ H λx H1=>tb σ H1 λy H2=>r x y H2 λz H3=>∃k,z=.bl k/\(if k=true then tc σ H3 λw' H4=>r' y w' H4 Q else Q (.bl false) H3)
def uY(ho:sU X (compareOp op) r)(Ey:sU X (compareOp UO) r')(ha:PE X a ta)(hb:PE X b tb)(hc:PE X c tc)(hm:lastMarks [op,UO] [b,c]=false:=by with_unfolding_all rfl):PE X (.Compare a [op,UO] [b,c] pos) (yX r r' ta tb tc):=by intro pins s σ H Q I h;refine Compare_chain (dH (ha pins s σ H _ I h) λv s1⟨x,H1,I1,r1,q1⟩=>chain_link (dH (hb pins s1 σ H1 _ I1 q1) λu s2⟨y,H2,I2,r2,q2⟩=>dH (ho pins s2 σ H2 x y v u _ I2 r1 r2 q2) λd s3⟨z,H3,I3,r3,k,e,q3⟩=>?_)) hm;subst e;cases r3;refine pj ?_;cases k with|false=>exact ite_ff ⟨.bl false,H3,I3,rfl,q3⟩|true=>exact ite_tt (chain_last (dH (hc pins s3 σ H3 _ I3 q3) λw' s4⟨z',H4,I4,r4,q4⟩=>Ey pins s4 σ H4 y z' u w' Q I4 r2 r4 q4))
def Bm(ho:sU X (compareOp op) r)(Ey:sU X (compareOp UO) r')(ha:PE X a ta)(hb:PE X b tb)(hc:PE X c tc)(hm:lastMarks [op,UO] [b,c]=false:=by with_unfolding_all rfl):PT X (.Compare a [op,UO] [b,c] pos) (EB (yX r r' ta tb tc)):=by intro pins s σ H Q I h;refine isTrue_chain (dH (ha pins s σ H _ I h) λv s1⟨x,H1,I1,r1,q1⟩=>test_link (dH (hb pins s1 σ H1 _ I1 q1) λu s2⟨y,H2,I2,r2,q2⟩=>dH (ho pins s2 σ H2 x y v u _ I2 r1 r2 q2) λd s3⟨z,H3,I3,r3,k,e,q3⟩=>?_)) hm;subst e;cases r3;refine pj ?_;cases k with|false=>obtain⟨k',e',q'⟩:=q3;cases e';exact ite_ff ⟨H3,I3,q'⟩|true=>refine ite_tt (test_last (dH (hc pins s3 σ H3 _ I3 q3) λw' s4⟨z',H4,I4,r4,q4⟩=>dH (Ey pins s4 σ H4 y z' u w' _ I4 r2 r4 q4) λd' s5⟨z2,H5,I5,r5,k2,e2,q5⟩=>?_));subst e2;cases r5;exact pj ⟨H5,I5,q5⟩
def zg:(sizeLine:Nat)<2^63:=by rw[yk];decide
def D1:sU X (binaryOp .Add) (λx y H Q=>∃i j,x=.str i/\y=.str j/\i.length+j.length<=sizeLine/\Q (.str (i++j)) H):=by intro pins s σ H x y v u Q I rx ry h;obtain⟨i,j,rfl,rfl,hz,q⟩:=h;obtain⟨t,rfl⟩:=rx;obtain⟨t',rfl⟩:=ry;exact add_str (λt' tk=>⟨.str (i++j),H,I.tok _,⟨_,rfl⟩,q⟩) hz
def vals1(r:ck [x] us):∃u,us=[u]/\RelV x u:=by cases r with|cons r1 r2=>cases r2;exact⟨_,rfl,r1⟩
def Ad:ox X (.type "str") (λxs H Q=>∃i,xs=[.int i]/\i.natAbs.log2<1920/\Q (.str (toString i)) H):=by intro pins s σ H xs us Q I r h;obtain⟨i,rfl,hz,q⟩:=h;obtain⟨u,rfl,t,rfl⟩:=vals1 r;exact PySem.P.str_of_int hz ⟨.str _,H,I.tok _,⟨_,rfl⟩,q⟩
def MM:ox X (.builtin "ord") (λxs H Q=>∃x,xs=[.str x]/\x.length=1/\Q (.int (x.cps.getD 0 0:Nat)) H):=by intro pins s σ H xs us Q I r h;obtain⟨x,rfl,hz,q⟩:=h;obtain⟨u,rfl,t,rfl⟩:=vals1 r;exact ord_of_one hz ⟨.int _,H,I.tok _,⟨_,rfl⟩,q⟩
end
end L2
namespace L2
open PySem PySem.Spec PyProof.Rows
structure Ci (h:Heap) (x dx C:Addr) (mA:Str->Option Value):Prop where
  obj:h.get? x=some (PySem.W.instObj C dx)
  ns:h.Ns1 dx mA
  ne:dx≠x
def Hu{h:Heap}{dx:Addr}{mA:Str->Option Value}(n:h.Ns1 dx mA):∃od,h.get? dx=some od/\∀name,PySem.W.lookIn name od=some (mA name):=by
 obtain⟨o,es,ep,ho,hd,hk,_,hm⟩:=n;refine⟨o,ho,λname=>?_⟩;have e:=hm name;unfold nsFind findBy at e;rw[<-Array.find?_toList]at e;unfold PySem.W.lookIn;rw[hd];dsimp only;split;.rename_i y q;rw[q]at e;exact congrArg some e
 rename_i q;rw[q]at e;have a:es.toList.any (·.refKey)=false:=by rw[List.any_eq_false];intro y hy;obtain⟨z,t,IX⟩:=hk y (Array.mem_toList_iff.mp hy);simp[DictEntry.refKey,IX]
 have a':¬es.toList.any (·.refKey)=true:=by rw[a];exact e_
 rw[au a'];exact congrArg some e
def Ci.look(I:Ci h x dx C mA):∃od,PySem.W.InstAt h x (PySem.W.instObj C dx) C (some od)/\∀name,PySem.W.lookIn name od=some (mA name):=let⟨od,ho,hl⟩:=Hu I.ns;⟨od,⟨I.obj,rfl,rfl,ho⟩,hl⟩
section
variable {prog:Program} {w:World} {A:Around} {E:Value->Shared->Prop} {s:Shared} {K:PySem.W.Frag} {x dx C f:Addr} {mA:Str->Option Value} {name:Str} {v:Value}
def get_map{Q:Value->Shared->Prop}(X:K.In s.heap)(I:Ci s.heap x dx C mA)(hg:PySem.W.plainGet K C name=true)(hh:PySem.W.hasDictIn K C=true)(ha:PySem.W.findIn K (.ref C) name=some none)(hv:mA name=some v)(hv':PySem.W.handedIn v=true)(h:Q v {s with toks:=s.toks+1}):wpAny (model prog w) A (getAttr (.ref x) name expr) Q E s:=by obtain⟨od,J,hl⟩:=I.look;exact PySem.W.get_value X J (C5 hg).1 (PySem.W.findObj_own hh ha rfl (by rw[hl,hv])) hv' h
def ME{Q:Value×List Value->Shared->Prop}(X:K.In s.heap)(I:Ci s.heap x dx C mA)(hg:PySem.W.plainGet K C name=true)(hf:PySem.W.findIn K (.ref C) name=some (some (.ref f)))(ht:PySem.W.isFn K (.ref f)=true)(hv:mA name=none)(h:Q (.ref f,[.ref x]) s):wpAny (model prog w) A (getMethod (.ref x) name pl) Q E s:=by obtain⟨od,J,hl⟩:=I.look;exact PySem.W.method_fn X J (C5 hg).1 (C5 hg).2 hf (i4.mp ht) (by show(PySem.W.lookIn name od).map (·.isSome)=some false;rw[hl,hv];rfl) h
def OA{Q:Unit->Shared->Prop}(X:K.In s.heap)(I:Ci s.heap x dx C mA)(hs:PySem.W.findIn K (.ref C) "__setattr__"=some (some (.builtin "object.__setattr__")))(hp:PySem.W.plainOver K C=true)(ht:PySem.W.takerIn K C name=some none)(hh:PySem.W.hasDictIn K C=true)(hw:PySem.Within mA ns)(hsz:ns.length<=sizeLine)(h:∀h',Ci h' x dx C (λy=>if y=name then some v else mA y)->Heap.SameBut dx s.heap h'->Q () {s with heap:=h',toks:=s.toks+2}):wpAny (model prog w) A (setAttr (.ref x) name v) Q E s:=by obtain⟨od,J,hl⟩:=I.look;refine PySem.W.set_plain X J hs (PySem.W.osa_open (s:={s with toks:=s.toks+1}) (r:=none) X J hp ht λb=>?_);obtain⟨cd,hc,Vm⟩:=PySem.W.any_some hh;have hx:s.heap.get? x=some ⟨.ref C,some dx,.plain,#[]⟩:=I.obj;refine aZ (bz (aZ (aZ (wpAny_loadPart hx (aZ (PySem.W.Looks.here (s:={s with toks:=s.toks+1}) (PySem.W.looks_clsIn X hc) ?_))))));rw[Vm];refine bz (a:=some dx) (aZ (bz (aZ ?_)));refine wpAny_nsSet1 (s:={s with toks:=s.toks+1}) I.ns λh' hn2 hs2=>?_;obtain⟨oD,esD,epD,hoD,hdD,hcD⟩:=hn2.count (PySem.Within.cons name v hw);refine aZ (wpAny_lookBehind hoD (by rw[hdD];exact pastItsLine_dict (cB hcD (by rw[dr];omega))) ?_);exact bz (h _ ⟨(hs2.2 _ (jq I.ne)).trans I.obj,hn2,I.ne⟩ hs2)
def My{R:Result->Shared->Prop}(X:K.In s.heap)(hm:PySem.W.makesIn K C=true)(hi:PySem.W.findIn K (.ref C) "__init__"=some (some (.ref f)))(hf:PySem.W.typeIn K (.ref f)=some (.type "function"))(h:codeAny (model prog w) (A.under (.builtin "type.__call__" ⟨.ref C::vs,kw⟩)) (.call (.ref f) ⟨.ref (s.heap.objs.size+1)::vs,kw⟩) (PySem.W.InitBack (s.heap.objs.size+1) R) {s with heap:=(s.heap.push PySem.W.emptyDict).push (PySem.W.instObj C s.heap.objs.size)}):codeAny (model prog w) A (.call (.ref C) ⟨vs,kw⟩) R s:=by obtain⟨hh,g,d,t,os⟩:=s;exact PySem.W.make_core (PySem.W.makes_of X hm) (PySem.W.looks_findIn X hi) (λself=>PySem.W.bind_fn X self hf) (.inl rfl) h
end
def gc(f:Str)(v:V):List (Str×V)->List (Str×V)|[]=>[(f,v)]|(g,x)::r=>if g=f then(g,v)::r else(g,x)::gc f v r
theorem rE(f g:Str)(v:V):∀fs:List (Str×V),(gc f v fs).lookup g=if g=f then some v else fs.lookup g
 |[]=>by
  show List.lookup g [(f,v)]=_;by_cases h:g=f;.have hb:(g==f)=true:=i4.mpr h;simp only[List.lookup,hb,aw h]
  have hb:(g==f)=false:=tE.mpr h;simp only[List.lookup,hb,au h]
 |(k,x)::r=>by
  have ih:=rE f g v r;rw[show gc f v ((k,x)::r)=(if k=f then(k,v)::r else(k,x)::gc f v r)from rfl];by_cases hk:k=f
  .rw[aw hk];by_cases h:g=k;.have hb:(g==k)=true:=i4.mpr h;simp only[List.lookup,hb,aw (h.trans hk)]
   have hb:(g==k)=false:=tE.mpr h;simp only[List.lookup,hb,au (λe:g=f=>h (e.trans hk.symm))]
  rw[au hk];by_cases h:g=k;.have hb:(g==k)=true:=i4.mpr h;simp only[List.lookup,hb,au (λe:g=f=>hk (h.symm.trans e))]
  have hb:(g==k)=false:=tE.mpr h;simp only[List.lookup,hb];exact ih
theorem qS(f:Str)(v:V):∀fs:List (Str×V),f∈(gc f v fs).map (·.1)/\∀g,g∈fs.map (·.1)->g∈(gc f v fs).map (·.1)
 |[]=>⟨by simp[gc],λg h=>by simp at h⟩
 |(k,x)::r=>by
  obtain⟨i1,i2⟩:=qS f v r;rw[show gc f v ((k,x)::r)=(if k=f then(k,v)::r else(k,x)::gc f v r)from rfl];by_cases hk:k=f;.rw[aw hk];subst hk;exact⟨by simp,λg h=>by simpa using h⟩
  rw[au hk];refine⟨?_,λg h=>?_⟩;.rw[cV];exact dR _ i1
  rw[cV]at h⊢;rcases bE.mp h with e|e;.exact bE.mpr (.inl e)
  exact dR _ (i2 g e)
theorem rJ(f:Str)(v:V):∀fs:List (Str×V),(gc f v fs).length<=fs.length+1
 |[]=>by simp[gc]
 |(k,x)::r=>by
  have ih:=rJ f v r;rw[show gc f v ((k,x)::r)=(if k=f then(k,v)::r else(k,x)::gc f v r)from rfl];by_cases hk:k=f;.rw[aw hk,dr,dr];omega
  rw[au hk,dr,dr];omega
def og.some_of(r:og (some v) o):∃u,o=some u/\RelV v u:=by cases o with|none=>exact(show False from r).elim|some u=>exact⟨u,rfl,r⟩
def og.none_of(r:og none o):o=none:=by cases o with|none=>rfl|some u=>exact(show False from r).elim
def HJ(r:RelV v u):PySem.W.handedIn u=true:=by cases v with|dQ=>cases (show u=Value.none from r);rfl|bl b=>cases (show u=Value.bool b from r);rfl|int i=>obtain⟨t,e⟩:=(show ∃t,u=Value.int i t from r);cases e;rfl|str x=>obtain⟨t,e⟩:=(show ∃t,u=Value.str x t from r);cases e;rfl|Ax b=>obtain⟨t,e⟩:=(show ∃t,u=Value.bytes b t from r);cases e;rfl|Vr b=>obtain⟨t,e⟩:=(show ∃t,u=Value.float b t from r);cases e;rfl|ref a=>cases (show u=Value.ref a from r);rfl|ty n=>cases (show u=Value.type n from r);rfl
section
variable {P:Program} {w:World} {H H':Hp} {h h':Heap} {a C dx:Addr} {fs fs':List (Str×V)}
def zO(dg:lE P w H h)(e:H a=some (.ins C dx fs)):∃mA,Ci h a dx C mA/\(∀f,og (fs.lookup f) (mA f))/\PySem.Within mA (fs.map (·.1))/\fs.length<=1000/\H dx=some (.own a):=by obtain⟨d,z,ne,ob,mA,n,r,q⟩:=(show eK P w H h a (.ins C dx fs)from dg a _ e);exact⟨mA,⟨ob,n,ne⟩,r,q,z,d⟩
end
structure B9 (K:PySem.W.Frag) (C:Addr):Prop where
  pg:PySem.W.plainGet K C Str.empty=true
  hd:PySem.W.hasDictIn K C=true
  po:PySem.W.plainOver K C=true
  sa:PySem.W.findIn K (.ref C) "__setattr__"=some (some (.builtin "object.__setattr__"))
def B9.get{K:PySem.W.Frag}{C:Addr}(c:B9 K C)(f:Str):PySem.W.plainGet K C f=true:=c.pg
def ee(K:PySem.W.Frag)(C:Addr)(f:Str):Prop:=PySem.W.findIn K (.ref C) f=some none
def ee.WN{K:PySem.W.Frag}{C:Addr}{f:Str}(n:ee K C f):PySem.W.takerIn K C f=some none:=by unfold PySem.W.takerIn;rw[show PySem.W.findIn K (.ref C) f=some none from n];rfl
structure cU (K:PySem.W.Frag) (C:Addr) (m:Str) (f:Addr):Prop where
  at_:PySem.W.findIn K (.ref C) m=some (some (.ref f))
  fn:PySem.W.isFn K (.ref f)=true
  kp:PySem.W.keepIn K (.ref f)=true
section
variable {X:Cx} {pins:List (Addr×Obj)} {σ:St} {H:Hp} {s:Shared} {a C dx:Addr} {fs:List (Str×V)} {f:Str} {v:V} {A:Around} {E:Value->Shared->Prop}
def Eh{Q:Value->Shared->Prop}(I:Inv X pins σ H s)(e:H a=some (.ins C dx fs))(c:B9 X.K C)(n:ee X.K C f)(l:fs.lookup f=some v)(h:∀u s',Inv X pins σ H s'->RelV v u->Q u s'):wpAny (model X.prog X.w) A (getAttr (.ref a) f b) Q E s:=by obtain⟨mA,O,r,_,_,_⟩:=zO I.dg e;obtain⟨u,hu,ru⟩:=og.some_of (v:=v) (o:=mA f) (by rw[<-l];exact r f);exact get_map I.An O (c.get f) c.hd n hu (HJ ru) (h u _ (I.tok _) ru)
def o_{Q:Value×List Value->Shared->Prop}(I:Inv X pins σ H s)(e:H a=some (.ins C dx fs))(c:B9 X.K C)(k:cU X.K C m g)(l:fs.lookup m=none)(h:Q (.ref g,[.ref a]) s):wpAny (model X.prog X.w) A (getMethod (.ref a) m pl) Q E s:=by obtain⟨mA,O,r,_,_,_⟩:=zO I.dg e;have hn:mA m=none:=og.none_of (by rw[<-l];exact r m);exact ME I.An O (c.get m) k.at_ k.fn hn h
def DY{Q:Unit->Shared->Prop}(I:Inv X pins σ H s)(e:H a=some (.ins C dx fs))(c:B9 X.K C)(n:ee X.K C f)(hl:fs.length<1000)(ry:RelV y u)(h:∀s',Inv X pins σ (upd H a (.ins C dx (gc f y fs))) s'->Q () s'):wpAny (model X.prog X.w) A (setAttr (.ref a) f u) Q E s:=by
 obtain⟨mA,O,r,wi,_,ho⟩:=zO I.dg e;have hz:(fs.map (·.1)).length<=sizeLine:=by rw[aE,yk];omega
 refine OA I.An O c.sa c.po n.WN c.hd wi hz λh' O' sb=>h _ ?_;have hd:∃o,h'.get? dx=some o:=let⟨o,_,_,e',_⟩:=O'.ns;⟨o,e'⟩;refine I.write (x:=a) (e:=dx) (by rw[e];exact True.intro) (.inr ho) (λb q hb z=>(sb.2 b hb).trans z) hd ?_;refine⟨by rw[ah O.ne];exact ho,?_,O.ne,O'.obj,_,O'.ns,λg=>?_,λg hg=>?_⟩;.have:=rJ f y fs;omega
 .show og ((gc f y fs).lookup g) (if g=f then some u else mA g);rw[rE];by_cases q:g=f;.rw[aw q,aw q];exact ry
  rw[au q,au q];exact r g
 by_cases q:g=f;.rw[q];exact(qS f y fs).1
 refine(qS f y fs).2 g (wi g λz=>hg ?_);show(if g=f then some u else mA g)=none;rw[au q];exact z
def Inv.made(I:Inv X pins σ H s):Inv X pins σ (upd (upd H s.heap.objs.size (.own (s.heap.objs.size+1))) (s.heap.objs.size+1) (.ins C s.heap.objs.size [])) {s with heap:=(s.heap.push PySem.W.emptyDict).push (PySem.W.instObj C s.heap.objs.size)}:=by
 have e1:(s.heap.push PySem.W.emptyDict).get? s.heap.objs.size=some PySem.W.emptyDict:=gu s.heap rfl;have e2:((s.heap.push PySem.W.emptyDict).push (PySem.W.instObj C s.heap.objs.size)).get? (s.heap.objs.size+1)=some (PySem.W.instObj C s.heap.objs.size):=by have:=gu (s.heap.push PySem.W.emptyDict) (o:=PySem.W.instObj C s.heap.objs.size) rfl;rwa[lg]at this
 have e3:(s.heap.push PySem.W.emptyDict).Ns s.heap.objs.size (λ_=>none):=⟨PySem.W.emptyDict,#[],_,e1,rfl,(λe he=>absurd he (by simp)),λ_=>rfl⟩;have I1:=I.laid (a:=s.heap.objs.size) (o:=.own (s.heap.objs.size+1)) (h':=s.heap.push PySem.W.emptyDict) (t':=s.toks) (λb u q=>ed _ q) (bx _) ⟨_,e1⟩;refine I1.laid (a:=s.heap.objs.size+1) (o:=.ins C s.heap.objs.size []) (t':=s.toks) (λb u q=>ed _ q) (yp (lg _ _)) ?_;have ne:s.heap.objs.size≠s.heap.objs.size+1:=fw (yF _);refine⟨by rw[ah ne,ai],dW _,ne,e2,λ_=>none,(Heap.Ns1.of_empty e3).at λo q=>ed _ q,λ_=>True.intro,λy hy=>absurd rfl hy⟩
def P9{Q:Value->Shared->Prop}(hb:attributeBase e f env (eval e env)=eval e env)(h:wpAny (model prog w) A (eval e env) (λo s₁=>wpAny (model prog w) A (getAttr o f true) Q E s₁) E s):wpAny (model prog w) A (eval (.Attribute e f pos) env) Q E s:=Attribute_any_ h (by rw[arm_eval_Attribute,hb])
end
inductive WH (K:PySem.W.Frag) (f:Str) (x:V) (H:Hp) (Q:VK):Prop|mk (a C dx:Addr) (fs:List (Str×V)) (v:V) (e1:x=.ref a) (e2:H a=some (.ins C dx fs)) (e3:B9 K C) (e4:ee K C f) (e5:fs.lookup f=some v) (e6:Q v H):WH K f x H Q
def wd(K:PySem.W.Frag)(ta:TE)(f:Str):TE:=fun σ H Q=>ta σ H λx H1=>WH K f x H1 Q
inductive WA (K:PySem.W.Frag) (f:Str) (D:Ends) (σ:St) (y x:V) (H:Hp):Prop|mk (a C dx:Addr) (fs:List (Str×V)) (e1:x=.ref a) (e2:H a=some (.ins C dx fs)) (e3:B9 K C) (e4:ee K C f) (e5:fs.length<1000) (e6:D.nx σ (upd H a (.ins C dx (gc f y fs)))):WA K f D σ y x H
def aan(K:PySem.W.Frag)(ta tv:TE)(f:Str):TS:=λD σ H=>tv σ H λy H1=>ta σ H1 λx H2=>WA K f D σ y x H2
section
variable {X:Cx} {o e value:Expr} {f:Str} {pos pos' IL:Pos} {ta tv:TE}
def az(he:PE X e ta)(hb:attributeBase e f X.env (eval e X.env)=eval e X.env):PE X (.Attribute e f pos) (wd X.K ta f):=by intro pins s σ H Q I h;refine P9 hb (dH (he pins s σ H _ I h) λu s1⟨x,H1,I1,rx,a,C,dx,fs,v,ex,ea,c,n,l,q⟩=>?_);subst ex;obtain rfl:u=Value.ref a:=rx;exact Eh I1 ea c n l λu' s2 I2 ru=>⟨v,H1,I2,ru,q⟩
def eB(ha:PE X o ta)(hv:PE X value tv)(hs:swapsWith value (some (.Attribute o f pos')) pos.line X.env=pure false):PS X (.Assign [.Attribute o f pos'] value pos) (aan X.K ta tv f):=by intro pins s σ H D I h;refine plainObj_wpAny_Assign_Attribute (dH (hv pins s σ H _ I h) λu s1⟨y,H1,I1,ry,q⟩=>dH (ha pins s1 σ H1 _ I1 q) λov s2⟨x,H2,I2,rx,a,C,dx,fs,ex,ea,c,n,l,q2⟩=>?_) hs;subst ex;obtain rfl:ov=Value.ref a:=rx;exact DY I2 ea c n l ry λs3 I3=>⟨σ,_,I3,q2⟩
def QP{Q:Value->Shared->Prop}(he:PE X e te)(I:Inv X pins σ H s)
    (h:te σ H λx H1=>∃a C dx fs g,x=.ref a/\H1 a=some (.ins C dx fs)/\B9 X.K C/\cU X.K C m g/\fs.lookup m=none/\
      ∀s1,Inv X pins σ H1 s1->wpAny (model X.prog X.w) X.A (callWith pos (.ref g) [.ref a] (backTo pos (starEach args X.env)) (backToKw pos (keywordEach [] X.env))) Q X.xe s1)
    (ht:eval (.Call (.Attribute e m apos) args [] pos) X.env=(do
      let ov <-eval e X.env
      standAt apos.atName
      let(f,first) <-holding [ov] (getMethod ov m pl)
      callWith pos f first (backTo pos (starEach args X.env)) (backToKw pos (keywordEach [] X.env)))) :
    wpAny (model X.prog X.w) X.A (eval (.Call (.Attribute e m apos) args [] pos) X.env) Q X.xe s:=by
  refine C8 (pl:=pl) (dH (he pins s σ H _ I h) λu s1⟨x,H1,I1,rx,a,C,dx,fs,g,ex,ea,c,k,l,q⟩=>?_) ht
  subst ex
  obtain rfl:u=Value.ref a:=rx
  exact o_ I1 ea c k l (q s1 I1)
end
section
variable {X:Cx} {pins:List (Addr×Obj)} {σ:St} {H:Hp} {s:Shared} {A:Around} {E:Value->Shared->Prop} {Q:Value->Shared->Prop} {c:Value} {b:Bool}
end
end L2
namespace L2
open PySem PySem.Spec PyProof.Rows
structure eY (k:Nat) (A:Around):Prop where
  hd:A.handled=none
  dp:A.depth+3*k+5<recursionLimit
  un:A.units+16*k+200<cLine
def eY.mono(r:eY k A)(h:j<=k):eY j A:=⟨r.hd,by have:=r.dp;omega,by have:=r.un;omega⟩
theorem eY.deeper(r:eY (k+1) A)(env:Env):eY k (A.deeper env):=⟨r.hd,by have:=r.dp;show A.depth+1+3*k+5<_;omega,by have:=r.un;show A.units+3+16*k+200<_;omega⟩
theorem eY.in1(r:eY (k+1) A):eY k A.in1:=⟨r.hd,by have:=r.dp;show A.depth+3*k+5<_;omega,by have:=r.un;show A.units+1+16*k+200<_;omega⟩
def Ed{A:Around}{C:Addr}{us:List Value}{kw:List (Str×Value)}:(A.under (.builtin "type.__call__" ⟨.ref C::us,kw⟩)).depth=A.depth+1:=by first|rfl|simp[Around.under,Code.weight,Code.isCreation,Code.isGuard,Code.isCaller,Code.frames,Code.isFrame,guardIds]
def Ec{A:Around}{C:Addr}{us:List Value}{kw:List (Str×Value)}:(A.under (.builtin "type.__call__" ⟨.ref C::us,kw⟩)).units=A.units+1:=by first|rfl|simp[Around.under,Code.cUnits,Code.frames,Code.isFrame]
def eY.make(r:eY (k+1) A)(C:Addr)(us:List Value)(kw:List (Str×Value)):eY k (A.under (.builtin "type.__call__" ⟨.ref C::us,kw⟩)):=⟨r.hd,by have:=r.dp;rw[Ed];omega,by have:=r.un;rw[Ec];omega⟩
theorem eY.depth(r:eY k A):A.depth<recursionLimit:=by have:=r.dp;omega
theorem eY.units(r:eY k A):A.units+64<cLine:=by have:=r.un;omega
def iW:TA:=λ_ H Q=>Q [] H
def fb(ta:TE)(tr:TA):TA:=fun σ H Q=>ta σ H λx H1=>tr σ H1 λxs H2=>Q (x::xs) H2
section
variable {X:Cx} {e:Expr} {es:List Expr} {te:TE} {t:TA} {pos:Pos}
def ao:PA X [] iW:=λ_ _ _ _ H Q I h=>Calls.spliced_nil ⟨[],H,I,.nil,h⟩
def ag(ha:PE X e te)(hr:PA X es t)(hs:starEach (e::es) X.env=(false,eval e X.env)::starEach es X.env:=by rfl):PA X (e::es) (fb te t):=by intro pos pins s σ H Q I h;rw[hs];show wpAny _ _ (spliced ((false,eval e X.env)::backTo pos (starEach es X.env))) _ _ s;refine Calls.spliced_cons (dH (ha pins s σ H _ I h) λu s1⟨x,H1,I1,r1,q1⟩=>?_);exact dH (hr pos pins s1 σ H1 _ I1 q1) λus s2⟨xs,H2,I2,r2,q2⟩=>⟨x::xs,H2,I2,.cons r1 r2,q2⟩
def VR(t:TA):TE:=fun σ H Q=>t σ H λxs H1=>xs.length<=sizeLine/\∀p,H1 p=none->Q (.ref p) (upd H1 p (.tup xs))
def VU(t:TA):TE:=fun σ H Q=>t σ H λxs H1=>xs.length<=sizeLine/\∀p,H1 p=none->Q (.ref p) (upd H1 p (.lst xs))
def km{x1}(h:PA X es t):PE X (.Tuple es x1 pos) (VR t):=by intro pins s σ H Q I hq;refine wpAny_Tuple_spliced (dH (h pos pins s σ H _ I hq) λus s1⟨xs,H1,I1,r,z,q⟩=>⟨by rw[<-r.length];exact z,?_⟩);have hf:H1 s1.heap.objs.size=none:=I1.dg.fresh (bx _);refine⟨.ref s1.heap.objs.size,upd H1 s1.heap.objs.size (.tup xs),I1.laid (t':=s1.toks) (λb u e=>ed _ e) (bx _) ?_,rfl,q _ hf⟩;exact⟨z,us,r,⟨_,gu _ rfl,rfl,_,rfl⟩⟩
def bK(h:PA X es t):PE X (.List es pos) (VU t):=by intro pins s σ H Q I hq;refine wpAny_List_spliced (dH (h pos pins s σ H _ I hq) λus s1⟨xs,H1,I1,r,z,q⟩=>⟨by rw[<-r.length];exact z,?_⟩);have hf:H1 s1.heap.objs.size=none:=I1.dg.fresh (bx _);refine⟨.ref s1.heap.objs.size,upd H1 s1.heap.objs.size (.lst xs),I1.laid (t':=s1.toks) (λb u e=>ed _ e) (bx _) ?_,rfl,q _ hf⟩;exact⟨z,us,0,r,gu _ rfl⟩
end
abbrev Sp:=List V->Hp->VK->XK->Prop
abbrev Nq:=List Env->Hp->Shared->XK->Value->Shared->Prop
structure rS (P:Program) (w:World) (K:PySem.W.Frag) (mg:Str->Option Value) (base:Heap) (A:Around) (outer:List Env) (s:Shared) (H:Hp):Prop where
  frames:A.frames=some outer
  mod:Mod K mg base
  bs:∀b o,base.get? b=some o->s.heap.get? b=some o/\H b=none
  Ir:base.objs.size<=s.heap.objs.size
  pf:s.heap.FunFrames base outer
  NI:∀b∈II outer,H b=none
  dg:lE P w H s.heap
  bare:AllBare s.gens
def CE(outer:List Env)(P:Program)(w:World)(H:Hp)(s:Shared)(Q:VK)(u:Value)(s':Shared):Prop:=∃v H',s'.os=s.os/\AllBare s'.gens/\Un (II outer) [] H H' s.heap s'.heap/\lE P w H' s'.heap/\RelV v u/\Q v H'
def CR(CX:Nq)(outer:List Env)(P:Program)(w:World)(H:Hp)(s:Shared)(Q:VK)(E:XK)(r:Result)(s':Shared):Prop:=match r with|.ok (.ret u)=>CE outer P w H s Q u s'|.ok _=>False|.error e=>CX outer H s E e s'
structure ay (P:Program) (w:World) (K:PySem.W.Frag) (mg:Str->Option Value) (base:Heap) (CX:Nq) (k:Nat) (f:Addr) (fd:FuncData) (ps:List Str) (sp:Sp):Prop where
  len:∀vs H Q E,sp vs H Q E->vs.length=ps.length
  run:∀(A:Around) (outer:List Env) (s:Shared) (H:Hp) (args:Args) (us:List Value) (vs:List V) (Q:VK) (E:XK),eY k A->rS P w K mg base A outer s H->BindsTo s fd args (ps.zip us)->ck vs us->sp vs H Q E->
    codeAny (model P w) A (.call (.ref f) args) (CR CX outer P w H s Q E) s
def rS.make{P:Program}{w:World}{K:PySem.W.Frag}{mg:Str->Option Value}{base:Heap}{A:Around}{outer:List Env}{s:Shared}{H:Hp}(e:rS P w K mg base A outer s H)(C:Addr)(us:List Value)(kw:List (Str×Value)):rS P w K mg base (A.under (.builtin "type.__call__" ⟨.ref C::us,kw⟩)) outer s H:=⟨by first|exact e.frames|(simpa [Around.under,Code.envs,Code.isFrame,pushEnvs]using e.frames),e.mod,e.bs,e.Ir,e.pf,e.NI,e.dg,e.bare⟩
theorem rS.in1{P:Program}{w:World}{K:PySem.W.Frag}{mg:Str->Option Value}{base:Heap}{A:Around}{outer:List Env}{s:Shared}{H:Hp}(e:rS P w K mg base A outer s H):rS P w K mg base A.in1 outer s H:=⟨e.frames,e.mod,e.bs,e.Ir,e.pf,e.NI,e.dg,e.bare⟩
section
variable {X:Cx} {pins:List (Addr×Obj)} {σ:St} {H:Hp} {s s':Shared}
def Inv.Se(I:Inv X pins σ H s):rS X.prog X.w X.K X.mg X.base X.A X.stack s H:=⟨I.ok.frames,I.ok.mod,I.bs,cB I.ok.Ir I.sz,I.stack,I.E8,I.dg,I.bare⟩
def Inv.after(I:Inv X pins σ H s)(h:CE X.stack X.prog X.w H s Q u s'):EP X pins σ Q u s':=by obtain⟨v,H',os,bare,un,dg,r,q⟩:=h;obtain⟨hh,g,d,t,os'⟩:=s';obtain rfl:os'=s.os:=os;exact⟨v,H',I.call (h':=hh) (g':=g) (d':=d) (t':=t) (ch:=[]) un dg bare (λb z=>absurd z (by simp)),r,q⟩
end
def WU(sp:Sp)(q_:List V)(E:XK)(t:TA):TE:=fun σ H Q=>t σ H λvs H1=>sp (vs++q_) H1 Q E
inductive QK (C:Addr) (m:Str) (sp:Sp) (q_:List V) (E:XK) (t:TA) (σ:St) (H:Hp) (Q:VK) (x:V):Prop|mk (a dx:Addr) (fs:List (Str×V)) (e1:x=.ref a) (e2:H a=some (.ins C dx fs)) (e3:fs.lookup m=none) (e4:t σ H λvs H2=>sp (x::(vs++q_)) H2 Q E):QK C m sp q_ E t σ H Q x
def rf(C:Addr)(m:Str)(sp:Sp)(q_:List V)(E:XK)(ta:TE)(t:TA):TE:=fun σ H Q=>ta σ H λx H1=>QK C m sp q_ E t σ H1 Q x
def EC(C:Addr)(sp:Sp)(q_:List V)(E:XK)(t:TA):TE:=fun σ H Q=>t σ H λvs H1=>∀x dx,H1 x=none->H1 dx=none->dx≠x->sp (.ref x::(vs++q_)) (upd (upd H1 dx (.own x)) x (.ins C dx [])) (λv H2=>v=.dQ/\Q (.ref x) H2) E
def Binds(K:PySem.W.Frag)(fd:FuncData)(ps:List Str)(ds:List Value):Prop:=∀(s:Shared)(us:List Value),K.In s.heap->(us++ds).length=ps.length->BindsTo s fd ⟨us,[]⟩ (ps.zip (us++ds))
def Binds.all{K:PySem.W.Frag}{fd:FuncData}{ps:List Str}(h:∀us:List Value,us.length=ps.length->bindArgs fd ⟨us,[]⟩=pure (ps.zip us)):Binds K fd ps []:=λs us _ hl=>by rw[iG]at hl⊢;exact .of_eq (h us hl)
def ma(CX:Nq)(X:Cx)(E:XK):Prop:=∀(pins:List (Addr×Obj))(σ:St)(H:Hp)(s:Shared)(e:Value)(s':Shared),Inv X pins σ H s->CX X.stack H s E e s'->X.xe e s'
section
variable {X:Cx} {CX:Nq} {k:Nat} {f C:Addr} {fd:FuncData} {ps:List Str} {sp:Sp} {q_:List V} {ds:List Value} {E:XK} {x m:Str} {p pos apos:Pos} {e o:Expr} {es:List Expr} {ta:TE} {t:TA}
def DG(F:ay X.prog X.w X.K X.mg X.base CX k f fd ps sp)(hr:eY k X.A)(hb:Binds X.K fd ps ds)(hd:ck q_ ds)(hx:ma CX X E)(I:Inv X pins σ H s)(r:ck vs us)(h:sp (vs++q_) H Q E):wpAny (model X.prog X.w) X.A (call (.ref f) us) (EP X pins σ Q) X.xe s:=by
 have r2:ck (vs++q_) (us++ds):=r.append hd;have hl:(us++ds).length=ps.length:=by rw[<-r2.length];exact F.len _ _ _ _ h
 refine yh (tT (F.run X.A X.stack s H ⟨us,[]⟩ (us++ds) (vs++q_) Q E hr I.Se (hb s us I.An hl) r2 h) λr s' hq=>?_);cases r with|error e=>exact hx pins σ H s e s' I hq|ok fl=>cases fl with|ret u=>exact I.after hq|next=>exact False.elim hq|brk=>exact False.elim hq|cont=>exact False.elim hq
def c_(F:ay X.prog X.w X.K X.mg X.base CX k f fd ps sp)(hr:eY k X.A)(hg:Gl X x)(hm:X.mg x=some (.ref f))(hk:PySem.W.keepIn X.K (.ref f)=true)(hb:Binds X.K fd ps ds)(hd:ck q_ ds)(hx:ma CX X E)(ha:PA X (e::es) t)(NC:(x==("__debug__":Str))=false:=by decide)(he:starEach (e::es) X.env=(false,eval e X.env)::starEach es X.env:=by rfl)(iF:(backTo pos (starEach es X.env)).any (·.1)=false:=by rfl):PE X (.Call (.Name x p) (e::es) [] pos) (WU sp q_ E t):=by intro pins s σ H Q I h;refine tj (sD I hg hm ?_ NC);refine C4 (h₀:=X.base) I.ok.mod.Uh hk (dH (ha pos pins s σ H _ I h) λus s1⟨vs,H1,I1,r,q⟩=>⟨I1.An,?_⟩) he iF;exact DG F hr hb hd hx I1 r q
def aV(he:PE X o ta)(c:B9 X.K C)(hm:cU X.K C m f)(F:ay X.prog X.w X.K X.mg X.base CX k f fd ps sp)(hr:eY k X.A)(hb:Binds X.K fd ps ds)(hd:ck q_ ds)(hx:ma CX X E)(ha:PA X (e::es) t)
    (sS:starEach (e::es) X.env=(false,eval e X.env)::starEach es X.env:=by rfl) (iF:(backTo pos (starEach es X.env)).any (·.1)=false:=by rfl)
    (ht:eval (.Call (.Attribute o m apos) (e::es) [] pos) X.env=(do
      let ov <-eval o X.env
      standAt apos.atName
      let(f,first) <-holding [ov] (getMethod ov m pl)
      callWith pos f first (backTo pos (starEach (e::es) X.env)) (backToKw pos (keywordEach [] X.env))):=by rfl) :
    PE X (.Call (.Attribute o m apos) (e::es) [] pos) (rf C m sp q_ E ta t):=by
  intro pins s σ H Q I h
  refine C8 (pl:=pl) (dH (he pins s σ H _ I h) λu s1⟨x,H1,I1,rx,a,dx,fs,ex,ea,l,q⟩=>?_) ht
  subst ex
  obtain rfl:u=Value.ref a:=rx
  refine o_ I1 ea c hm l ?_
  refine C4 (first:=[.ref a]) (h₀:=X.base) I.ok.mod.Uh hm.kp (dH (ha pos pins s1 σ H1 _ I1 q) λus s2⟨vs,H2,I2,r,q2⟩=>⟨I2.An,?_⟩) sS iF
  exact DG (us:=.ref a::us) (vs:=.ref a::vs) F hr hb hd hx I2 (.cons rfl r) q2
def gZ(he:PE X o ta)(c:B9 X.K C)(hm:cU X.K C m f)(F:ay X.prog X.w X.K X.mg X.base CX k f fd ps sp)(hr:eY k X.A)(hb:Binds X.K fd ps ds)(hd:ck q_ ds)(hx:ma CX X E)
    (ht:eval (.Call (.Attribute o m apos) [] [] pos) X.env=(do
      let ov <-eval o X.env
      standAt apos.atName
      let(f,first) <-holding [ov] (getMethod ov m pl)
      callWith pos f first (backTo pos (starEach [] X.env)) (backToKw pos (keywordEach [] X.env))):=by rfl) :
    PE X (.Call (.Attribute o m apos) [] [] pos) (rf C m sp q_ E ta iW):=by
  intro pins s σ H Q I h
  refine C8 (pl:=pl) (dH (he pins s σ H _ I h) λu s1⟨x,H1,I1,rx,a,dx,fs,ex,ea,l,q⟩=>?_) ht
  subst ex
  obtain rfl:u=Value.ref a:=rx
  refine o_ I1 ea c hm l ?_
  exact Ks (first:=[.ref a]) I1.An hm.kp (DG (us:=[.ref a]) (vs:=[.ref a]) F hr hb hd hx I1 (.cons rfl .nil) q)
structure Mk (K:PySem.W.Frag) (C f:Addr):Prop where
  makes:PySem.W.makesIn K C=true
  init:PySem.W.findIn K (.ref C) "__init__"=some (some (.ref f))
  fn:PySem.W.isFn K (.ref f)=true
  kp:PySem.W.keepIn K (.ref C)=true
def Bh(M:Mk X.K C f)(F:ay X.prog X.w X.K X.mg X.base CX k f fd ps sp)(hr:eY (k+1) X.A)(hb:Binds X.K fd ps ds)(hd:ck q_ ds)(hx:ma CX X E)(I:Inv X pins σ H s)(r:ck vs us)(h:∀x dx,H x=none->H dx=none->dx≠x->sp (.ref x::(vs++q_)) (upd (upd H dx (.own x)) x (.ins C dx [])) (λv H2=>v=.dQ/\Q (.ref x) H2) E):wpAny (model X.prog X.w) X.A (call (.ref C) us) (EP X pins σ Q) X.xe s:=by
 have hq:=h (s.heap.objs.size+1) s.heap.objs.size (I.dg.fresh (tV _)) (I.dg.fresh (bx _)) (fw (yF _));have I2:=Inv.made (C:=C) I;have r2:ck (V.ref (s.heap.objs.size+1)::(vs++q_)) (Value.ref (s.heap.objs.size+1)::(us++ds)):=.cons rfl (r.append hd);have hl:(Value.ref (s.heap.objs.size+1)::us++ds).length=ps.length:=by have e:=r2.length;rw[F.len _ _ _ _ hq]at e;exact e.symm
 refine yh (My (f:=f) I.An M.makes M.init (i4.mp M.fn) (tT (F.run _ X.stack _ _ ⟨Value.ref (s.heap.objs.size+1)::us,[]⟩ (Value.ref (s.heap.objs.size+1)::(us++ds)) _ _ E (hr.make C us []) (I2.Se.make C us []) (hb _ (Value.ref (s.heap.objs.size+1)::us) I2.An hl) r2 hq) λr s' Vb=>?_));cases r with|error e=>exact hx pins σ _ _ e s' I2 Vb|ok fl=>cases fl with|ret u=>obtain⟨v,H',I3,rv,ev,q3⟩:=I2.after Vb;subst ev;exact⟨rv,⟨V.ref (s.heap.objs.size+1),H',I3,rfl,q3⟩⟩|next=>exact False.elim Vb|brk=>exact False.elim Vb|cont=>exact False.elim Vb
def ni(M:Mk X.K C f)(F:ay X.prog X.w X.K X.mg X.base CX k f fd ps sp)(hr:eY (k+1) X.A)(hg:Gl X x)(hm:X.mg x=some (.ref C))(hb:Binds X.K fd ps ds)(hd:ck q_ ds)(hx:ma CX X E)(ha:PA X (e::es) t)(NC:(x==("__debug__":Str))=false:=by decide)(he:starEach (e::es) X.env=(false,eval e X.env)::starEach es X.env:=by rfl)(iF:(backTo pos (starEach es X.env)).any (·.1)=false:=by rfl):PE X (.Call (.Name x p) (e::es) [] pos) (EC C sp q_ E t):=by intro pins s σ H Q I h;refine tj (sD I hg hm ?_ NC);refine C4 (h₀:=X.base) I.ok.mod.Uh M.kp (dH (ha pos pins s σ H _ I h) λus s1⟨vs,H1,I1,r,q⟩=>⟨I1.An,?_⟩) he iF;exact Bh M F hr hb hd hx I1 r q
def L6(M:Mk X.K C f)(F:ay X.prog X.w X.K X.mg X.base CX k f fd ps sp)(hr:eY (k+1) X.A)(hg:Gl X x)(hm:X.mg x=some (.ref C))(hb:Binds X.K fd ps ds)(hd:ck q_ ds)(hx:ma CX X E)(NC:(x==("__debug__":Str))=false:=by decide):PE X (.Call (.Name x p) [] [] pos) (EC C sp q_ E iW):=by intro pins s σ H Q I h;refine tj (sD I hg hm ?_ NC);exact Ks I.An M.kp (Bh (us:=[]) M F hr hb hd hx I .nil h)
end
def PK(X:Cx)(U4:List Keyword)(t:TA):Prop:=∀(pos:Pos)(pins:List (Addr×Obj))(s:Shared)(σ:St)(H:Hp)(Q:List V->Hp->Prop),Inv X pins σ H s->t σ H Q->wpAny (model X.prog X.w) X.A (evalAll ((backToKw pos (keywordEach U4 X.env)).map (·.2))) (AP X pins σ Q) X.xe s
section
variable {X:Cx} {CX:Nq} {k:Nat} {f C:Addr} {fd:FuncData} {ps ks:List Str} {sp:Sp} {E:XK} {x m:Str} {p pos apos AE:Pos} {e o:Expr} {es:List Expr} {U4:List Keyword} {te ta:TE} {t tk:TA} {nm:Option Str}
def SU:PK X [] iW:=λ_ _ _ _ H Q I h=>wpAny_evalAll_nil ⟨[],H,I,.nil,h⟩
def OV(ha:PE X e te)(hr:PK X U4 t):PK X (⟨nm,e,AE⟩::U4) (fb te t):=by intro pos pins s σ H Q I h;show wpAny _ _ (evalAll ((do let v <-eval e X.env;standAt pos;pure v)::(backToKw pos (keywordEach U4 X.env)).map (·.2))) _ _ s;refine wpAny_evalAll_cons (aZ (dH (ha pins s σ H _ I h) λu s1⟨x,H1,I1,r1,q1⟩=>aZ (tW (bz ?_))));exact dH (hr pos pins s1 σ H1 _ I1 q1) λus s2⟨xs,H2,I2,r2,q2⟩=>⟨x::xs,H2,I2,.cons r1 r2,q2⟩
variable {g:List Value->List Value->List Value} {gV:List V->List V->List V}
end
structure aM (N P:List Str) (sc:Scope):Prop where
  kind:sc.kind=.function
  co:sc.isCoroutine=false
  gen:sc.isGenerator=false
  nd:N.Nodup
  pre:N.take P.length=P
  par:∀x∈P,sc.names.lookup x=some .local\/sc.names.lookup x=some .cell
  S8:∀y∈sc.names,y.2≠.free
theorem xO{kindOf:Str->Option NameKind}{x:Str}:∀{binds:List (Str×Value)}{m:Str->Option Value},(∀v,(x,v)∉binds)->bindL kindOf binds m x=m x
 |[],_,_=>rfl
 |(n,v)::r,m,h=>by
  unfold bindL;rw[xO λw hw=>h w (dR _ hw)];split
  .have:x≠n:=by rintro rfl;exact h v cF
   simp[this]
  rfl
theorem xQ{kindOf:Str->Option NameKind}{x:Str}:∀{binds:List (Str×Value)}{m:Str->Option Value},(∀v,(x,v)∉binds)->bindC kindOf binds m x=m x
 |[],_,_=>rfl
 |(n,v)::r,m,h=>by
  unfold bindC;rw[xQ λw hw=>h w (dR _ hw)];split;.rfl
  have:x≠n:=by rintro rfl;exact h v cF
  simp[this]
theorem xP{kindOf:Str->Option NameKind}{x:Str}{v:Value}:∀{P:List Str}{vs:List Value}{i:Nat}{m:Str->Option Value},P.Nodup->P[i]?=some x->vs[i]?=some v->kindOf x=some .local->bindL kindOf (P.zip vs) m x=some v|[],_,_,_,_,h,_,_=>by simp at h|_::_,[],_,_,_,_,h,_=>by simp at h|p::P,w::vs,0,m,nd,h1,h2,hk=>by simp at h1 h2;subst h1;subst h2;show bindL kindOf ((p,w)::P.zip vs) m p=_;unfold bindL;rw[xO λv hv=>(lj.mp nd).1 (CM hv).1,aw hk];simp|p::P,w::vs,i+1,m,nd,h1,h2,hk=>by show bindL kindOf ((p,w)::P.zip vs) m x=_;unfold bindL;exact xP (i:=i) (lj.mp nd).2 (by simpa using h1) (by simpa using h2) hk
theorem xR{kindOf:Str->Option NameKind}{x:Str}{v:Value}:∀{P:List Str}{vs:List Value}{i:Nat}{m:Str->Option Value},P.Nodup->P[i]?=some x->vs[i]?=some v->kindOf x≠some .local->bindC kindOf (P.zip vs) m x=some v|[],_,_,_,_,h,_,_=>by simp at h|_::_,[],_,_,_,_,h,_=>by simp at h|p::P,w::vs,0,m,nd,h1,h2,hk=>by simp at h1 h2;subst h1;subst h2;show bindC kindOf ((p,w)::P.zip vs) m p=_;unfold bindC;rw[xQ λv hv=>(lj.mp nd).1 (CM hv).1,au hk];simp|p::P,w::vs,i+1,m,nd,h1,h2,hk=>by show bindC kindOf ((p,w)::P.zip vs) m x=_;unfold bindC;exact xR (i:=i) (lj.mp nd).2 (by simpa using h1) (by simpa using h2) hk
def start(N:List Str)(vs:List V):St:=vs.map some++List.replicate (N.length-vs.length) none
def AG(CX:Nq)(P:Program)(w:World)(K:PySem.W.Frag)(mg:Str->Option Value)(base:Heap)(N:List Str)(qual:Str)(scope:Scope)(f:Addr)(cd:Value)(A:Around)(outer:List Env)(s:Shared)(H:Hp)(E:XK):Cx where
  prog:=P
  w:=w
  K:=K
  mg:=mg
  base:=base
  A:=A.deeper (envOfC qual scope s.heap.objs.size f cd)
  N:=N
  sP:=s
  Qs:=H
  env:=envOfC qual scope s.heap.objs.size f cd
  outer:=outer
  stack:=envOfC qual scope s.heap.objs.size f cd::outer
  ex:=[]
  calm:=true
  fn:=λ_=>true
  pn:=[]
  xe:=λe s'=>wpAny (model P w) (A.deeper (envOfC qual scope s.heap.objs.size f cd)) (leaving (envOfC qual scope s.heap.objs.size f cd) e) (λ_ Zp=>CX outer H s E e Zp) (λe' Zp=>CX outer H s E e' Zp) s'
def BN{sc:Scope}{n:Nat}{x:Str}(h:sc.names.lookup x=some .cell):∃c,(cellsFrom n sc.names []).lookup x=some c:=by have q:=KL sc.names n [] (.inl h);exact Option.isSome_iff_exists.mp q
def HE{CX:Nq}{P:Program}{w:World}{K:PySem.W.Frag}{mg:Str->Option Value}{base:Heap}{N ps:List Str}{qual:Str}{scope:Scope}{f:Addr}{cd:Value}{A:Around}{outer:List Env}{s s1:Shared}{H:Hp}{E:XK}{us:List Value}{vs:List V}(S:aM N ps scope)(hd:A.handled=none)(e0:rS P w K mg base A outer s H)(hl:vs.length=ps.length)(r:ck vs us)(x:InCallC s s.heap.objs.size (bindL (envOfC qual scope s.heap.objs.size f cd).kindOf (ps.zip us) λ_=>none) (cellsFrom (s.heap.objs.size+1) scope.names []) (bindC (envOfC qual scope s.heap.objs.size f cd).kindOf (ps.zip us) λ_=>none) s1):Inv (AG CX P w K mg base N qual scope f cd A outer s H E) [] (start N vs) H s1:=by
 have iF:ps.length<=N.length:=by have:=congrArg List.length S.pre;rw[gT]at this;omega
 obtain⟨h1,tk,rfl,hk⟩:=x.done;have Q0:∀b:Addr,b∉(AG CX P w K mg base N qual scope f cd A outer s H E).ex:=λb z=>absurd (show b∈([]:List Addr)from z) (by simp);refine⟨⟨e0.mod,S.kind,rfl,rfl,bx _,λy z c h1 h2=>?_,λy hy=>?_,λy c _ h=>?_,λ_=>hd,JK e0.frames,.inr ⟨rfl,rfl⟩,λb z=>absurd z (Q0 b),e0.bs,e0.Ir,λb _ _=>Q0 b,λb z=>absurd z (Q0 b),e0.pf,e0.NI⟩,rfl,e0.bare,Un.kept hk,⟨_,x.toInCall.ns,λi y v h1 h2 h3=>?_⟩,λy c h=>⟨_,x.cell y c h⟩,e0.dg.fresh (bx _),λy c h=>?_,λp hp=>absurd (show p∈([]:List (Addr×Obj))from hp) (by simp),e0.dg.kept hk,?_⟩;.exact name_of_addr x.apart (iR h1) (iR h2)
 .have hy:scope.names.lookup y=some .cell\/scope.names.lookup y=some .free:=hy;rcases hy with hy|hy;.exact BN hy
  exact absurd rfl (S.S8 _ (iR hy))
 .exact tY (x.above y c (iR h))
 .have hi:i<vs.length:=by
   unfold start at h2;by_cases hi:i<vs.length;.exact hi
   rw[px (by simpa using hi)]at h2;rw[List.getElem?_replicate]at h2;split at h2<;>cases h2
  have ha:vs[i]?=some v:=by unfold start at h2;rw[pw (by simpa using hi),cC]at h2;cases e:vs[i]? with|none=>rw[e]at h2;cases h2|some a=>rw[e]at h2;cases h2;rfl
  obtain⟨u,hu,rv⟩:=r.get ha;have hp:ps[i]?=some y:=by rw[<-S.pre,yS (by omega)];exact h1
  have UT:ps.Nodup:=by rw[<-S.pre];exact S.nd.sublist (List.take_sublist _ _)
  refine⟨u,rv,?_⟩;rcases S.par y (du hp)with k|k;.exact .inl ⟨k,xP UT hp hu k⟩
  obtain⟨c,e⟩:=BN (n:=s.heap.objs.size+1) k;refine .inr ⟨.inl k,c,e,?_⟩;have q:=x.cell y c e;rw[xR UT hp hu (by show scope.names.lookup y≠_;rw[k];decide)]at q;exact q
 .exact e0.dg.fresh (tY (x.above y c (iR h)))
 unfold start;show _=N.length;rw[dC,aE,KC];omega
def QH{CX:Nq}{P:Program}{w:World}{K:PySem.W.Frag}{mg:Str->Option Value}{base:Heap}{k:Nat}{f:Addr}{name qual:Str}{params:Arguments}{body:List Stmt}{scope:Scope}{dV kV doc pm k_ ct oc:Value}{an od:Option Addr}{FX:Array (Option Value)}{N ps:List Str}{sp:Sp}(lk:K.lookup f=some ⟨oc,od,.func (PySem.W.fnOf name qual params body scope dV kV doc pm an k_ ct),FX⟩)(As:PySem.W.codeIn K k_ qual=true)(S:aM N ps scope)(len:∀vs H Q E,sp vs H Q E->vs.length=ps.length)(pD:∀(A:Around)(outer:List Env)(s:Shared)(H:Hp)(vs:List V)(Q:VK)(E:XK),eY k (A.deeper (envOfC qual scope s.heap.objs.size f k_))->sp vs H Q E->∃t,Cd (AG CX P w K mg base N qual scope f k_ A outer s H E) body t/\t {nx:=λ_ H'=>Q .dQ H',rt:=Q} (start N vs) H):ay P w K mg base CX (k+1) f (PySem.W.fnOf name qual params body scope dV kV doc pm an k_ ct) ps sp:=by
 refine⟨len,λA outer s H args us vs Q E hr e0 hb r F_=>?_⟩;have hl:=len _ _ _ _ F_;have KX:K.In s.heap:=e0.mod.Uh.keeps λb o e=>(e0.bs b o e).1;have lim:s.heap.NoLimit:=e0.mod.nolimit.keeps λb o e=>(e0.bs b o e).1;have Xt:∀y∈ps.zip us,scope.names.lookup y.1=some .local\/(scope.names.lookup y.1=some .cell/\((cellsFrom (s.heap.objs.size+1) scope.names []).lookup y.1).isSome=true):=λ⟨n,v⟩hy=>by
  rcases S.par n (CM hy).1 with q|q;.exact .inl q
  exact .inr ⟨q,KL _ _ _ (.inl q)⟩
 refine codeAny_call_function hr.depth (KX _ _ lk) rfl S.co S.gen rfl (PySem.W.codeRec_of KX As) (hb _ _ _ _ ?_);refine wpAny_newFunctionEnv_cells S.kind Xt λenv he s1 x=>?_;subst he;refine⟨lim.keeps x.toInCall.keep,codeAny_func ?_⟩;obtain⟨t,ht,hq⟩:=pD A outer s H vs Q E (hr.deeper _) F_;have I:Inv (AG CX P w K mg base N qual scope f k_ A outer s H E) [] (start N vs) H s1:=HE S hr.hd e0 hl r x;refine iZ (ht [] s1 (start N vs) H _ I hq) (λfl s' hs=>?_) λe s' hs=>hs;have fin:∀{σ':St}{H':Hp}{v:V}{u:Value},Inv (AG CX P w K mg base N qual scope f k_ A outer s H E) [] σ' H' s'->RelV v u->Q v H'->CE outer P w H s Q u s':=fun {σ' H' v u} J rv q=>⟨v,H',J.os,J.bare,J.base,J.dg,rv,q⟩;cases fl with|ret u=>obtain⟨v,σ',H',J,rv,q⟩:=hs;exact fin J rv q|next=>obtain⟨σ',H',J,q⟩:=hs;exact fin (v:=V.dQ) (u:=Value.none) J rfl q|brk=>obtain⟨_,_,_,q⟩:=hs;exact False.elim q|cont=>obtain⟨_,_,_,q⟩:=hs;exact False.elim q
end L2
namespace L2
open PySem PySem.Spec PyProof.Rows
section
variable {X:Cx} {x:Str} {p pos:Pos} {e:Expr} {es:List Expr} {t:TA} {id T:String} {r:List V->Hp->VK->Prop}
def Ua(r:List V->Hp->VK->Prop)(t:TA):TE:=fun σ H Q=>t σ H λvs H1=>r vs H1 Q
def dS(hc:ox X (.builtin id) r)(hg:Gl X x)(hm:X.mg x=none)(hv:bootBuiltins x=some (.builtin id))(ha:PA X (e::es) t)(hn:x≠"__name__":=by decide)(NC:(x==("__debug__":Str))=false:=by decide)(he:starEach (e::es) X.env=(false,eval e X.env)::starEach es X.env:=by rfl)(iF:(backTo pos (starEach es X.env)).any (·.1)=false:=by rfl):PE X (.Call (.Name x p) (e::es) [] pos) (Ua r t):=by intro pins s σ H Q I h;refine tj (oQ I hg hm hv ?_ hn NC);exact PyProof.Rows.callWith_builtin1 (dH (ha pos pins s σ H _ I h) λus s1⟨vs,H1,I1,r1,q1⟩=>hc pins s1 σ H1 vs us Q I1 r1 q1) he iF
def fZ(hc:ox X (.type T) r)(hg:Gl X x)(hm:X.mg x=none)(hv:bootBuiltins x=some (.type T))(ha:PA X (e::es) t)(hn:x≠"__name__":=by decide)(NC:(x==("__debug__":Str))=false:=by decide)(he:starEach (e::es) X.env=(false,eval e X.env)::starEach es X.env:=by rfl)(iF:(backTo pos (starEach es X.env)).any (·.1)=false:=by rfl):PE X (.Call (.Name x p) (e::es) [] pos) (Ua r t):=by intro pins s σ H Q I h;refine tj (oQ I hg hm hv ?_ hn NC);exact yU (dH (ha pos pins s σ H _ I h) λus s1⟨vs,H1,I1,r1,q1⟩=>hc pins s1 σ H1 vs us Q I1 r1 q1) he iF
end
end L2
namespace HT
open PySem PyProof.Rows
section
open PySem.SeqAt
open PySem.AutoSeq1 (wpAny_loadPart')
open PySem.MeetsSeq PySem.MeetsSeq2 PySem.MeetsSeq3
end
section
variable {prog:Program} {w:World} {A:Around} {E:Value->Shared->Prop} {s:Shared}
def Ak(n d:Nat):Option Int->Nat|none=>d|some v=>if v<0 then(v+(n:Int)).toNat else min v.toNat n
def jF(n d k:Nat):Ak n d (some (k:Int))=min k n:=by show(if (k:Int)<0 then((k:Int)+(n:Int)).toNat else min (k:Int).toNat n)=min k n;rw[au (by omega),om]
end
end HT
namespace L2
open PySem PySem.Spec PyProof.Rows
abbrev TO:=St->Hp->(Option Int->Hp->Prop)->Prop
def PO(X:Cx)(e:Option Expr)(t:TO):Prop:=∀(pins:List (Addr×Obj))(s:Shared)(σ:St)(H:Hp)(Q:Option Int->Hp->Prop),Inv X pins σ H s->t σ H Q->wpAny (model X.prog X.w) X.A (evalPart e X.env) (λu s'=>∃o H',Inv X pins σ H' s'/\IsPart u o/\Q o H') X.xe s
def E5:TO:=λ_ H Q=>Q none H
def AJ(t:TE):TO:=fun σ H Q=>t σ H λx H1=>∃i,x=.int i/\Q (some i) H1
section
variable {X:Cx} {e:Expr} {te:TE} {lo hi:Option Expr} {tl th:TO} {pos p2:Pos}
def OU:PO X none E5:=by intro pins s σ H Q I h;rw[evalPart_none];exact bz ⟨none,H,I,.none,h⟩
def jG(h:PE X e te):PO X (some e) (AJ te):=by intro pins s σ H Q I hw;rw[evalPart_some];refine dH (h pins s σ H _ I hw) λu s1⟨x,H1,I1,r1,q1⟩=>?_;obtain⟨i,rfl,q⟩:=q1;obtain⟨t,rfl⟩:=r1;exact⟨some i,H1,I1,.int i t,q⟩
def SlR(X:Cx)(r:V->Option Int->Option Int->Hp->VK->Prop):Prop:=∀(pins:List (Addr×Obj))(s:Shared)(σ:St)(H:Hp)(x:V)(v vl vu:Value)(lo hi:Option Int)(sl:Addr)(Q:VK),Inv X pins σ H s->RelV x v->s.heap.IsSliceOf sl vl vu .none->IsPart vl lo->IsPart vu hi->r x lo hi H Q->∃T id,typeLookup (.type T) "__getitem__"=pure (some (.builtin id))/\s.TypeIs v T/\wpAny (model X.prog X.w) X.A (getItem v (.ref sl)) (EP X pins σ Q) X.xe s
def tSl(r:V->Option Int->Option Int->Hp->VK->Prop)(te:TE)(tl th:TO):TE:=fun σ H Q=>te σ H λx H1=>tl σ H1 λl H2=>th σ H2 λu H3=>r x l u H3 Q
def uX{r:V->Option Int->Option Int->Hp->VK->Prop}(hr:SlR X r)(he:PE X e te)(hl:PO X lo tl)(hu:PO X hi th):PE X (.Subscript e (.Slice lo hi none p2) pos) (tSl r te tl th):=by intro pins s σ H Q I h;refine Subscript_ (dH (he pins s σ H _ I h) λv s1⟨x,H1,I1,r1,q1⟩=>?_);refine wpAny_Slice (dH (hl pins s1 σ H1 _ I1 q1) λvl s2⟨l,H2,I2,pl,q2⟩=>dH (hu pins s2 σ H2 _ I2 q2) λvu s3⟨u,H3,I3,pu,q3⟩=>?_);rw[evalPart_none];refine bz ?_;have I4:Inv X pins σ H3 {s3 with heap:=s3.heap.push {cls:=.type "slice",data:=.fields #[vl,vu,.none]}}:=I3.kept (t':=s3.toks) λb ob q=>ed _ q;obtain⟨T,id,hT,ht,hg⟩:=hr pins {s3 with heap:=s3.heap.push {cls:=.type "slice",data:=.fields #[vl,vu,.none]}} σ H3 x v vl vu l u s3.heap.objs.size Q I4 r1 (Heap.IsSliceOf.new ..) pl pu q3;show wpAny (model X.prog X.w) X.A (subscriptTail e (.Slice lo hi none p2) v (.ref s3.heap.objs.size)) (EP X pins σ Q) X.xe {s3 with heap:=s3.heap.push {cls:=.type "slice",data:=.fields #[vl,vu,.none]}};exact tail_any (ops:=[.ref s3.heap.objs.size,v]) ht hT hg (by with_unfolding_all rfl)
def wm(xs:List V)(lo hi:Option Int):List V:=(xs.drop (HT.Ak xs.length 0 lo)).take (HT.Ak xs.length xs.length hi-HT.Ak xs.length 0 lo)
def BZ(xs:List V)(lo hi:Option Int):(wm xs lo hi).length<=xs.length:=by unfold wm;rw[gT,J9];omega
end
end L2
namespace L2
open PySem PySem.Spec PyProof.Rows
def Iz(n:Nat)(i:Int):Option Nat:=if 0<=i then(if i<n then some i.toNat else none)else if -(n:Int)<=i then some (i+n).toNat else none
def Nn{α:Type}(xs:List α)(i:Int):Option α:=(Iz xs.length i).bind λj=>xs[j]?
def Ft(h:Iz n i=some j):seqIndex? i n=some j/\j<n/\-(n:Int)<=i/\i<n:=by
 unfold Iz at h;by_cases h0:0<=i
 .rw[aw h0]at h;by_cases h1:i<n;.rw[aw h1]at h;have e:i.toNat=j:=bZ h;exact⟨by rw[Ck h0 h1,e],by omega,by omega,h1⟩
  rw[au h1]at h;cases h
 rw[au h0]at h;by_cases h1:-(n:Int)<=i;.rw[aw h1]at h;have e:(i+n).toNat=j:=bZ h;exact⟨by rw[seqIndex_neg (by omega) h1,e],by omega,h1,by omega⟩
 rw[au h1]at h;cases h
def FP{α:Type}{xs:List α}{i:Int}{v:α}(h:Nn xs i=some v):∃j,seqIndex? i xs.length=some j/\xs[j]?=some v/\j<xs.length/\-(xs.length:Int)<=i/\i<xs.length:=by unfold Nn at h;cases e:Iz xs.length i with|none=>rw[e]at h;cases h|some j=>rw[e]at h;obtain⟨h1,h2,h3,h4⟩:=Ft e;exact⟨j,h1,h,h2,h3,h4⟩
def cj{α:Type}{xs:List α}{j:Nat}{v:α}(h:xs[j]?=some v):Nn xs (j:Int)=some v:=by
 have hj:j<xs.length:=(fh.mp h).1;have e:Iz xs.length (j:Int)=some j:=by unfold Iz;rw[aw (by omega),aw (by omega)];simp
 unfold Nn;rw[e];exact h
def MY{α:Type}(xs:List α)(v:α):Nn (xs++[v]) (-1)=some v:=by
 have hl:(xs++[v]).length=xs.length+1:=by simp
 have e:Iz (xs++[v]).length (-1)=some xs.length:=by unfold Iz;rw[hl,au (by decide),aw (by omega)];congr 1;omega
 unfold Nn;rw[e];show(xs++[v])[xs.length]?=some v;simp
def Qc(b:Expr):Prop:=∀o i,subscripted b false o i=operate [o,i] (getItem o i)
def IxR(X:Cx)(r:R2):Prop:=∀(value slice:Expr)(pins:List (Addr×Obj))(s:Shared)(σ:St)(H:Hp)(x y:V)(v u:Value)(Q:VK),Inv X pins σ H s->RelV x v->RelV y u->r x y H Q->subscripted slice false v u=operate [v,u] (getItem v u)->wpAny (model X.prog X.w) X.A (subscriptTail value slice v u) (EP X pins σ Q) X.xe s
def YY(X:Cx)(id:String)(r:V->List V->Hp->VK->Prop):Prop:=∀(pins:List (Addr×Obj))(s:Shared)(σ:St)(H:Hp)(x:V)(xs:List V)(v:Value)(us:List Value)(Q:VK),Inv X pins σ H s->RelV x v->ck xs us->r x xs H Q->wpAny (model X.prog X.w) X.A (call (.builtin id) (v::us)) (EP X pins σ Q) X.xe s
section
variable {X:Cx} {a b:Expr} {ta tb:TE} {pos:Pos}
def bF(hr:IxR X r)(ha:PE X a ta)(hb:PE X b tb)(hs:Qc b):PE X (.Subscript a b pos) (Ae r ta tb):=by intro pins s σ H Q I h;exact Subscript_ (Si ha hb I h λv u s2 x y H2 I2 rx ry q=>hr a b pins s2 σ H2 x y v u Q I2 rx ry q (hs _ _))
inductive WG (K:PySem.W.Frag) (x y:V) (H:Hp) (Q:VK):Prop|mk (p:Addr) (xs:List V) (i:Int) (v:V) (e1:x=.ref p) (e2:y=.int i) (e3:bp K H p xs) (e4:Nn xs i=some v) (e5:Q v H):WG K x y H Q
def Gq(K:PySem.W.Frag):R2:=λx y H Q=>WG K x y H Q
inductive WE (K:PySem.W.Frag) (x y:V) (H:Hp) (Q:VK):Prop|mk (p:Addr) (xs:List V) (i:Int) (v:V) (e1:x=.ref p) (e2:y=.int i) (e3:qb K H p xs) (e4:Nn xs i=some v) (e5:Q v H):WE K x y H Q
def aaq(K:PySem.W.Frag):R2:=λx y H Q=>WE K x y H Q
def aW:IxR X (Gq X.K):=by
 intro value slice pins s σ H x y v u Q I rx ry h hs;obtain⟨p,xs,i,z,rfl,rfl,hq,he,q⟩:=h;cases rx;obtain⟨t,rfl⟩:=ry;obtain⟨b_,r,pl,hz⟩:=I.list hq;obtain⟨j,h1,h2,h3,h4,h5⟩:=FP he;obtain⟨w,ew,Nr⟩:=r.get h2;have hl:=r.length;have hn:=zg;have fin:EP X pins σ Q w s:=⟨z,H,I,Nr,q⟩;by_cases h0:0<=i
 .have hj:i.toNat=j:=by rw[Ck h0 h5]at h1;exact bZ h1
  exact item_listR pl.isList h0 (by omega) (by rw[hj];simpa using ew) fin hs
 have hj:(i+(b_.toArray.size:Int)).toNat=j:=by rw[seqIndex_neg (by omega) h4]at h1;rw[dt,<-hl];exact bZ h1
 exact subscriptTail_builtinR (x:=w) pl.isList.typeIs CF.lookup (wpAny_getItem_list_neg (Q:=λr s'=>r=w/\EP X pins σ Q r s') pl.isList (by omega) (by rw[dt]<;>omega) (by omega) (by rw[hj];simpa using ew) ⟨rfl,fin⟩) hs
def lZ:IxR X (aaq X.K):=by intro value slice pins s σ H x y v u Q I rx ry h hs;obtain⟨p,xs,i,z,rfl,rfl,hq,he,q⟩:=h;cases rx;obtain⟨t,rfl⟩:=ry;obtain⟨b_,r,pl,hz⟩:=I.tuple hq;obtain⟨j,h1,h2,h3,h4,h5⟩:=FP he;obtain⟨w,ew,Nr⟩:=r.get h2;have hl:=r.length;have hn:=zg;have fin:EP X pins σ Q w s:=⟨z,H,I,Nr,q⟩;exact subscriptTail_builtinR (x:=w) pl.typeIs slot_tuple_getitem.lookup (getItem_tuple (j:=j) (Q:=λr s'=>r=w/\EP X pins σ Q r s') pl (by omega) (by omega) (by rw[dt,<-hl];exact h1) (by simpa using ew) ⟨rfl,fin⟩) hs
def Eb(b_:List Value)(n j:Nat)(u:Value):Obj.mapSeq (·.setIfInBounds j u) {cls:=.type "list",data:=.seq b_.toArray n}={cls:=.type "list",data:=.seq (b_.set j u).toArray n}:=by simp[Obj.mapSeq]
theorem Inv.lst(I:Inv X pins σ H s)(h:H p=some (.lst xs)):∃(b_:List Value)(n:Nat),ck xs b_/\s.heap.get? p=some {cls:=.type "list",data:=.seq b_.toArray n}/\xs.length<=sizeLine:=by obtain⟨z,b_,n,r,e⟩:=I.dg p _ h;exact⟨b_,n,r,e,z⟩
def Inv.Td{pins:List (Addr×Obj)}{σ:St}{H:Hp}{s:Shared}{p:Addr}{xs ys:List V}{b_ its':List Value}{n n':Nat}{f:Obj->Obj}(I:Inv X pins σ H s)(h:H p=some (.lst xs))(ho:s.heap.get? p=some {cls:=.type "list",data:=.seq b_.toArray n})(hf:f {cls:=.type "list",data:=.seq b_.toArray n}={cls:=.type "list",data:=.seq its'.toArray n'})(r:ck ys its')(hz:ys.length<=sizeLine)(t:Nat):Inv X pins σ (upd H p (.lst ys)) {s with heap:=s.heap.update p f,toks:=t}:=by
 have e:(s.heap.update p f).get? p=some {cls:=.type "list",data:=.seq its'.toArray n'}:=by rw[yL f ho (by rw[hf]<;>rfl),hf]
 refine I.write (x:=p) (e:=p) (by rw[h];trivial) (.inl rfl) (λb u hb q=>(tH _ _ (jq hb)).trans q) ⟨_,e⟩ ?_;exact⟨hz,its',n',r,e⟩
inductive QJ (o i v:V) (H:Hp) (Q:Hp->Prop):Prop|mk (p:Addr) (xs:List V) (k:Int) (j:Nat) (e1:o=.ref p) (e2:i=.int k) (e3:H p=some (.lst xs)) (e4:Iz xs.length k=some j) (e5:Q (upd H p (.lst (xs.set j v)))):QJ o i v H Q
def W9:V->V->V->Hp->(Hp->Prop)->Prop:=λo i v H Q=>QJ o i v H Q
def set_list:WK X W9:=by
 intro pins s σ H o i v ov iv u Q I ro ri rv h;obtain⟨p,xs,k,j,rfl,rfl,hp,hj,q⟩:=h;cases ro;obtain⟨t,rfl⟩:=ri;obtain⟨b_,n,r,ho,hz⟩:=I.lst hp;obtain⟨h1,h2,h3,h4⟩:=Ft hj;have hl:=r.length;have hn:=zg;have I':Inv X pins σ (upd H p (.lst (xs.set j v))) {s with heap:=s.heap.update p (Obj.mapSeq (·.setIfInBounds j u))}:=I.Td hp ho (Eb b_ n j u) (r.set rv j) (by rw[jk];exact hz) s.toks;by_cases h0:0<=k
 .have hk:k.toNat=j:=by rw[Ck h0 h4]at h1;exact bZ h1
  exact PySem.W.ki_setAt ho h0 (by omega) (by rw[dt,<-hl];exact h4) (by rw[hk];exact⟨_,I',q⟩)
 have hk:(k+(b_.toArray.size:Int)).toNat=j:=by rw[seqIndex_neg (by omega) h3]at h1;rw[dt,<-hl];exact bZ h1
 exact PySem.W.ki_setBack ho (by omega) (by rw[dt,<-hl];exact h3) (by omega) (by rw[hk];exact⟨_,I',q⟩)
def zX(lo hi:Option Int)(n:Nat):(sliceBounds lo hi none n).1=((HT.Ak n 0 lo:Nat):Int)/\(sliceBounds lo hi none n).2.1=((HT.Ak n n hi:Nat):Int)/\(sliceBounds lo hi none n).2.2=1:=by
 refine⟨?_,?_,rfl⟩
 .cases lo with
  |none=>simp[sliceBounds,HT.Ak]
  |some i=>
   simp only[sliceBounds,HT.Ak,Ka,show(1:Int)>0 by decide,lR];by_cases h:i<0;.simp only[h,lR]<;>omega
   simp only[h,jN]<;>omega
 cases hi with
 |none=>simp[sliceBounds,HT.Ak]
 |some i=>
  simp only[sliceBounds,HT.Ak,Ka,show(1:Int)>0 by decide,lR];by_cases h:i<0;.simp only[h,lR]<;>omega
  simp only[h,jN]<;>omega
def wq(b_:List Value)(lo hi:Option Int):slicePick b_.toArray lo hi none=((b_.drop (HT.Ak b_.length 0 lo)).take (HT.Ak b_.length b_.length hi-HT.Ak b_.length 0 lo)).toArray:=by obtain⟨h1,h2,h3⟩:=zX lo hi b_.toArray.size;unfold slicePick;rw[h1,h2,h3];simp only[sliceRange_one,pick_run,dt]<;>rfl
def V0(K:PySem.W.Frag):V->Option Int->Option Int->Hp->VK->Prop:=λx lo hi H Q=>∃a xs,x=.ref a/\bp K H a xs/\∀p,H p=none->Q (.ref p) (upd H p (.lst (wm xs lo hi)))
def zD:SlR X (V0 X.K):=by intro pins s σ H x v vl vu lo hi sl Q I rx hs pl pu h;obtain⟨a,xs,rfl,hx,q⟩:=h;cases rx;obtain⟨b_,r,ht,hz⟩:=I.list hx;have hlen:=r.length;refine⟨"list",_,CF.lookup,ht.isList.typeIs,?_⟩;refine Kl ht.isList hs pl pu .none (by simp) ?_ (by rw[dt]<;>omega);rw[wq,<-hlen];refine⟨.ref s.heap.objs.size,_,I.laid (t':=s.toks) (o:=.lst (wm xs lo hi)) (λb ob q=>ed _ q) (bx _) ?_,rfl,q _ (I.dg.fresh (bx _))⟩;exact⟨cB (BZ xs lo hi) hz,_,0,(r.drop (HT.Ak xs.length 0 lo)).take (HT.Ak xs.length xs.length hi-HT.Ak xs.length 0 lo),gu _ rfl⟩
def lA:V->Bool|.dQ=>true|.bl _=>true|.int _=>true|.str _=>true|_=>false
def Cc:V->V->Bool|.dQ,.dQ=>true|.bl a,.bl b=>a==b|.bl a,.int b=>(if a then 1 else 0)==b|.int a,.bl b=>a==(if b then 1 else 0)|.int a,.int b=>a==b|.str a,.str b=>a==b|_,_=>false
def Tu(ry:RelV y u)(rx:RelV x v)(fy:lA y=true)(fx:lA x=true):SeqAt.EqAt A s u v (Cc y x):=by
 cases y with
 |dQ=>cases ry;cases x with|dQ=>cases rx;exact SeqAt.EqAt.same _|bl b=>cases rx;exact SeqAt.EqAt.none_bool b|int b=>obtain⟨t,rfl⟩:=rx;exact SeqAt.EqAt.none_int b t|str b=>obtain⟨t,rfl⟩:=rx;exact SeqAt.EqAt.none_str b t|_=>exact absurd (show false=true from fx) e_
 |bl a=>cases ry;cases x with|dQ=>cases rx;exact SeqAt.EqAt.bool_none a|bl b=>cases rx;exact SeqAt.EqAt.bool_bool a b|int b=>obtain⟨t,rfl⟩:=rx;exact SeqAt.EqAt.bool_int a b t|str b=>obtain⟨t,rfl⟩:=rx;exact SeqAt.EqAt.bool_str a b t|_=>exact absurd (show false=true from fx) e_
 |int a=>obtain⟨t',rfl⟩:=ry;cases x with|dQ=>cases rx;exact SeqAt.EqAt.int_none a t'|bl b=>cases rx;exact SeqAt.EqAt.int_bool a t' b|int b=>obtain⟨t,rfl⟩:=rx;exact SeqAt.EqAt.int_int a t' b t|str b=>obtain⟨t,rfl⟩:=rx;exact SeqAt.EqAt.int_str a t' b t|_=>exact absurd (show false=true from fx) e_
 |str a=>obtain⟨t',rfl⟩:=ry;cases x with|dQ=>cases rx;exact SeqAt.EqAt.str_none a t'|bl b=>cases rx;exact SeqAt.EqAt.str_bool a t' b|int b=>obtain⟨t,rfl⟩:=rx;exact SeqAt.EqAt.str_int a t' b t|str b=>obtain⟨t,rfl⟩:=rx;exact SeqAt.EqAt.str_str a t' b t|_=>exact absurd (show false=true from fx) e_
 |_=>exact absurd (show false=true from fy) e_
def Aw(x:V)(u:Value):Bool:=match u with|.none=>Cc .dQ x|.bool b=>Cc (.bl b) x|.int i _=>Cc (.int i) x|.str z _=>Cc (.str z) x|_=>false
def DO(r:RelV y u)(f:lA y=true):Aw x u=Cc y x:=by cases y with|dQ=>cases r;rfl|bl b=>cases r;rfl|int i=>obtain⟨t,rfl⟩:=r;rfl|str z=>obtain⟨t,rfl⟩:=r;rfl|_=>exact absurd (show false=true from f) e_
theorem pK:∀{xs:List V}{us:List Value},ck xs us->xs.all lA=true->us.any (Aw x)=xs.any λy=>Cc y x|_,_,.nil,_=>rfl|y::xs,u::us,.cons r t,f=>by rw[Cy,dA]at f;rw[t_,t_,DO r f.1,pK t f.2]
theorem j4(rx:RelV x v)(fx:lA x=true):∀{xs:List V}{us:List Value},ck xs us->xs.all lA=true->∀u∈us,SeqAt.EqAt A s u v (Aw x u)
 |_,_,.nil,_=>λu hu=>by cases hu
 |y::xs,u::us,.cons r t,f=>λu' hu=>by
  rw[Cy,dA]at f;rcases bE.mp hu with rfl|hu;.rw[DO r f.1];exact Tu r rx f.1 fx
  exact j4 rx fx t f.2 u' hu
def Uj(x:V)(xs:List V):Bool:=xs.any λy=>Cc y x
def Zr(K:PySem.W.Frag)(neg:Bool):R2:=λx y H Q=>∃p xs,y=.ref p/\(bp K H p xs\/qb K H p xs)/\lA x=true/\xs.all lA=true/\Q (.bl (if neg then !Uj x xs else Uj x xs)) H
def xg:sU X (compareOp .In) (Zr X.K false):=by
 intro pins s σ H x y v u Q I rx ry h;obtain⟨p,xs,rfl,hq,fx,fs,q⟩:=h;cases ry;rcases hq with hq|hq;.obtain⟨b_,r,pl,hz⟩:=I.list hq;refine SeqAt.in_listAt (Aw x) pl.isList (λw hw=>j4 rx fx r fs w (by simpa using hw)) ⟨.bl _,H,I,rfl,?_⟩;rw[show b_.toArray.any (Aw x)=b_.any (Aw x)by simp,pK r fs];exact q
 obtain⟨b_,r,pl,hz⟩:=I.tuple hq;refine SeqAt.in_tupleAt (Aw x) pl (λw hw=>j4 rx fx r fs w (by simpa using hw)) ⟨.bl _,H,I,rfl,?_⟩;rw[show b_.toArray.any (Aw x)=b_.any (Aw x)by simp,pK r fs];exact q
def zY:sU X (compareOp .NotIn) (Zr X.K true):=by
 intro pins s σ H x y v u Q I rx ry h;obtain⟨p,xs,rfl,hq,fx,fs,q⟩:=h;cases ry;rcases hq with hq|hq;.obtain⟨b_,r,pl,hz⟩:=I.list hq;refine SeqAt.notIn_listAt (Aw x) pl.isList (λw hw=>j4 rx fx r fs w (by simpa using hw)) ⟨.bl _,H,I,rfl,?_⟩;rw[show b_.toArray.any (Aw x)=b_.any (Aw x)by simp,pK r fs];exact q
 obtain⟨b_,r,pl,hz⟩:=I.tuple hq;refine SeqAt.notIn_tupleAt (Aw x) pl (λw hw=>j4 rx fx r fs w (by simpa using hw)) ⟨.bl _,H,I,rfl,?_⟩;rw[show b_.toArray.any (Aw x)=b_.any (Aw x)by simp,pK r fs];exact q
def dF:ox X (.builtin "len") (λxs H Q=>∃p ys,xs=[.ref p]/\(bp X.K H p ys\/qb X.K H p ys)/\Q (.int ys.length) H):=by
 intro pins s σ H xs us Q I r h;obtain⟨p,ys,rfl,hq,q⟩:=h;obtain⟨u,rfl,rx⟩:=vals1 r;cases rx;have hn:=zg;rcases hq with hq|hq;.obtain⟨b_,r',pl,hz⟩:=I.list hq;have hlen:=r'.length;exact Calls.call_len_list pl.isList (by simp only[dt]<;>omega) ⟨.int ys.length,H,I.tok _,⟨s.toks+1,by rw[dt,hlen]⟩,q⟩
 obtain⟨b_,r',pl,hz⟩:=I.tuple hq;have hlen:=r'.length;exact len_tuple pl (by simp only[dt]<;>omega) ⟨.int ys.length,H,I.tok _,⟨s.toks+1,by rw[dt,hlen]⟩,q⟩
def fv:ox X (.type "list") (λxs H Q=>∃p ys,xs=[.ref p]/\(bp X.K H p ys\/qb X.K H p ys)/\∀l,H l=none->Q (.ref l) (upd H l (.lst ys))):=by
 intro pins s σ H xs us Q I r h;obtain⟨p,ys,rfl,hq,q⟩:=h;obtain⟨u,rfl,rx⟩:=vals1 r;cases rx;have fin:∀(b_:List Value),ck ys b_->ys.length<=sizeLine->∀(h':Heap)(c':Nat),(∀b o',s.heap.get? b=some o'->h'.get? b=some o')->h'.get? s.heap.objs.size=some {cls:=.type "list",dict:=none,data:=.seq b_.toArray c',slots:=#[]}->EP X pins σ Q (.ref s.heap.objs.size) {s with heap:=h'}:=λb_ r' hz h' c' kp e=>⟨.ref s.heap.objs.size,_,I.laid (t':=s.toks) kp (bx _) (show eK X.prog X.w _ h' _ (.lst ys)from⟨hz,b_,c',r',e⟩),rfl,q _ (I.dg.fresh (bx _))⟩;rcases hq with hq|hq;.obtain⟨b_,r',pl,hz⟩:=I.list hq;have hlen:=r'.length;obtain⟨o,ho,hc,n,hd⟩:=pl.isList;exact call_list_seq p (.inl rfl) ho hc hd (λh' c' kp e=>fin b_ r' hz h' c' kp e) (by simp only[dt]<;>omega)
 obtain⟨b_,r',pl,hz⟩:=I.tuple hq;have hlen:=r'.length;obtain⟨o,ho,hc,n,hd⟩:=pl;exact call_list_seq p (.inr rfl) ho hc hd (λh' c' kp e=>fin b_ r' hz h' c' kp e) (by simp only[dt]<;>omega)
def tyV(K:PySem.W.Frag)(T:String)(x:V)(H:Hp):Prop:=match x with|.str _=>T="str"|.int _=>T="int"|.ref p=>(T="list"/\∃xs,bp K H p xs)\/(T="tuple"/\∃o,K.lookup p=some o/\o.cls=.type "tuple"/\o.dict=none)\/(T="dict"/\((∃bc,H p=some (.dK bc))\/∃bc,H p=some (.dT bc)))\/(T="set"/\∃S n,H p=some (.set S n))|_=>False
def Sv(I:Inv X pins σ H s)(r:RelV x v)(ty:tyV X.K T x H):s.TypeIs v T/\∀a,v=.ref a->∃ob,s.heap.get? a=some ob/\ob.dict=none:=by
 cases x with
 |str z=>obtain⟨t,rfl⟩:=r;cases (show T="str" from ty);exact⟨typeIs_str s z t,λ_ e=>nomatch e⟩
 |int i=>obtain⟨t,rfl⟩:=r;cases (show T="int" from ty);exact⟨typeIs_int s i t,λ_ e=>nomatch e⟩
 |ref p=>
  cases r;rcases ty with⟨rfl,xs,hq⟩|⟨rfl,o,hk,hc,hd⟩|⟨rfl,hk⟩|⟨rfl,S,n,hk⟩;.obtain⟨b_,_,pl,_⟩:=I.list hq;refine⟨pl.isList.typeIs,λa e=>?_⟩;cases e;obtain⟨o,n,e,c,hd,_⟩:=pl;exact⟨o,e,hd⟩
  .refine⟨⟨o,I.An p o hk,hc⟩,λa e=>?_⟩;cases e;exact⟨o,I.An _ o hk,hd⟩
  .have z:∃o,s.heap.get? p=some o/\o.ExactDict:=by
    rcases hk with⟨bc,hk⟩|⟨bc,hk⟩;.obtain⟨_,_,_,_,o,_,_,e,ex,_⟩:=I.dg p _ hk;exact⟨o,e,ex⟩
    obtain⟨_,_,_,_,o,_,_,e,ex,_⟩:=I.dg p _ hk;exact⟨o,e,ex⟩
   obtain⟨o,e,ex⟩:=z;refine⟨⟨o,e,ex.1⟩,λa e2=>?_⟩;cases e2;exact⟨o,e,ex.2.1⟩
  obtain⟨o,_,_,_,e,ex,_⟩:=I.dg p _ hk;refine⟨⟨o,e,ex.1⟩,λa e2=>?_⟩;cases e2;exact⟨o,e,ex.2.1⟩
 |_=>exact False.elim ty
def XW(K:PySem.W.Frag)(T:String)(r:V->List V->Hp->VK->Prop)(to:TE)(t:TA):TE:=fun σ H Q=>to σ H λx H1=>tyV K T x H1/\t σ H1 λxs H2=>r x xs H2 Q
variable {o e:Expr} {es:List Expr} {to:TE} {t:TA} {name:Str} {apos yb:Pos} {T id:String} {r:V->List V->Hp->VK->Prop}
def i7(pa:PlainAttrs T)(slot:Slot T name id)(Ul:typeOf (.builtin id)=pure (.type "method_descriptor"))(hm:YY X id r)(ho:PE X o to)(ha:PA X (e::es) t)(AV:attributeBase o name X.env (eval o X.env)=eval o X.env:=by rfl)(aa4:((backTo yb (starEach (e::es) X.env)).all (λx=>!x.1)&&(backToKw yb (keywordEach [] X.env)).all (λx=>x.1.isSome)&&decide ((e::es).length+([]:List Keyword).length+(if ([]:List Keyword).isEmpty then 0 else 1)<30))=true:=by rfl)(AQ:(apos.endLine==yb.line)=true:=by rfl)(hs:starEach (e::es) X.env=(false,eval e X.env)::starEach es X.env:=by rfl)(Tq:(backTo yb (starEach es X.env)).any (·.1)=false:=by rfl):PE X (.Call (.Attribute o name apos) (e::es) [] yb) (XW X.K T r to t):=by intro pins s σ H Q I h;refine wpAny_Call_method_late AV aa4 AQ rfl (dH (ho pins s σ H _ I h) λv s1⟨x,H1,I1,r1,ty,q1⟩=>?_);obtain⟨h1,h2⟩:=Sv I1 r1 ty;refine⟨T,id,pa,slot,Ul,h1,h2,?_⟩;have hA:=ha yb pins s1 σ H1 _ I1 q1;rw[hs]at hA⊢;refine J0 (by show(false || (backTo yb (starEach es X.env)).any (·.1))=false;rw[Tq]<;>rfl) (JL ?_);exact dH hA λus s2⟨vs,H2,I2,r2,q2⟩=>hm pins s2 σ H2 x vs v us Q I2 r1 r2 q2
end
end L2
namespace L2
open PySem PySem.Spec PyProof.Rows
def MtM(X:Cx)(id:String)(r:V->List V->Hp->VK->Prop):Prop:=∀(pins:List (Addr×Obj))(s:Shared)(σ:St)(H:Hp)(x:V)(xs:List V)(v:Value)(us:List Value)(Q:VK),Inv X pins σ H s->RelV x v->ck xs us->r x xs H Q->wpAny (model X.prog X.w) X.A (call (.builtin id) (v::us)) (EP X pins σ Q) X.xe s
def ck.one:∀{x:V}{us:List Value},ck [x] us->∃u,us=[u]/\RelV x u|_,_,.cons r .nil=>⟨_,rfl,r⟩
section
variable {X:Cx} {pins:List (Addr×Obj)} {σ:St} {H:Hp} {s:Shared} {l b:Addr} {xs ys zs:List V}
def Inv.V_{b_ its':List Value}{n:Nat}{f:Array Value->Array Value}{t':Nat}(I:Inv X pins σ H s)(hH:H l=some (.lst xs))(e:s.heap.get? l=some {cls:=.type "list",data:=.seq b_.toArray n})(hf:f b_.toArray=its'.toArray)(hv:ck ys its')(hz:ys.length<=sizeLine):Inv X pins σ (upd H l (.lst ys)) {s with heap:=s.heap.update l (Obj.mapSeq f),toks:=t'}:=by have q:=PySem.IsL.update e f;rw[hf]at q;refine I.write (x:=l) (e:=l) (by rw[hH];exact trivial) (.inl rfl) (λb' u hb hu=>(tH s.heap (Obj.mapSeq f) (jq hb)).trans hu) ⟨_,q⟩ ?_;exact⟨hz,its',_,hv,q⟩
def Inv.Wb(I:Inv X pins σ H s)(hv:ck ys b_)(hz:ys.length<=sizeLine):Inv X pins σ (upd H s.heap.objs.size (.lst ys)) {s with heap:=s.heap.push {cls:=.type "list",data:=.seq b_.toArray},toks:=t'}:=I.laid (λ_ _ q=>ed _ q) (bx _) ⟨hz,b_,0,hv,gu _ rfl⟩
theorem Inv.fresh(I:Inv X pins σ H s):H s.heap.objs.size=none:=I.dg.fresh (bx _)
def Inv.IU(I:Inv X pins σ H s)(hH:H l=some (.lst xs)):xs.length<=sizeLine/\∃(b_:List Value)(n:Nat),ck xs b_/\xs.length=b_.length/\s.heap.get? l=some {cls:=.type "list",data:=.seq b_.toArray n}:=by obtain⟨z,b_,n,r,e⟩:=I.dg l _ hH;exact⟨z,b_,n,r,r.length,e⟩
def Mt(h:n<=sizeLine):Builtin.List.listTooLong n=false:=by unfold Builtin.List.listTooLong;exact cM (by omega)
end
section
variable {X:Cx}
inductive bAppend (x:V) (vs:List V) (H:Hp) (Q:VK):Prop|mk (l:Addr) (xs:List V) (y:V) (e1:x=.ref l) (e2:vs=[y]) (e3:H l=some (.lst xs)) (e4:xs.length<sizeLine) (e5:Q .dQ (upd H l (.lst (xs++[y])))):bAppend x vs H Q
def Fb:V->List V->Hp->VK->Prop:=λx vs H Q=>bAppend x vs H Q
def fg:MtM X "list.append" Fb:=by intro pins s σ H x vs v us Q I rx rv h;obtain⟨l,xs,y,rfl,rfl,hH,hz,q⟩:=h;cases rx;obtain⟨u,rfl,ru⟩:=rv.one;obtain⟨z,b_,n,r,hl,e⟩:=I.IU hH;refine call_meets F.slot_list_append ⟨_,e,rfl⟩ F.entry_list_append (F.args_list_append_2 _ _) (PySem.list_append l b_.toArray n u (by rw[dt];omega)) ⟨e,?_⟩;refine⟨.dQ,_,I.V_ (its':=b_++[u]) hH e (by simp) (r.append (.cons ru .nil)) ?_,rfl,q⟩;rw[dC,tI];omega
def OQ:V->List V->Hp->VK->Prop:=λx vs H Q=>∃l b xs zs,x=.ref l/\vs=[.ref b]/\H l=some (.lst xs)/\H b=some (.lst zs)/\xs.length+zs.length<=sizeLine/\Q .dQ (upd H l (.lst (xs++zs)))
def qP:MtM X "list.extend" OQ:=by
 intro pins s σ H x vs v us Q I rx rv h;obtain⟨l,b,xs,zs,rfl,rfl,hH,hB,hz,q⟩:=h;cases rx;obtain⟨u,rfl,ru⟩:=rv.one;cases ru;obtain⟨z,b_,n,r,hl,e⟩:=I.IU hH;obtain⟨z2,sX,n2,r2,sT,e2⟩:=I.IU hB;have hsz:b_.toArray.size+sX.toArray.size<=sizeLine:=by rw[dt,dt];omega
 have Xq:¬(!b_.toArray.isEmpty&&Builtin.List.listTooLong (b_.toArray.size+sX.toArray.size))=true:=by rw[Mt hsz,Bool.and_false];exact e_
 refine call_meets F.slot_list_extend ⟨_,e,rfl⟩ F.entry_list_extend (F.args_list_extend_2 _ _) (AutoSeq1.list_extend_list_list_0 l b_.toArray n b sX.toArray n2 Xq (by rw[dt];omega) (by omega)) ⟨e,e2,?_⟩;refine⟨.dQ,_,I.V_ (its':=b_++sX) hH e (by simp) (r.append r2) ?_,rfl,q⟩;rw[dC];omega
def V1:R2:=λx y H Q=>∃l b xs zs,x=.ref l/\y=.ref b/\H l=some (.lst xs)/\H b=some (.lst zs)/\xs.length+zs.length<=sizeLine/\∀p,H p=none->Q (.ref p) (upd H p (.lst (xs++zs)))
def kr:sU X (binaryOp .Add) V1:=by
 intro pins s σ H x y v u Q I rx ry h;obtain⟨l,b,xs,zs,rfl,rfl,hH,hB,hz,q⟩:=h;cases rx;cases ry;obtain⟨z,b_,n,r,hl,e⟩:=I.IU hH;obtain⟨z2,sX,n2,r2,sT,e2⟩:=I.IU hB;refine PySem.P.add_list e e2 ?_ (by rw[dt,dt];omega);have ea:b_.toArray++sX.toArray=(b_++sX).toArray:=by simp
 rw[ea];exact⟨.ref _,_,I.Wb (t':=s.toks) (r.append r2) (by rw[dC];omega),rfl,q _ I.fresh⟩
end
section
variable {prog:Program} {w:World} {A:Around} {E:Value->Shared->Prop} {s:Shared}
end
section
variable {X:Cx}
end
end L2
namespace L2
open PySem PySem.Spec PyProof.Rows
theorem ck.ints:∀{ns:List Int}{us:List Value},ck (ns.map V.int) us->IntsAre us ns|[],us,h=>by rw[lI]at h;cases h;exact IntsAre.nil|n::ns,us,h=>by rw[cV]at h;cases h with|cons r t=>obtain⟨k,rfl⟩:=r;exact IntsAre.cons n k (ck.ints t)
theorem kN:∀{us:List Value}{ns:List Int},IntsAre us ns->ck (ns.map V.int) us|_,_,.nil=>by rw[lI];exact Paired.nil|_,_,.cons n t h=>by rw[cV];exact Paired.cons (show RelV (V.int n) (Value.int n t)from⟨t,rfl⟩) (kN h)
def ck.NT(r:ck [V.ref a] us):us=[Value.ref a]:=by cases r with|cons r t=>cases t;cases r;rfl
section
variable {prog:Program} {w:World} {A:Around} {E:Value->Shared->Prop} {s:Shared} {l:Addr} {b_:List Value} {ns:List Int} {Q:Value->Shared->Prop}
def Ov(hh:A.handled=none)(hl:s.heap.IsList l b_.toArray)(hi:IntsAre b_ ns)(h:∀h' tk t',(∀b o,s.heap.get? b=some o->h'.get? b=some o)->Q (.int ns.sum t') {s with heap:=h',toks:=tk}):wpAny (model prog w) A (call (.builtin "sum") [.ref l]) Q E s:=by
 obtain⟨xs,e⟩:=hi.allInts.items;have hn:numsOf (intItems xs).toList=ns:=by rw[<-e];exact hi.numsOf
 rw[nums_intItems]at hn;rw[e]at hl;refine PySem.sum_intListG hh hl λh' tk t' hk=>?_;have:=h h' tk t' hk;rw[preSum_eq,List.take_of_length_le (by simp),hn];exact this
end
section
variable {X:Cx}
def RC(K:PySem.W.Frag):List V->Hp->VK->Prop:=λvs H Q=>∃(a:Addr)(ns:List Int),vs=[V.ref a]/\bp K H a (ns.map V.int)/\Q (.int ns.sum) H
def zk(hc:X.calm=true):ox X (.builtin "sum") (RC X.K):=by intro pins s σ H vs us Q I r h;obtain⟨a,ns,rfl,hs,q⟩:=h;obtain⟨b_,rv,hl,_⟩:=I.list hs;rw[ck.NT r];exact Ov (I.ok.hd hc) hl.isList rv.ints λh' tk t' hk=>⟨.int _,H,I.kept hk,⟨_,rfl⟩,q⟩
def OO(K:PySem.W.Frag):List V->Hp->VK->Prop:=λvs H Q=>∃(a:Addr)(ns:List Int),vs=[V.ref a]/\bp K H a (ns.map V.int)/\ns.length<64/\∀(QY:List Int)(p:Addr),QY.Perm ns->QY.Pairwise (·<=·)->H p=none->Q (.ref p) (upd H p (.lst (QY.map V.int)))
def Oy(h:n<64):n<=sizeLine:=by rw[yk];omega
def HQ:ox X (.builtin "sorted") (OO X.K):=by
 intro pins s σ H vs us Q I r h;obtain⟨a,ns,rfl,hs,h64,q⟩:=h;obtain⟨b_,rv,hl,_⟩:=I.list hs;rw[ck.NT r];have hi:=rv.ints;refine PyProof.Rows.sorted_ints hl.isList hi (by rw[hi.length];exact h64) λout QY h1 h2 h3=>?_;obtain⟨ep,Qk⟩:=PyProof.Rows.sortedAll_at s.heap b_ out;have hlen:(QY.map V.int).length<=sizeLine:=by rw[aE,h2.length_eq];exact Oy h64
 exact⟨.ref _,upd H (s.heap.objs.size+1) (.lst (QY.map V.int)),I.laid (t':=s.toks) (λ_ _=>PyProof.Rows.sortedAll_old) (tV _) ⟨hlen,out.toList,ep,kN h1,Qk⟩,rfl,q QY _ h2 h3 (I.dg.fresh (tV _))⟩
end
section
variable {X:Cx}
end
section
variable {X:Cx}
end
section
variable {X:Cx}
end
section
variable {X:Cx} {pins:List (Addr×Obj)} {σ:St} {H:Hp} {s:Shared}
end
section
variable {X:Cx}
end
end L2
namespace L2
open PySem PySem.Spec PyProof.Rows
abbrev LH(h:Heap)(c:Addr)(v:Option Value):Prop:=h.IsCell c v
def aao(scope sc:Scope):Scope:={scope with names:=scope.names.map λ(n,k)=>if (k==.free&&sc.kind==.function&&sc.names.lookup n==some .cell)then(n,.cell)else(n,k)}
def dE(cells:List (Str×Addr)):List (Str×NameKind)->List (Str×Addr)->List (Str×Addr)|[],acc=>acc|(n,k)::r,acc=>if k==.free then dE cells r ((n,(cells.lookup n).getD 0)::acc)else dE cells r acc
theorem p7(env:Env)(f:Str×NameKind->List (Str×Addr)->Sem (ForInStep (List (Str×Addr))))(hf:∀n k c,f (n,k) c=if k==.free then(do let a <-cellOf env n;pure (.yield ((n,a)::c)))else pure (.yield c)):∀(names:List (Str×NameKind))(acc:List (Str×Addr)),(∀y∈names,y.2=.free->∃c,env.cells.lookup y.1=some c)->forIn names acc f=pure (dE env.cells names acc)
 |[],acc,_=>by rw[yz];rfl
 |(n,k)::r,acc,h=>by
  rw[CJ,hf];have ih:=λacc=>p7 env f hf r acc λy hy=>h y (dR _ hy);unfold dE;by_cases hk:(k==NameKind.free)=true
  .rw[aw hk,aw hk];obtain⟨c,hc⟩:=h (n,k) cF (by simpa using hk);have e:cellOf env n=pure c:=by unfold cellOf;rw[hc]
   rw[e];have e2:(env.cells.lookup n).getD 0=c:=by rw[hc];rfl
   rw[e2];exact ih _
  rw[au hk,au hk];exact ih _
def Ep(h:∀y∈scope.names,y.2=.free->∃c,env.cells.lookup y.1=some c):closureFor scope env=pure (dE env.cells scope.names []):=by simp only[closureFor];rw[p7 env _ (λn k c=>rfl) scope.names [] h];rfl
theorem mem_lookup{α:Type}:∀{l:List (Str×α)}{n:Str}{c:α},(n,c)∈l->∃c',l.lookup n=some c'
 |(k,v)::r,n,c,h=>by
  rw[lp];cases hb:n==k with
  |true=>exact⟨_,rfl⟩
  |false=>
   rcases bE.mp h with e|h;.cases e;simp at hb
   exact mem_lookup h
theorem jL:∀{names:List (Str×NameKind)}{acc:List (Str×Addr)}{n:Str}{c:Addr},(n,c)∈dE cells names acc->(n,c)∈acc\/((n,.free)∈names/\c=(cells.lookup n).getD 0)
 |[],_,_,_,h=>.inl h
 |(m,k)::r,acc,n,c,h=>by
  unfold dE at h;split at h
  .rename_i hk;have hk:k=.free:=by simpa using hk
   rcases jL h with h|⟨h1,h2⟩
   .rcases bE.mp h with e|h;.cases e;exact .inr ⟨hk▸cF,rfl⟩
    exact .inl h
   exact .inr ⟨dR _ h1,h2⟩
  rcases jL h with h|⟨h1,h2⟩;.exact .inl h
  exact .inr ⟨dR _ h1,h2⟩
theorem mY:∀{names:List (Str×NameKind)}{acc:List (Str×Addr)}{p:Str×Addr},p∈acc->p∈dE cells names acc
 |[],_,_,h=>h
 |(m,k)::r,acc,p,h=>by
  unfold dE;split;.exact mY (dR _ h)
  exact mY h
theorem mX:∀{names:List (Str×NameKind)}{acc:List (Str×Addr)}{n:Str},(n,.free)∈names->(n,(cells.lookup n).getD 0)∈dE cells names acc
 |(m,k)::r,acc,n,h=>by
  unfold dE;rcases bE.mp h with e|h;.cases e;exact mY cF
  split;.exact mX h
  exact mX h
theorem j9:∀{names:List (Str×NameKind)}{h:Heap}{acc:List (Str×Addr)}{x:Str}{c:Addr},(x,c)∈cellsFrom h.objs.size names acc->(x,c)∈acc\/((x,.cell)∈names/\h.objs.size<=c/\LH (pushCells h names) c none)
 |[],_,_,_,_,h=>.inl h
 |(n,k)::r,h,acc,x,c,hm=>by
  unfold cellsFrom at hm;unfold pushCells;split at hm
  .rename_i hk;rw[aw hk];have hk:k=.cell:=by simpa using hk
   rw[<-lg h {cls:=.type "cell",data:=.cell none}]at hm;rcases j9 hm with hm|⟨h1,h2,h3⟩
   .rcases bE.mp hm with e|hm;.cases e;exact .inr ⟨hk▸cF,bx _,_,yw r _ _ _ (gu _ rfl),rfl⟩
    exact .inl hm
   rw[lg]at h2;exact .inr ⟨dR _ h1,yJ h2,h3⟩
  rename_i hk;rw[au hk];rcases j9 hm with hm|⟨h1,h2,h3⟩;.exact .inl hm
  exact .inr ⟨dR _ h1,h2,h3⟩
theorem nW:∀{names:List (Str×NameKind)}{n:Nat}{acc:List (Str×Addr)}{p:Str×Addr},p∈acc->p∈cellsFrom n names acc
 |[],_,_,_,h=>h
 |(m,k)::r,n,acc,p,h=>by
  unfold cellsFrom;split;.exact nW (dR _ h)
  exact nW h
theorem qY:∀{names:List (Str×NameKind)}{n:Nat}{acc:List (Str×Addr)}{x:Str},(x,.cell)∈names->∃c,(x,c)∈cellsFrom n names acc
 |(m,k)::r,n,acc,x,h=>by
  unfold cellsFrom;rcases bE.mp h with e|h;.cases e;exact⟨n,nW cF⟩
  split;.exact qY h
  exact qY h
theorem qX:∀{names:List (Str×NameKind)}{h:Heap}{acc:List (Str×Addr)}{x y:Str}{c:Addr},(∀p∈acc,p.2<h.objs.size)->(∀x y c,(x,c)∈acc->(y,c)∈acc->x=y)->(x,c)∈cellsFrom h.objs.size names acc->(y,c)∈cellsFrom h.objs.size names acc->x=y
 |[],_,_,_,_,_,_,hi,h1,h2=>hi _ _ _ h1 h2
 |(n,k)::r,h,acc,x,y,c,hl,hi,h1,h2=>by
  unfold cellsFrom at h1 h2;split at h1
  .rename_i hk;rw[aw hk]at h2;rw[<-lg h {cls:=.type "cell",data:=.cell none}]at h1 h2;refine qX (h:=h.push _) (λp hp=>?_) (λx y c a b=>?_) h1 h2
   .rw[lg];rcases bE.mp hp with rfl|hp;.exact yF _
    exact qr (hl p hp)
   rcases bE.mp a with e|a<;>rcases bE.mp b with e'|b;.cases e;cases e';rfl
   .cases e;exact absurd (hl _ b) (il _)
   .cases e';exact absurd (hl _ a) (il _)
   exact hi _ _ _ a b
  rename_i hk;rw[au hk]at h2;exact qX hl hi h1 h2
def BU{M:Model}{A:Around}{E:Value->Shared->Prop}{s:Shared}{scope:Scope}{globals:Addr}{closure:List (Str×Addr)}{qual:Str}{func:Option Addr}{code:Value}{around:Env}{builtins:Addr}{Q:Env->Shared->Prop}(h:Q (newEnv scope s.heap.objs.size globals (cellsFrom (s.heap.objs.size+1) scope.names closure) qual func code (some around) builtins) {s with heap:=pushCells (s.heap.push {cls:=.type "dict",data:=.dict #[]}) scope.names}):wpAny M A (newFunctionEnv scope globals closure [] qual func code (some around) builtins) Q E s:=by simp only[newFunctionEnv,Kk,lR];refine aZ (wpAny_alloc ?_);refine aZ (wpAny_layCells _ (λn k c=>rfl) scope.names closure _ _ ?_);rw[show({s with heap:=s.heap.push {cls:=.type "dict",data:=.dict #[]}}:Shared).heap.objs.size=s.heap.objs.size+1 from lg ..];rw[yz];exact aZ (bz (bz h))
theorem mJ{sc:Scope}:∀{names:List (Str×NameKind)}{x:Str}{k:NameKind},(names.map λ(n,k)=>if (k==NameKind.free&&sc.kind==.function&&sc.names.lookup n==some .cell)then(n,NameKind.cell)else(n,k)).lookup x=some k->∃k',names.lookup x=some k'/\(k=k'\/(k'=.free/\k=.cell))
 |[],_,_,h=>by simp at h
 |(n,k₀)::r,x,k,h=>by
  have ih:=@mJ sc r x k;have h':List.lookup x ((if (k₀==NameKind.free&&sc.kind==.function&&sc.names.lookup n==some .cell)=true then(n,NameKind.cell)else(n,k₀))::(r.map _))=some k:=h;cases hx:x==n with
  |true=>
   simp only[lp,hx];by_cases hc:(k₀==NameKind.free&&sc.kind==.function&&sc.names.lookup n==some .cell)=true;.rw[aw hc]at h';simp only[lp,hx]at h';cases h';simp only[dA,i4]at hc;exact⟨k₀,rfl,.inr ⟨hc.1.1,rfl⟩⟩
   rw[au hc]at h';simp only[lp,hx]at h';cases h';exact⟨_,rfl,.inl rfl⟩
  |false=>
   simp only[lp,hx];by_cases hc:(k₀==NameKind.free&&sc.kind==.function&&sc.names.lookup n==some .cell)=true;.rw[aw hc]at h';simp only[lp,hx]at h';exact ih h'
   rw[au hc]at h';simp only[lp,hx]at h';exact ih h'
structure AZ (N:List Str) (sc scope:Scope) (own:List (Str×Nat)):Prop where
  kind:scope.kind=.function
  uniq:∀y∈scope.names,scope.names.lookup y.1=some y.2
  ix:∀p∈own,N[p.2]?=some p.1
  free:∀y∈scope.names,y.2=.free->sc.names.lookup y.1=some .cell\/sc.names.lookup y.1=some .free
  own:∀y∈scope.names,y.2=.local\/y.2=.cell->y.1∈own.map (·.1)\/y.1∉N
def wipe(σ:St):List Nat->St|[]=>σ|v::vs=>(wipe σ vs).set v none
theorem my(σ:St):∀vs:List Nat,(wipe σ vs).length=σ.length|[]=>rfl|v::vs=>by unfold wipe;rw[jk,my σ vs]
theorem qF:∀{vs:List Nat},(wipe σ vs)[i]?=some (some x)->σ[i]?=some (some x)/\i∉vs
 |[],h=>⟨h,by simp⟩
 |v::vs,h=>by
  unfold wipe at h;by_cases hi:v=i
  .subst hi;by_cases hv:v<(wipe σ vs).length;.rw[C9 hv]at h;cases h
   rw[oq (by simpa using hv)]at h;cases h
  rw[C6 hi]at h;obtain⟨h1,h2⟩:=qF h;exact⟨h1,by simp only[bE,qg];exact⟨λe=>hi e.symm,h2⟩⟩
abbrev Cx.x_(X:Cx)(s:Shared)(H:Hp)(scope:Scope)(iy:Env)(fp:List Addr):Cx:={X with sP:=s,Qs:=H,env:=iy,outer:=X.stack,ex:=fp,fn:=λx=>scope.names.lookup x==some .cell,pn:=[],xe:=λ_ _=>False}
section
variable {X:Cx} {pins:List (Addr×Obj)} {σ:St} {H:Hp} {s:Shared}
def B5{scope:Scope}{own:List (Str×Nat)}{fp:List Addr}(I:Inv X pins σ H s)(ok:AZ X.N X.env.scope scope own)(hN:X.N.Nodup)(Ng:∀b∈fp,rR X pins H b/\b<s.heap.objs.size):Inv (X.x_ s H scope (compEnvC scope (cellsFrom (s.heap.objs.size+1) scope.names (dE X.env.cells scope.names [])) s.heap.objs.size X.env) fp) [] (wipe σ (own.map (·.2))) H {s with heap:=pushCells (s.heap.push {cls:=.type "dict",data:=.dict #[]}) scope.names}:=by
 have wN:∀y∈scope.names,y.2=.free->∃c,X.env.cells.lookup y.1=some c:=λy hy e=>by
  rcases ok.free y hy e with k|k;.exact I.ok.has _ (.inl k)
  exact I.ok.has _ (.inr k)
 generalize AU:compEnvC scope (cellsFrom (s.heap.objs.size+1) scope.names (dE X.env.cells scope.names [])) s.heap.objs.size X.env=iy;have kp:∀b o,s.heap.get? b=some o->(pushCells (s.heap.push {cls:=.type "dict",data:=.dict #[]}) scope.names).get? b=some o:=λb o e=>yw _ _ _ _ (ed _ e);have hL:iy.locals=s.heap.objs.size:=by rw[<-AU];rfl
 have xZ:iy.cells=cellsFrom (s.heap.objs.size+1) scope.names (dE X.env.cells scope.names []):=by rw[<-AU];rfl
 have ZW:iy.scope=aao scope X.env.scope:=by rw[<-AU];rfl
 rw[<-lg s.heap {cls:=.type "dict",data:=.dict #[]}]at xZ;have cm:∀{y c},(y,c)∈dE X.env.cells scope.names []->X.env.cells.lookup y=some c/\c<s.heap.objs.size:=fun {y c} hm=>by
  rcases jL hm with hm|⟨h1,rfl⟩;.cases hm
  obtain⟨c,hc⟩:=wN _ h1 rfl;rw[hc];obtain⟨w,z⟩:=I.cell _ _ hc;exact⟨rfl,z.lt⟩
 have mem:∀{y c},iy.cells.lookup y=some c->(X.env.cells.lookup y=some c/\c<s.heap.objs.size)\/(s.heap.objs.size+1<=c/\LH (pushCells (s.heap.push {cls:=.type "dict",data:=.dict #[]}) scope.names) c none):=fun {y c} e=>by
  rw[xZ]at e;rcases j9 (iR e)with hm|⟨_,h2,h3⟩;.exact .inl (cm hm)
  rw[lg]at h2;exact .inr ⟨h2,h3⟩
 have look:∀{y},scope.names.lookup y=some .free->∃c,iy.cells.lookup y=some c/\X.env.cells.lookup y=some c:=fun {y} hl=>by
  have hy:(y,NameKind.free)∈scope.names:=iR hl;obtain⟨c',e'⟩:=mem_lookup (nW (names:=scope.names) (n:=(s.heap.push {cls:=.type "dict",data:=.dict #[]}).objs.size) (mX (cells:=X.env.cells) (acc:=[]) hy));rw[<-xZ]at e';refine⟨c',e',?_⟩;rw[xZ]at e';rcases j9 (iR e')with hm|⟨h1,_,_⟩;.exact(cm hm).1
  have:=ok.uniq _ h1;rw[hl]at this;cases this
 have okB:(X.x_ s H scope iy fp).Ok:=by
  refine⟨I.ok.mod,by show iy.scope.kind=_;rw[ZW];exact ok.kind,by show iy.globals=_;rw[<-AU];exact I.ok.glob,by show iy.builtins=_;rw[<-AU];exact I.ok.blt,by show s.heap.objs.size<=iy.locals;rw[hL];exact bx _,λy z c e1 e2=>?_,λy hy=>?_,λy c z e=>?_,I.ok.hd,I.ok.frames,.inl rfl,λb hb=>⟨?_,λy c e z=>?_⟩,I.bs,cB I.ok.Ir I.sz,λb o e hb=>?_,λb hb z=>?_,I.stack,I.E8⟩;.have e1:iy.cells.lookup y=some c:=e1;have e2:iy.cells.lookup z=some c:=e2;rw[xZ]at e1 e2;refine qX (λp hp=>?_) (λy z c a b=>I.ok.inj y z c (cm a).1 (cm b).1) (iR e1) (iR e2);rw[lg];exact qr (cm (y:=p.1) (c:=p.2) hp).2
  .show ∃c,iy.cells.lookup y=some c;have key:∀k,iy.kindOf y=some k->(k=.cell\/k=.free)->∃c,iy.cells.lookup y=some c:=λk hk Q_=>by
    unfold Env.kindOf at hk;rw[ZW]at hk;obtain⟨k',e,r⟩:=mJ hk;have:k'=.cell\/k'=.free:=by
     rcases r with rfl|⟨rfl,_⟩;.exact Q_
     exact .inr rfl
    rcases this with rfl|rfl;.obtain⟨c,hm⟩:=qY (n:=(s.heap.push {cls:=.type "dict",data:=.dict #[]}).objs.size) (acc:=dE X.env.cells scope.names []) (iR e);obtain⟨c',e'⟩:=mem_lookup hm;exact⟨c',by rw[xZ];exact e'⟩
    obtain⟨c,h1,_⟩:=look e;exact⟨c,h1⟩
   rcases hy with hy|hy;.exact key _ hy (.inl rfl)
   exact key _ hy (.inr rfl)
  .have z:(scope.names.lookup y==some NameKind.cell)=true:=z;have z:scope.names.lookup y=some .cell:=by simpa using z
   have e:iy.cells.lookup y=some c:=e;rw[xZ]at e;rcases j9 (iR e)with hm|⟨_,h2,_⟩
   .rcases jL hm with hm|⟨h1,_⟩;.cases hm
    have q:=ok.uniq _ h1;rw[z]at q;cases q
   rw[lg]at h2;exact yJ h2
  .show b≠iy.locals;rw[hL];exact fw (Ng b hb).2
  .have e:iy.cells.lookup y=some c:=e;rcases mem e with⟨h1,_⟩|⟨h1,_⟩;.exact(Ng b hb).1.2.2.2.2.1 y c h1 z
   have h2:s.heap.objs.size+1<=b:=by rw[<-z];exact h1
   exact absurd (gq (Ng b hb).2 (yJ h2)) (il _)
  .rcases (Ng b hb).1.2.2.2.1 with z|z;.exact I.ok.IS b o e z
   exact absurd (gq (cY e) (cB I.ok.Ir z)) (il _)
  rcases bE.mp (I.Dl b z)with z|z;.exact(Ng b hb).1.2.1 z
  exact(Ng b hb).1.2.2.1 z
 refine⟨okB,rfl,I.bare,Un.kept kp,⟨λ_=>none,?_,λi y av e1 e2 e3=>?_⟩,λy c e=>?_,?_,λy c e=>?_,λp hp=>?_,I.dg.kept kp,by rw[my];exact I.len⟩;.show Heap.Ns _ iy.locals _;rw[hL];exact Heap.Ns.keeps (Heap.Ns.new ..) λb o e=>yw _ _ _ _ e
 .obtain⟨e2,xX⟩:=qF e2;have Nf:scope.names.lookup y=some .free/\(iy.kindOf y=some .cell\/iy.kindOf y=some .free):=by
   have key:∀k,iy.scope.names.lookup y=some k->k=.local\/k=.cell\/k=.free->scope.names.lookup y=some .free/\(iy.kindOf y=some .cell\/iy.kindOf y=some .free):=λk hk Q_=>by
    have hk0:=hk;rw[ZW]at hk;obtain⟨k',e,r⟩:=mJ hk;have no:¬(k'=.local\/k'=.cell):=λhh=>by
     rcases ok.own _ (iR e) hh with e'|e';.obtain⟨p,hp,hpy⟩:=br.mp e';have e3:=ok.ix p hp;have:p.1=y:=hpy;rw[this]at e3;exact xX (br.mpr ⟨p,hp,u_ hN e3 e1⟩)
     exact e' (du e1)
    rcases r with rfl|⟨rfl,rfl⟩
    .rcases Q_ with rfl|rfl|rfl;.exact absurd (.inl rfl) no
     .exact absurd (.inr rfl) no
     exact⟨e,.inr hk0⟩
    exact⟨e,.inl hk0⟩
   have e3:UI iy.scope y:=e3;rcases e3 with e3|e3|e3;.exact key _ e3 (.inl rfl)
   .exact key _ e3 (.inr (.inl rfl))
   exact key _ e3 (.inr (.inr rfl))
  obtain⟨m,hn,hl⟩:=I.loc;have aaH:UI X.env.scope y:=(ok.free _ (iR Nf.1) rfl).elim (λk=>.inr (.inl k)) (λk=>.inr (.inr k));obtain⟨w,r,q⟩:=hl i y av e1 e2 aaH;refine⟨w,r,.inr ⟨Nf.2,?_⟩⟩;obtain⟨c,h1,h2⟩:=look Nf.1;rcases q with⟨k,_⟩|⟨_,c',e',z⟩;.have k:X.env.scope.names.lookup y=some .local:=k;rcases ok.free _ (iR Nf.1) rfl with k'|k'<;>rw[show X.env.scope.names.lookup y=_ from k']at k<;>cases k
  rw[h2]at e';cases e';exact⟨c,h1,z.keeps kp⟩
 .have e:iy.cells.lookup y=some c:=e;rcases mem e with⟨h1,_⟩|⟨_,z⟩;.obtain⟨w,z⟩:=I.cell y c h1;exact⟨w,z.keeps kp⟩
  exact⟨_,z⟩
 .show H iy.locals=none;rw[hL];exact I.dg.fresh (bx _)
 .have e:iy.cells.lookup y=some c:=e;rcases mem e with⟨h1,_⟩|⟨h1,_⟩;.exact I.jE y c h1
  exact I.dg.fresh (yJ h1)
 exact absurd (show p∈([]:List (Addr×Obj))++[]from hp) (by simp)
def T6{E:Value->Shared->Prop}{Q:Value->Shared->Prop}(I:Inv X pins σ H s)(hD:H D=some (.lst xs))(hz:xs.length<sizeLine)(r:RelV y v)(h:∀s',Inv X pins σ (upd H D (.lst (xs++[y]))) s'->Q .none s'):wpAny (model X.prog X.w) X.A (call (.builtin "list.append") [.ref D,v]) Q E s:=by obtain⟨ZQ,b_,n,ri,e⟩:=I.dg D _ hD;have hl:=ri.length;refine append_at (hsz:=by rw[dt];omega) e λh' sb Ey=>?_;refine h {s with heap:=h'} (I.write (t':=s.toks) (by rw[hD];trivial) (.inl rfl) (λb u hb q=>(sb.2 b hb).trans q) ⟨_,Ey⟩ ⟨by rw[dC];exact hz,b_++[v],n+1,ri.append (.cons r .nil),?_⟩);rw[Ey];simp
def VH(X:Cx)(ifs:List Expr)(t:TT):Prop:=∀(pins:List (Addr×Obj))(s:Shared)(σ:St)(H:Hp)(Q:Bool->Hp->Prop),Inv X pins σ H s->t σ H Q->wpAny (model X.prog X.w) X.A (forIn ifs true λc r=>if r=true then do let ok <-isTrue c X.env (eval c X.env);pure (ForInStep.yield ok)else pure (ForInStep.yield r)) (TP X pins σ Q) X.xe s
def VQ:TT:=λ_ H Q=>Q true H
def gi:VH X [] VQ:=λ_ _ _ H _ I h=>wpAny_tests_nil ⟨H,I,h⟩
def pH(h:PT X c t):VH X [c] t:=λpins s σ H Q I hw=>wpAny_tests_one (h pins s σ H Q I hw)
end
def Gn{α:Type}{t:Sem α}{Q Q':α->Shared->Prop}{M:Model}{A:Around}{E:Value->Shared->Prop}{s:Shared}(h:wpAny M A t Q (λ_ _=>False) s)(hQ:∀a s,Q a s->Q' a s):wpAny M A t Q' E s:=iZ h hQ λ_ _ z=>False.elim z
theorem Aa{R:Result->Shared->Prop}(I:Nat->Shared->Prop)
    (turn:∀n s,I n s->wpAny (model prog w) A (pyNext it) (λr s₁=>match r with
      |none=>R (.ok .next) s₁
      |some v=>wpAny (model prog w) A (letOwnedTupleGo target it v) (λ_ s₁'=>wpAny (model prog w) A (assign target env v) (λ_ s₂=>
          wpAny (model prog w) A (forIn ifs true λc r=>if r=true then do let ok <-isTrue c env (eval c env);pure (ForInStep.yield ok)else pure (ForInStep.yield r)) (λok s₃=>
            if ok=true then wpAny (model prog w) A (eval elt env) (λx s₄=>
              wpAny (model prog w) A (call (.builtin "list.append") [acc,x]) (λ_ s₅=>∃m,m<n/\I m s₅) (notedBy (model prog w) A env λe s'=>R (.error e) s') s₄) (notedBy (model prog w) A env λe s'=>R (.error e) s') s₃
            else ∃m,m<n/\I m s₃) (notedBy (model prog w) A env λe s'=>R (.error e) s') s₂) (notedBy (model prog w) A env λe s'=>R (.error e) s') s₁') (notedBy (model prog w) A env λe s'=>R (.error e) s') s₁) (notedBy (model prog w) A env λe s'=>R (.error e) s') s)
    (n:Nat) (h:I n s) :
    codeAny (model prog w) A (.compLoop (.ListComp elt [⟨target,iter,ifs,0⟩] scope pos) 0 it acc env) R s:=by
  refine codeAny_loop rfl I (λn s hI=>?_) n h
  show wpAny _ A ((compTurn (.ListComp elt [⟨target,iter,ifs,0⟩] scope pos) 0 it acc env).onRaise (λx=>do noteFrame x env;theTreesLotGoes x)) _ _ s
  refine wpAny_noted ?_
  rw[compTurn_list]
  refine aZ (tW (aZ (iZ (turn n s hI) (λr s₁ h₁=>?_) λ_ _ h'=>h')))
  cases r with
  |none=>exact bz h₁
  |some v=>
    refine aZ (iZ h₁ (λ_ s₁' h₁'=>?_) λ_ _ h'=>h')
    refine aZ (iZ h₁' (λ_ s₂ h₂=>aZ (iZ h₂ (λok s₃ h₃=>?_) λ_ _ h'=>h')) λ_ _ h'=>h')
    cases ok with
    |false=>exact bz ⟨rfl,h₃⟩
    |true=>
      exact aZ (aZ (iZ h₃ (λx s₄ h₄=>aZ (iZ h₄ (λ_ s₅ h₅=>bz (bz ⟨rfl,h₅⟩)) λ_ _ h'=>h')) λ_ _ h'=>h'))
section
variable {X:Cx}
def UL(wi:TI)(g:TG)(tt:TT)(te:TE)(vs:List Nat):TE:=fun σ H Q=>wi σ H λJ H1=>∀D,H1 D=none->∃W:Nat->Nat->Hp->Prop,(∃m,W 0 m (upd H1 D (.lst [])))/\∀i m H,W i m H->(J.stop i H/\Q (.ref D) H)\/(J.go i H/\∃Nx:Hp->Prop,(∀H',Nx H'->∃m',m'<m/\W (i+1) m' H')/\∀x H',J.Es i H x H'->g x (wipe σ vs) H' fun σ2 H2=>wipe σ2 vs=wipe σ vs/\tt σ2 H2 λb H3=>if b=true then te σ2 H3 λy H4=>∃acc,H4 D=some (.lst acc)/\acc.length<sizeLine/\Nx (upd H4 D (.lst (acc++[y])))else Nx H3)
def Fp{pins:List (Addr×Obj)}{s:Shared}{σ:St}{H:Hp}{Q:VK}{elt tg iter:Expr}{ifs:List Expr}{scope:Scope}{own:List (Str×Nat)}{pos pos':Pos}{wi:TI}{g:TG}{tt:TT}{te:TE}{use:Option (Value->Sem Unit)}{Qf:Value->Shared->Prop}
    (hc:X.calm=true) (hN:X.N.Nodup) (I:Inv X pins σ H s) (hi:PI X tg iter wi) (ok:AZ X.N X.env.scope scope own)
    (hg:∀(s:Shared)(H:Hp)(C:Addr)(cl:List (Str×Addr))(fp:List Addr),PG (X.x_ s H scope (compEnvC scope cl C X.env) fp) tg g) (ht:∀(s:Shared)(H:Hp)(C:Addr)(cl:List (Str×Addr))(fp:List Addr),VH (X.x_ s H scope (compEnvC scope cl C X.env) fp) ifs tt)
    (he:∀(s:Shared)(H:Hp)(C:Addr)(cl:List (Str×Addr))(fp:List Addr),PE (X.x_ s H scope (compEnvC scope cl C X.env) fp) elt te) (hs:∀x,foldedSetIterable iter X.env x=pure x)
    (h:UL wi g tt te (own.map (·.2)) σ H Q)
    (hRR:∀D C s' m H',Inv X pins σ H' s'->Q (.ref D) H'->s'.heap.Ns C m->rR X pins H' C->compPost (model X.prog X.w) X.A X.xe use Qf (.ref D) C (.ok .next) s') :
    wpAny (model X.prog X.w) X.A (comprehension (.ListComp elt [⟨tg,iter,ifs,0⟩] scope pos) scope X.env pos' (newList []) false (eval iter X.env) use) Qf X.xe s:=by
  have wN:∀y∈scope.names,y.2=.free->∃c,X.env.cells.lookup y.1=some c:=λy hy e=>by
    rcases ok.free y hy e with k|k
    · exact I.ok.has _ (.inl k)
    · exact I.ok.has _ (.inr k)
  refine wpAny_comprehension_free (use:=use) rfl hs (Ep wN) ok.kind (λy hy e=>by rw[ok.uniq y hy,e])
    (dH (hi pins s σ H _ I h) λxv s1 hx=>dH hx λZN s2 h2=>?_)
  obtain⟨it,fp,tn,J,H2,e,I2,T,M5,f2,q⟩:=h2
  subst e
  refine uh (BU ?_) (by show 0<=sizeLine;decide)
  generalize hD:s2.heap.objs.size=D
  have hDn:H2 D=none:=I2.dg.fresh (yp hD)
  obtain⟨W,⟨m0,w0⟩,turn⟩:=q D hDn
  generalize hs3:({s2 with heap:=s2.heap.push {cls:=.type "list",data:=.seq ([]:List Value).toArray}}:Shared)=s3
  have I3:Inv X pins σ (upd H2 D (.lst [])) s3:=by
    rw[<-hs3]
    refine I2.laid (t':=s2.toks) (λb o e=>ed _ e) (yp hD) ⟨dW _,[],0,.nil,?_⟩
    rw[<-hD]
    exact gu _ rfl
  have h3:s3.heap=s2.heap.push {cls:=.type "list",data:=.seq ([]:List Value).toArray}:=by rw[<-hs3]
  have sz:∀b∈fp,b<s2.heap.objs.size:=λb hb=>by
    obtain⟨o,e,_⟩:=T.obj _ _ M5 b hb
    exact cY e
  have f3:∀b∈fp,rR X pins (upd H2 D (.lst [])) b/\b<s3.heap.objs.size:=λb hb=>by
    have ij:=sz b hb
    refine⟨⟨?_,(f2 b hb).2⟩,by rw[h3,lg];exact qr ij⟩
    rw[ah (by rw[<-hD];exact fw ij)]
    exact(f2 b hb).1
  have QU:tn 0 s3.heap:=T.keep _ _ _ M5 λb _ o e=>by rw[h3];exact ed _ e
  have I4:=B5 I3 ok hN f3
  have pg:=hg s3 (upd H2 D (.lst [])) s3.heap.objs.size (cellsFrom (s3.heap.objs.size+1) scope.names (dE X.env.cells scope.names [])) fp
  have pt:=ht s3 (upd H2 D (.lst [])) s3.heap.objs.size (cellsFrom (s3.heap.objs.size+1) scope.names (dE X.env.cells scope.names [])) fp
  have pe:=he s3 (upd H2 D (.lst [])) s3.heap.objs.size (cellsFrom (s3.heap.objs.size+1) scope.names (dE X.env.cells scope.names [])) fp
  show codeAny _ _ (.compStart (.ListComp elt [⟨tg,iter,ifs,0⟩] scope pos) 0 (.ref it) (.ref D) (compEnvC scope (cellsFrom (s3.heap.objs.size+1) scope.names (dE X.env.cells scope.names [])) s3.heap.objs.size X.env)) (compPost (model X.prog X.w) X.A X.xe use Qf (.ref D) s3.heap.objs.size) {s3 with heap:=pushCells (s3.heap.push {cls:=.type "dict",data:=.dict #[]}) scope.names}
  have nfp:∀b∈fp,(upd H2 D (.lst [])) b=none:=λb hb=>(f3 b hb).1.1
  generalize hce:compEnvC scope (cellsFrom (s3.heap.objs.size+1) scope.names (dE X.env.cells scope.names [])) s3.heap.objs.size X.env=ce at I4 pg pt pe⊢
  have cL:ce.locals=s3.heap.objs.size:=by subst hce;rfl
  generalize hH3:upd H2 D (.lst [])=H3 at I3 I4 pg pt pe w0 nfp f3
  generalize hs4:({s3 with heap:=pushCells (s3.heap.push {cls:=.type "dict",data:=.dict #[]}) scope.names}:Shared)=s4 at I4⊢
  have st4:tn 0 s4.heap:=T.keep _ _ _ QU λb _ o e=>by rw[<-hs4];exact yw _ _ _ _ (ed _ e)
  have Ce:∀{σ':St}{H':Hp}{s':Shared},Inv (X.x_ s3 H3 scope ce fp) [] σ' H' s'->(∀b∈fp,H' b=none)->∀b∈fp,rR (X.x_ s3 H3 scope ce fp) [] H' b:=fun {σ' H' s'} I' hn b hb=>
    ⟨hn b hb,(I'.ok.YG b hb).1,I'.ok.I_ b hb,.inl hb,λx c e=>(I'.ok.YG b hb).2 x c e,λp hp=>absurd (show p∈([]:List (Addr×Obj))++[]from hp) (by simp)⟩
  have loop:codeAny (model X.prog X.w) X.A (.compLoop (.ListComp elt [⟨tg,iter,ifs,0⟩] scope pos) 0 (.ref it) (.ref D) ce) (compPost (model X.prog X.w) X.A X.xe use Qf (.ref D) s3.heap.objs.size) s4:=by
    refine Aa (λn s'=>∃i H',Inv (X.x_ s3 H3 scope ce fp) [] (wipe σ (own.map (·.2))) H' s'/\tn i s'.heap/\(∀b∈fp,H' b=none)/\W i n H') ?_ m0 ⟨0,H3,I4,st4,nfp,w0⟩
    rintro n s5 ⟨i,H5,I5,Ub,n5,w5⟩
    rcases turn i n H5 w5 with⟨stop,qq⟩|⟨go,Nx,hNx,step⟩
    · have td:=T.done (X.x_ s3 H3 scope ce fp) rfl rfl rfl hc i [] s5 _ H5 (λ_ _=>False) I5 (Ce I5 n5) Ub stop
      refine Gn td λr s6⟨hr,I6⟩=>?_
      subst hr
      have I7:Inv X pins σ H5 s6:=I3.XA (ch:=fp) I6.os I6.base I6.dg I6.bare λb hb=>⟨(f3 b hb).1.2.2.2.1,(f3 b hb).1.2.1,(f3 b hb).1.2.2.2.2.1,(f3 b hb).1.2.2.2.2.2⟩
      have nC:H5 s3.heap.objs.size=none:=by
        have z:H5 ce.locals=none:=I6.free
        rw[cL]at z
        exact z
      obtain⟨m,hn,_⟩:=I6.loc
      have hn:s6.heap.Ns ce.locals m:=hn
      rw[cL]at hn
      exact hRR D s3.heap.objs.size s6 m H5 I7 qq hn (I3.I0 (bx _) nC)
    · have ti:=T.item (X.x_ s3 H3 scope ce fp) rfl rfl rfl hc i [] s5 _ H5 (λ_ _=>False) I5 (Ce I5 n5) Ub go
      refine Gn ti λr s6⟨u,hr,h6⟩=>?_
      subst hr
      refine Gn h6 λ_ s7⟨x,H7,I7,r7,y7,Zn,n7⟩=>?_
      have I7':=I7.pinned (Ce I7 n7) (T.obj _ _ Zn)
      refine Gn (pg _ s7 _ H7 x u _ I7' r7 (step x H7 y7)) λ_ s8⟨σ8,H8,I8,hw8,q8⟩=>?_
      refine Gn (pt _ s8 σ8 H8 _ I8 q8) λb s9⟨H9,I9,q9⟩=>?_
      have fin:∀{s':Shared}{H':Hp},Inv (X.x_ s3 H3 scope ce fp) ([]++uA fp s7.heap) σ8 H' s'->Nx H'->∃m,m<n/\∃i H',Inv (X.x_ s3 H3 scope ce fp) [] (wipe σ (own.map (·.2))) H' s'/\tn i s'.heap/\(∀b∈fp,H' b=none)/\W i m H':=fun {s' H'} I' nx=>by
        obtain⟨m',hm,w'⟩:=hNx H' nx
        have V2:∀b∈fp,∀o,s7.heap.get? b=some o->s'.heap.get? b=some o/\H' b=none:=λb hb o e=>
          let z:=I'.pin (b,o) (fi _ (fi _ (o9 hb e)))
          ⟨z.1,z.2.1⟩
        have hl:(wipe σ (own.map (·.2))).length=σ8.length:=by rw[<-hw8,my]
        refine⟨m',hm,i+1,H',(I'.jX (pins:=[])).weak hl (λj v e=>?_),T.keep _ _ _ Zn λb hb o e=>(V2 b hb o e).1,λb hb=>?_,w'⟩
        · rw[<-hw8]at e
          exact(qF e).1
        · obtain⟨o,e,_⟩:=T.obj _ _ Zn b hb
          exact(V2 b hb o e).2
      cases b with
      |false=>
        simp only[ur,jN]at q9⊢
        exact fin I9 q9
      |true=>
        simp only[lR]at q9⊢
        refine Gn (pe _ s9 σ8 H9 _ I9 q9) λz UM⟨yv,H10,I10,r10,acc,abd,aaG,nx⟩=>?_
        exact T6 (X:=X.x_ s3 H3 scope ce fp) I10 abd aaG r10 λs11 I11=>fin I11 nx
  exact codeAny_compStart_list loop (T.self X.A 0 _ _ _ st4 loop)
def jU(hc:X.calm=true)(hN:X.N.Nodup)(hi:PI X tg iter wi)(ok:AZ X.N X.env.scope scope own)(hg:∀(s:Shared)(H:Hp)(C:Addr)(cl:List (Str×Addr))(fp:List Addr),PG (X.x_ s H scope (compEnvC scope cl C X.env) fp) tg g)(ht:∀(s:Shared)(H:Hp)(C:Addr)(cl:List (Str×Addr))(fp:List Addr),VH (X.x_ s H scope (compEnvC scope cl C X.env) fp) ifs tt)(he:∀(s:Shared)(H:Hp)(C:Addr)(cl:List (Str×Addr))(fp:List Addr),PE (X.x_ s H scope (compEnvC scope cl C X.env) fp) elt te)(hs:∀x,foldedSetIterable iter X.env x=pure x:=by intro _;rfl):PE X (.ListComp elt [⟨tg,iter,ifs,0⟩] scope pos) (UL wi g tt te (own.map (·.2))):=by intro pins s σ H Q I h;rw[eval_ListComp];refine Fp hc hN I hi ok hg ht he hs h λD C s' m H' I' q hn f=>⟨m,hn,λNH sb=>?_⟩;obtain⟨f0,f1,f2,f3,f4,f5⟩:=f;exact⟨.ref D,H',I'.turned (t':=s'.toks) (λb o hb e=>(sb.2 b hb).trans e) f0 f1 f3 f4 f5,rfl,q⟩
def jZ(hc:X.calm=true)(hN:X.N.Nodup)(hy:X.N[i]?=some y)(U6:X.env.scope.names.lookup y=some .local)(hsw:swapsWith (.ListComp elt [⟨tg,iter,ifs,0⟩] scope pos) (some (.Name y py)) aak.line X.env=pure true)(hi:PI X tg iter wi)(ok:AZ X.N X.env.scope scope own)(hg:∀(s:Shared)(H:Hp)(C:Addr)(cl:List (Str×Addr))(fp:List Addr),PG (X.x_ s H scope (compEnvC scope cl C X.env) fp) tg g)(ht:∀(s:Shared)(H:Hp)(C:Addr)(cl:List (Str×Addr))(fp:List Addr),VH (X.x_ s H scope (compEnvC scope cl C X.env) fp) ifs tt)(he:∀(s:Shared)(H:Hp)(C:Addr)(cl:List (Str×Addr))(fp:List Addr),PE (X.x_ s H scope (compEnvC scope cl C X.env) fp) elt te)(hs:∀x,foldedSetIterable iter X.env x=pure x:=by intro _;rfl):PS X (.Assign [.Name y py] (.ListComp elt [⟨tg,iter,ifs,0⟩] scope pos) aak) (IM (UL wi g tt te (own.map (·.2))) (gg i)):=by
 intro pins s σ H D I h;rw[exec_Assign_Name_used _ _ _ _ hsw];refine aZ (tW (aZ ?_));show wpAny _ X.A (do let _ <-comprehension (.ListComp elt [⟨tg,iter,ifs,0⟩] scope pos) scope X.env (firstIterPos [⟨tg,iter,ifs,0⟩] pos) (newList []) false (eval iter X.env) (some (assign (.Name y py) X.env))) _ _ s;have h:UL wi g tt te (own.map (·.2)) σ H (λx H1=>gg i x σ H1 D.nx):=h;refine aZ (dH (Fp (Qf:=λ_ s'=>SP X pins D .next s') hc hN I hi ok hg ht he hs h λL C s' m H' I' q hn f=>?_) λ_ s' hq=>bz (bz hq));show wpAny _ _ (assign (.Name y py) X.env (.ref L)) _ _ _;refine wpAny_assign_Name (wY (v:=V.ref L) I' hN hy (.inl U6) rfl (λs2 I2⟨a,sb,ha⟩=>?_) (.inr U6));obtain⟨f0,f1,f2,f3,f4,f5⟩:=f;have haC:C≠a:=by
  rcases ha with z|z;.rw[z];exact f1
  exact λe=>f4 y a z e.symm
 refine⟨m,hn.sameBut sb haC,λh3 sb3=>?_⟩;exact⟨_,H',I2.turned (t':=s2.toks) (λb o hb e=>(sb3.2 b hb).trans e) f0 f1 f3 f4 f5,q⟩
def m6(hk:env.scope.kind=.function)(hy:env.scope.names.lookup y=some .local)(hl:(py.line==pos.line)=true)(ha:(scope.names.any λ(n,k)=>n==y&&(k==.local || k==.cell))=false):swapsWith (.ListComp elt gs scope pos) (some (.Name y py)) l env=pure true:=by
 have ky:env.kindOf y=some .local:=hy;have hb:env.blockKind=.function:=by unfold Env.blockKind;rw[hk];rfl
 unfold swapsWith;simp only[hb,ky,ha,Expr.pos,hl];rfl
end
def mq{lo:Int}{n:Nat}{g:TG}{tt:TT}{te:TE}{vs:List Nat}{σ:St}{H1:Hp}{D:Addr}{Qd:Hp->Prop}(Pv:Nat->Hp->Prop)(h0:Pv 0 (upd H1 D (.lst [])))(hs:∀i H,i<n->Pv i H->g (.int (lo+i)) (wipe σ vs) H fun σ2 H2=>wipe σ2 vs=wipe σ vs/\tt σ2 H2 λb H3=>if b=true then te σ2 H3 λy H4=>∃acc,H4 D=some (.lst acc)/\acc.length<sizeLine/\Pv (i+1) (upd H4 D (.lst (acc++[y])))else Pv (i+1) H3)(hd:∀H,Pv n H->Qd H):∃W:Nat->Nat->Hp->Prop,(∃m,W 0 m (upd H1 D (.lst [])))/\∀i m H,W i m H->((NL lo n).stop i H/\Qd H)\/((NL lo n).go i H/\∃Nx:Hp->Prop,(∀H',Nx H'->∃m',m'<m/\W (i+1) m' H')/\∀x H',(NL lo n).Es i H x H'->g x (wipe σ vs) H' fun σ2 H2=>wipe σ2 vs=wipe σ vs/\tt σ2 H2 λb H3=>if b=true then te σ2 H3 λy H4=>∃acc,H4 D=some (.lst acc)/\acc.length<sizeLine/\Nx (upd H4 D (.lst (acc++[y])))else Nx H3):=by
 refine⟨λi m H=>m=n-i/\i<=n/\Pv i H,⟨n,by simp,dW _,h0⟩,?_⟩;rintro i m H ⟨rfl,hi,p⟩;by_cases ij:i<n;.refine .inr ⟨ij,Pv (i+1),λH' p'=>⟨n-(i+1),by omega,rfl,ij,p'⟩,λx H' y=>?_⟩;obtain⟨e,y⟩:=y;subst e y;exact hs i _ ij p
 have e:i=n:=by omega
 subst e;exact .inl ⟨bx _,hd H p⟩
def kE{K:PySem.W.Frag}{a:Addr}{xs:List V}{g:TG}{tt:TT}{te:TE}{vs:List Nat}{σ:St}{H1:Hp}{D:Addr}{Qd:Hp->Prop}(Pv:Nat->Hp->Prop)(h0:Pv 0 (upd H1 D (.lst [])))(hl:∀i H,i<=xs.length->Pv i H->bp K H a xs)(hs:∀i x H,xs[i]?=some x->Pv i H->g x (wipe σ vs) H fun σ2 H2=>wipe σ2 vs=wipe σ vs/\tt σ2 H2 λb H3=>if b=true then te σ2 H3 λy H4=>∃acc,H4 D=some (.lst acc)/\acc.length<sizeLine/\Pv (i+1) (upd H4 D (.lst (acc++[y])))else Pv (i+1) H3)(hd:∀H,Pv xs.length H->Qd H):∃W:Nat->Nat->Hp->Prop,(∃m,W 0 m (upd H1 D (.lst [])))/\∀i m H,W i m H->((EA K a).stop i H/\Qd H)\/((EA K a).go i H/\∃Nx:Hp->Prop,(∀H',Nx H'->∃m',m'<m/\W (i+1) m' H')/\∀x H',(EA K a).Es i H x H'->g x (wipe σ vs) H' fun σ2 H2=>wipe σ2 vs=wipe σ vs/\tt σ2 H2 λb H3=>if b=true then te σ2 H3 λy H4=>∃acc,H4 D=some (.lst acc)/\acc.length<sizeLine/\Nx (upd H4 D (.lst (acc++[y])))else Nx H3):=by
 refine⟨λi m H=>m=xs.length-i/\i<=xs.length/\Pv i H,⟨xs.length,by simp,dW _,h0⟩,?_⟩;rintro i m H ⟨rfl,hi,p⟩;have q:=hl i H hi p;by_cases ij:i<xs.length;.refine .inr ⟨⟨xs,xs[i],q,by simp[ij]⟩,Pv (i+1),λH' p'=>⟨xs.length-(i+1),by omega,rfl,ij,p'⟩,λx H' y=>?_⟩;obtain⟨e,y⟩:=y;subst e;exact hs i x _ (y xs q) p
 have e:i=xs.length:=by omega
 subst e;exact .inl ⟨⟨xs,q,bx _⟩,hd H p⟩
def WC(N:List Str)(sc scope:Scope)(own:List (Str×Nat)):Bool:=(match scope.kind with | .function=>true | _=>false)&&(scope.names.all λy=>decide (scope.names.lookup y.1=some y.2))&&(own.all λp=>decide (N[p.2]?=some p.1))&&(scope.names.all λy=>match y.2 with | .free=>(match sc.names.lookup y.1 with | some .cell=>true | some .free=>true | _=>false) | .local=>decide (y.1∈own.map (·.1)) || decide (y.1∉N) | .cell=>decide (y.1∈own.map (·.1)) || decide (y.1∉N) | _=>true)
def dq(h:WC N sc scope own=true):AZ N sc scope own:=by
 unfold WC at h;simp only[dA,jR,gW]at h;obtain⟨⟨⟨h1,h2⟩,h3⟩,h4⟩:=h;refine⟨?_,h2,h3,λy hy e=>?_,λy hy e=>?_⟩
 .split at h1;.assumption
  cases h1
 .have q:=h4 y hy;simp only[e]at q;split at q<;>first|exact .inl (by assumption)|exact .inr (by assumption)|cases q
 have q:=h4 y hy;rcases e with e|e<;>(simp only[e,JP,gW]at q;exact q)
end L2
namespace L2
open PySem PySem.Spec PyProof.Rows
section
variable {prog:Program} {w:World} {A:Around} {R:Result->Shared->Prop} {s:Shared} {elt t0 i0 t1 i1:Expr} {abF abE:List Expr} {scope:Scope} {pos:Pos} {it acc:Value} {env:Env}
end
section
variable {X:Cx}
end
end L2
namespace L2
open PySem PySem.Spec PyProof.Rows
section
variable {κ:Type} [DecidableEq κ]
def jh(bc:List (κ×V))(k:κ):Option V:=(bc.find? λkv=>decide (kv.1=k)).map (·.2)
def putK(bc:List (κ×V))(k:κ)(v:V):List (κ×V):=if (bc.any λkv=>decide (kv.1=k))=true then bc.map (λkv=>if kv.1=k then(kv.1,v)else kv)else bc++[(k,v)]
def uK{p:κ×V}{r:List (κ×V)}{k:κ}(e:p.1=k):jh (p::r) k=some p.2:=by simp[jh,oj,e]
def uL{p:κ×V}{r:List (κ×V)}{k:κ}(e:¬p.1=k):jh (p::r) k=jh r k:=by simp[jh,oj,e]
theorem pN(k:κ):∀bc:List (κ×V),(bc.any λkv=>decide (kv.1=k))=(jh bc k).isSome
 |[]=>rfl
 |p::r=>by
  rw[t_];by_cases e:p.1=k;.simp only[uK e,bq e,Bool.true_or,Kk]
  rw[uL e,cM e,Bool.false_or];exact pN k r
def mO(bc:List (κ×V))(k:κ)(v:V):(putK bc k v).length<=bc.length+1:=by
 unfold putK;split;.rw[aE];omega
 rw[dC,dr,CK];omega
def Bk{bc:List (κ×V)}{k:κ}(v:V)(h:jh bc k=none):putK bc k v=bc++[(k,v)]:=by unfold putK;rw[pN,h];exact au (by decide)
def og.qT(r:og o u):o.isSome=u.isSome:=by
 cases o with
 |none=>cases u with|none=>rfl|some _=>exact(show False from r).elim
 |some _=>cases u with|none=>exact(show False from r).elim|some _=>rfl
def KV.val{bc:List (κ×V)}{vs:List (κ×Value)}(r:KV bc vs)(k:κ):og (jh bc k) (valueAt vs k):=by
 unfold KV at r;induction r with
 |nil=>exact True.intro
 |@cons p q ps qs h t ih=>
  obtain⟨h1,h2⟩:=h;by_cases e:p.1=k
  .have e':q.1=k:=h1.symm.trans e;have b:valueAt (q::qs) k=some q.2:=by simp[valueAt,oj,e']
   rw[uK e,b];exact h2
  have e':¬q.1=k:=λz=>e (h1.trans z);have b:valueAt (q::qs) k=valueAt qs k:=by simp[valueAt,oj,e']
  rw[uL e,b];exact ih
theorem KV.any(r:KV bc vs)(k:κ):(bc.any λkv=>decide (kv.1=k))=vs.any λkv=>decide (kv.1=k):=by unfold KV at r;induction r with|nil=>rfl|cons h t ih=>rw[t_,t_,ih,h.1]
def KV.RB(r:KV bc vs)(k:κ)(ry:RelV y u):KV (bc.map λkv=>if kv.1=k then(kv.1,y)else kv) (vs.map λkv=>if kv.1=k then(kv.1,u)else kv):=by
 unfold KV at r⊢;induction r with
 |nil=>exact .nil
 |@cons p q ps qs h t ih=>
  rw[cV,cV];refine .cons ?_ ih;obtain⟨h1,h2⟩:=h;by_cases e:p.1=k;.rw[aw e,aw (h1.symm.trans e)];exact⟨h1,ry⟩
  rw[au e,au (λz=>e (h1.trans z))];exact⟨h1,h2⟩
def KV.put(r:KV bc vs)(k:κ)(ry:RelV y u):KV (putK bc k y) (stored vs k u):=by
 unfold putK stored;rw[r.any k];by_cases e:(vs.any λkv=>decide (kv.1=k))=true;.rw[aw e,aw e];exact r.RB k ry
 rw[au e,au e];exact Paired.snoc r ⟨rfl,ry⟩
theorem KV.length(r:KV bc vs):bc.length=vs.length:=Paired.length r
end
def wL(r:RelV (kV k) u):(eh P w).is k u=true:=by cases k with|inl i=>obtain⟨t,e⟩:=(show ∃t,u=Value.int i t from r);subst e;exact BW P w i t|inr x=>obtain⟨t,e⟩:=(show ∃t,u=Value.str x t from r);subst e;exact BV P w x t
theorem xA:∀{ks:List Key}{us:List Value},ck (ks.map kV) us->ItemsAre (eh P w) ks us|[],_,r=>by rw[lI]at r;cases r;exact .nil|k::ks,_,r=>by rw[cV]at r;cases r with|cons h t=>exact .cons (wL h) (xA t)
abbrev KT(H:Hp):List (List Key×V)->List (List Key×Addr×Value)->Prop:=Paired λp q=>p.1=q.1/\H q.2.1=some (.tup (p.1.map kV))/\RelV p.2 q.2.2
def KT.val{H:Hp}{bc:List (List Key×V)}{xs:List (List Key×Addr×Value)}(r:KT H bc xs)(k:List Key):og (jh bc k) ((atKey xs k).map (·.2)):=by
 induction r with
 |nil=>exact True.intro
 |@cons p q ps qs h t ih=>
  obtain⟨h1,_,h2⟩:=h;by_cases e:p.1=k
  .have e':q.1=k:=h1.symm.trans e;have b:atKey (q::qs) k=some q.2:=by simp[atKey,oj,e']
   rw[uK e,b];exact h2
  have e':¬q.1=k:=λz=>e (h1.trans z);have b:atKey (q::qs) k=atKey qs k:=by simp[atKey,oj,e']
  rw[uL e,b];exact ih
def KT.RB(r:KT H bc xs)(k:List Key)(ry:RelV y u):KT H (bc.map λkv=>if kv.1=k then(kv.1,y)else kv) (xs.map (putAt k u)):=by
 induction r with
 |nil=>exact .nil
 |@cons p q ps qs h t ih=>
  rw[cV,cV];refine .cons ?_ ih;obtain⟨h1,h2,h3⟩:=h;unfold putAt;by_cases e:p.1=k;.rw[aw e,aw (h1.symm.trans e)];exact⟨h1,h2,ry⟩
  rw[au e,au (λz=>e (h1.trans z))];exact⟨h1,h2,h3⟩
def KT.put(r:KT H bc xs)(k:List Key)(hb:H b=some (.tup (k.map kV)))(ry:RelV y u):KT H (putK bc k y) (storedH xs k b u):=by
 have e:(bc.any λkv=>decide (kv.1=k))=(atKey xs k).isSome:=by rw[pN,(r.val k).qT,Kf]
 unfold putK storedH;rw[e];by_cases q:(atKey xs k).isSome=true;.rw[aw q,aw q];exact r.RB k ry
 rw[au q,au q];exact Paired.snoc r ⟨rfl,hb,ry⟩
def KT.keeps(r:KT H bc xs)(ht:∀b ys,H b=some (.tup ys)->H' b=some (.tup ys)):KT H' bc xs:=Paired.Gs r λ_ _ z=>⟨z.1,ht _ _ z.2.1,z.2.2⟩
section
variable {P:Program} {w:World} {H:Hp} {h:Heap} {a:Addr}
def Qy(ok:lE P w H h)(e:Rd H a u):eK P w H h a u:=e.ok ok
def EX(ok:lE P w H h)(e:Rd H a (.dK bc)):bc.length<=sizeLine/\(a==sysModules)=false/\∃vs,KV bc vs/\h.DictOf (eh P w) a vs:=show eK P w H h a (.dK bc)from Qy ok e
def QI(ok:lE P w H h)(e:H a=some (.dK bc)):bc.length<=sizeLine/\(a==sysModules)=false/\∃vs,KV bc vs/\h.DictOf (eh P w) a vs:=EX ok (.inl e)
def zh(ok:lE P w H h)(e:H a=some (.tup (ks.map kV))):(tupleKind (eh P w)).is h ks a:=by obtain⟨_,b_,r,o,h1,h2,n,h3⟩:=(show eK P w H h a (.tup (ks.map kV))from ok a _ e);exact⟨o,b_.toArray,n,h1,h2,h3,by simpa using xA r⟩
def EW(ok:lE P w H h)(e:Rd H a (.dT bc)):bc.length<=sizeLine/\(a==sysModules)=false/\∃xs,KT H bc xs/\h.DictOfH (tupleKind (eh P w)) a xs:=by
 obtain⟨z,y,xs,r,o,es,ep,h1,h2,h3,h4,h5⟩:=(show eK P w H h a (.dT bc)from Qy ok e);refine⟨z,y,xs,r,o,es,ep,h1,h2,h3,h4,λx hx=>?_,h5⟩;have all:∀{l:List (List Key×V)}{m:List (List Key×Addr×Value)},KT H l m->∀x∈m,(tupleKind (eh P w)).is h x.1 x.2.1:=by
  intro l m q;induction q with
  |nil=>intro x hx;exact nomatch hx
  |@cons p q ps qs hq t ih=>
   intro x hx;rcases bE.mp hx with e|hx;.subst e;exact zh ok (by rw[<-hq.1];exact hq.2.1)
   exact ih x hx
 exact all r x hx
def Xx(ok:lE P w H h)(e:H a=some (.dT bc)):bc.length<=sizeLine/\(a==sysModules)=false/\∃xs,KT H bc xs/\h.DictOfH (tupleKind (eh P w)) a xs:=EW ok (.inl e)
end
def sZ(H:Hp)(a:Addr)(y:V)(r:Option V):Prop:=(∃bc k,Rd H a (.dK bc)/\y=kV k/\r=jh bc k)\/∃bc k b,Rd H a (.dT bc)/\y=.ref b/\H b=some (.tup (k.map kV))/\r=jh bc k
def Gy(H:Hp)(a:Addr)(y v:V)(H':Hp):Prop:=(∃bc k,H a=some (.dK bc)/\y=kV k/\bc.length<sizeLine/\H'=upd H a (.dK (putK bc k v)))\/∃bc k b,H a=some (.dT bc)/\y=.ref b/\H b=some (.tup (k.map kV))/\bc.length<sizeLine/\H'=upd H a (.dT (putK bc k v))
theorem sZ.k{H:Hp}{a:Addr}{bc:List (Key×V)}{k:Key}(e:H a=some (.dK bc)):sZ H a (kV k) (jh bc k):=.inl ⟨bc,k,.inl e,rfl,rfl⟩
theorem Gy.k{H:Hp}{a:Addr}{bc:List (Key×V)}{k:Key}{v:V}(e:H a=some (.dK bc))(hl:bc.length<sizeLine):Gy H a (kV k) v (upd H a (.dK (putK bc k v))):=.inl ⟨bc,k,e,rfl,hl,rfl⟩
section
variable {X:Cx} {pins:List (Addr×Obj)} {σ:St} {H:Hp} {s:Shared} {a:Addr} {y v:V} {u r:Value} {o:Option V} {A:Around} {E:Value->Shared->Prop}
def Inv.VA(I:Inv X pins σ H s):sysModules<s.heap.objs.size:=by have h:mainGlobals<s.heap.objs.size:=(I.mod.glob.keeps I.bk).lt;exact Cq (by decide) h
def HP{Q:Value->Shared->Prop}(hu:A.units+1<cLine)(I:Inv X pins σ H s)(g:sZ H a y (some v))(ry:RelV y u)(h:∀w' s',Inv X pins σ H s'->RelV v w'->Q w' s'):wpAny (model X.prog X.w) A (getItem (.ref a) u) Q E s:=by
 rcases g with⟨bc,k,e,ey,l⟩|⟨bc,k,b,e,ey,eb,l⟩;.subst ey;obtain⟨z,hd,vs,rel,dd⟩:=EX I.dg e;obtain⟨w',hw,Nr⟩:=og.some_of (v:=v) (o:=valueAt vs k) (by rw[l];exact rel.val k);exact wpAny_getItem_of (wL ry) dd.mapOf hw (h w' _ (I.tok _) Nr)
 subst ey;cases (show u=Value.ref b from ry);obtain⟨z,hd,xs,rel,dd⟩:=EW I.dg e;obtain⟨w',hw,Nr⟩:=og.some_of (v:=v) (o:=(atKey xs k).map (·.2)) (by rw[l];exact rel.val k);obtain⟨p,hp,hp2⟩:=Option.map_eq_some_iff.mp hw;refine wpAny_getItem_heap (CO hu) (zh I.dg eb) dd hp ?_;rw[hp2];exact h w' _ (I.tok _) Nr
def Pz{Q:Value->Shared->Prop}(hu:A.units+1<cLine)(I:Inv X pins σ H s)(g:sZ H a y o)(ry:RelV y u)(h:∀s',Inv X pins σ H s'->Q (.bool (!o.isSome)) s'):wpAny (model X.prog X.w) A (compareOp .NotIn u (.ref a)) Q E s:=by
 rcases g with⟨bc,k,e,ey,l⟩|⟨bc,k,b,e,ey,eb,l⟩;.subst ey;obtain⟨z,hd,vs,rel,dd⟩:=EX I.dg e;refine wpAny_notIn_of (wL ry) hd dd.mapOf ?_;rw[<-(rel.val k).qT,<-l];exact h _ (I.tok _)
 subst ey;cases (show u=Value.ref b from ry);obtain⟨z,hd,xs,rel,dd⟩:=EW I.dg e;refine wpAny_notIn_heap (CO hu) (zh I.dg eb) hd dd ?_;have q:=(rel.val k).qT;rw[Kf]at q;rw[<-q,<-l];exact h _ (I.tok _)
def zT(I:Inv X pins σ H s)(mu:Qr (H a))(hs:Heap.SameBut a s.heap h')(he:∃q,h'.get? a=some q)(new:eK X.prog X.w (upd H a ob) h' a ob):Inv X pins σ (upd H a ob) {s with heap:=h',toks:=t'}:=I.write (x:=a) (e:=a) mu (.inl rfl) (λb q hb z=>(hs.2 b hb).trans z) he new
def Lw(z:bc.length<=sizeLine)(hd:(a==sysModules)=false)(rel:KV bc vs)(dd:h'.DictOf (eh P w) a vs):eK P w H' h' a (.dK bc):=⟨z,hd,vs,rel,dd⟩
def HN{Q:Unit->Shared->Prop}(hu:A.units+1<cLine)(I:Inv X pins σ H s)(g:Gy H a y v H')(ry:RelV y u)(rv:RelV v r)(h:∀s',Inv X pins σ H' s'->Q () s'):wpAny (model X.prog X.w) A (setItem (.ref a) u r) Q E s:=by
 rcases g with⟨bc,k,e,ey,l,eH⟩|⟨bc,k,b,e,ey,eb,l,eH⟩
 .subst ey eH;obtain⟨z,hd,vs,rel,dd⟩:=QI I.dg e;have hz:vs.length<=sizeLine:=by rw[<-rel.length];exact z
  have hl:(putK bc k v).length<=sizeLine:=by have:=mO bc k v;omega
  refine wpAny_setItem_pairs (hsz:=hz) (wL ry) dd λh' Ri hs=>h _ ?_;have he:∃q,h'.get? a=some q:=let⟨q,_,_,hq,_⟩:=Ri;⟨q,hq⟩;exact zT I (by rw[e];exact True.intro) hs he (Lw hl hd (rel.put k rv) Ri)
 subst ey eH;cases (show u=Value.ref b from ry);obtain⟨z,hd,xs,rel,dd⟩:=Xx I.dg e;have hz:xs.length<=sizeLine:=by rw[<-Paired.length rel];exact z
 have hl:(putK bc k v).length<=sizeLine:=by have:=mO bc k v;omega
 refine wpAny_setItem_heap (hsz:=hz) (CO hu) (zh I.dg eb) dd λh' Ri hs=>h _ ?_;obtain⟨q,es,ep,hq,h2,h3,h4,_,h5⟩:=Ri;refine zT I (by rw[e];exact True.intro) hs ⟨q,hq⟩ ⟨hl,hd,_,(rel.put k eb rv).keeps λc ys ec=>?_,q,es,ep,hq,h2,h3,h4,h5⟩;rw[ah (aI ec e (λz=>nomatch z))];exact ec
end
section
variable {X:Cx} {pins:List (Addr×Obj)} {σ:St} {H:Hp} {s:Shared} {a:Addr} {bc:List (Key×V)} {k:Key} {u:Value} {A:Around} {E:Value->Shared->Prop}
end
def Sq(i:Expr):Prop:=∀ov iv,subscripted i false ov iv=operate [ov,iv] (getItem ov iv)
def E7{prog:Program}{w:World}{A:Around}{E:Value->Shared->Prop}{s:Shared}{env:Env}{value slice:Expr}{pos:Pos}{T id:String}{Q:Value->Shared->Prop}(hl:typeLookup (.type T) "__getitem__"=pure (some (.builtin id)))(hs:Sq slice)(h:wpAny (model prog w) A (eval value env) (λo s₁=>wpAny (model prog w) A (eval slice env) (λi s₂=>s₂.TypeIs o T/\wpAny (model prog w) A (getItem o i) Q E s₂) E s₁) E s):wpAny (model prog w) A (eval (.Subscript value slice pos) env) Q E s:=by
 refine Subscript_ (iZ h (λo s₁ h₁=>iZ h₁ (λi s₂ h₂=>?_) λ_ _ x=>x) λ_ _ x=>x);obtain⟨hT,h₂⟩:=h₂;unfold subscriptTail;refine aZ ?_;rw[getitemInPython_of_ne hT.not_modules];refine aZ (wpAny_specialOf hT hl ?_);have fin:wpAny (model prog w) A (subscripted slice false o i) (λr s₃=>wpAny (model prog w) A (letTemporaryGo value o r >>= λ_=>pure r) Q E s₃) E s₂:=by rw[hs o i];exact wpAny_operating (iZ h₂ (λr s₃ h₃=>aZ (wpAny_letTemporaryGo (bz h₃))) λ_ _ x=>x)
 first|exact bz (aZ fin)|exact aZ (bz (aZ fin))|exact aZ fin
def BY(I:Inv X pins σ H s)(g:sZ H a y o):s.TypeIs (.ref a) "dict":=by
 rcases g with⟨bc,k,e,_,_⟩|⟨bc,k,b,e,_,_,_⟩;.obtain⟨_,_,vs,_,dd⟩:=EX I.dg e;exact dd.typeIs
 obtain⟨_,_,xs,_,dd⟩:=EW I.dg e;exact dd.typeIs
def WT(td ty:TE):TE:=fun σ H Q=>td σ H λx H1=>ty σ H1 λy H2=>∃a v,x=.ref a/\sZ H2 a y (some v)/\Q v H2
def E6(ty td:TE):TE:=fun σ H Q=>ty σ H λy H1=>td σ H1 λx H2=>∃a o,x=.ref a/\sZ H2 a y o/\Q (.bl (!o.isSome)) H2
def W7(td ty tv:TE):TS:=λD σ H=>tv σ H λv H1=>td σ H1 λx H2=>ty σ H2 λy H3=>∃a H4,x=.ref a/\Gy H3 a y v H4/\D.nx σ H4
section
variable {X:Cx} {o i e value:Expr} {pos pos' IL:Pos} {td ty tv:TE}
def OZ(hu:X.A.units+1<cLine)(ho:PE X o td)(hi:PE X i ty)(hs:Sq i):PE X (.Subscript o i pos) (WT td ty):=by intro pins s σ H Q I h;refine E7 K2.lookup hs (dH (ho pins s σ H _ I h) λu s1⟨x,H1,I1,rx,q1⟩=>dH (hi pins s1 σ H1 _ I1 q1) λiv s2⟨y,H2,I2,ry,a,v,ex,g,q2⟩=>?_);subst ex;obtain rfl:u=Value.ref a:=rx;exact⟨BY I2 g,HP hu I2 g ry λw' s3 I3 Nr=>⟨v,H2,I3,Nr,q2⟩⟩
def nF(hu:X.A.units+1<cLine)(hi:PE X i ty)(ho:PE X o td):PC X .NotIn i o (E6 ty td):=by intro pins s σ H Q I h;refine dH (hi pins s σ H _ I h) λiv s1⟨y,H1,I1,ry,q1⟩=>dH (ho pins s1 σ H1 _ I1 q1) λu s2⟨x,H2,I2,rx,a,ov,ex,g,q2⟩=>?_;subst ex;obtain rfl:u=Value.ref a:=rx;exact Pz hu I2 g ry λs3 I3=>⟨.bl (!ov.isSome),H2,I3,rfl,q2⟩
def Fd(hu:X.A.units+1<cLine)(ho:PE X o td)(hi:PE X i ty)(hv:PE X value tv)(hs:swapsWith value (some (.Subscript o i pos')) pos.line X.env=pure false):PS X (.Assign [.Subscript o i pos'] value pos) (W7 td ty tv):=by intro pins s σ H D I h;refine wpAny_Assign_Subscript (dH (hv pins s σ H _ I h) λr s1⟨v,H1,I1,rv,q1⟩=>dH (ho pins s1 σ H1 _ I1 q1) λu s2⟨x,H2,I2,rx,q2⟩=>dH (hi pins s2 σ H2 _ I2 q2) λiv s3⟨y,H3,I3,ry,a,H4,ex,g,q3⟩=>?_) hs;subst ex;obtain rfl:u=Value.ref a:=rx;exact HN hu I3 g ry rv λs4 I4=>⟨σ,H4,I4,q3⟩
end
def BL(h:Heap)(hb:sysModules<h.objs.size):eK P w H (h.push {cls:=.type "dict",data:=.dict #[]}) h.objs.size (.dK []):=⟨dW _,tE.mpr (jq (fw hb)),[],.nil,Heap.DictOf.new h⟩
def Sy:TE:=λ_ H Q=>∀p,H p=none->Q (.ref p) (upd H p (.dK []))
section
variable {X:Cx} {pos:Pos}
def L7:PE X (.Dict [] [] pos) Sy:=λpins s σ H Q I h=>wpAny_Dict_empty ⟨.ref s.heap.objs.size,_,I.laid (a:=s.heap.objs.size) (o:=.dK []) (t':=s.toks) (λ_ _ q=>ed _ q) (bx _) (BL s.heap I.VA),rfl,h _ (I.dg.fresh (bx _))⟩
end
def Dj:List (TE×TE)->St->Hp->(List (V×V)->Hp->Prop)->Prop|[],_,H,Q=>Q [] H|(tk,tv)::r,σ,H,Q=>tk σ H λx H1=>tv σ H1 λy H2=>Dj r σ H2 λps H3=>Q ((x,y)::ps) H3
abbrev VV:List (V×V)->List (Value×Value)->Prop:=Paired λp q=>RelV p.1 q.1/\RelV p.2 q.2
def YW(X:Cx)(pos:Pos)(keys:List (Option Expr))(values:List Expr)(QQ:List (TE×TE)):Prop:=∀(pins:List (Addr×Obj))(s:Shared)(σ:St)(H:Hp)(Q:List (V×V)->Hp->Prop),Inv X pins σ H s->Dj QQ σ H Q->wpAny (model X.prog X.w) X.A (evalPairs (pairTrees keys values X.env pos)) (λvs s'=>∃ps H',Inv X pins σ H' s'/\VV ps vs/\Q ps H') X.xe s
def OT:YW X pos [] [] []:=λpins s σ H Q I h=>pairTrees_nil_walk ⟨[],H,I,.nil,h⟩
def L3(hk:PE X k tk)(hv:PE X v tv)(hr:YW X pos ks vs QQ):YW X pos (some k::ks) (v::vs) ((tk,tv)::QQ):=λpins s σ H Q I h=>pairTrees_cons_walk (dH (hk pins s σ H _ I h) λu s1⟨x,H1,I1,rx,q1⟩=>dH (hv pins s1 σ H1 _ I1 q1) λw2 s2⟨y,H2,I2,ry,q2⟩=>dH (hr pins s2 σ H2 _ I2 q2) λws s3⟨ps,H3,I3,rel,q3⟩=>⟨(x,y)::ps,H3,I3,.cons ⟨rx,ry⟩ rel,q3⟩)
def oP(bc more:List (Key×V)):List (Key×V):=more.foldl (λacc kv=>putK acc kv.1 kv.2) bc
def KV.merge:∀{more:List (Key×V)}{rs:List (Key×Value)}{bc:List (Key×V)}{vs:List (Key×Value)},KV more rs->KV bc vs->KV (oP bc more) (merged vs rs):=by
 intro more rs bc vs r;unfold KV at r;induction r generalizing bc vs with
 |nil=>intro q;exact q
 |@cons p q ps qs h t ih=>
  intro r0;have e:KV (putK bc p.1 p.2) (stored vs q.1 q.2):=by have:=r0.put p.1 h.2;rw[<-h.1];exact this
  exact ih e
theorem oy:∀(more bc:List (Key×V)),(oP bc more).length<=bc.length+more.length|[],bc=>by show bc.length<=bc.length+0;omega|p::r,bc=>by have h1:=oy r (putK bc p.1 p.2);have h2:=mO bc p.1 p.2;show(oP (putK bc p.1 p.2) r).length<=_;rw[dr];omega
theorem vJ:∀{bc:List (Key×V)}{ws:List (Value×Value)},VV (bc.map λkv=>(kV kv.1,kv.2)) ws->∃rs,Carries (eh P w) ws rs/\KV bc rs|[],_,r=>by rw[lI]at r;cases r;exact⟨[],True.intro,.nil⟩|p::bc,_,r=>by rw[cV]at r;cases r with|@cons a b as bs h t=>obtain⟨rs,c,q⟩:=vJ (P:=P) (w:=w) t;obtain⟨b1,b2⟩:=b;exact⟨(p.1,b2)::rs,⟨wL h.1,rfl,c⟩,.cons ⟨rfl,h.2⟩ q⟩
def WS(QQ:List (TE×TE)):TE:=fun σ H Q=>∀p,H p=none->Dj QQ σ (upd H p (.dK [])) λps H2=>H2 p=some (.dK [])/\∃bc:List (Key×V),ps=bc.map (λkv=>(kV kv.1,kv.2))/\bc.length<=15/\Q (.ref p) (upd H2 p (.dK (oP [] bc)))
def OY(h:YW X pos keys values QQ)(lH:keys.all (·.isSome)=true)(hl:keys.length=values.length)(h0:keys≠[])(h15:keys.length<=15):PE X (.Dict keys values pos) (WS QQ):=by
 intro pins s σ H Q I q;have hn:=I.dg.fresh (bx s.heap.objs.size);have I1:=I.laid (a:=s.heap.objs.size) (o:=.dK []) (h':=s.heap.push {cls:=.type "dict",data:=.dict #[]}) (t':=s.toks) (λ_ _ q=>ed _ q) (bx _) (BL s.heap I.VA);refine wpAny_Dict_walk (knd:=eh X.prog X.w) lH hl h0 h15 (dH (h pins _ σ _ _ I1 (q _ hn)) λws s2⟨ps,H2,I2,rel,e,bc,ep,lk,q2⟩=>?_);subst ep;obtain⟨rs,c,rk⟩:=vJ (P:=X.prog) (w:=X.w) rel;obtain⟨z,hd,vs0,r0,dd⟩:=QI I2.dg e;cases r0;refine⟨rs,c,dd,λh' Ri hs=>⟨.ref s.heap.objs.size,_,?_,rfl,q2⟩⟩;have hz:(oP [] bc).length<=sizeLine:=by have h1:=oy bc [];rw[CK]at h1;rw[yk];omega
 have he:∃q,h'.get? s.heap.objs.size=some q:=let⟨q,_,_,hq,_⟩:=Ri;⟨q,hq⟩;exact zT I2 (by rw[e];exact True.intro) hs he (Lw hz hd (rk.merge .nil) Ri)
section
variable {X:Cx} {pins:List (Addr×Obj)} {σ:St} {H:Hp} {s:Shared} {a:Addr} {y d:V} {u r:Value} {o:Option V} {A:Around} {E:Value->Shared->Prop}
end
section
variable {X:Cx} {o e f:Expr} {apos yb:Pos} {td ty tx:TE}
end
section
variable {X:Cx} {pins:List (Addr×Obj)} {σ:St} {H:Hp} {s:Shared} {a:Addr} {bc:List (Key×V)} {A:Around} {E:Value->Shared->Prop}
end
section
variable {X:Cx} {pins:List (Addr×Obj)} {σ:St} {H:Hp} {s:Shared} {a:Addr} {y:V} {u:Value} {A:Around} {E:Value->Shared->Prop}
end
end L2
namespace L2
open PySem PySem.Spec PyProof.Rows
section
variable {prog:Program} {w:World} {A:Around} {E:Value->Shared->Prop}
end
section
variable {X:Cx}
end
end L2
namespace L2
open PySem PySem.Spec PyProof.Rows
section
variable {X:Cx} {pins:List (Addr×Obj)} {σ:St} {H:Hp} {s:Shared} {h':Heap}
def Inv.Oo{t':Nat}{ch:List Addr}(I:Inv X pins σ H s)(k:∀b o,b∉ch->s.heap.get? b=some o->h'.get? b=some o)(hf:∀b∈ch,rR X pins H b):Inv X pins σ H {s with heap:=h',toks:=t'}:=by
 have Qe:∀b u,H b=some u->b∉ch:=λb u e z=>by have q:=(hf b z).1;rw[q]at e;cases e
 refine I.step (g':=s.gens) (d':=s.drawn) (ch:=ch) (λb hb=>⟨(hf b hb).2.2.2.1,(hf b hb).2.1,(hf b hb).2.2.2.2.1,(hf b hb).2.2.2.2.2⟩) (λb o _ _ hc e _=>k b o hc e) (λb o _ _ hc e _=>⟨o.slots,k b o hc e⟩) (λ_ _ _ _ n=>n) (λb o hc e=>⟨o,k b o hc e⟩) (λ_ _ e=>e) (λ_ _ _ e=>e) (λb ps e=>⟨#[],by rw[e];simp⟩) (λm hm=>?_) (λb u e=>?_) I.bare;.obtain⟨o,es,ep,ho,r⟩:=hm;exact⟨o,es,ep,k _ o (λz=>(hf _ z).2.1 rfl) ho,r⟩
 refine(I.dg b u e).n_ (λc v hc q=>k c v ?_ q) (λ_ q=>q) λ_ _ q=>q;rcases hc with z|z;.rw[z];exact Qe b u e
 exact Qe c _ z
def Inv.Gz{t':Nat}{ch:List Addr}{T:Addr}{ob:HO}(I:Inv X pins σ H s)(k:∀b o,b∉ch->s.heap.get? b=some o->h'.get? b=some o)(hf:∀b∈ch,rR X pins H b)(hT:s.heap.objs.size<=T)(new:eK X.prog X.w (upd H T ob) h' T ob):Inv X pins σ (upd H T ob) {s with heap:=h',toks:=t'}:=by
 have hn:H T=none:=I.dg.fresh hT;have Qe:∀b u,H b=some u->b∉ch:=λb u e z=>by have q:=(hf b z).1;rw[q]at e;cases e
 refine I.step (g':=s.gens) (d':=s.drawn) (ch:=ch) (λb hb=>⟨(hf b hb).2.2.2.1,(hf b hb).2.1,(hf b hb).2.2.2.2.1,(hf b hb).2.2.2.2.2⟩) (λb o _ _ hc e _=>k b o hc e) (λb o _ _ hc e _=>⟨o.slots,k b o hc e⟩) (λb o _ e n=>?_) (λb o hc e=>⟨o,k b o hc e⟩) (λb xs e=>?_) (λb o u e=>?_) (λb ps e=>⟨#[],?_⟩) (λm hm=>?_) (λb u e=>?_) I.bare;.rw[ah (fw (gq (cY e) hT))];exact n
 .rw[ah (aa e hn)];exact e
 .rw[ah (aa e hn)];exact e
 .rw[ah (aa e hn),e];simp
 .obtain⟨o,es,ep,ho,r⟩:=hm;exact⟨o,es,ep,k _ o (λz=>(hf _ z).2.1 rfl) ho,r⟩
 by_cases hb:b=T;.subst hb;rw[ai]at e;cases e;exact new
 rw[ah hb]at e;refine(I.dg b u e).n_ (λc v hc q=>k c v ?_ q) (λc q=>by rw[ah (aa q hn)];exact q) λc xs q=>by rw[ah (aa q hn)];exact q
 rcases hc with z|z;.rw[z];exact Qe b u e
 exact Qe c _ z
def Inv.lock(I:Inv X pins σ H s)(h:H d=some u)(mu:Qr (some u)):∃od,Inv X pins σ (upd H d (.ke od u)) s:=by
 have x:=I.dg d u h;have ex:∃od,s.heap.get? d=some od:=by cases u with|lst xs=>obtain⟨_,_,_,_,e⟩:=x;exact⟨_,e⟩|dK bc=>obtain⟨_,_,_,_,o,_,_,e,_⟩:=x;exact⟨o,e⟩|dT bc=>obtain⟨_,_,_,_,o,_,_,e,_⟩:=x;exact⟨o,e⟩|set S n=>obtain⟨o,_,_,_,e,_⟩:=x;exact⟨o,e⟩|ins C dx fs=>obtain⟨_,_,_,e,_⟩:=x;exact⟨_,e⟩|ext φ=>obtain⟨_,⟨_,e⟩,_⟩:=x;exact⟨_,e⟩|_=>exact False.elim mu
 obtain⟨od,e⟩:=ex;have new:eK X.prog X.w (upd H d (.ke od u)) s.heap d (.ke od u):=by
  refine⟨e,x.n_ (λb v _ q=>q) (λb q=>?_) λb xs q=>?_⟩;.rw[ah (λz=>by rw[z,h]at q;cases q;exact mu)];exact q
  rw[ah (λz=>by rw[z,h]at q;cases q;exact mu)];exact q
 exact⟨od,I.write (x:=d) (e:=d) (t':=s.toks) (h':=s.heap) (by rw[h];exact mu) (.inl rfl) (λb v _ q=>q) ⟨od,e⟩ new⟩
def Inv.EL(I:Inv X pins σ H s)(h:H d=some u)(mu:Qr (some u)):∀o' u',X.Qs d≠some (.ke o' u'):=λo' u' e=>by have q:=I.base.sY d o' u' e;rw[h]at q;cases q;exact mu
def Inv.unlock(I:Inv X pins σ H s)(h:H d=some (.ke od u))(hn:∀o' u',X.Qs d≠some (.ke o' u')):Inv X pins σ (upd H d u) s:=by
 have Ud:∀b o,H b=some o->(∀o' u',o≠.ke o' u')->b≠d:=λb o e xX z=>by rw[z,h]at e;cases e;exact xX _ _ rfl
 have neN:∀b,H b=none->b≠d:=λb e z=>by rw[z,h]at e;cases e
 refine⟨I.ok,I.os,I.bare,⟨I.base.keep,I.base.slot,λb o e n hx=>?_,I.base.there,λb xs e=>?_,λb o x e=>?_,λb ps e=>?_⟩,I.loc,I.cell,?_,λx c e=>?_,λp hp=>?_,λb o e=>?_,I.len⟩;.rw[ah (neN b (I.base.free b o e n hx))];exact I.base.free b o e n hx
 .have q:=I.base.oE b xs e;rw[ah (Ud b _ q (λ_ _ z=>nomatch z))];exact q
 .have q:=I.base.sY b o x e;rw[ah (λz=>by rw[z]at e;exact hn _ _ e)];exact q
 .obtain⟨m,q⟩:=I.base.wc b ps e;exact⟨m,by rw[ah (Ud b _ q (λ_ _ z=>nomatch z))];exact q⟩
 .rw[ah (neN _ I.free)];exact I.free
 .rw[ah (neN c (I.jE x c e))];exact I.jE x c e
 .obtain⟨e,n,r⟩:=I.pin p hp;exact⟨e,by rw[ah (neN _ n)];exact n,r⟩
 by_cases hb:b=d;.rw[hb,ai]at e;cases e;rw[hb];obtain⟨_,x⟩:=I.dg d _ h;exact x.n_ (λc v _ q=>q) (λc q=>by rw[ah (Ud c _ q (λ_ _ z=>nomatch z))];exact q) λc xs q=>by rw[ah (Ud c _ q (λ_ _ z=>nomatch z))];exact q
 rw[ah hb]at e;exact(I.dg b o e).n_ (λc v _ q=>q) (λc q=>by rw[ah (Ud c _ q (λ_ _ z=>nomatch z))];exact q) λc xs q=>by rw[ah (Ud c _ q (λ_ _ z=>nomatch z))];exact q
end
def WR(t:TS):TS:=λD σ H=>∃d u,H d=some u/\Qr (some u)/\∀od,t ⟨fun σ' H'=>H' d=some (.ke od u)/\D.nx σ' (upd H' d u),λv H'=>H' d=some (.ke od u)/\D.rt v (upd H' d u),fun σ' H'=>H' d=some (.ke od u)/\D.bk σ' (upd H' d u),fun σ' H'=>H' d=some (.ke od u)/\D.ct σ' (upd H' d u)⟩ σ (upd H d (.ke od u))
section
variable {X:Cx}
def OS{st:Stmt}{t:TS}(h:PS X st t):PS X st (WR t):=by intro pins s σ H D I hw;obtain⟨d,u,hd,mu,hw⟩:=hw;obtain⟨od,I1⟩:=I.lock hd mu;refine dH (h pins s σ _ _ I1 (hw od)) λf s1 q=>?_;cases f with|next=>obtain⟨σ',H',I2,e,q⟩:=q;exact⟨σ',_,I2.unlock e (I.EL hd mu),q⟩|brk=>obtain⟨σ',H',I2,e,q⟩:=q;exact⟨σ',_,I2.unlock e (I.EL hd mu),q⟩|cont=>obtain⟨σ',H',I2,e,q⟩:=q;exact⟨σ',_,I2.unlock e (I.EL hd mu),q⟩|ret v=>obtain⟨x,σ',H',I2,r,e,q⟩:=q;exact⟨x,σ',_,I2.unlock e (I.EL hd mu),r,q⟩
def uB{R:It->Hp->Prop}{tn:Nat->Heap->Prop}(I:Inv X pins σ H s)(o:Obj)(T:Turn X.prog X.w X.K tg J [s.heap.objs.size] s.heap.objs.size tn)(st:tn 0 (s.heap.push o))(q:R J H):PIE X pins σ tg R (.ref s.heap.objs.size) {s with heap:=s.heap.push o,toks:=tk}:=by
 refine⟨s.heap.objs.size,[s.heap.objs.size],tn,J,H,rfl,I.kept λb ob e=>ed _ e,T,st,λb hb=>?_,q⟩;have e:b=s.heap.objs.size:=by simpa using hb
 subst e;exact I.I0 (bx _) (I.dg.fresh (bx _))
end
def Itc(lo c:Int)(n:Nat):It:=⟨λi _=>i<n,λi H x H'=>H'=H/\x=.int (lo+(i:Nat)*c),λi _=>n<=i⟩
def BQ{P:Program}{w:World}{K:PySem.W.Frag}{tg:Expr}(it:Addr)(lo c:Int)(n:Nat):Turn P w K tg (Itc lo c n) [it] it (λi h=>IsRangeIter h it (lo+(i:Nat)*c) ((n:Int)-(i:Nat)) c) where
  mem:=by simp
  obj:=λi h st b hb=>by
    have e:b=it:=by simpa using hb
    subst e
    exact⟨_,st,λv z=>nomatch z⟩
  keep:=λi h h' st k=>k it (by simp) _ st
  item:=by
    intro X hP hw hK hc i pins s σ H E I hf st hg
    subst hP hw hK
    obtain⟨f0,f1,f2,f3,f4,f5⟩:=hf it (by simp)
    have W:=Walks.range (prog:=X.prog) (w:=X.w) (I.ok.hd hc) it lo c n
    refine W.item i s _ _ hg st λv h' tk hv jB kk=>?_
    obtain⟨t,rfl⟩:=hv
    have I1:Inv X pins σ H {s with heap:=h',toks:=tk}:=I.turned (λb o hb e=>kk b o (by simpa using hb) e) f0 f1 f3 f4 f5
    exact⟨_,rfl,wQ (s:={s with heap:=h',toks:=tk}) (n:="range_iterator") jB rfl rfl (by decide) ⟨.int (lo+(i:Nat)*c),H,I1,⟨t,rfl⟩,⟨rfl,rfl⟩,jB,λb hb=>(hf b hb).1⟩⟩
  done:=by
    intro X hP hw hK hc i pins s σ H E I hf st hg
    subst hP hw hK
    obtain⟨f0,f1,f2,f3,f4,f5⟩:=hf it (by simp)
    exact Kc (I.ok.hd hc) st (by have:n<=i:=hg;omega) λh' eb=>⟨rfl,I.turned (t':=s.toks) (λb o hb e=>eb b o hb e) f0 f1 f3 f4 f5⟩
  self:=λA i s Q E st h=>Kb st h
def RgC(i j c:Int)(n:Nat):Prop:=c≠0/\c.natAbs<1073741824/\Builtin.Range.small i j c=true/\Builtin.Range.rangeSize i j c=n
def Xk(ta:TA):TI:=fun σ H R=>ta σ H λvs H1=>∃(i j c:Int)(n:Nat),vs=[.int i,.int j,.int c]/\RgC i j c n/\R (Itc i c n) H1
section
variable {X:Cx} {tg:Expr}
def Hg(hg:Gl X "range")(hm:X.mg "range"=none)(ha:PA X [a,b,c] ta)(hs:starEach [a,b,c] X.env=(false,eval a X.env)::starEach [b,c] X.env:=by rfl)(iF:(backTo pos (starEach [b,c] X.env)).any (·.1)=false:=by rfl):PI X tg (.Call (.Name "range" p) [a,b,c] [] pos) (Xk ta):=by
 intro pins s σ H R I h;refine Call_ (oQ I hg hm boot_range (yU (dH (ha pos pins s σ H _ I h) λus s1⟨vs,H1,I1,r1,q1⟩=>?_) hs iF));obtain⟨i,j,k,n,e,⟨c0,c1,c2,c3⟩,q⟩:=q1;subst e;cases r1 with
 |cons r rr=>
  cases rr with
  |cons r' rr=>
   cases rr with
   |cons r'' rr=>
    cases rr;obtain⟨t,rfl⟩:=r;obtain⟨t',rfl⟩:=r';obtain⟨t'',rfl⟩:=r'';refine call_range_3 c0 ?_ (.inl (KJ c1));refine wpAny_pyIter_range (IsRange.new ..) c2 ?_;have I2:Inv X pins σ H1 {s1 with heap:=s1.heap.push {cls:=.type "range",data:=.fields #[.int i t,.int j t',.int k t'']}}:=I1.kept (t':=s1.toks) λb o e=>ed _ e;refine uB (tk:=s1.toks) I2 _ (BQ _ i k n) ?_ q;have e1:i+((0:Nat):Int)*k=i:=by simp
    have e2:(n:Int)-((0:Nat):Int)=Builtin.Range.rangeSize i j k:=by rw[c3];simp
    show IsRangeIter _ _ (i+((0:Nat):Int)*k) ((n:Int)-((0:Nat):Int)) k;rw[e1,e2];exact gu _ rfl
end
section
variable {X:Cx} {tg:Expr}
end
def Its(x:Str):It:=⟨λi _=>i<x.cps.size,λi H v H'=>H'=H/\∃c,x.cps[i]?=some c/\v=.str ⟨#[c]⟩,λi _=>x.cps.size<=i⟩
def A_{P:Program}{w:World}{K:PySem.W.Frag}{tg:Expr}(it:Addr)(x:Str)(t:Tok)(ty:String)(Ul:ty="str_ascii_iterator"\/ty="str_iterator") :
    Turn P w K tg (Its x) [it] it (λi h=>h.IsStrIter it ty x t i) where
  mem:=by simp
  obj:=λi h st b hb=>by
    have e:b=it:=by simpa using hb
    subst e
    obtain⟨o,e,c,d⟩:=st
    exact⟨o,e,λv z=>by rw[d]at z;cases z⟩
  keep:=λi h h' st k=>let⟨o,ho,r⟩:=st;⟨o,k it (by simp) o ho,r⟩
  item:=by
    intro X hP hw hK hc i pins s σ H E I hf st hg
    subst hP hw hK
    obtain⟨f0,f1,f2,f3,f4,f5⟩:=hf it (by simp)
    have W:Walks X.prog X.w X.A it [it] [it] x.cps.size (SignAt x) (λi h=>h.IsStrIter it ty x t i):=by
      rcases Ul with e|e
      · rw[e];exact Walks.strAscii (I.ok.hd hc) it x t
      · rw[e];exact Walks.strWide (I.ok.hd hc) it x t
    have p9:["enumerate","zip","dict_itemiterator","dict_reverseitemiterator","odict_iterator","itertools.zip_longest","itertools.pairwise"].contains ty=false:=by
      rcases Ul with e|e
      · rw[e];decide
      · rw[e];decide
    refine W.item i s _ _ hg st λv h' tk hv jB kk=>?_
    obtain⟨c,u,Ys,rfl⟩:=hv
    have I1:Inv X pins σ H {s with heap:=h',toks:=tk}:=I.turned (λb o hb e=>kk b o (by simpa using hb) e) f0 f1 f3 f4 f5
    obtain⟨oi,e,cc,dd⟩:=id jB
    exact⟨_,rfl,wQ (s:={s with heap:=h',toks:=tk}) e cc dd p9 ⟨.str ⟨#[c]⟩,H,I1,⟨u,rfl⟩,⟨rfl,c,Ys,rfl⟩,jB,λb hb=>(hf b hb).1⟩⟩
  done:=by
    intro X hP hw hK hc i pins s σ H E I hf st hg
    subst hP hw hK
    obtain⟨f0,f1,f2,f3,f4,f5⟩:=hf it (by simp)
    have hx:x.cps[i]?=none:=KE hg
    rcases Ul with e|e
    · rw[e]at st
      exact wpAny_pyNext_ascii_end (I.ok.hd hc) st hx λh' eb=>⟨rfl,I.turned (t':=s.toks) (λb o hb e=>eb b o hb e) f0 f1 f3 f4 f5⟩
    · rw[e]at st
      exact wpAny_pyNext_wide_end (I.ok.hd hc) st hx λh' eb=>⟨rfl,I.turned (t':=s.toks) (λb o hb e=>eb b o hb e) f0 f1 f3 f4 f5⟩
  self:=λA i s Q E st h=>by
    rcases Ul with e|e
    · rw[e]at st;exact wpAny_pyIter_striter_ascii st h
    · rw[e]at st;exact wpAny_pyIter_striter_wide st h
def aaF(te:TE):TI:=fun σ H R=>te σ H λv H1=>∃x,v=.str x/\R (Its x) H1
def SV{X:Cx}{tg e:Expr}{te:TE}(he:PE X e te):PI X tg e (aaF te):=by
 intro pins s σ H R I h;refine dH (he pins s σ H _ I h) λv s1⟨y,H1,I1,r1,x,ex,q⟩=>?_;subst ex;obtain⟨t,rfl⟩:=r1;cases ha:x.cps.all (·<128);.exact wpAny_pyIter_wide ha (uB (tk:=s1.toks) I1 _ (A_ _ x t "str_iterator" (.inr rfl)) ⟨_,gu _ rfl,rfl,rfl⟩ q)
 exact wpAny_pyIter_ascii ha (uB (tk:=s1.toks) I1 _ (A_ _ x t "str_ascii_iterator" (.inl rfl)) ⟨_,gu _ rfl,rfl,rfl⟩ q)
section
variable {prog:Program} {w:World} {A:Around} {E:Value->Shared->Prop} {s:Shared}
def xy{Q:Value->Shared->Prop}(hd:(d==sysModules)=false)(ho:s.heap.get? d=some o)(hc:o.ExactDict)(Wr:o.data=.dict es ep)(hQ:Q (.ref s.heap.objs.size) {s with heap:=s.heap.push {cls:=.type "dict_keyiterator",data:=.fields #[.ref d,.int 0 0,.int es.size 0,.int ep 0]}}):wpAny (model prog w) A (pyIter (.ref d)) Q E s:=by have hT:s.TypeIs (.ref d) "dict":=⟨o,ho,hc.1⟩;refine wpAny_pyIter_slot hT F.slot_dict_iter (yA F.slot_dict_iter hT F.entry_dict_iter ?_ (F.args_dict_iter_1 _));unfold Builtin.«dict.__iter__»;refine aZ ?_;unfold Builtin.Dict.dictSlotNone;refine aZ (wpAny_notOrdered_dict hT ?_);show wpAny _ _ (pure (Value.ref d)) _ _ s;refine bz ?_;show wpAny _ _ (Builtin.Dict.showsAll d >>= _) _ _ s;unfold Builtin.Dict.showsAll;rw[au (by rw[hd];exact e_)];refine aZ (bz ?_);refine aZ (CG ho Wr ?_);refine aZ (Cs ho Wr ?_);refine aZ (uh (bz ⟨_,rfl,"dict_keyiterator",_,⟨_,gu _ rfl,rfl⟩,wF.lookup,?_⟩));simpa [rawInt]using hQ
def wt{Q:Option Value->Shared->Prop}(hit:s.heap.IsKeyIter it d i n ep)(IB:s.heap.get? d=some od)(Vl:od.data=.dict es ep)(hsz:es.size=n)(hx:es[i]?=some en)(hQ:∀h',h'.IsKeyIter it d (i+1) n ep->Heap.SameBut it s.heap h'->Q (some en.key) {s with heap:=h'}):wpAny (model prog w) A (pyNext (.ref it)) Q E s:=by
 obtain⟨o,ho,hc,hd⟩:=id hit;unfold pyNext;refine aZ (Cn (Kg (name:=Str.ofString "__next__") hit.typeIs wF (yA wF hit.typeIs KN ?_ (KS _))));refine aZ (bz ?_);refine aZ ?_;refine aZ ?_;first|refine aZ (yV hit.typeIs (bz ?_))|refine aZ (yR hit.typeIs (bz ?_))
 refine aZ (wpAny_fieldsOf ho hd ?_);have RS:Builtin.Dict_items.ownsTuple "dict_keyiterator"=false:=by decide
 simp only[RS,ur,jN];show wpAny _ _ (if (Value.ref d==Value.none)=true then _ else _) _ _ s;rw[au (show ¬((Value.ref d==Value.none)=true)from e_)];refine aZ (bz ?_);refine aZ (CG IB Vl ?_);rw[au (by rw[hsz];simp)];refine aZ (bz ?_);refine aZ (Cs IB Vl ?_);rw[au (by simp)];refine bz ?_;obtain⟨Od,Rc⟩:=Array.getElem?_eq_some_iff.mp hx;simp only[show ¬((i:Int)<0)from by omega,jN,om,Dh Od];refine aZ ?_;first|refine aZ (yV hit.typeIs (bz ?_))|refine aZ (yR hit.typeIs (bz ?_))
 refine aZ (JX hit.typeIs ?_);show wpAny _ _ (setField (.ref it) 1 (rawInt ((i:Int)+1)) >>= _) _ _ s;refine aZ (wpAny_setField ho hd (by simp) ?_);have Wo:(s.heap.update it (Obj.mapFields (·.setIfInBounds 1 (rawInt ((i:Int)+1))))).IsKeyIter it d (i+1) n ep:=⟨_,yL _ ho (Obj.isFreed_of_fields (Obj.data_mapFields hd _)),(Obj.cls_mapFields ..).trans hc,by rw[Obj.data_mapFields hd];simp[rawInt]⟩;refine aZ (lT ?_);refine aZ (JX (s:={s with heap:=s.heap.update it (Obj.mapFields (·.setIfInBounds 1 (rawInt ((i:Int)+1))))}) Wo.typeIs ?_);show wpAny _ _ (pure es[i].key) _ _ _;rw[Rc];exact bz (bz ⟨_,rfl,bz (hQ _ Wo (Heap.SameBut.update ..))⟩)
def pZ{Q:Option Value->Shared->Prop}(hh:A.handled=none)(hit:s.heap.IsKeyIter it d i n ep)(IB:s.heap.get? d=some od)(Vl:od.data=.dict es ep)(hsz:es.size=n)(Rb:n<=i)(hQ:∀h',Heap.ExtBut it s.heap h'->Q none {s with heap:=h'}):wpAny (model prog w) A (pyNext (.ref it)) Q E s:=by
 obtain⟨o,ho,hc,hd⟩:=id hit;unfold pyNext;refine aZ (Cn (Kg (name:=Str.ofString "__next__") hit.typeIs wF (yA wF hit.typeIs KN ?_ (KS _))));refine aZ (bz ?_);refine aZ ?_;refine aZ ?_;first|refine aZ (yV hit.typeIs (bz ?_))|refine aZ (yR hit.typeIs (bz ?_))
 refine aZ (wpAny_fieldsOf ho hd ?_);have RS:Builtin.Dict_items.ownsTuple "dict_keyiterator"=false:=by decide
 simp only[RS,ur,jN];show wpAny _ _ (if (Value.ref d==Value.none)=true then _ else _) _ _ s;rw[au (show ¬((Value.ref d==Value.none)=true)from e_)];refine aZ (bz ?_);refine aZ (CG IB Vl ?_);rw[au (by rw[hsz];simp)];refine aZ (bz ?_);refine aZ (Cs IB Vl ?_);rw[au (by simp)];refine bz ?_;have aa3:es.size<=i:=by rw[hsz];exact Rb
 simp only[show ¬((i:Int)<0)from by omega,jN,om,KE aa3];refine aZ ?_;first|refine aZ (yV hit.typeIs (bz ?_))|refine aZ (yR hit.typeIs (bz ?_))
 show wpAny _ _ (setField (.ref it) 0 .none >>= _) _ _ s;refine aZ (wpAny_setField ho hd (by simp) ?_);show wpAny _ _ (newExc (.type "StopIteration") [] >>= _) _ _ _;refine aZ ?_;simp only[newExc,newTuple];refine aZ (uh ?_ (by size_fits));refine aZ (m:=firstArgMember _ _) (wpAny_of_eq (a:=Value.none) (by first|rfl|(simp only[firstArgMember];rfl)) ?_);refine uh ?_ (by size_fits);simp only[raiseNew];refine aZ (wpAny_handled ?_);rw[show A.in1.handled=none from hh];refine aZ (bz (wpAny_throw ?_));refine aZ (wpAny_isInstance (T:="StopIteration") (b:=true) ⟨_,gu _ rfl,rfl⟩ isSubtype_stop ?_);exact bz (hQ _ (((Heap.SameBut.update ..).extBut.push _).push _))
end
def Tf{κ:Type}{bc:List (κ×V)}{vs:List (κ×Value)}(h:KV bc vs):∀{i:Nat}{k:κ}{v:V},bc[i]?=some (k,v)->∃u,vs[i]?=some (k,u)/\RelV v u:=by unfold KV at h;induction h with|nil=>intro i k v e;simp at e|@cons a b l₁ l₂ r t ih=>intro i k v e;cases i with|zero=>simp only[C_,C0]at e;subst e;refine⟨b.2,?_,r.2⟩;simp only[C_];exact congrArg some (Prod.ext r.1.symm rfl)|succ j=>simp only[KO]at e⊢;exact ih e
def D0{α β:Type}{G:α->β->Prop}{l₁:List α}{l₂:List β}(h:Paired G l₁ l₂):∀{i:Nat}{a:α},l₁[i]?=some a->∃b,l₂[i]?=some b/\G a b:=by induction h with|nil=>intro i a e;simp at e|@cons a b l₁ l₂ r t ih=>intro i a' e;cases i with|zero=>simp only[C_,C0]at e;subst e;exact⟨b,rfl,r⟩|succ j=>simp only[KO]at e⊢;exact ih e
def LY(h:lN k u=true):RelV (kV k) u:=by
 rcases dY h with⟨i,t,rfl,rfl⟩|⟨x,t,rfl,rfl⟩;.exact⟨t,rfl⟩
 exact⟨t,rfl⟩
section
variable {X:Cx} {pins:List (Addr×Obj)} {σ:St} {H:Hp} {s:Shared} {d:Addr} {o:Obj}
def Inv.Sb(I:Inv X pins σ H s)(h:H d=some (.ke o (.dK bc))):(d==sysModules)=false/\s.heap.get? d=some o/\o.ExactDict/\∃(es:Array DictEntry)(ep:Nat)(vs:List (Key×Value)),o.data=.dict es ep/\es.size=bc.length/\KV bc vs/\s.heap.DictAt (eh X.prog X.w) d vs ep:=by obtain⟨hd,z,hs,vs,kv,o',es,ep,ho,hx,vZ,r⟩:=I.dg d _ h;rw[hd]at ho;cases ho;refine⟨hs,hd,hx,es,ep,vs,vZ,?_,kv,o,es,hd,hx,vZ,r⟩;have l1:=r.2.1.length;have l2:bc.length=vs.length:=Paired.length kv;rw[tu]at l1;omega
def Inv.Sa{bc:List (List Key×V)}(I:Inv X pins σ H s)(h:H d=some (.ke o (.dT bc))):(d==sysModules)=false/\s.heap.get? d=some o/\o.ExactDict/\∃(es:Array DictEntry)(ep:Nat),o.data=.dict es ep/\es.size=bc.length/\∀(i:Nat)(k:List Key)(v:V),bc[i]?=some (k,v)->∃(en:DictEntry)(q:Addr),es[i]?=some en/\en.key=.ref q/\H q=some (.tup (k.map kV)):=by
 obtain⟨hd,z,hs,xs,pr,o',es,ep,ho,hx,vZ,he,_⟩:=I.dg d _ h;rw[hd]at ho;cases ho;refine⟨hs,hd,hx,es,ep,vZ,?_,λi k v e=>?_⟩;.have l1:es.size=xs.length:=size_of_entries he;have l2:bc.length=xs.length:=Paired.length pr;omega
 obtain⟨b,hb,e1,e2,_⟩:=D0 pr e;have q:=entry_at he i;rw[hb]at q;exact⟨_,b.2.1,q,rfl,e2⟩
end
def Itk(d:Addr)(o:Obj)(bc:List (Key×V)):It:=⟨λi H=>H d=some (.ke o (.dK bc))/\i<bc.length,λi H x H'=>H'=H/\∃k v,bc[i]?=some (k,v)/\x=kV k,λi H=>H d=some (.ke o (.dK bc))/\bc.length<=i⟩
def WL(d:Addr)(o:Obj)(bc:List (List Key×V)):It:=⟨λi H=>H d=some (.ke o (.dT bc))/\i<bc.length,λi H x H'=>H'=H/\∃(k:List Key)(v:V)(q:Addr),bc[i]?=some (k,v)/\x=.ref q/\H q=some (.tup (k.map kV)),λi H=>H d=some (.ke o (.dT bc))/\bc.length<=i⟩
def sI{o:Obj}{es Ni:Array DictEntry}{ep Nj:Nat}(h:o.data=.dict es ep)(h':o.data=.dict Ni Nj):Ni=es/\Nj=ep:=by rw[h]at h';cases h';exact⟨rfl,rfl⟩
section
variable {P:Program} {w:World} {K:PySem.W.Frag} {tg:Expr} {d:Addr} {o:Obj} {es:Array DictEntry} {ep:Nat}
def GJ{bc:List (Key×V)}(it:Addr)(IB:o.data=.dict es ep):Turn P w K tg (Itk d o bc) [it] it (λi h=>h.IsKeyIter it d i bc.length ep) where
  mem:=by simp
  obj:=λi h st b hb=>by
    have e:b=it:=by simpa using hb
    subst e
    obtain⟨oi,e,c,dd⟩:=st
    exact⟨oi,e,λv z=>by rw[dd]at z;cases z⟩
  keep:=λi h h' st k=>st.at λoi e=>k it (by simp) oi e
  item:=by
    intro X hP hw hK hc i pins s σ H E I hf st hg
    subst hP hw hK
    obtain⟨hd,hi⟩:=hg
    obtain⟨f0,f1,f2,f3,f4,f5⟩:=hf it (by simp)
    obtain⟨hs,Nd,hx,Ni,Nj,vs,vZ,hsz,kv,hm⟩:=I.Sb hd
    obtain⟨rfl,rfl⟩:=sI IB vZ
    obtain⟨⟨k,v⟩,ID⟩:∃p,bc[i]?=some p:=⟨bc[i],dZ hi⟩
    obtain⟨u,hu,ru⟩:=Tf kv ID
    have hl:bc.length=vs.length:=Paired.length kv
    rw[hl]at st
    refine wpAny_pyNext_dict_item st hm hu λkey h' IX jB sb=>?_
    have I1:Inv X pins σ H {s with heap:=h'}:=I.turned (t':=s.toks) (λb ob hb e=>(sb.2 b hb).trans e) f0 f1 f3 f4 f5
    obtain⟨oi,e,c,dd⟩:=id jB
    refine⟨key,rfl,wQ (s:={s with heap:=h'}) e c dd (by decide) ⟨kV k,H,I1,LY (show lN k key=true from IX),⟨rfl,k,v,ID,rfl⟩,?_,λb hb=>(hf b hb).1⟩⟩
    show h'.IsKeyIter it d (i+1) bc.length _
    rw[hl]
    exact jB
  done:=by
    intro X hP hw hK hc i pins s σ H E I hf st hg
    subst hP hw hK
    obtain⟨hd,hi⟩:=hg
    obtain⟨f0,f1,f2,f3,f4,f5⟩:=hf it (by simp)
    obtain⟨hs,Nd,hx,Ni,Nj,vs,vZ,hsz,kv,hm⟩:=I.Sb hd
    obtain⟨rfl,rfl⟩:=sI IB vZ
    exact pZ (I.ok.hd hc) st Nd vZ hsz hi λh' eb=>⟨rfl,I.turned (t':=s.toks) (λb ob hb e=>eb b ob hb e) f0 f1 f3 f4 f5⟩
  self:=λA i s Q E st h=>wpAny_pyIter_keyiter st h
def DV(it:Addr)(IB:o.data=.dict es ep):Turn P w K tg (WL d o bc) [it] it (λi h=>h.IsKeyIter it d i bc.length ep) where
  mem:=by simp
  obj:=λi h st b hb=>by
    have e:b=it:=by simpa using hb
    subst e
    obtain⟨oi,e,c,dd⟩:=st
    exact⟨oi,e,λv z=>by rw[dd]at z;cases z⟩
  keep:=λi h h' st k=>st.at λoi e=>k it (by simp) oi e
  item:=by
    intro X hP hw hK hc i pins s σ H E I hf st hg
    subst hP hw hK
    obtain⟨hd,hi⟩:=hg
    obtain⟨f0,f1,f2,f3,f4,f5⟩:=hf it (by simp)
    obtain⟨hs,Nd,hx,Ni,Nj,vZ,hsz,ent⟩:=I.Sa hd
    obtain⟨rfl,rfl⟩:=sI IB vZ
    obtain⟨⟨k,v⟩,ID⟩:∃p,bc[i]?=some p:=⟨bc[i],dZ hi⟩
    obtain⟨en,q,Rc,IX,hq⟩:=ent i k v ID
    refine wt st Nd vZ hsz Rc λh' jB sb=>?_
    have I1:Inv X pins σ H {s with heap:=h'}:=I.turned (t':=s.toks) (λb ob hb e=>(sb.2 b hb).trans e) f0 f1 f3 f4 f5
    obtain⟨oi,e,c,dd⟩:=id jB
    exact⟨en.key,rfl,wQ (s:={s with heap:=h'}) e c dd (by decide) ⟨.ref q,H,I1,IX,⟨rfl,k,v,q,ID,rfl,hq⟩,jB,λb hb=>(hf b hb).1⟩⟩
  done:=by
    intro X hP hw hK hc i pins s σ H E I hf st hg
    subst hP hw hK
    obtain⟨hd,hi⟩:=hg
    obtain⟨f0,f1,f2,f3,f4,f5⟩:=hf it (by simp)
    obtain⟨hs,Nd,hx,Ni,Nj,vZ,hsz,ent⟩:=I.Sa hd
    obtain⟨rfl,rfl⟩:=sI IB vZ
    exact pZ (I.ok.hd hc) st Nd vZ hsz hi λh' eb=>⟨rfl,I.turned (t':=s.toks) (λb ob hb e=>eb b ob hb e) f0 f1 f3 f4 f5⟩
  self:=λA i s Q E st h=>by
    refine wpAny_pyIter_slot st.typeIs KH (yA KH st.typeIs F.entry_dict_keyiterator_iter ?_ (F.args_dict_keyiterator_iter_1 _))
    show wpAny _ _ (ret (.ref it)) _ _ s
    exact bz ⟨_,rfl,"dict_keyiterator",_,st.typeIs,wF.lookup,h⟩
end
def Xm(td:TE):TI:=fun σ H R=>td σ H λx H1=>∃d o,x=.ref d/\((∃bc,H1 d=some (.ke o (.dK bc))/\R (Itk d o bc) H1)\/∃bc,H1 d=some (.ke o (.dT bc))/\R (WL d o bc) H1)
section
variable {X:Cx} {tg e:Expr} {td:TE} {apos yb:Pos}
def OW(he:PE X e td):PI X tg e (Xm td):=by
 intro pins s σ H R I h;refine dH (he pins s σ H _ I h) λu s1⟨x,H1,I1,rx,d,o,ex,q⟩=>?_;subst ex;obtain rfl:u=Value.ref d:=rx;rcases q with⟨bc,hd,q⟩|⟨bc,hd,q⟩;.obtain⟨hs,Nd,hx,es,ep,vs,vZ,hsz,kv,hm⟩:=I1.Sb hd;refine xy hs Nd hx vZ (uB (tk:=s1.toks) I1 _ (GJ _ vZ) ⟨_,gu _ rfl,rfl,?_⟩ q);rw[hsz]<;>rfl
 obtain⟨hs,Nd,hx,es,ep,vZ,hsz,ent⟩:=I1.Sa hd;refine xy hs Nd hx vZ (uB (tk:=s1.toks) I1 _ (DV _ vZ) ⟨_,gu _ rfl,rfl,?_⟩ q);rw[hsz]<;>rfl
end
def HX:bootBuiltins "zip"=some (.type "zip"):=by decide +kernel
def VJ(K:PySem.W.Frag)(a b:Addr):It:=⟨λi H=>∃(xs ys:List V)(x y:V),bp K H a xs/\bp K H b ys/\xs[i]?=some x/\ys[i]?=some y,λi H v H'=>∃T x y,v=.ref T/\H T=none/\H'=upd H T (.tup [x,y])/\(∀xs,bp K H a xs->xs[i]?=some x)/\∀ys,bp K H b ys->ys[i]?=some y,λi H=>∃xs ys:List V,bp K H a xs/\bp K H b ys/\(xs.length<=i\/ys.length<=i)⟩
def LL{P:Program}{w:World}{K:PySem.W.Frag}{elts:List Expr}{kk:Nat}{IL:Pos}{a b z TI TO i1 i2:Addr}(D:ZipApart z TI TO i1 i2 a b) :
    Turn P w K (.Tuple elts kk IL) (VJ K a b) [z,TI,TO,i1,i2] z (λi h=>IsZip h z TI TO .none/\IsPair h TI (.ref i1) (.ref i2)/\(∃x y,IsPair h TO x y)/\h.IsListIter i1 a i/\h.IsListIter i2 b i) where
  mem:=by simp
  obj:=λi h st c hc=>by
    obtain⟨hz,IG,⟨x,y,Nh⟩,⟨o1,e1,_,d1⟩,⟨o2,e2,_,d2⟩⟩:=st
    have e':c=z\/c=TI\/c=TO\/c=i1\/c=i2:=by simpa using hc
    rcases e' with q|q|q|q|q
    · rw[q];exact⟨_,hz,λv q=>nomatch q⟩
    · rw[q];exact⟨_,IG,λv q=>nomatch q⟩
    · rw[q];exact⟨_,Nh,λv q=>nomatch q⟩
    · rw[q];exact⟨o1,e1,λv q=>by rw[d1]at q;cases q⟩
    · rw[q];exact⟨o2,e2,λv q=>by rw[d2]at q;cases q⟩
  keep:=λi h h' st k=>by
    obtain⟨hz,IG,⟨x,y,Nh⟩,h1,h2⟩:=st
    exact⟨k z (by simp) _ hz,k TI (by simp) _ IG,⟨x,y,k TO (by simp) _ Nh⟩,h1.at λo q=>k i1 (by simp) o q,h2.at λo q=>k i2 (by simp) o q⟩
  item:=by
    intro X hP hw hK hc i pins s σ H E I hf st hg
    subst hP hw hK
    obtain⟨hz,IG,⟨x0,y0,Nh⟩,h1,h2⟩:=st
    obtain⟨xs,ys,x,y,Nz,Uq,hx,hy⟩:=hg
    obtain⟨b_,rv,p,_⟩:=I.list Nz
    obtain⟨sX,Uc,p2,_⟩:=I.list Uq
    obtain⟨u,hu,ru⟩:=rv.get hx
    obtain⟨u2,hu2,ru2⟩:=Uc.get hy
    have hzl:z<s.heap.objs.size:=cY hz
    refine wpAny_pyNext_zip_item D hz IG Nh h1 h2 p.isList p2.isList (x:=u) (y:=u2) (by simpa using hu) (by simpa using hu2) λh' z' TO' h1' h2' hT hsz hk=>?_
    refine⟨_,rfl,wpAny_letOwnedTupleGo_zip (s:={s with heap:=h'}) z' λNH z'' sb=>?_⟩
    have hT2:NH.get? s.heap.objs.size=some {cls:=.type "tuple",data:=.seq #[u,u2]}:=(sb.2 _ (Cr hzl)).trans hT
    have new:eK X.prog X.w (upd H s.heap.objs.size (.tup [x,y])) NH s.heap.objs.size (.tup [x,y]):=
      ⟨by show 2<=sizeLine;decide,[u,u2],.cons ru (.cons ru2 .nil),⟨_,hT2,rfl,_,rfl⟩⟩
    have I1:Inv X pins σ (upd H s.heap.objs.size (.tup [x,y])) {s with heap:=NH}:=
      I.Gz (t':=s.toks) (ch:=[z,TI,TO,i1,i2]) (λc o hb q=>(sb.2 c (λq'=>hb (by simp[q']))).trans (hk c o (λq'=>hb (by simp[q'])) (λq'=>hb (by simp[q'])) (λq'=>hb (by simp[q'])) (λq'=>hb (by simp[q'])) q)) hf (bx _) new
    refine⟨.ref s.heap.objs.size,_,I1,rfl,⟨_,x,y,rfl,I.dg.fresh (bx _),rfl,λl hl=>by rw[I.vn hl Nz];exact hx,λl hl=>by rw[I.vn hl Uq];exact hy⟩,⟨z'',?_,⟨u,u2,?_⟩,?_,?_⟩,λc Gg=>?_⟩
    · exact(sb.2 _ D.TIz).trans (hk _ _ D.TIz D.TITO D.TIi1 D.TIi2 IG)
    · exact(sb.2 _ D.TOz).trans TO'
    · exact h1'.at λo q=>(sb.2 _ D.i1z).trans q
    · exact h2'.at λo q=>(sb.2 _ D.i2z).trans q
    · have ij:c<s.heap.objs.size:=by
        have e':c=z\/c=TI\/c=TO\/c=i1\/c=i2:=by simpa using Gg
        rcases e' with q|q|q|q|q
        · rw[q];exact hzl
        · rw[q];exact cY IG
        · rw[q];exact cY Nh
        · rw[q];obtain⟨_,e1,_⟩:=h1;exact cY e1
        · rw[q];obtain⟨_,e2,_⟩:=h2;exact cY e2
      rw[ah (fw ij)]
      exact(hf c Gg).1
  done:=by
    intro X hP hw hK hc i pins s σ H E I hf st hg
    subst hP hw hK
    obtain⟨hz,IG,⟨x0,y0,Nh⟩,h1,h2⟩:=st
    obtain⟨xs,ys,Nz,Uq,aa5⟩:=hg
    obtain⟨b_,rv,p,_⟩:=I.list Nz
    obtain⟨sX,Uc,p2,_⟩:=I.list Uq
    have l1:=rv.length
    have l2:=Uc.length
    have he:b_.toArray[i]?=none\/sX.toArray[i]?=none:=by
      rcases aa5 with q|q
      · exact .inl (by simp;omega)
      · exact .inr (by simp;omega)
    exact wpAny_pyNext_zip_end (I.ok.hd hc) D hz IG Nh h1 h2 p.isList p2.isList he λh' hk=>⟨rfl,I.Oo (t':=s.toks) (ch:=[z,TI,TO,i1,i2]) (λc o hb q=>
      hk c o (λq'=>hb (by simp[q'])) (λq'=>hb (by simp[q'])) (λq'=>hb (by simp[q'])) (λq'=>hb (by simp[q'])) q) hf⟩
  self:=λA i s Q E st h=>wpAny_pyIter_zip st.1 h
def aaE(K:PySem.W.Frag)(ta:TA):TI:=fun σ H R=>ta σ H λvs H1=>∃a b xs ys,vs=[.ref a,.ref b]/\bp K H1 a xs/\bp K H1 b ys/\R (VJ K a b) H1
def Lg{X:Cx}{e e2:Expr}{ta:TA}{p pos IL:Pos}{elts:List Expr}{kk:Nat}(hg:Gl X "zip")(hm:X.mg "zip"=none)(ha:PA X [e,e2] ta)(hs:starEach [e,e2] X.env=(false,eval e X.env)::starEach [e2] X.env:=by rfl)(iF:(backTo pos (starEach [e2] X.env)).any (·.1)=false:=by rfl):PI X (.Tuple elts kk IL) (.Call (.Name "zip" p) [e,e2] [] pos) (aaE X.K ta):=by
 intro pins s σ H R I h;refine Call_ (oQ I hg hm HX (yU (dH (ha pos pins s σ H _ I h) λus s1⟨vs,H1,I1,r1,q1⟩=>?_) hs iF));obtain⟨a,b,xs,ys,ex,Nz,Uq,q⟩:=q1;subst ex;cases r1 with
 |cons r rr=>
  cases rr with
  |cons r' rr=>
   cases rr;cases r;cases r';obtain⟨b_,rv,p1,_⟩:=I1.list Nz;obtain⟨sX,Uc,p2,_⟩:=I1.list Uq;have la:a<s1.heap.objs.size:=p1.lt;have lb:b<s1.heap.objs.size:=p2.lt;refine call_zip_2 p1.isList p2.isList λh' hz IG Nh h1 h2 hsz hk=>wpAny_pyIter_zip hz ?_;have I2:Inv X pins σ H1 {s1 with heap:=h'}:=I1.kept (t':=s1.toks) hk;refine⟨s1.heap.objs.size+4,[s1.heap.objs.size+4,s1.heap.objs.size+2,s1.heap.objs.size+3,s1.heap.objs.size,s1.heap.objs.size+1],_,_,H1,rfl,I2,LL (PySem.W.ktu_apart s1.heap.objs.size a b la lb),⟨hz,IG,⟨_,_,Nh⟩,h1,h2⟩,λc Gg=>?_,q⟩;have e':c=s1.heap.objs.size+4\/c=s1.heap.objs.size+2\/c=s1.heap.objs.size+3\/c=s1.heap.objs.size\/c=s1.heap.objs.size+1:=by simpa using Gg
   have hle:s1.heap.objs.size<=c:=by
    rcases e' with z|z|z|z|z;.rw[z];exact yE _ _
    .rw[z];exact yE _ _
    .rw[z];exact yE _ _
    .rw[z];exact bx _
    rw[z];exact yE _ _
   exact I1.I0 hle (I1.dg.fresh hle)
end L2
section
namespace abt
open PySem PyProof.Rows
end abt
end
section
namespace TL
open PySem PySem.Builtin PySem.Builtin.Str PySem.StrLaws
abbrev tl(x:Str):List Nat:=x.cps.toList
def iY(x:Str):x.length=(tl x).length:=by simp[tl,Str.length]
def iq(x y:Str):tl (x++y)=tl x++tl y:=by show(x++y).cps.toList=_;rw[Str.cps_append,Array.toList_append]
def jD(S:List Nat):List (List Nat)->List Nat|[]=>[]|[p]=>p|p::q::r=>p++(S++jD S (q::r))
theorem ja(y:Str):∀parts:List Str,tl (Str.join y parts)=jD (tl y) (parts.map tl)|[]=>rfl|[_]=>rfl|x::z::r=>by show tl (x++y++Str.join y (z::r))=tl x++(tl y++jD (tl y) ((z::r).map tl));rw[iq,iq,ja y (z::r),jS]
def join_eq(y:Str)(parts:List Str):Txt.join y parts=Str.join y parts:=glued_eq_join y parts
def sW(n:Nat):List Nat:=(Nat.toDigits 10 n).map Char.toNat
def qw(n:Nat):tl (Str.ofString (toString ((n:Nat):Int)))=sW n:=PySem.W.KIN.signs_num n
def oA:∀d:Nat,d<10->(Nat.digitChar d).toNat=48+d:=by decide
def sr(h:n<10):sW n=[48+n]:=by unfold sW;rw[KP h];show [(Nat.digitChar n).toNat]=_;rw[oA n h]
def nJ(h:10<=n):sW n=sW (n/10)++[48+n%10]:=by have hm:n%10<10:=qh n (by decide);have t:Nat.toDigits 10 (n/10)++Nat.toDigits 10 (n%10)=Nat.toDigits 10 (10*(n/10)+n%10):=Nat.toDigits_append_toDigits (by decide) (by omega) hm;rw[ue]at t;show(Nat.toDigits 10 n).map Char.toNat=_;rw[<-t,cR,KP hm];show(Nat.toDigits 10 (n/10)).map Char.toNat++[(Nat.digitChar (n%10)).toNat]=_;rw[oA _ hm]<;>rfl
def pR(hk:0<k)(h:n<10^k):(sW n).length<=k:=by
 have z:=PyProof.Rows.toString_length_le (v:=(n:Int)) (by omega) hk (by
  have e:((10:Int)^k)=((10^k:Nat):Int):=by first|exact(Int.natCast_pow 10 k).symm|simp
  rw[e];first|exact Int.ofNat_lt.mpr h|omega)
 rw[iY,qw]at z;exact z
end TL
end
namespace L2
open PySem PySem.Spec PyProof.Rows
theorem kP:∀{ys:List Str}{us:List Value},ck (ys.map V.str) us->StrsAre us ys|[],_,.nil=>.nil|y::ys,_,.cons r t=>by obtain⟨k,rfl⟩:=r;exact .cons y k (kP t)
section
variable {X:Cx} {pins:List (Addr×Obj)} {σ:St} {H:Hp} {s:Shared} {Q:VK}
end
section
variable {X:Cx}
def Pg:YY X "str.join" (λx xs H Q=>∃a p,∃ys:List Str,x=.str a/\xs=[.ref p]/\(bp X.K H p (ys.map V.str)\/qb X.K H p (ys.map V.str))/\(ys.map (·.length)).sum+ys.length*a.length<=16777216/\Q (.str (Txt.join a ys)) H):=by
 intro pins s σ H x xs v us Q I rx rs h;obtain⟨a,p,ys,rfl,rfl,hp,hz,h⟩:=h;obtain⟨t,rfl⟩:=rx;cases rs with
 |cons r1 rs=>
  cases rs;cases r1;rcases hp with hp|hp;.obtain⟨b_,r,⟨o,n,ho,hc,_,hd⟩,_⟩:=I.list hp;exact PyProof.Rows.join_list (items:=b_.toArray) ⟨o,ho,hc,n,hd⟩ (by rw[tz];exact kP r) hz λt' k=>⟨.str _,H,I.tok k,⟨t',rfl⟩,h⟩
  obtain⟨b_,r,ht,_⟩:=I.tuple hp;exact PyProof.Rows.join_tuple (items:=b_.toArray) ht (by rw[tz];exact kP r) hz λt' k=>⟨.str _,H,I.tok k,⟨t',rfl⟩,h⟩
end
section
variable {X:Cx} {o e:Expr} {to te:TE}
def Zm(r:V->List V->Hp->VK->Prop)(to te:TE):TE:=fun σ H Q=>to σ H λx H1=>(∃a,x=.str a)/\te σ H1 λy H2=>r x [y] H2 Q
def Xc{id:String}{name:Str}{apos pos:Pos}{r:V->List V->Hp->VK->Prop}(slot:Slot "str" name id)(ty:typeOf (.builtin id)=pure (.type "method_descriptor"))(rule:YY X id r)(ho:PE X o to)(he:PE X e te)(hs:starEach [e] X.env=[(false,eval e X.env)]:=by rfl)(AV:attributeBase o name X.env (eval o X.env)=eval o X.env:=by rfl)(AQ:(apos.endLine==pos.line)=true:=by rfl):PE X (.Call (.Attribute o name apos) [e] [] pos) (Zm r to te):=by intro pins s σ H Q I h;refine PySem.Call_method1 AV hs AQ (dH (ho pins s σ H _ I h) λv s1⟨x,H1,I1,r1,q1⟩=>?_);obtain⟨⟨a,rfl⟩,q1⟩:=q1;obtain⟨t,rfl⟩:=_root_.id r1;refine⟨"str",_,F.plainAttrs_str,slot,ty,typeIs_str _ _ _,(λ_ e=>nomatch e),J0 rfl (JL (Calls.spliced_cons ?_))⟩;exact dH (he pins s1 σ H1 _ I1 q1) λu s2⟨y,H2,I2,r2,q2⟩=>Calls.spliced_nil (rule pins s2 σ H2 _ [y] _ [u] Q I2 r1 (.cons r2 .nil) q2)
def Fe(ho:PE X o to)(he:PE X e te)(hs:starEach [e] X.env=[(false,eval e X.env)]:=by rfl)(AV:attributeBase o "join" X.env (eval o X.env)=eval o X.env:=by rfl)(AQ:(apos.endLine==pos.line)=true:=by rfl):PE X (.Call (.Attribute o "join" apos) [e] [] pos) (Zm (λx xs H Q=>∃a p,∃ys:List Str,x=.str a/\xs=[.ref p]/\(bp X.K H p (ys.map V.str)\/qb X.K H p (ys.map V.str))/\(ys.map (·.length)).sum+ys.length*a.length<=16777216/\Q (.str (Txt.join a ys)) H) to te):=Xc F.slot_str_join F.type_str_join Pg ho he hs AV AQ
end
end L2
namespace L2
open PySem PySem.Spec PyProof.Rows
section
variable {X:Cx}
end
end L2
namespace Att
open PySem PySem.W PySem.Calls PyProof.Rows
section
variable {prog:Program} {w:World} {A:Around} {E:Value->Shared->Prop} {s:Shared} {K:Frag}
end
end Att
namespace L2
open PySem PySem.Spec PyProof.Rows
end L2
namespace L2
open PySem PySem.Spec PyProof.Rows
end L2
namespace L2
open PySem PySem.Spec PyProof.Rows
def inClass(s:Stmt)(j:Nat):Stmt:=match s with|.ClassDef _ _ _ body _ _ _ _ _ _ _=>body.getD j (.Pass ⟨0,0,0,0⟩)|_=>.Pass ⟨0,0,0,0⟩
def jH(s:Stmt):Arguments:=match s with|.FunctionDef _ a _ _ _ _ _ _ _ _=>a|_=>{posonlyargs:=[],args:=[],vararg:=none,kwonlyargs:=[],kw_defaults:=[],kwarg:=none,defaults:=[]}
def h_(s:Stmt):List Stmt:=match s with|.FunctionDef _ _ b _ _ _ _ _ _ _=>b|_=>[]
def ax(s:Stmt):Scope:=match s with|.FunctionDef _ _ _ _ _ _ sc _ _ _=>sc|_=>{kind:=.function,names:=[],isGenerator:=false,isCoroutine:=false}
abbrev bu:Nq:=λ_ _ _ _ _ _=>False
abbrev E0:XK:=λ_ _ _=>False
def aR:ma bu X E0:=λ_ _ _ _ _ _ _ h=>h.elim
structure gE (K:PySem.W.Frag) (x qual:Str) (st:Stmt) (f:Addr) (fd:FuncData):Prop where
  ex:∃(oc:Value) (od:Option Addr) (kV doc pm:Value) (an:Option Addr) (k_ ct:Value) (FX:Array (Option Value)),
    fd=PySem.W.fnOf x qual (jH st) (h_ st) (ax st) .none kV doc pm an k_ ct/\K.lookup f=some ⟨oc,od,.func fd,FX⟩/\PySem.W.codeIn K k_ qual=true
  kp:PySem.W.keepIn K (.ref f)=true
section
variable {P:Program} {w:World} {K:PySem.W.Frag} {mg:Str->Option Value} {base:Heap}
def gE.ok{x qual:Str}{st:Stmt}{f:Addr}{fd:FuncData}{N ps:List Str}{k:Nat}{sp:Sp}(F:gE K x qual st f fd)(S:aM N ps (ax st))(len:∀vs H Q E,sp vs H Q E->vs.length=ps.length)(pD:∀(k_:Value)(A:Around)(outer:List Env)(s:Shared)(H:Hp)(vs:List V)(Q:VK)(E:XK),eY k (A.deeper (envOfC qual (ax st) s.heap.objs.size f k_))->sp vs H Q E->∃t,Cd (AG bu P w K mg base N qual (ax st) f k_ A outer s H E).QZ (h_ st) t/\t {nx:=λ_ H'=>Q .dQ H',rt:=Q} (start N vs) H):ay P w K mg base bu (k+1) f fd ps sp:=by obtain⟨oc,od,kV,doc,pm,an,k_,ct,FX,rfl,lk,As⟩:=F.ex;refine QH lk As S len λA outer s H vs Q E hr F_=>?_;obtain⟨t,h,q⟩:=pD k_ A outer s H vs Q E hr F_;exact⟨t,h.QZ,q⟩
def gE.binds{x qual:Str}{st:Stmt}{f:Addr}{fd:FuncData}{ps:List Str}(F:gE K x qual st f fd)(h:∀(kV doc pm:Value)(an:Option Addr)(k_ ct:Value)(us:List Value),us.length=ps.length->bindArgs (PySem.W.fnOf x qual (jH st) (h_ st) (ax st) .none kV doc pm an k_ ct) ⟨us,[]⟩=pure (ps.zip us)):Binds K fd ps []:=by obtain⟨oc,od,kV,doc,pm,an,k_,ct,FX,rfl,lk,As⟩:=F.ex;exact .all (h kV doc pm an k_ ct)
def Lu{x qual:Str}{st:Stmt}{f:Addr}{oc:Value}{od an:Option Addr}{FX:Array (Option Value)}{kV doc pm k_ ct:Value}(l:K.lookup f=some ⟨oc,od,.func (PySem.W.fnOf x qual (jH st) (h_ st) (ax st) .none kV doc pm an k_ ct),FX⟩)(c:PySem.W.codeIn K k_ qual=true)(k:PySem.W.keepIn K (.ref f)=true):gE K x qual st f (PySem.W.fnOf x qual (jH st) (h_ st) (ax st) .none kV doc pm an k_ ct):=⟨⟨oc,od,kV,doc,pm,an,k_,ct,FX,rfl,l,c⟩,k⟩
end
def AO(hr:eY k A):A.units+1<cLine:=dX (Kr (by decide:1<=64) _) hr.units
def wZ(h:n<=1000):n<sizeLine:=dX h (by decide)
section
variable {X:Cx}
def pv(i:Nat)(hN:X.N[i]?=some x:=by rfl)(hv:UI X.env.scope x:=by first|exact Or.inl rfl|exact Or.inr (Or.inl rfl)|exact Or.inr (Or.inr rfl))(hd:(x==("__debug__":Str))=false:=by decide)(As:(x==("__classdict__":Str))=false:=by decide):PE X (.Name x pos) (cJ i):=SW hN hv hd As
end
def gM{A B:Prop}(h:B):if false=true then A else B:=by rw[au e_];exact h
def eV{A B:Prop}(h:A):if true=true then A else B:=by rw[aw rfl];exact h
def eu{c A B:Prop}[Decidable c](h1:c->A)(h2:¬c->B):if c then A else B:=by
 by_cases h:c;.rw[aw h];exact h1 h
 rw[au h];exact h2 h
def Xi{c A B:Prop}[Decidable c](hc:c)(h:B):if (!decide c)=true then A else B:=by rw[bq hc];exact gM h
def aY(H H':Hp):Prop:=∀b o,H b=some o->H' b=some o
def aY.refl(H:Hp):aY H H:=λ_ _ h=>h
def aY.trans(a:aY H H1)(b:aY H1 H2):aY H H2:=λc o h=>b c o (a c o h)
def aY.free(e:aY H H')(h:H' l=Option.none):H l=Option.none:=by cases q:H l with|none=>rfl|some o=>rw[e l o q]at h;cases h
def aY.seq{K:PySem.W.Frag}{H H':Hp}{a:Addr}{xs:List V}(e:aY H H')(h:bp K H a xs):bp K H' a xs:=by
 rcases h with(h|⟨o,h⟩)|h;.exact .inl (.inl (e _ _ h))
 .exact .inl (.inr ⟨o,e _ _ h⟩)
 exact .inr h
section
variable {κ:Type} [DecidableEq κ]
def LK{bc:List (κ×V)}{k:κ}(h:jh bc k=none):¬k∈bc.map (·.1):=by intro m;obtain⟨p,hp,e⟩:=br.mp m;have q:(bc.any λkv=>decide (kv.1=k))=true:=CQ.mpr ⟨p,hp,bq e⟩;rw[pN,h]at q;exact absurd q (by simp)
theorem Fk:∀{l:List κ}{k:κ},l.Nodup->¬k∈l->(l++[k]).Nodup
 |[],k,_,_=>by simp
 |a::r,k,h,hk=>by
  obtain⟨h1,h2⟩:=lj.mp h;show(a::(r++[k])).Nodup;refine lj.mpr ⟨λm=>?_,Fk h2 λm=>hk (bE.mpr (Or.inr m))⟩;rcases cO.mp m with q|q;.exact h1 q
  exact hk (bE.mpr (Or.inl (cW.mp q).symm))
end
def QB{α:Type}{l:List α}(hN:l.Nodup){i j:Nat}{x:α}(a:l[i]?=some x)(b:l[j]?=some x):i=j:=by obtain⟨h1,e1⟩:=fh.mp a;obtain⟨h2,e2⟩:=fh.mp b;exact(CU hN).mp (e1.trans e2.symm)
end L2
end
section
section
set_option maxHeartbeats 2000000
namespace L2
open PySem PySem.Spec PyProof.Rows
open PySem.W (WData Codec OpenSpec Well WellAll ReadsW ReadsAllW)
mutual
inductive Dw (K:PySem.W.Frag) (H:Hp):V->WData->Prop
  |dQ:Dw K H .dQ .none
  |bl (b:Bool):Dw K H (.bl b) (.bool b)
  |int (i:Int):Dw K H (.int i) (.int i)
  |str (x:Str):Dw K H (.str x) (.str x)
  |Ax (b:Array UInt8):Dw K H (.Ax b) (.bytes b.toList)
  |lst {a:Addr} {xs:List V} {ds:List WData}:bp K H a xs->lQ K H xs ds->Dw K H (.ref a) (.list ds)
  |tup {a:Addr} {xs:List V} {ds:List WData}:qb K H a xs->lQ K H xs ds->Dw K H (.ref a) (.tuple ds)
inductive lQ (K:PySem.W.Frag) (H:Hp):List V->List WData->Prop
  |nil:lQ K H [] []
  |cons {v:V} {vs:List V} {d:WData} {ds:List WData}:Dw K H v d->lQ K H vs ds->lQ K H (v::vs) (d::ds)
end
theorem FE{K:PySem.W.Frag}{H:Hp}:∀ns:List Int,lQ K H (ns.map V.int) (ns.map WData.int)|[]=>.nil|n::r=>.cons (.int n) (FE r)
theorem Fv{K:PySem.W.Frag}{H:Hp}:∀(ns:List Int)(xs:List V),lQ K H xs (ns.map WData.int)->xs=ns.map V.int|[],xs,h=>by cases h;rfl|n::r,xs,h=>by cases h with|cons h1 h2=>cases h1;rw[Fv r _ h2]<;>rfl
section
variable {P:Program} {w:World} {K:PySem.W.Frag} {H:Hp} {h:Heap} {R:PySem.W.WRecords} {cl:Str->Option Addr}
theorem SF(dg:lE P w H h)(KX:K.In h)(q:bp K H a xs):∃(b_:List Value)(o:Obj)(n:Nat),ck xs b_/\h.get? a=some o/\o.cls=.type "list"/\o.data=.seq b_.toArray n:=by
 rcases q with q|⟨o,b_,n,e,hc,_,hd,_,hv⟩;.obtain⟨_,b_,n,hv,e⟩:=(show eK P w H h a (.lst xs)from q.ok dg);exact⟨b_,_,n,hv,e,rfl,rfl⟩
 exact⟨b_.toList,o,n,hv,KX _ _ e,hc,by simp[hd]⟩
theorem SE(dg:lE P w H h)(KX:K.In h)(q:qb K H a xs):∃(b_:List Value)(o:Obj)(n:Nat),ck xs b_/\h.get? a=some o/\o.cls=.type "tuple"/\o.data=.seq b_.toArray n:=by
 rcases q with q|⟨o,b_,n,e,hc,hd,_,hv⟩;.obtain⟨_,b_,hv,o,e,hc,n,hd⟩:=(show eK P w H h a (.tup xs)from q.ok dg);exact⟨b_,o,n,hv,e,hc,hd⟩
 exact⟨b_.toList,o,n,hv,KX _ _ e,hc,by simp[hd]⟩
mutual
theorem Dw.reads(dg:lE P w H h)(KX:K.In h):∀(d:WData)(v:V)(u:Value),Dw K H v d->RelV v u->∃as,ReadsW R cl h u d as
 |.none,_,_,x,r=>by cases x;cases r;exact⟨_,ReadsW.none⟩
 |.bool b,_,_,x,r=>by cases x;cases r;exact⟨_,ReadsW.bool b⟩
 |.int i,_,_,x,r=>by cases x;obtain⟨t,rfl⟩:=r;exact⟨_,ReadsW.int i t⟩
 |.str s,_,_,x,r=>by cases x;obtain⟨t,rfl⟩:=r;exact⟨_,ReadsW.str s t⟩
 |.bytes b,_,_,x,r=>by cases x;obtain⟨t,rfl⟩:=r;exact⟨_,ReadsW.bytes _ t⟩
 |.list ds,_,_,x,r=>by cases x with|lst hs ha=>cases r;obtain⟨b_,o,n,rv,ho,hc,hd⟩:=SF dg KX hs;obtain⟨as,hr⟩:=Dw.readsAll dg KX ds _ b_ ha rv;exact⟨_,ReadsW.list ho hc hd hr⟩
 |.tuple ds,_,_,x,r=>by cases x with|tup hs ha=>cases r;obtain⟨b_,o,n,rv,ho,hc,hd⟩:=SE dg KX hs;obtain⟨as,hr⟩:=Dw.readsAll dg KX ds _ b_ ha rv;exact⟨_,ReadsW.tuple ho hc hd hr⟩
 |.float _,_,_,x,_=>by cases x
 |.dict _,_,_,x,_=>by cases x
 |.bytearray _,_,_,x,_=>by cases x
 |.set _,_,_,x,_=>by cases x
 |.frozenset _,_,_,x,_=>by cases x
 |.obj _ _,_,_,x,_=>by cases x
theorem Dw.readsAll(dg:lE P w H h)(KX:K.In h):∀(ds:List WData)(vs:List V)(us:List Value),lQ K H vs ds->ck vs us->∃as,ReadsAllW R cl h us ds as|[],_,_,x,r=>by cases x;cases r;exact⟨_,ReadsAllW.nil⟩|d::ds,_,_,x,r=>by cases x with|cons h1 h2=>cases r with|cons r1 r2=>obtain⟨as,q1⟩:=Dw.reads dg KX d _ _ h1 r1;obtain⟨bs,q2⟩:=Dw.readsAll dg KX ds _ _ h2 r2;exact⟨_,ReadsAllW.cons q1 q2⟩
end
end
mutual
def Et:WData->Bool|.none=>true|.bool _=>true|.int _=>true|.str _=>true|.bytes _=>true|.list xs=>rN xs|.tuple xs=>rN xs|_=>false
def rN:List WData->Bool|[]=>true|x::r=>Et x&&rN r
end
theorem Bn{α:Type}{f:α->WData}(h:∀a,Et (f a)=true):∀l:List α,rN (l.map f)=true|[]=>rfl|x::r=>by show(Et (f x)&&rN (r.map f))=true;rw[h x,Bn h r]<;>rfl
theorem lX:∀(c:Codec)(a:c.denote),Et (c.enc a)=true|.unit,_=>rfl|.bool,_=>rfl|.int _ _,_=>rfl|.nat _ _,_=>rfl|.u8,_=>rfl|.bytes _ _,_=>rfl|.text _ _ _ _,_=>rfl|.list _ _ c,a=>Bn (λx=>lX c x) a|.pair c d,a=>by show(Et (c.enc a.1)&&(Et (d.enc a.2)&&true))=true;rw[lX c a.1,lX d a.2]<;>rfl|.triple c d e,a=>by show(Et (c.enc a.1)&&(Et (d.enc a.2.1)&&(Et (e.enc a.2.2)&&true)))=true;rw[lX c a.1,lX d a.2.1,lX e a.2.2]<;>rfl|.option c,none=>rfl|.option c,some x=>lX c x
theorem xf:∀(cs:List Codec)(a:Codec.denoteAll cs),rN (Codec.encAll cs a)=true|[],_=>rfl|c::cs,a=>by show(Et (c.enc a.1)&&rN (Codec.encAll cs a.2))=true;rw[lX c a.1,xf cs a.2]<;>rfl
theorem oT:∀{xs:List WData}{d:WData},d∈xs->d.weight<=WData.weightAll xs
 |[],d,h=>absurd h (by simp)
 |x::r,d,h=>by
  show d.weight<=x.weight+1+WData.weightAll r;rcases bE.mp h with e|m;.rw[e];omega
  have z:=oT m;omega
def toV:Value->V|.none=>.dQ|.bool b=>.bl b|.int i _=>.int i|.str x _=>.str x|.bytes b _=>.Ax b|.ref a=>.ref a|_=>.dQ
def Gj(A:List Addr):Value->Prop|.none=>True|.bool _=>True|.int _ _=>True|.str _ _=>True|.bytes _ _=>True|.ref a=>a∈A|_=>False
theorem Gj.mono(h:∀a∈A,a∈B):∀{u:Value},Gj A u->Gj B u:=fun {u} x=>by cases u with|ref a=>exact h a x|none=>trivial|bool b=>trivial|int i t=>trivial|str s t=>trivial|bytes b t=>trivial|_=>exact False.elim x
theorem LX(x:Gj A u):RelV (toV u) u:=by cases u with|ref a=>rfl|none=>rfl|bool b=>rfl|int i t=>exact⟨t,rfl⟩|str s t=>exact⟨t,rfl⟩|bytes b t=>exact⟨t,rfl⟩|_=>exact False.elim x
theorem jW:∀{vs:List Value},(∀u∈vs,Gj A u)->ck (vs.map toV) vs|[],_=>.nil|u::r,h=>.cons (LX (h u (cF ..))) (jW λx hx=>h x (dR _ hx))
def lC(h:Heap)(A:List Addr)(a:Addr):Prop:=∃vs:List Value,vs.length<=sizeLine/\(∀u∈vs,Gj A u)/\(h.get? a=some {cls:=.type "list",data:=.seq vs.toArray}\/h.get? a=some {cls:=.type "tuple",data:=.seq vs.toArray})
theorem lC.mono(k:∀a∈A,a∈B)(x:lC h A a):lC h B a:=by obtain⟨vs,h1,h2,h3⟩:=x;exact⟨vs,h1,λu hu=>(h2 u hu).mono k,h3⟩
theorem jK:∀{vs:List Value}{ds:List WData},WellAll P h vs ds->vs.length=ds.length|_,_,.nil=>rfl|_,_,.cons _ b=>by show _+1=_+1;rw[jK b]
theorem wV(x:Well P h v (.list ds)):∃(a:Addr)(vs:List Value),v=.ref a/\h.get? a=some {cls:=.type "list",data:=.seq vs.toArray}/\WellAll P h vs ds:=by cases x with|list ho lH=>exact⟨_,_,rfl,ho,lH⟩
theorem vx(x:Well P h v (.tuple ds)):∃(a:Addr)(vs:List Value),v=.ref a/\h.get? a=some {cls:=.type "tuple",data:=.seq vs.toArray}/\WellAll P h vs ds:=by cases x with|tuple ho lH=>exact⟨_,_,rfl,ho,lH⟩
theorem wW(x:WellAll P h us (d::ds)):∃(v:Value)(vs:List Value),us=v::vs/\Well P h v d/\WellAll P h vs ds:=by cases x with|cons a b=>exact⟨_,_,rfl,a,b⟩
theorem Fo(h:n<=1048576):n<=sizeLine:=cB h (by decide)
section
variable {P:Params} {h:Heap}
mutual
theorem M0:∀(d:WData)(v:Value),Well P h v d->Et d=true->d.weight<=1048576->∃A:List Addr,Gj A v/\∀a∈A,lC h A a
 |.none,_,x,_,_=>by cases x;exact⟨[],trivial,λa m=>absurd m (by simp)⟩
 |.bool b,_,x,_,_=>by cases x;exact⟨[],trivial,λa m=>absurd m (by simp)⟩
 |.int i,_,x,_,_=>by cases x;exact⟨[],trivial,λa m=>absurd m (by simp)⟩
 |.str s,_,x,_,_=>by cases x;exact⟨[],trivial,λa m=>absurd m (by simp)⟩
 |.bytes b,_,x,_,_=>by cases x;exact⟨[],trivial,λa m=>absurd m (by simp)⟩
 |.list ds,_,x,p,z=>by
  obtain⟨a,vs,rfl,ho,lH⟩:=wV x;have z2:WData.weightAll ds<=1048576:=z;obtain⟨A,h1,h2⟩:=pW ds _ lH p λd hd=>cB (oT hd) z2;have k:∀b∈A,b∈a::A:=λb hb=>dR _ hb;refine⟨a::A,cF ..,λb hb=>?_⟩;rcases bE.mp hb with e|m;.rw[e];exact⟨vs,Fo (by rw[jK lH];exact cB (K4 ds) z2),λu hu=>(h1 u hu).mono k,.inl ho⟩
  exact(h2 b m).mono k
 |.tuple ds,_,x,p,z=>by
  obtain⟨a,vs,rfl,ho,lH⟩:=vx x;have z2:WData.weightAll ds<=1048576:=z;obtain⟨A,h1,h2⟩:=pW ds _ lH p λd hd=>cB (oT hd) z2;have k:∀b∈A,b∈a::A:=λb hb=>dR _ hb;refine⟨a::A,cF ..,λb hb=>?_⟩;rcases bE.mp hb with e|m;.rw[e];exact⟨vs,Fo (by rw[jK lH];exact cB (K4 ds) z2),λu hu=>(h1 u hu).mono k,.inr ho⟩
  exact(h2 b m).mono k
 |.float _,_,_,p,_=>Bool.noConfusion (show false=true from p)
 |.dict _,_,_,p,_=>Bool.noConfusion (show false=true from p)
 |.bytearray _,_,_,p,_=>Bool.noConfusion (show false=true from p)
 |.set _,_,_,p,_=>Bool.noConfusion (show false=true from p)
 |.frozenset _,_,_,p,_=>Bool.noConfusion (show false=true from p)
 |.obj _ _,_,_,p,_=>Bool.noConfusion (show false=true from p)
theorem pW:∀(ds:List WData)(vs:List Value),WellAll P h vs ds->rN ds=true->(∀d∈ds,d.weight<=1048576)->∃A:List Addr,(∀u∈vs,Gj A u)/\∀a∈A,lC h A a
 |[],_,x,_,_=>by cases x;exact⟨[],λu m=>absurd m (by simp),λa m=>absurd m (by simp)⟩
 |d::ds,_,x,p,z=>by
  obtain⟨v,vs,rfl,x1,x2⟩:=wW x;have q:Et d=true/\rN ds=true:=Kt.mp p;obtain⟨A,a1,a2⟩:=M0 d v x1 q.1 (z d (cF ..));obtain⟨B,b1,b2⟩:=pW ds vs x2 q.2 λe he=>z e (dR _ he);have kA:∀b∈A,b∈A++B:=λb hb=>cO.mpr (.inl hb);have kB:∀b∈B,b∈A++B:=λb hb=>cO.mpr (.inr hb);refine⟨A++B,λu hu=>?_,λb hb=>?_⟩
  .rcases bE.mp hu with e|m;.rw[e];exact a1.mono kA
   exact(b1 u m).mono kB
  rcases cO.mp hb with m|m;.exact(a2 b m).mono kA
  exact(b2 b m).mono kB
end
end
def Oc(o:Obj):Option HO:=match o.data with|.seq vs _=>if (o.cls==Value.type "list")=true then some (.ke o (.lst (vs.toList.map toV)))else some (.ke o (.tup (vs.toList.map toV)))|_=>none
def kh(K:PySem.W.Frag)(h:Heap)(A:List Addr):Hp:=λb=>if b∈A then(if (K.lookup b).isNone=true then(h.get? b).bind Oc else none)else none
def QO(H:Hp):Prop:=∀b,H b=none\/∃o u,H b=some (.ke o u)
theorem BE(vs:List Value):Oc {cls:=.type "list",data:=.seq vs.toArray}=some (.ke {cls:=.type "list",data:=.seq vs.toArray} (.lst (vs.map toV))):=by show(if (Value.type "list"==Value.type "list")=true then some (HO.ke {cls:=.type "list",data:=.seq vs.toArray} (.lst (vs.toArray.toList.map toV)))else some (HO.ke {cls:=.type "list",data:=.seq vs.toArray} (.tup (vs.toArray.toList.map toV))))=_;rw[aw (um _)]
theorem BD(vs:List Value):Oc {cls:=.type "tuple",data:=.seq vs.toArray}=some (.ke {cls:=.type "tuple",data:=.seq vs.toArray} (.tup (vs.map toV))):=by show(if (Value.type "tuple"==Value.type "list")=true then some (HO.ke {cls:=.type "tuple",data:=.seq vs.toArray} (.lst (vs.toArray.toList.map toV)))else some (HO.ke {cls:=.type "tuple",data:=.seq vs.toArray} (.tup (vs.toArray.toList.map toV))))=_;rw[au (by decide)]
section
variable {P:Program} {w:World} {K:PySem.W.Frag} {h:Heap} {A:List Addr}
theorem sM(hb:b∈A)(hk:K.lookup b=none)(e:h.get? b=some o):kh K h A b=Oc o:=by unfold kh;rw[aw hb,hk,aw (show(none:Option Obj).isNone=true from rfl),e]<;>rfl
theorem Pe(q:kh K h A b=some u):b∈A/\K.lookup b=none:=by
 unfold kh at q;by_cases hb:b∈A;.rw[aw hb]at q;cases hk:K.lookup b with|none=>exact⟨hb,rfl⟩|some o=>rw[hk,au (by simp)]at q;cases q
 rw[au hb]at q;cases q
theorem sL(ar:∀a∈A,lC h A a)(q:kh K h A b=some u):K.lookup b=none/\∃vs:List Value,vs.length<=sizeLine/\(∀u∈vs,Gj A u)/\((h.get? b=some {cls:=.type "list",data:=.seq vs.toArray}/\u=.ke {cls:=.type "list",data:=.seq vs.toArray} (.lst (vs.map toV)))\/(h.get? b=some {cls:=.type "tuple",data:=.seq vs.toArray}/\u=.ke {cls:=.type "tuple",data:=.seq vs.toArray} (.tup (vs.map toV)))):=by
 obtain⟨hb,hk⟩:=Pe q;obtain⟨vs,h1,h2,h3⟩:=ar b hb;refine⟨hk,vs,h1,h2,?_⟩;rcases h3 with e|e;.rw[sM hb hk e,BE]at q;exact .inl ⟨e,(bZ q).symm⟩
 rw[sM hb hk e,BD]at q;exact .inr ⟨e,(bZ q).symm⟩
theorem HZ(ar:∀a∈A,lC h A a):QO (kh K h A):=λb=>by
 cases q:kh K h A b with
 |none=>exact .inl rfl
 |some u=>
  obtain⟨_,vs,_,_,⟨_,e⟩|⟨_,e⟩⟩:=sL ar q;.exact .inr ⟨_,_,by rw[e]⟩
  exact .inr ⟨_,_,by rw[e]⟩
theorem P_(ar:∀a∈A,lC h A a):lE P w (kh K h A) h:=λb u q=>by
 obtain⟨_,vs,h1,h2,⟨e,rfl⟩|⟨e,rfl⟩⟩:=sL ar q;.exact⟨e,by rw[aE];exact h1,vs,_,jW h2,e⟩
 exact⟨e,by rw[aE];exact h1,vs,jW h2,_,e,rfl,_,rfl⟩
theorem se{vs us:List Value}(e:(some {cls:=c,data:=.seq vs.toArray}:Option Obj)=some {cls:=c',data:=.seq us.toArray}):c=c'/\vs=us:=by
 have e1:=bZ e;have e2:c=c':=congrArg Obj.cls e1;have e3:Data.seq vs.toArray=Data.seq us.toArray:=congrArg Obj.data e1;injection e3 with e4
 refine⟨e2,?_⟩;have e5:=congrArg Array.toList e4;simpa using e5
theorem abo(KX:K.In h)(ar:∀a∈A,lC h A a){vs:List Value}(ha:a∈A)(e:h.get? a=some {cls:=.type "list",data:=.seq vs.toArray}):(∀u∈vs,Gj A u)/\bp K (kh K h A) a (vs.map toV):=by
 obtain⟨us,h1,h2,h3⟩:=ar a ha;have hu:us=vs:=by
  rcases h3 with q|q;.rw[e]at q;exact(se q).2.symm
  rw[e]at q;exact absurd (Value.type.inj (se q).1) (by decide)
 subst hu;refine⟨h2,?_⟩;cases hk:K.lookup a with|none=>exact .inl (.inr ⟨_,by rw[sM ha hk e,BE]⟩)|some o=>have e2:=KX a o hk;rw[e]at e2;obtain rfl:=bZ e2;exact .inr ⟨_,us.toArray,_,hk,rfl,rfl,rfl,by rw[dt];exact h1,by simpa using jW h2⟩
theorem abn(KX:K.In h)(ar:∀a∈A,lC h A a){vs:List Value}(ha:a∈A)(e:h.get? a=some {cls:=.type "tuple",data:=.seq vs.toArray}):(∀u∈vs,Gj A u)/\qb K (kh K h A) a (vs.map toV):=by
 obtain⟨us,h1,h2,h3⟩:=ar a ha;have hu:us=vs:=by
  rcases h3 with q|q;.rw[e]at q;exact absurd (Value.type.inj (se q).1) (by decide)
  rw[e]at q;exact(se q).2.symm
 subst hu;refine⟨h2,?_⟩;cases hk:K.lookup a with|none=>exact .inl (.inr ⟨_,by rw[sM ha hk e,BD]⟩)|some o=>have e2:=KX a o hk;rw[e]at e2;obtain rfl:=bZ e2;exact .inr ⟨_,us.toArray,_,hk,rfl,rfl,by rw[dt];exact h1,by simpa using jW h2⟩
mutual
theorem Tw{Pm:Params}(KX:K.In h)(ar:∀a∈A,lC h A a):∀(d:WData)(v:Value),Well Pm h v d->Et d=true->Gj A v->Dw K (kh K h A) (toV v) d|.none,_,x,_,_=>by cases x;exact .dQ|.bool b,_,x,_,_=>by cases x;exact .bl b|.int i,_,x,_,_=>by cases x;exact .int i|.str s,_,x,_,_=>by cases x;exact .str s|.bytes b,_,x,_,_=>by cases x;have z:=Dw.Ax (K:=K) (H:=kh K h A) b.toArray;exact z|.list ds,_,x,p,hu=>by obtain⟨a,vs,rfl,ho,lH⟩:=wV x;obtain⟨h2,hs⟩:=abo KX ar hu ho;exact .lst hs (zj KX ar ds _ lH p h2)|.tuple ds,_,x,p,hu=>by obtain⟨a,vs,rfl,ho,lH⟩:=vx x;obtain⟨h2,hs⟩:=abn KX ar hu ho;exact .tup hs (zj KX ar ds _ lH p h2)|.float _,_,_,p,_=>Bool.noConfusion (show false=true from p)|.dict _,_,_,p,_=>Bool.noConfusion (show false=true from p)|.bytearray _,_,_,p,_=>Bool.noConfusion (show false=true from p)|.set _,_,_,p,_=>Bool.noConfusion (show false=true from p)|.frozenset _,_,_,p,_=>Bool.noConfusion (show false=true from p)|.obj _ _,_,_,p,_=>Bool.noConfusion (show false=true from p)
theorem zj(KX:K.In h)(ar:∀a∈A,lC h A a):∀(ds:List WData)(vs:List Value),WellAll Pm h vs ds->rN ds=true->(∀u∈vs,Gj A u)->lQ K (kh K h A) (vs.map toV) ds|[],_,x,_,_=>by cases x;exact .nil|d::ds,_,x,p,hu=>by obtain⟨v,vs,rfl,x1,x2⟩:=wW x;have q:Et d=true/\rN ds=true:=Kt.mp p;exact .cons (Tw KX ar d v x1 q.1 (hu _ (cF ..))) (zj KX ar ds vs x2 q.2 λu m=>hu u (dR _ m))
end
end
theorem vO(h:WData.layableAll ds=true):∀d∈ds,d.weight<=1048576:=λd hd=>(PySem.W.layableW_iff.mp (jR.mp h d hd)).2.2
theorem vH:∀(cs:List Codec)(a:Codec.denoteAll cs),(Codec.encAll cs a).length=cs.length|[],_=>rfl|c::cs,a=>by show(Codec.encAll cs a.2).length+1=cs.length+1;rw[vH cs a.2]
end L2
end
section
namespace Flow
def S:Nat->(Nat->Int)->Int|0,_=>0|n+1,g=>S n g+g n
def cn(e:∀i,i<n->g i=h i):S n g=S n h:=by induction n with|zero=>rfl|succ n ih=>show S n g+g n=S n h+h n;rw[ih (λi hi=>e i (by omega)),e n (by omega)]
def lP(n:Nat)(g h:Nat->Int):S n (λi=>g i+h i)=S n g+S n h:=by induction n with|zero=>rfl|succ n ih=>show S n (λi=>g i+h i)+(g n+h n)=(S n g+g n)+(S n h+h n);rw[ih];omega
def tQ(n:Nat)(k:Int)(g:Nat->Int):S n (λi=>k*g i)=k*S n g:=by induction n with|zero=>exact(tX k).symm|succ n ih=>show S n (λi=>k*g i)+k*g n=k*(S n g+g n);rw[ih,ki]
def qD(n:Nat):S n (λ_=>0)=0:=by induction n with|zero=>rfl|succ n ih=>show S n (λ_=>0)+0=0;rw[ih];rfl
def So(e:∀i,i<n->g i<=h i):S n g<=S n h:=by induction n with|zero=>exact oG _|succ n ih=>show S n g+g n<=S n h+h n;have h1:=ih (λi hi=>e i (by omega));have h2:=e n (by omega);omega
def wR(s:Nat)(v:Int)(hs:s<n):S n (λi=>if i=s then v else 0)=v:=by
 induction n with
 |zero=>omega
 |succ n ih=>
  show S n (λi=>if i=s then v else 0)+(if n=s then v else 0)=v;by_cases h:n=s;.rw[aw h,cn (h:=λ_=>0) (λi hi=>au (by omega)),qD];omega
  rw[au h,ih (by omega)];omega
def Qb(n:Nat)(v:Int):S n (λ_=>v)=n*v:=by
 induction n with
 |zero=>show(0:Int)=((0:Nat):Int)*v;simp
 |succ n ih=>
  show S n (λ_=>v)+v=((n+1:Nat):Int)*v;rw[ih];have:((n+1:Nat):Int)*v=(n:Int)*v+v:=by rw[JQ,ym];simp
  omega
def FT(s:Nat)(k:Int)(hs:s<n)(e:∀i,i<n->g i<=h i)(es:g s+k<=h s):S n g+k<=S n h:=by
 induction n with
 |zero=>omega
 |succ n ih=>
  show S n g+g n+k<=S n h+h n;by_cases q:s=n;.subst q;have:=So (n:=s) (g:=g) (h:=h) (λi hi=>e i (by omega));omega
  have h1:=ih (by omega) (λi hi=>e i (by omega));have h2:=e n (by omega);omega
structure Net where
  m:Nat
  tl:Nat->Nat
  hd:Nat->Nat
  lo:Nat->Int
  hi:Nat->Option Int
abbrev Fl:=Nat->Int
abbrev iV:=Nat×Bool
def AI(N:Net)(f:Fl):Prop:=∀c:Nat->Int,S N.m (λe=>(c (N.hd e)-c (N.tl e))*f e)=0
def Under(x:Int)(o:Option Int):Prop:=∀h,o=some h->x<=h
structure a_ (N:Net) (f:Fl):Prop where
  iE:AI N f
  lo:∀e,e<N.m->N.lo e<=f e
  hi:∀e,e<N.m->Under (f e) (N.hi e)
def src(N:Net)(a:iV):Nat:=if a.2=true then N.tl a.1 else N.hd a.1
def dst(N:Net)(a:iV):Nat:=if a.2=true then N.hd a.1 else N.tl a.1
def sg(b:Bool):Int:=if b=true then 1 else -1
def room(N:Net)(f:Fl)(a:iV):Option Int:=if a.2=true then(N.hi a.1).map (λh=>h-f a.1)else some (f a.1-N.lo a.1)
def yd(N:Net)(f:Fl)(a:iV):Prop:=∀r,room N f a=some r->0<r
def Ai(N:Net)(f:Fl)(s:Nat)(a:iV):Prop:=a.1<N.m/\a.1≠s/\yd N f a
def Way(N:Net)(f:Fl)(s:Nat)(u:Nat):List iV->Nat->Prop|[],v=>u=v|a::L,v=>Ai N f s a/\dst N a=v/\Way N f s u L (src N a)
def cf:List iV->Nat->Int|[],_=>0|a::L,e=>(if e=a.1 then sg a.2 else 0)+cf L e
def push(f:Fl)(L:List iV)(k:Int):Fl:=λe=>f e+k*cf L e
def Lb(N:Net)(a:iV)(c:Nat->Int):(c (N.hd a.1)-c (N.tl a.1))*sg a.2=c (dst N a)-c (src N a):=by
 obtain⟨e,b⟩:=a;cases b;.show(c (N.hd e)-c (N.tl e))*(-1)=c (N.tl e)-c (N.hd e);omega
 show(c (N.hd e)-c (N.tl e))*1=c (N.hd e)-c (N.tl e);omega
def QM(N:Net)(a:iV)(c:Nat->Int)(h:a.1<N.m):S N.m (λe=>(c (N.hd e)-c (N.tl e))*(if e=a.1 then sg a.2 else 0))=c (dst N a)-c (src N a):=by
 rw[<-Lb,<-wR (n:=N.m) a.1 ((c (N.hd a.1)-c (N.tl a.1))*sg a.2) h];refine cn λi _=>?_;by_cases q:i=a.1;.rw[aw q,aw q,q]
 rw[au q,au q,tX]
theorem K6(c:Nat->Int):∀{L:List iV}{v:Nat},Way N f s u L v->S N.m (λe=>(c (N.hd e)-c (N.tl e))*cf L e)=c v-c u|[],v,h=>by have h:u=v:=h;subst h;rw[cn (g:=λe=>(c (N.hd e)-c (N.tl e))*cf [] e) (h:=λ_=>0) (λi _=>tX _),qD];omega|a::L,v,h=>by obtain⟨ha,hd,hw⟩:=h;have ih:=K6 c hw;rw[cn (g:=λe=>(c (N.hd e)-c (N.tl e))*cf (a::L) e) (h:=λe=>(c (N.hd e)-c (N.tl e))*(if e=a.1 then sg a.2 else 0)+(c (N.hd e)-c (N.tl e))*cf L e) (λi _=>ki _ _ _),lP,ih,QM N a c ha.1,hd];omega
def B3(k:Int)(hc:AI N f)(ha:a.1<N.m)(hw:Way N f a.1 (dst N a) L (src N a)):AI N (push f (a::L) k):=by
 intro c;have h1:=K6 c hw;have h2:=QM N a c ha;have h3:=hc c;have e:∀i,i<N.m->(c (N.hd i)-c (N.tl i))*push f (a::L) k i=(c (N.hd i)-c (N.tl i))*f i+(k*((c (N.hd i)-c (N.tl i))*(if i=a.1 then sg a.2 else 0))+k*((c (N.hd i)-c (N.tl i))*cf L i)):=by intro i _;show(c (N.hd i)-c (N.tl i))*(f i+k*((if i=a.1 then sg a.2 else 0)+cf L i))=_;rw[ki,ki,ki,Kd,Kd _ k (cf L i)]
 rw[cn e,lP,lP,tQ,tQ,h1,h2,h3,<-ki];have:c (dst N a)-c (src N a)+(c (src N a)-c (dst N a))=0:=by omega
 rw[this,tX];rfl
def A6(ha:Ai N f s a)(hw:Way N f s u L (src N a)):Way N f s u (a::L) (dst N a):=⟨ha,rfl,hw⟩
structure Within (N:Net) (s:Nat) (f:Fl):Prop where
  lo:∀e,e<N.m->e≠s->N.lo e<=f e
  hi:∀e,e<N.m->e≠s->Under (f e) (N.hi e)
def a_.within(h:a_ N f)(s:Nat):Within N s f:=⟨λe he _=>h.lo e he,λe he _=>h.hi e he⟩
def Oz(h:¬yd N f (e,true)):∃x,N.hi e=some x/\x<=f e:=by cases q:N.hi e with|none=>exfalso;apply h;intro r hr;simp[room,q]at hr|some x=>refine⟨x,rfl,?_⟩;apply ly;intro hn;apply h;intro r hr;simp[room,q]at hr;omega
def GZ(h:¬yd N f (e,false)):f e<=N.lo e:=by apply ly;intro hn;apply h;intro r hr;simp[room]at hr;omega
def qv(ha:a.1<N.m)(hf:AI N f)(hfw:Within N a.1 f)(hg:AI N g)(hgw:Within N a.1 g)(no:¬∃L,Way N f a.1 (dst N a) L (src N a)):sg a.2*g a.1<=sg a.2*f a.1:=by
 classical
 let R:Nat->Prop:=λv=>∃L,Way N f a.1 (dst N a) L v;let c:Nat->Int:=λv=>if R v then 1 else 0;have c1:∀v,R v->c v=1:=λv h=>aw h;have c0:∀v,¬R v->c v=0:=λv h=>au h;have h1:=hf c;have h2:=hg c;have rd:R (dst N a):=⟨[],rfl⟩;have closed:∀b,Ai N f a.1 b->R (src N b)->R (dst N b):=λb hb⟨L,hL⟩=>⟨b::L,A6 hb hL⟩;have key:∀e,e<N.m->e≠a.1->(c (N.hd e)-c (N.tl e))*f e<=(c (N.hd e)-c (N.tl e))*g e:=by
  intro e he xX;by_cases q1:R (N.hd e)
  .by_cases q2:R (N.tl e);.rw[c1 _ q1,c1 _ q2];simp
   rw[c1 _ q1,c0 _ q2];have:¬yd N f (e,false):=λho=>q2 (closed (e,false) ⟨he,xX,ho⟩ q1);have h3:=GZ this;have h4:=hgw.lo e he xX;omega
  by_cases q2:R (N.tl e);.rw[c0 _ q1,c1 _ q2];have:¬yd N f (e,true):=λho=>q1 (closed (e,true) ⟨he,xX,ho⟩ q2);obtain⟨x,hx,h3⟩:=Oz this;have h4:=hgw.hi e he xX x hx;omega
  rw[c0 _ q1,c0 _ q2];simp
 have ec:(c (N.hd a.1)-c (N.tl a.1))*sg a.2=1:=by rw[Lb,c1 _ rd,c0 _ no];rfl
 apply ly;intro ij;have h5:(c (N.hd a.1)-c (N.tl a.1))*f a.1+1<=(c (N.hd a.1)-c (N.tl a.1))*g a.1:=by
  obtain⟨e,b⟩:=a;cases b
  .have:c (N.hd e)-c (N.tl e)=-1:=by simp[sg]at ec;omega
   simp only[sg]at ij;show(c (N.hd e)-c (N.tl e))*f e+1<=(c (N.hd e)-c (N.tl e))*g e;rw[this];simp at ij;omega
  have:c (N.hd e)-c (N.tl e)=1:=by simp[sg]at ec;omega
  simp only[sg]at ij;show(c (N.hd e)-c (N.tl e))*f e+1<=(c (N.hd e)-c (N.tl e))*g e;rw[this];simp at ij;omega
 have h6:=FT (n:=N.m) (g:=λe=>(c (N.hd e)-c (N.tl e))*f e) (h:=λe=>(c (N.hd e)-c (N.tl e))*g e) a.1 1 ha (λi hi=>by
   by_cases q:i=a.1;.subst q;show(c (N.hd a.1)-c (N.tl a.1))*f a.1<=(c (N.hd a.1)-c (N.tl a.1))*g a.1;omega
   exact key i hi q) h5
 omega
section
open Classical in
noncomputable def first(P:Nat->Prop):Nat->Nat
 |0=>0
 |C+1=>if P 0 then 0 else first (λn=>P (n+1)) C+1
end
theorem BK:∀(C:Nat)(P:Nat->Prop),first P C<=C
 |0,_=>bx _
 |C+1,P=>by
  unfold first
  split;.omega
  have:=BK C (λn=>P (n+1));omega
theorem first_is:∀(C:Nat)(P:Nat->Prop),first P C<C->P (first P C)
 |0,_,h=>by omega
 |C+1,P,h=>by
  unfold first at h⊢
  split;.assumption
  rename_i q;rw[au q]at h;exact first_is C (λn=>P (n+1)) (by omega)
theorem xG:∀(C:Nat)(P:Nat->Prop)(n:Nat),P n->first P C<=n
 |0,_,_,_=>dW _
 |C+1,P,n,h=>by
  unfold first
  split;.omega
  rename_i q;cases n with|zero=>exact absurd h q|succ k=>have:=xG C (λn=>P (n+1)) k h;omega
noncomputable def dist(N:Net)(f:Fl)(s u C v:Nat):Nat:=first (λn=>∃L,Way N f s u L v/\L.length=n) C
section
variable {N:Net} {f:Fl} {s u C:Nat}
def pJ(v:Nat):dist N f s u C v<=C:=BK _ _
def jw(h:Way N f s u L v):dist N f s u C v<=L.length:=xG _ _ _ ⟨L,h,rfl⟩
def En:dist N f s u C u=0:=by have:=jw (C:=C) (show Way N f s u [] u from rfl);simpa using this
def pV(h:Ai N f s a):dist N f s u C (dst N a)<=dist N f s u C (src N a)+1:=by
 by_cases q:dist N f s u C (src N a)<C;.obtain⟨L,hw,hl⟩:=first_is _ _ q;have:=jw (C:=C) (A6 h hw);rw[dr,hl]at this;exact this
 have:=pJ (N:=N) (f:=f) (s:=s) (u:=u) (C:=C) (dst N a);omega
theorem xq{l:Nat->Nat}(h0:l u=0)(ha:∀a,Ai N f s a->l (dst N a)<=l (src N a)+1):∀{L:List iV}{v:Nat},Way N f s u L v->l v<=L.length|[],v,h=>by have h:u=v:=h;subst h;omega|a::L,v,⟨h1,h2,h3⟩=>by have:=xq h0 ha h3;have:=ha a h1;rw[h2]at this;rw[dr];omega
def MA{l:Nat->Nat}(h0:l u=0)(ha:∀a,Ai N f s a->l (dst N a)<=l (src N a)+1)(hC:∀v,l v<=C)(v:Nat):l v<=dist N f s u C v:=by
 by_cases q:dist N f s u C v<C;.obtain⟨L,hw,hl⟩:=first_is _ _ q;have:=xq h0 ha hw;rw[hl]at this;exact this
 have:=hC v;omega
theorem rq:∀{L:List iV}{v:Nat},Way N f s u L v->dist N f s u C v=L.length->∀a,a∈L->dist N f s u C (dst N a)=dist N f s u C (src N a)+1
 |[],_,_,_,_,h=>by cases h
 |b::L,v,⟨h1,h2,h3⟩,hd,a,h=>by
  have k1:=jw (C:=C) h3;have k2:=pV (u:=u) (C:=C) h1;rw[dr]at hd;rw[h2]at k2;have k3:dist N f s u C (src N b)=L.length:=by omega
  cases h with|head=>rw[h2];omega|tail _ h=>exact rq h3 k3 a h
theorem vA:∀{L:List iV}{v:Nat},Way N f s u L v->dist N f s u C v=L.length->∀a,a∈L->dist N f s u C (dst N a)<=L.length/\dist N f s u C (src N a)<dist N f s u C (dst N a)
 |[],_,_,_,_,h=>by cases h
 |b::L,v,⟨h1,h2,h3⟩,hd,a,h=>by
  have k1:=jw (C:=C) h3;have k2:=pV (u:=u) (C:=C) h1;rw[dr]at hd;rw[h2]at k2;have k3:dist N f s u C (src N b)=L.length:=by omega
  rw[dr];cases h with|head=>rw[h2];omega|tail _ h=>have:=vA h3 k3 a h;omega
theorem kJ:∀{L:List iV}{v:Nat},Way N f s u L v->dist N f s u C v=L.length->(L.map (·.1)).Nodup
 |[],_,_,_=>CD
 |b::L,v,⟨h1,h2,h3⟩,hd=>by
  have k1:=jw (C:=C) h3;have k2:=pV (u:=u) (C:=C) h1;rw[dr]at hd;rw[h2]at k2;have k3:dist N f s u C (src N b)=L.length:=by omega
  rw[cV,lj];refine⟨?_,kJ h3 k3⟩;intro hm;rw[br]at hm;obtain⟨a,ha,e⟩:=hm;have k4:=vA h3 k3 a ha;obtain⟨ea,wa⟩:=a;obtain⟨eb,wb⟩:=b;have e:ea=eb:=e;subst e;rw[<-h2]at hd;cases wa<;>cases wb<;>simp[src,dst]at k4 k3 hd<;>omega
theorem m5:∀{L:List iV}{v:Nat},Way N f s u L v->∀a,a∈L->Ai N f s a|[],_,_,_,h=>by cases h|b::L,v,⟨h1,h2,h3⟩,a,h=>by cases h with|head=>exact h1|tail _ h=>exact m5 h3 a h
end
theorem kF:∀{L:List iV}{e:Nat},e∉L.map (·.1)->cf L e=0|[],_,_=>rfl|a::L,e,h=>by rw[cV,bE,qg]at h;show(if e=a.1 then sg a.2 else 0)+cf L e=0;rw[au h.1,kF h.2];rfl
theorem DP:∀{L:List iV}{a:iV},(L.map (·.1)).Nodup->a∈L->cf L a.1=sg a.2
 |b::L,a,hn,h=>by
  rw[cV,lj]at hn;show(if a.1=b.1 then sg b.2 else 0)+cf L a.1=sg a.2;cases h with
  |head=>rw[aw rfl,kF hn.1];omega
  |tail _ h=>
   have:a.1≠b.1:=by intro e;apply hn.1;rw[<-e];exact lx h
   rw[au this,DP hn.2 h];omega
def Fits(N:Net)(f:Fl)(L:List iV)(k:Int):Prop:=∀a,a∈L->∀r,room N f a=some r->k<=r
def qO(hf:a_ N f)(ha:a.1<N.m)(hw:Way N f a.1 (dst N a) L (src N a))(hn:(L.map (·.1)).Nodup)(hk:0<=k)(Uy:Fits N f (a::L) k):a_ N (push f (a::L) k):=by
 have Nb:((a::L).map (·.1)).Nodup:=by rw[cV,lj];refine⟨?_,hn⟩;intro hm;rw[br]at hm;obtain⟨b,hb,e⟩:=hm;exact(m5 hw b hb).2.1 e
 have at_:∀e,(push f (a::L) k e=f e/\e∉(a::L).map (·.1))\/∃b,b∈a::L/\b.1=e/\push f (a::L) k e=f e+k*sg b.2:=by
  intro e;by_cases q:e∈(a::L).map (·.1);.right;obtain⟨b,hb,he⟩:=br.mp q;refine⟨b,hb,he,?_⟩;show f e+k*cf (a::L) e=_;rw[<-he,DP Nb hb]
  left;refine⟨?_,q⟩;show f e+k*cf (a::L) e=f e;rw[kF q];simp
 refine⟨B3 k hf.iE ha hw,?_,?_⟩
 .intro e he;have h0:=hf.lo e he;rcases at_ e with⟨q,_⟩|⟨b,hb,Ca,q⟩;.rw[q];exact h0
  rw[q];obtain⟨be,bw⟩:=b;have Ca:be=e:=Ca;subst Ca;cases bw;.have:=Uy _ hb (f be-N.lo be) (by simp[room]);simp[sg];omega
  simp[sg];omega
 intro e he x hx;have h0:=hf.hi e he x hx;rcases at_ e with⟨q,_⟩|⟨b,hb,Ca,q⟩;.rw[q];exact h0
 rw[q];obtain⟨be,bw⟩:=b;have Ca:be=e:=Ca;subst Ca;cases bw;.simp[sg];omega
 have:=Uy _ hb (x-f be) (by simp[room,hx]);simp[sg];omega
section
open Classical in
noncomputable def Ag(N:Net)(f:Fl)(s u C:Nat)(a:iV):Nat:=if Ai N f s a then dist N f s u C (src N a)else dist N f s u C (dst N a)+1
end
noncomputable def Ay(N:Net)(f:Fl)(s u C:Nat):Int:=S N.m (λe=>(Ag N f s u C (e,true):Int)+(Ag N f s u C (e,false):Int))
def Lf(a:iV):Ag N f s u C a<=C+1:=by unfold Ag;have h1:=pJ (N:=N) (f:=f) (s:=s) (u:=u) (C:=C) (src N a);have h2:=pJ (N:=N) (f:=f) (s:=s) (u:=u) (C:=C) (dst N a);split<;>omega
def LG:Ay N f s u C<=N.m*(2*(C+1):Nat):=by rw[<-Qb];refine So λi _=>?_;have h1:=Lf (N:=N) (f:=f) (s:=s) (u:=u) (C:=C) (i,true);have h2:=Lf (N:=N) (f:=f) (s:=s) (u:=u) (C:=C) (i,false);omega
def vL:0<=Ay N f s u C:=by rw[<-qD N.m];refine So λi _=>?_;omega
def rev(a:iV):iV:=(a.1,!a.2)
def E9(N:Net)(a:iV):src N (rev a)=dst N a:=by obtain⟨e,b⟩:=a;cases b<;>rfl
def zR(N:Net)(a:iV):dst N (rev a)=src N a:=by obtain⟨e,b⟩:=a;cases b<;>rfl
def w_(h:g a.1=f a.1):room N g a=room N f a:=by unfold room;rw[h]
def xT{N:Net}{f:Fl}{a:iV}{L:List iV}{k:Int}{C:Nat}(hw:Way N f a.1 (dst N a) L (src N a))(hs:dist N f a.1 (dst N a) C (src N a)=L.length)(hk:0<k)(full:∃b,b∈L/\room N f b=some k):Ay N f a.1 (dst N a) C+2<=Ay N (push f (a::L) k) a.1 (dst N a) C:=by
 have hn:=kJ hw hs;have ti:=rq hw hs;have hh:=m5 hw;have off:∀e,e≠a.1->e∉L.map (·.1)->push f (a::L) k e=f e:=by intro e h1 h2;show f e+k*((if e=a.1 then sg a.2 else 0)+cf L e)=f e;rw[au h1,kF h2];simp
 have on:∀b,b∈L->push f (a::L) k b.1=f b.1+k*sg b.2:=by intro b hb;show f b.1+k*((if b.1=a.1 then sg a.2 else 0)+cf L b.1)=_;rw[au (hh b hb).2.1,DP hn hb];simp
 have was:∀b,Ai N (push f (a::L) k) a.1 b->Ai N f a.1 b\/rev b∈L:=by
  intro b ⟨h1,h2,h3⟩;by_cases q:b.1∈L.map (·.1)
  .obtain⟨d,hd,e⟩:=br.mp q;obtain⟨be,bw⟩:=b;obtain⟨de,dw⟩:=d;have e:de=be:=e;subst e;by_cases w:bw=dw;.subst w;exact .inl (hh _ hd)
   right;have:rev (de,bw)=(de,dw):=by show(de,!bw)=(de,dw);cases bw<;>cases dw<;>simp_all
   rw[this];exact hd
  left;refine⟨h1,h2,?_⟩;intro r hr;exact h3 r (by rw[w_ (off _ h2 q)];exact hr)
 have mono:∀v,dist N f a.1 (dst N a) C v<=dist N (push f (a::L) k) a.1 (dst N a) C v:=by
  refine MA En ?_ (λv=>pJ v);intro b hb;rcases was b hb with h|h;.exact pV h
  have:=ti _ h;rw[E9,zR]at this;omega
 have YV:∀b,Ag N f a.1 (dst N a) C b<=Ag N (push f (a::L) k) a.1 (dst N a) C b:=by
  intro b;have m1:=mono (src N b);have m2:=mono (dst N b);unfold Ag;by_cases p:Ai N f a.1 b
  .rw[aw p];by_cases p':Ai N (push f (a::L) k) a.1 b;.rw[aw p'];exact m1
   rw[au p'];have hb:b∈L:=by
    by_cases q:b.1∈L.map (·.1)
    .obtain⟨d,hd,e⟩:=br.mp q;obtain⟨be,bw⟩:=b;obtain⟨de,dw⟩:=d;have e:de=be:=e;subst e;by_cases w:bw=dw;.subst w;exact hd
     exfalso;apply p';refine⟨p.1,p.2.1,?_⟩;intro r hr;have o:=on _ hd;have o':=p.2.2;cases bw<;>cases dw<;>simp[room,sg,yd]at *<;>first|omega|skip
     obtain⟨x,hx,hr⟩:=hr;have:=o' _ hx;omega
    exfalso;apply p';refine⟨p.1,p.2.1,?_⟩;intro r hr;rw[w_ (off _ p.2.1 q)]at hr;exact p.2.2 r hr
   have:=ti b hb;omega
  rw[au p];by_cases p':Ai N (push f (a::L) k) a.1 b
  .rw[aw p'];rcases was b p' with h|h;.exact absurd h p
   have:=ti _ h;rw[E9,zR]at this;omega
  rw[au p'];omega
 obtain⟨b,hb,hr⟩:=full;have Yt:=hh b hb;have two:Ag N f a.1 (dst N a) C b+2<=Ag N (push f (a::L) k) a.1 (dst N a) C b:=by
  have m2:=mono (dst N b);have gone:¬Ai N (push f (a::L) k) a.1 b:=by
   intro h;have o:=on b hb;obtain⟨e,w⟩:=b;cases w;.simp[room]at hr;have:=h.2.2 (push f (a::L) k e-N.lo e) (by simp[room]);simp[sg]at o;omega
   simp[room]at hr;obtain⟨x,hx,hr⟩:=hr;have:=h.2.2 (x-push f (a::L) k e) (by simp[room,hx]);simp[sg]at o;omega
  have t:=ti b hb;unfold Ag;rw[aw Yt,au gone];omega
 refine FT b.1 2 Yt.1 ?_ ?_;.intro i _;have h1:=YV (i,true);have h2:=YV (i,false);show(Ag N f a.1 (dst N a) C (i,true):Int)+(Ag N f a.1 (dst N a) C (i,false):Int)<=(Ag N (push f (a::L) k) a.1 (dst N a) C (i,true):Int)+(Ag N (push f (a::L) k) a.1 (dst N a) C (i,false):Int);omega
 obtain⟨e,w⟩:=b;have h1:=YV (e,true);have h2:=YV (e,false);show(Ag N f a.1 (dst N a) C (e,true):Int)+(Ag N f a.1 (dst N a) C (e,false):Int)+2<=(Ag N (push f (a::L) k) a.1 (dst N a) C (e,true):Int)+(Ag N (push f (a::L) k) a.1 (dst N a) C (e,false):Int);cases w<;>omega
def et(N:Net)(s:Nat)(x:Int):Prop:=(∃g,a_ N g/\g s=x)/\∀g,a_ N g->g s<=x
def dN(N:Net)(s:Nat)(x:Int):Prop:=(∃g,a_ N g/\g s=x)/\∀g,a_ N g->x<=g s
def e9(N:Net)(s:Nat):Prop:=∀K:Int,∃g,a_ N g/\K<=g s
def et.uniq(h:et N s x)(k:et N s y):x=y:=by obtain⟨⟨g,hg,e⟩,h2⟩:=h;obtain⟨⟨g',Ut,e'⟩,k2⟩:=k;have:=h2 _ Ut;have:=k2 _ hg;omega
def dN.uniq(h:dN N s x)(k:dN N s y):x=y:=by obtain⟨⟨g,hg,e⟩,h2⟩:=h;obtain⟨⟨g',Ut,e'⟩,k2⟩:=k;have:=h2 _ Ut;have:=k2 _ hg;omega
def et.o8(h:et N s x)(k:e9 N s):False:=by obtain⟨g,hg,e⟩:=k (x+1);have:=h.2 g hg;omega
def kK(hf:a_ N f)(hs:s<N.m)(hw:Way N f s (N.hd s) L (N.tl s))(hn:(L.map (·.1)).Nodup)(no:∀a,a∈(s,true)::L->room N f a=none):e9 N s:=by
 intro K;by_cases q:K<=f s;.exact⟨f,hf,q⟩
 refine⟨_,qO (a:=(s,true)) (k:=K-f s) hf hs hw hn (by omega) (λa ha r hr=>by rw[no a ha]at hr;cases hr),?_⟩;show K<=f s+(K-f s)*((if s=s then sg true else 0)+cf L s);rw[aw rfl,kF];.simp[sg];omega
 intro hm;obtain⟨b,hb,e⟩:=br.mp hm;exact(m5 hw b hb).2.1 e
end Flow
end
section
namespace ak
open FhHold Flow
def E0:Edge:=⟨0,0,0,none,0⟩
def bf(es:List Edge)(i:Nat):Edge:=(es[i]?).getD E0
def aG(es:List Edge):Net:=⟨es.length,λi=>(bf es i).tail,λi=>(bf es i).head,λi=>((bf es i).lo:Int),λi=>(bf es i).hi.map Int.ofNat⟩
def cx(es:List Edge):Fl:=λi=>((bf es i).flow:Int)
def vw(h:es[i]?=some e):bf es i=e:=by unfold bf;rw[h];rfl
def f_(h:i<es.length):es[i]?=some (bf es i):=by unfold bf;rw[dZ h];rfl
def sj(f:Fl)(hf:f i=cx es i)(wz:(aG es).lo i<=f i)(qa:Under (f i) ((aG es).hi i)):Flow.room (aG es) f (i,b)=(FhHold.room (bf es i) b).map Int.ofNat:=by
 cases b;.show some (f i-((bf es i).lo:Int))=some (Int.ofNat ((bf es i).flow-(bf es i).lo));rw[hf]at wz⊢;have wz:((bf es i).lo:Int)<=((bf es i).flow:Int):=wz;show some (((bf es i).flow:Int)-((bf es i).lo:Int))=_;congr 1;simp only[Int.ofNat_eq_natCast];omega
 show((bf es i).hi.map Int.ofNat).map (λh=>h-f i)=((bf es i).hi.map (λh=>h-(bf es i).flow)).map Int.ofNat;cases q:(bf es i).hi with|none=>rfl|some h=>have:=qa (Int.ofNat h) (by show(bf es i).hi.map Int.ofNat=_;rw[q];rfl);rw[hf]at this⊢;have this:((bf es i).flow:Int)<=(h:Int):=this;show some ((h:Int)-((bf es i).flow:Int))=some ((h-(bf es i).flow:Nat):Int);congr 1;omega
def uZ(f:Fl)(hf:f i=cx es i)(wz:(aG es).lo i<=f i)(qa:Under (f i) ((aG es).hi i)):Flow.yd (aG es) f (i,b)↔FhHold.room (bf es i) b≠some 0:=by unfold Flow.yd;rw[sj f hf wz qa];cases FhHold.room (bf es i) b with|none=>simp|some r=>simp;omega
structure uI (es:List Edge) (s:Nat) (f:Fl):Prop where
  eq:∀i,i≠s->f i=cx es i
  Ui:Within (aG es) s f
def xp(h:uI es s f)(v:Nat)(a:iV):(v,a)∈stepsAt es s u↔Ai (aG es) f s a/\Flow.src (aG es) a=u/\Flow.dst (aG es) a=v:=by
 obtain⟨i,b⟩:=a;unfold stepsAt;rw[ui];constructor
 .rintro⟨⟨e,j⟩,hx,hy⟩;rw[gU]at hx;obtain⟨hx,hj⟩:=hx;have hj:(j !=s)=true:=hj;have hj:j≠s:=by simpa using hj
  have Cg:es[j]?=some e:=by have:=K3.mp hx;exact this
  have ij:j<es.length:=by have:=fh.mp Cg;exact this.1
  have hE:=vw Cg;rw[cO]at hy;rcases hy with hy|hy
  .split at hy
   .rename_i hc;simp at hy;obtain⟨h1,h2,h3⟩:=hy;subst h2 h3;have ho:=(uZ (b:=true) f (h.eq _ hj) (h.Ui.lo _ ij hj) (h.Ui.hi _ ij hj)).mpr (by rw[hE];exact hc.2);refine⟨⟨ij,hj,ho⟩,?_,?_⟩;.show(bf es i).tail=u;rw[hE];exact hc.1
    show(bf es i).head=v;rw[hE];exact h1.symm
   cases hy
  split at hy
  .rename_i hc;simp at hy;obtain⟨h1,h2,h3⟩:=hy;subst h2 h3;have ho:=(uZ (b:=false) f (h.eq _ hj) (h.Ui.lo _ ij hj) (h.Ui.hi _ ij hj)).mpr (by rw[hE];exact hc.2);refine⟨⟨ij,hj,ho⟩,?_,?_⟩;.show(bf es i).head=u;rw[hE];exact hc.1
   show(bf es i).tail=v;rw[hE];exact h1.symm
  cases hy
 rintro⟨⟨ij,hj,ho⟩,h1,h2⟩;have ij:i<es.length:=ij;have hj:i≠s:=hj;refine⟨(bf es i,i),?_,?_⟩;.rw[gU];refine⟨K3.mpr (f_ ij),?_⟩;simpa using hj
 have ho:=(uZ f (h.eq _ hj) (h.Ui.lo _ ij hj) (h.Ui.hi _ ij hj)).mp ho;rw[cO];cases b;.right;have h1:(bf es i).head=u:=h1;have h2:(bf es i).tail=v:=h2;rw[aw ⟨h1,ho⟩,h2];exact cW.mpr rfl
 left;have h1:(bf es i).tail=u:=h1;have h2:(bf es i).head=v:=h2;rw[aw ⟨h1,ho⟩,h2];exact cW.mpr rfl
abbrev Ent:=Nat×List Step
def add(m:List Ent)(c:Ent):List Ent:=if m.any (λz=>z.1==c.1)=true then m else m++[c]
def cands(es:List Edge)(s:Nat)(new_:List Ent):List Ent:=new_.flatMap λx=>(stepsAt es s x.1).map λy=>(y.1,y.2::x.2)
def Ei(es:List Edge)(s:Nat)(new_ seen:List Ent):further es s new_ seen=(cands es s new_).foldl add seen:=by unfold further cands;rw[List.foldl_flatMap];congr 1;funext l x;rw[List.foldl_map];rfl
def FQ(m:List Ent)(v:Nat):m.any (λz=>z.1==v)=true↔v∈m.map (·.1):=by
 rw[CQ,br];constructor;.rintro⟨x,h1,h2⟩;exact⟨x,h1,by simpa using h2⟩
 rintro⟨x,h1,h2⟩;exact⟨x,h1,by simpa using h2⟩
theorem Sk:∀(cs:List Ent)(l:List Ent),(l.map (·.1)).Nodup->∃ext,cs.foldl add l=l++ext/\((l++ext).map (·.1)).Nodup/\(∀x,x∈ext->x∈cs/\x.1∉l.map (·.1))/\∀c,c∈cs->c.1∈(l++ext).map (·.1)
 |[],l,hn=>⟨[],by simp,by simpa using hn,by simp,by simp⟩
 |c::cs,l,hn=>by
  rw[qp];by_cases q:c.1∈l.map (·.1)
  .have e:add l c=l:=by unfold add;rw[aw ((FQ l c.1).mpr q)]
   rw[e];obtain⟨ext,h1,h2,h3,h4⟩:=Sk cs l hn;refine⟨ext,h1,h2,λx hx=>⟨dR _ (h3 x hx).1,(h3 x hx).2⟩,?_⟩;intro d hd;rcases bE.mp hd with rfl|hd;.rw[cR];exact iS _ q
   exact h4 d hd
  have e:add l c=l++[c]:=by unfold add;rw[au];intro h;exact q ((FQ l c.1).mp h)
  rw[e];have Nb:((l++[c]).map (·.1)).Nodup:=by rw[cR,yI];refine⟨hn,by simp,?_⟩;intro a ha b hb e;simp at hb;subst e hb;exact q ha
  obtain⟨ext,h1,h2,h3,h4⟩:=Sk cs (l++[c]) Nb;refine⟨c::ext,?_,?_,?_,?_⟩;.rw[h1,jS];rfl
  .rw[jS]at h2;exact h2
  .intro x hx;rcases bE.mp hx with rfl|hx;.exact⟨cF,q⟩
   obtain⟨k1,k2⟩:=h3 x hx;refine⟨dR _ k1,?_⟩;intro h;apply k2;rw[cR];exact iS _ h
  intro d hd;have k:((l++[c])++ext)=l++c::ext:=by rw[jS];rfl
  rw[k]at h4;rcases bE.mp hd with rfl|hd;.rw[cR];exact fi _ (by simp)
  exact h4 d hd
structure Inv (N:Net) (f:Fl) (s u k:Nat) (old new_:List Ent):Prop where
  once:((old++new_).map (·.1)).Nodup
  way:∀x,x∈old++new_->Way N f s u x.2 x.1
  least:∀x,x∈old++new_->∀L,Way N f s u L x.1->x.2.length<=L.length
  oldLt:∀x,x∈old->x.2.length<k
  newEq:∀x,x∈new_->x.2.length=k
  all:∀L v,Way N f s u L v->L.length<=k->v∈(old++new_).map (·.1)
def Inv.next(hs:uI es s f)(I:Inv (aG es) f s u k old new_):∃ext,further es s new_ (old++new_)=(old++new_)++ext/\Inv (aG es) f s u (k+1) (old++new_) ext:=by
 obtain⟨ext,h1,h2,h3,h4⟩:=Sk (cands es s new_) (old++new_) I.once;refine⟨ext,by rw[Ei];exact h1,?_⟩;have ex:∀x,x∈ext->Way (aG es) f s u x.2 x.1/\x.2.length=k+1:=by
  intro x hx;obtain⟨k1,k2⟩:=h3 x hx;unfold cands at k1;rw[ui]at k1;obtain⟨y,hy,hz⟩:=k1;rw[br]at hz;obtain⟨⟨v,a⟩,hz,rfl⟩:=hz;obtain⟨m1,m2,m3⟩:=(xp hs v a).mp hz;refine⟨⟨m1,m3,?_⟩,?_⟩;.rw[m2];exact I.way y (fi _ hy)
  show(a::y.2).length=k+1;rw[dr,I.newEq y hy]
 refine⟨h2,?_,?_,?_,λx hx=>(ex x hx).2,?_⟩
 .intro x hx;rcases cO.mp hx with hx|hx;.exact I.way x hx
  exact(ex x hx).1
 .intro x hx L hL;rcases cO.mp hx with hx|hx;.exact I.least x hx L hL
  have:=(h3 x hx).2;rw[(ex x hx).2];apply ly;intro ij;exact this (I.all L x.1 hL (by omega))
 .intro x hx;rcases cO.mp hx with hx|hx;.have:=I.oldLt x hx;omega
  have:=I.newEq x hx;omega
 intro L v hL hlen;cases L with
 |nil=>rw[cR];exact iS _ (I.all [] v hL (by simp))
 |cons a L=>
  obtain⟨m1,m2,m3⟩:=hL;rw[dr]at hlen;have xY:=I.all L _ m3 (by omega);obtain⟨x,hx,e⟩:=br.mp xY;have e:x.1=Flow.src (aG es) a:=e;rcases cO.mp hx with ho|hn;.have hw:=I.way x hx;rw[e]at hw;rw[cR];refine iS _ (I.all (a::x.2) v ⟨m1,m2,hw⟩ ?_);have:=I.oldLt x ho;rw[dr];omega
  refine h4 (v,a::x.2) ?_;unfold cands;rw[ui];exact⟨x,hn,br.mpr ⟨(v,a),(xp hs v a).mpr ⟨m1,e.symm,m2⟩,rfl⟩⟩
theorem pS:∀(n:Nat)(l:List Nat),l.Nodup->(∀x,x∈l->x<n)->l.length<=n
 |0,l,_,h=>by cases l with|nil=>simp|cons a l=>have:=h a (by simp);omega
 |n+1,l,hn,h=>by
  by_cases q:n∈l
  .have h1:=pS n (l.erase n) (hn.erase n) (λx hx=>by
    have ZS:=List.mem_of_mem_erase hx;have:=h x ZS;have:x≠n:=λe=>by subst e;exact(List.Nodup.not_mem_erase hn) hx
    omega)
   rw[List.length_erase_of_mem q]at h1;omega
  have h1:=pS n l hn (λx hx=>by have:=h x hx;have:x≠n:=λe=>q (e▸hx);omega);omega
def pE(es:List Edge)(n:Nat):Prop:=∀e,e∈es->e.tail<n/\e.head<n
def pM(h:i<es.length):bf es i∈es:=du (f_ h)
def LJ(hn:pE es n)(hu:u<n)(h:Way (aG es) f s u L v):v<n:=by
 cases L with
 |nil=>have h:u=v:=h;omega
 |cons a L=>
  obtain⟨⟨h1,_,_⟩,h2,_⟩:=h;rw[<-h2];have:=hn _ (pM h1);obtain⟨i,b⟩:=a;cases b;.exact this.1
  exact this.2
structure Found (N:Net) (f:Fl) (s u B:Nat) (r:List Ent):Prop where
  way:∀x,x∈r->Way N f s u x.2 x.1
  least:∀x,x∈r->∀L,Way N f s u L x.1->x.2.length<=L.length
  short:∀x,x∈r->x.2.length<=B
  all:∀L v,Way N f s u L v->v∈r.map (·.1)
theorem rA(hs:uI es s f)(hn:pE es nodes)(hu:u<nodes):∀(n k:Nat)(old new_:List Ent),Inv (aG es) f s u k old new_->(new_=[]\/nodes<(old++new_).length+n)->Found (aG es) f s u (k+n) (FhHold.reach es s n new_ (old++new_))
 |n,k,old,[],I,_=>by
  have e:FhHold.reach es s n [] (old++[])=old++[]:=by cases n<;>rfl
  rw[e];have all:∀L v,Way (aG es) f s u L v->v∈(old++[]).map (λz:Ent=>z.1):=by intro L;induction L with|nil=>intro v h;exact I.all [] v h (by simp)|cons a L ih=>intro v ⟨m1,m2,m3⟩;obtain⟨x,hx,e⟩:=br.mp (ih _ m3);have e:x.1=Flow.src (aG es) a:=e;have hw:=I.way x hx;rw[e]at hw;refine I.all (a::x.2) v ⟨m1,m2,hw⟩ ?_;have:=I.oldLt x (by simpa using hx);rw[dr];omega
  refine⟨I.way,I.least,?_,all⟩;intro x hx;have:=I.oldLt x (by simpa using hx);omega
 |0,k,old,y::new_,I,h=>by
  exfalso;rcases h with h|h;.cases h
  have:=pS nodes ((old++y::new_).map (λz:Ent=>z.1)) I.once (λv hv=>by obtain⟨x,hx,e⟩:=br.mp hv;rw[<-e];exact LJ hn hu (I.way x hx));rw[aE]at this;omega
 |n+1,k,old,y::new_,I,h=>by
  obtain⟨ext,h1,h2⟩:=I.next hs;have e:FhHold.reach es s (n+1) (y::new_) (old++y::new_)=FhHold.reach es s n ((further es s (y::new_) (old++y::new_)).drop (old++y::new_).length) (further es s (y::new_) (old++y::new_)):=rfl;rw[e,h1,List.drop_left];have:=rA hs hn hu n (k+1) (old++y::new_) ext h2 (by
   cases ext with
   |nil=>exact .inl rfl
   |cons z ext=>
    right;rcases h with h|h;.cases h
    rw[dC (as:=old++y::new_),dr];omega)
  rw[show k+(n+1)=k+1+n by omega];exact this
def BP(hs:uI es s f)(hn:pE es nodes)(hu:u<nodes):match wayOf es s nodes u v with|none=>¬∃L,Way (aG es) f s u L v|some l=>Way (aG es) f s u l v/\dist (aG es) f s u nodes v=l.length:=by
 have I:Inv (aG es) f s u 0 [] [(u,[])]:=by
  refine⟨by simp,?_,?_,by simp,?_,?_⟩;.intro x hx;simp at hx;subst hx;rfl
  .intro x hx L _;simp at hx;subst hx;simp
  .intro x hx;simp at hx;subst hx;rfl
  intro L w hL hlen;have:L=[]:=List.eq_nil_of_length_eq_zero (by omega);subst this;have:u=w:=hL;simp[this]
 have F:=rA hs hn hu nodes 0 [] [(u,[])] I (.inr (by simp));rw[ql]at F;unfold wayOf;cases q:(FhHold.reach es s nodes [(u,[])] [(u,[])]).find? (λx=>x.1==v)with
 |none=>show ¬∃L,Way (aG es) f s u L v;rintro⟨L,hL⟩;obtain⟨x,hx,e⟩:=br.mp (F.all L v hL);have:=C2.mp q x hx;exact this (by simpa using e)
 |some x=>
  have hx:=List.mem_of_find?_eq_some q;have hv:x.1=v:=by have:=List.find?_some q;simpa using this
  show Way (aG es) f s u x.2 v/\dist (aG es) f s u nodes v=x.2.length;have hw:=F.way x hx;rw[hv]at hw;refine⟨hw,?_⟩;have h1:=jw (C:=nodes) hw;by_cases c:dist (aG es) f s u nodes v<nodes;.obtain⟨L,hL,hl⟩:=first_is _ _ c;have hl:L.length=dist (aG es) f s u nodes v:=hl;have:=F.least x hx L (by rw[hv];exact hL);omega
  have:=F.short x hx;omega
end ak
end
section
namespace ak
open FhHold Flow
def gD(h:lesser a b=none):a=none/\b=none:=by cases a<;>cases b<;>simp_all [lesser]
def gC(h:lesser a b=some k):(∀x,a=some x->k<=x)/\(∀x,b=some x->k<=x)/\(a=some k\/b=some k):=by
 cases a with
 |none=>cases b with|none=>simp[lesser]at h|some y=>simp[lesser]at h;subst h;simp
 |some x=>
  cases b with
  |none=>simp[lesser]at h;subst h;simp
  |some y=>
   simp only[lesser,C0]at h;split at h;.subst h;simp;omega
   subst h;simp;omega
def wJ(es:List Edge)(m:Option Nat)(x:Step):Option Nat:=match es[x.1]? with|some e=>lesser m (FhHold.room e x.2)|none=>m
def Mr(h:x.1<es.length):wJ es m x=lesser m (FhHold.room (bf es x.1) x.2):=by unfold wJ;rw[f_ h]
theorem rD:∀(l:List Step)(acc:Option Nat),(∀x,x∈l->x.1<es.length)->(∀k,l.foldl (wJ es) acc=some k->(∀y,acc=some y->k<=y)/\(∀x,x∈l->∀r,FhHold.room (bf es x.1) x.2=some r->k<=r)/\(acc=some k\/∃x,x∈l/\FhHold.room (bf es x.1) x.2=some k))/\(l.foldl (wJ es) acc=none->acc=none/\∀x,x∈l->FhHold.room (bf es x.1) x.2=none)
 |[],acc,_=>by refine⟨λk h=>?_,λh=>⟨h,by simp⟩⟩;have h:acc=some k:=h;subst h;simp
 |x::l,acc,hl=>by
  have ih:=rD l (wJ es acc x) (λy hy=>hl y (dR _ hy));have e:=Mr (m:=acc) (hl x cF);rw[qp];refine⟨λk h=>?_,λh=>?_⟩
  .obtain⟨h1,h2,h3⟩:=ih.1 k h;rw[e]at h1 h3;cases q:lesser acc (FhHold.room (bf es x.1) x.2)with
   |none=>
    obtain⟨q1,q2⟩:=gD q;refine⟨by simp[q1],?_,?_⟩
    .intro y hy r hr;rcases bE.mp hy with rfl|hy;.rw[q2]at hr;cases hr
     exact h2 y hy r hr
    rw[q]at h3;rcases h3 with h3|⟨y,hy,hr⟩;.cases h3
    exact .inr ⟨y,dR _ hy,hr⟩
   |some z=>
    obtain⟨q1,q2,q3⟩:=gC q;have hz:=h1 z q;refine⟨λy hy=>?_,?_,?_⟩;.have:=q1 y hy;omega
    .intro y hy r hr;rcases bE.mp hy with rfl|hy;.have:=q2 r hr;omega
     exact h2 y hy r hr
    rw[q]at h3;rcases h3 with h3|⟨y,hy,hr⟩
    .cases h3;rcases q3 with q3|q3;.exact .inl q3
     exact .inr ⟨x,cF,q3⟩
    exact .inr ⟨y,dR _ hy,hr⟩
  obtain⟨h1,h2⟩:=ih.2 h;rw[e]at h1;obtain⟨q1,q2⟩:=gD h1;refine⟨q1,?_⟩;intro y hy;rcases bE.mp hy with rfl|hy;.exact q2
  exact h2 y hy
def z_(es:List Edge)(l:List Step):narrowest es l=l.foldl (wJ es) none:=rfl
def AW(k:Nat)(m:List Edge)(x:Step):List Edge:=match m[x.1]? with|some e=>m.set x.1 {e with flow:=if x.2=true then e.flow+k else e.flow-k}|none=>m
def Px(es:List Edge)(l:List Step)(k:Nat):gone es l k=l.foldl (AW k) es:=rfl
structure Alike (es fs:List Edge):Prop where
  len:fs.length=es.length
  tail:∀i,(bf fs i).tail=(bf es i).tail
  head:∀i,(bf fs i).head=(bf es i).head
  lo:∀i,(bf fs i).lo=(bf es i).lo
  hi:∀i,(bf fs i).hi=(bf es i).hi
def Alike.refl(es:List Edge):Alike es es:=⟨rfl,λ_=>rfl,λ_=>rfl,λ_=>rfl,λ_=>rfl⟩
theorem Alike.trans(h:Alike a b)(k:Alike b c):Alike a c:=⟨k.len.trans h.len,λi=>(k.tail i).trans (h.tail i),λi=>(k.head i).trans (h.head i),λi=>(k.lo i).trans (h.lo i),λi=>(k.hi i).trans (h.hi i)⟩
def Alike.gn(h:Alike es fs):aG fs=aG es:=by
 unfold aG;rw[h.len];congr 1;.funext i;exact h.tail i
 .funext i;exact h.head i
 .funext i;rw[h.lo i]
 funext i;rw[h.hi i]
def jJ(h:i<es.length):bf (es.set i e) j=if j=i then e else bf es j:=by
 unfold bf;rw[yH];by_cases q:i=j;.subst q;rw[aw rfl,aw h,aw rfl];rfl
 rw[au q,au (λz=>q z.symm)]
def xS(h:i<es.length)(v:Nat):Alike es (es.set i {bf es i with flow:=v}):=by
 refine⟨jk ..,?_,?_,?_,?_⟩<;>
 .intro j;rw[jJ h];split;.rename_i q;rw[q]
  rfl
def BJ(h:i<es.length)(v j:Nat):cx (es.set i {bf es i with flow:=v}) j=if j=i then(v:Int)else cx es j:=by unfold cx;rw[jJ h];split<;>rfl
def Alike.nodes(h:Alike es fs)(hn:pE es n):pE fs n:=by intro e he;obtain⟨i,hi,rfl⟩:=tF.mp he;have h1:fs[i]?=some fs[i]:=dZ hi;have h2:=vw h1;have h3:=hn _ (pM (es:=es) (i:=i) (by rw[<-h.len];exact hi));rw[<-h2,h.tail,h.head];exact h3
theorem xE(k:Nat):∀(l:List Step)(es:List Edge),(∀x,x∈l->x.1<es.length)->(l.map (·.1)).Nodup->(∀x,x∈l->x.2=false->k<=(bf es x.1).flow)->Alike es (l.foldl (AW k) es)/\∀i,cx (l.foldl (AW k) es) i=cx es i+k*cf l i
 |[],es,_,_,_=>⟨Alike.refl es,λi=>by show cx es i=cx es i+k*0;simp⟩
 |x::l,es,hl,hn,hk=>by
  rw[cV,lj]at hn;have hx:=hl x cF;have e:AW k es x=es.set x.1 {bf es x.1 with flow:=if x.2=true then(bf es x.1).flow+k else(bf es x.1).flow-k}:=by unfold AW;rw[f_ hx]
  rw[qp,e];have A:=xS hx (if x.2=true then(bf es x.1).flow+k else(bf es x.1).flow-k);have Fs:=BJ hx (if x.2=true then(bf es x.1).flow+k else(bf es x.1).flow-k);have ih:=xE k l _ (λy hy=>by rw[A.len];exact hl y (dR _ hy)) hn.2 (λy hy h=>by have xX:y.1≠x.1:=λq=>hn.1 (by rw[<-q];exact lx hy);rw[jJ hx,au xX];exact hk y (dR _ hy) h);refine⟨A.trans ih.1,?_⟩;intro i;rw[ih.2 i,Fs i];show _=cx es i+k*((if i=x.1 then sg x.2 else 0)+cf l i);by_cases q:i=x.1
  .rw[aw q,aw q,ki];have Q_:=hk x cF;rw[q];show _=((bf es x.1).flow:Int)+(k*sg x.2+k*cf l x.1);cases w:x.2;.have:=Q_ w;simp[sg];omega
   simp[sg];omega
  rw[au q,au q];simp
def Fx(es:List Edge)(s:Nat)(w:Bool)(x:Nat):Fl:=λe=>if e=s then cx es s+sg w*x else cx es e
def Ia(h:a_ (aG es) (Fx es s w x)):uI es s (Fx es s w x):=⟨λi hi=>au hi,h.within s⟩
structure iO (es:List Edge) (s:Nat) (w:Bool) (x:Nat) (limit:Option Nat) (k:Nat) (fs:List Edge):Prop where
  alike:Alike es fs
  keep:cx fs s=cx es s
  eX:a_ (aG es) (Fx fs s w (x+k))
  most:∀y,limit=some y->k<=y
  end_:limit=some k\/¬∃L,Way (aG es) (Fx fs s w (x+k)) s (Flow.dst (aG es) (s,w)) L (Flow.src (aG es) (s,w))
def mw(es:List Edge)(s:Nat)(w:Bool)(x:Nat)(limit:Option Nat)(r:Option Nat×List Edge):Prop:=match r.1 with|some k=>iO es s w x limit k r.2|none=>limit=none/\e9 (aG es) s
theorem qN:∀(fuel:Nat)(limit:Option Nat)(es:List Edge)(x:Nat),s<es.length->pE es nodes->
    a_ (aG es) (Fx es s w x)->(∀y,limit=some y->∀r,Flow.room (aG es) (Fx es s w x) (s,w)=some r->(y:Int)<=r)->
    (limit=none->w=true/\(aG es).hi s=none)->
    (limit=some 0\/(es.length:Int)*(2*(nodes+1):Nat)<Ay (aG es) (Fx es s w x) s (Flow.dst (aG es) (s,w)) nodes+2*fuel)->
    mw es s w x limit (pushed s nodes (Flow.dst (aG es) (s,w)) (Flow.src (aG es) (s,w)) fuel limit es)
  |0,limit,es,x,hs,hn,hf,hr,p9,Uu=>by
    rcases Uu with h|h
    · subst h
      exact⟨Alike.refl es,rfl,hf,by simp,.inl rfl⟩
    · exfalso
      have:=LG (N:=aG es) (f:=Fx es s w x) (s:=s) (u:=Flow.dst (aG es) (s,w)) (C:=nodes)
      have this:Ay (aG es) (Fx es s w x) s (Flow.dst (aG es) (s,w)) nodes<=(es.length:Int)*(2*(nodes+1):Nat):=this
      omega
  |fuel+1,limit,es,x,hs,hn,hf,hr,p9,Uu=>by
    unfold pushed
    by_cases h0:limit=some 0
    · rw[aw h0]
      subst h0
      exact⟨Alike.refl es,rfl,hf,by simp,.inl rfl⟩
    rw[au h0]
    have Uu:=Uu.resolve_left h0
    have sS:=Ia hf
    have hu:Flow.dst (aG es) (s,w)<nodes:=by
      have:=hn _ (pM hs)
      cases w
      · exact this.1
      · exact this.2
    have W:=BP (v:=Flow.src (aG es) (s,w)) sS hn hu
    cases q:wayOf es s nodes (Flow.dst (aG es) (s,w)) (Flow.src (aG es) (s,w))with
    |none=>
      rw[q]at W
      show iO es s w x limit 0 es
      exact⟨Alike.refl es,rfl,hf,by omega,.inr W⟩
    |some l=>
      rw[q]at W
      obtain⟨W1,W2⟩:=W
      have hh:=m5 W1
      have once:=kJ W1 W2
      have ij:∀y,y∈l->y.1<es.length:=λy hy=>(hh y hy).1
      have rooms:∀y,y∈l->Flow.room (aG es) (Fx es s w x) y=(FhHold.room (bf es y.1) y.2).map Int.ofNat:=λy hy=>
        sj (b:=y.2) (Fx es s w x) (sS.eq _ (hh y hy).2.1) (hf.lo _ (ij y hy)) (hf.hi _ (ij y hy))
      have Ue:=rD l none ij
      rw[<-z_]at Ue
      show mw es s w x limit (match lesser limit (narrowest es l)with
        |none=>(none,es)
        |some k=>if k=0 then(some 0,es)else
          ((pushed s nodes (Flow.dst (aG es) (s,w)) (Flow.src (aG es) (s,w)) fuel (limit.map λx=>x-k) (gone es l k)).1.map λx=>x+k,
           (pushed s nodes (Flow.dst (aG es) (s,w)) (Flow.src (aG es) (s,w)) fuel (limit.map λx=>x-k) (gone es l k)).2))
      cases q2:lesser limit (narrowest es l)with
      |none=>
        obtain⟨c1,c2⟩:=gD q2
        obtain⟨hw,qa⟩:=p9 c1
        subst hw
        show limit=none/\e9 (aG es) s
        refine⟨c1,kK hf hs W1 once ?_⟩
        intro y hy
        rcases bE.mp hy with rfl|hy
        · simp[Flow.room,qa]
        · rw[rooms y hy,(Ue.2 c2).2 y hy];rfl
      |some k=>
        obtain⟨c1,c2,c3⟩:=gC q2
        have hk:k≠0:=by
          rintro rfl
          rcases c3 with c3|c3
          · exact h0 c3
          · rcases (Ue.1 0 c3).2.2 with h|⟨y,hy,h⟩
            · cases h
            · have:=(hh y hy).2.2 0 (by rw[rooms y hy,h];rfl)
              omega
        show mw es s w x limit (if k=0 then _ else _)
        rw[au hk]
        have Ww:∀y,y∈l->∀r,FhHold.room (bf es y.1) y.2=some r->k<=r:=by
          intro y hy r hr
          cases q3:narrowest es l with
          |none=>rw[(Ue.2 q3).2 y hy]at hr;cases hr
          |some z=>
            have h1:=c2 z q3
            have h2:=(Ue.1 z q3).2.1 y hy r hr
            omega
        have G:=xE k l es ij once (λy hy hb=>by
          have:=Ww y hy ((bf es y.1).flow-(bf es y.1).lo) (by rw[hb];rfl)
          omega)
        rw[<-Px]at G
        obtain⟨A,Gf⟩:=G
        have Ih:cf l s=0:=kF (λhm=>by
          obtain⟨b,hb,e⟩:=br.mp hm
          exact(hh b hb).2.1 e)
        have eF:Fx (gone es l k) s w (x+k)=push (Fx es s w x) ((s,w)::l) k:=by
          funext i
          show(if i=s then cx (gone es l k) s+sg w*((x+k:Nat):Int)else cx (gone es l k) i)=(if i=s then cx es s+sg w*(x:Int)else cx es i)+k*((if i=s then sg w else 0)+cf l i)
          by_cases qi:i=s
          · rw[aw qi,aw qi,aw qi,qi,Gf,Ih]
            have:sg w*((x+k:Nat):Int)=sg w*(x:Int)+(k:Int)*sg w:=by
              rw[JQ,ki,yo _ (k:Int)]
            rw[this];simp;omega
          · rw[au qi,au qi,au qi,Gf];simp
        have Uy:Fits (aG es) (Fx es s w x) ((s,w)::l) k:=by
          intro y hy r ip
          rcases bE.mp hy with rfl|hy
          · cases q4:limit with
            |none=>
              obtain⟨hw,qa⟩:=p9 q4
              subst hw
              simp[Flow.room,qa]at ip
            |some z=>
              have h1:=hr z q4 r ip
              have h2:=c1 z q4
              omega
          · rw[rooms y hy]at ip
            cases q5:FhHold.room (bf es y.1) y.2 with
            |none=>rw[q5]at ip;cases ip
            |some z=>
              rw[q5]at ip
              have:=Ww y hy z q5
              cases ip
              show(k:Int)<=(z:Int)
              omega
        have Yq:a_ (aG es) (Fx (gone es l k) s w (x+k)):=by
          rw[eF]
          exact qO hf hs W1 once (by omega) Uy
        have hN:=A.gn
        have e1:Flow.dst (aG (gone es l k)) (s,w)=Flow.dst (aG es) (s,w):=by rw[hN]
        have e2:Flow.src (aG (gone es l k)) (s,w)=Flow.src (aG es) (s,w):=by rw[hN]
        have ih:=qN (s:=s) (nodes:=nodes) (w:=w) fuel (limit.map λx=>x-k) (gone es l k) (x+k) (by rw[A.len];exact hs) (A.nodes hn)
          (by rw[hN];exact Yq)
          (by
            rw[hN]
            intro y hy r ip
            cases q4:limit with
            |none=>rw[q4]at hy;cases hy
            |some z=>
              rw[q4]at hy
              have hy:some (z-k)=some y:=hy
              cases hy
              have hz:=c1 z q4
              have step:∀r',Flow.room (aG es) (Fx (gone es l k) s w (x+k)) (s,w)=some r'->Flow.room (aG es) (Fx es s w x) (s,w)=some (r'+k):=by
                intro r' Up
                rw[eF]at Up
                have ev:push (Fx es s w x) ((s,w)::l) k s=Fx es s w x s+k*sg w:=by
                  show Fx es s w x s+k*((if s=s then sg w else 0)+cf l s)=_
                  rw[aw rfl,Ih];simp
                cases w
                · simp[Flow.room]at Up⊢
                  rw[ev]at Up
                  simp[sg]at Up
                  omega
                · simp[Flow.room]at Up⊢
                  obtain⟨h,hh1,hh2⟩:=Up
                  refine⟨h,hh1,?_⟩
                  rw[ev]at hh2
                  simp[sg]at hh2
                  omega
              have:=hr z q4 _ (step r ip)
              omega)
          (by
            rw[hN]
            intro h
            cases q4:limit with
            |none=>exact p9 q4
            |some z=>rw[q4]at h;cases h)
          (by
            rcases c3 with c3|c3
            · left;rw[c3];simp
            · right
              rcases (Ue.1 k c3).2.2 with h|⟨y,hy,h⟩
              · cases h
              · have P:=xT (a:=(s,w)) (k:=(k:Int)) (C:=nodes) W1 W2 (by omega) ⟨y,hy,by rw[rooms y hy,h];rfl⟩
                rw[hN,eF,A.len]
                have Uu:(es.length:Int)*(2*(nodes+1):Nat)<Ay (aG es) (Fx es s w x) s (Flow.dst (aG es) (s,w)) nodes+2*((fuel+1:Nat):Int):=Uu
                have P:Ay (aG es) (Fx es s w x) s (Flow.dst (aG es) (s,w)) nodes+2<=Ay (aG es) (push (Fx es s w x) ((s,w)::l) k) s (Flow.dst (aG es) (s,w)) nodes:=P
                omega)
        rw[e1,e2]at ih
        generalize pushed s nodes (Flow.dst (aG es) (s,w)) (Flow.src (aG es) (s,w)) fuel (limit.map λx=>x-k) (gone es l k)=r at ih⊢
        obtain⟨r1,r2⟩:=r
        cases r1 with
        |none=>
          obtain⟨i1,i2⟩:(limit.map λx=>x-k)=none/\e9 (aG (gone es l k)) s:=ih
          show limit=none/\e9 (aG es) s
          rw[hN]at i2
          refine⟨?_,i2⟩
          cases q4:limit with
          |none=>rfl
          |some z=>rw[q4]at i1;cases i1
        |some j=>
          have ih:iO (gone es l k) s w (x+k) (limit.map λx=>x-k) j r2:=ih
          show iO es s w x limit (j+k) r2
          have ex:x+k+j=x+(j+k):=by omega
          refine⟨A.trans ih.alike,ih.keep.trans ?_,?_,?_,?_⟩
          · rw[Gf,Ih];simp
          · have:=ih.eX
            rw[hN,ex]at this
            exact this
          · intro y hy
            have:=ih.most (y-k) (by rw[hy];rfl)
            have:=c1 y hy
            omega
          · have:=ih.end_
            rw[hN,ex]at this
            rcases this with h|h
            · left
              cases q4:limit with
              |none=>rw[q4]at h;cases h
              |some z=>
                rw[q4]at h
                have h:some (z-k)=some j:=h
                cases h
                have:=c1 z q4
                congr 1
                omega
            · exact .inr h
end ak
end
section
namespace ak
open FhHold Flow
def sO(es:List Edge)(s:Nat)(w:Bool):Fx es s w 0=cx es:=by
 funext i;show(if i=s then cx es s+sg w*((0:Nat):Int)else cx es i)=cx es i;split;.rename_i q;rw[q];simp
 rfl
def Alike.eat(h:Alike es fs)(k:cx fs i=cx es i):bf fs i=bf es i:=by
 have h1:=h.tail i;have h2:=h.head i;have h3:=h.lo i;have h4:=h.hi i;have h5:(bf fs i).flow=(bf es i).flow:=by have k:((bf fs i).flow:Int)=((bf es i).flow:Int):=k;omega
 cases a:bf fs i;cases b:bf es i;rw[a,b]at h1 h2 h3 h4 h5;simp_all
structure Right (t:Tab) (es:List Edge):Prop where
  nodes:pE es t.nodes
  eX:a_ (aG es) (cx es)
  few:es.length*(t.nodes+1)<ROUNDS
def Right.fuel(h:Right t es)(P:Int)(hP:0<=P):(es.length:Int)*(2*(t.nodes+1):Nat)<P+2*(ROUNDS:Nat):=by
 have h1:es.length*(t.nodes+1)<ROUNDS:=h.few;have h2:(es.length:Int)*(2*(t.nodes+1):Nat)=((2*(es.length*(t.nodes+1)):Nat):Int):=by rw[<-oJ,Nat.mul_left_comm]
 rw[h2];omega
def FA(hf:a_ (aG es) (cx es))(hi:i<es.length):(bf es i).lo<=(bf es i).flow:=by have:=hf.lo i hi;have this:((bf es i).lo:Int)<=((bf es i).flow:Int):=this;omega
structure uH (es:List Edge) (i:Nat) (limit:Option Nat) (k:Nat) (fs:List Edge):Prop where
  alike:Alike es fs
  eX:a_ (aG es) (cx fs)
  at_:cx fs i=cx es i+k
  most:∀y,limit=some y->k<=y
  end_:limit=some k\/et (aG es) i (cx es i+k)
def Sl(es:List Edge)(i:Nat)(limit:Option Nat)(r:Option Nat×List Edge):Prop:=match r.1 with|some k=>uH es i limit k r.2|none=>limit=none/\e9 (aG es) i
def Bl{es fs:List Edge}{i k v:Nat}{w:Bool}(hi:i<es.length)(A:Alike es fs)(keep:cx fs i=cx es i)(hv:(v:Int)=cx es i+sg w*k):Alike es (fs.set i {bf es i with flow:=v})/\cx (fs.set i {bf es i with flow:=v})=Fx fs i w k:=by
 have gL:i<fs.length:=by rw[A.len];exact hi
 rw[<-A.eat keep];refine⟨A.trans (xS gL v),?_⟩;funext j;rw[BJ gL];show _=if j=i then cx fs i+sg w*(k:Int)else cx fs j;rw[keep,hv]
def Qw(h:Right t es)(hi:i<es.length):Sl es i limit (t.up es i limit):=by
 unfold Tab.up;rw[f_ hi];have ip:=sj (b:=true) (cx es) rfl (h.eX.lo i hi) (h.eX.hi i hi);have full:∀k:Nat,FhHold.room (bf es i) true=some k->∀g,a_ (aG es) g->g i<=cx es i+k:=by
  intro k hk g hg;rw[hk]at ip;have ip:((aG es).hi i).map (λh=>h-cx es i)=some (k:Int):=ip;cases q:(aG es).hi i with
  |none=>rw[q]at ip;cases ip
  |some z=>
   have h1:=hg.hi i hi z q;rw[q]at ip;have:z-cx es i=k:=by simpa using ip
   omega
 show Sl es i limit (match lesser limit (FhHold.room (bf es i) true)with|some 0=>(some 0,es)|m=>match pushed i t.nodes (bf es i).head (bf es i).tail ROUNDS m es with|(none,fs)=>(none,fs)|(some k,fs)=>(some k,fs.set i {bf es i with flow:=(bf es i).flow+k}));have main:∀m,lesser limit (FhHold.room (bf es i) true)=m->m≠some 0->Sl es i limit (match pushed i t.nodes (bf es i).head (bf es i).tail ROUNDS m es with|(none,fs)=>(none,fs)|(some k,fs)=>(some k,fs.set i {bf es i with flow:=(bf es i).flow+k})):=by
  intro m hm Yj;have P:=qN (s:=i) (nodes:=t.nodes) (w:=true) ROUNDS m es 0 hi h.nodes (by rw[sO];exact h.eX) (by intro y hy r hr;rw[sO,ip]at hr;rw[hy]at hm;cases q:FhHold.room (bf es i) true with|none=>rw[q]at hr;cases hr|some z=>rw[q]at hr;cases hr;have:=(gC hm).2.1 z q;show(y:Int)<=(z:Int);omega) (by intro hn;rw[hn]at hm;refine⟨rfl,?_⟩;have:=(gD hm).2;show(bf es i).hi.map Int.ofNat=none;cases q:(bf es i).hi with|none=>rfl|some z=>simp[FhHold.room,q]at this) (.inr (h.fuel _ vL));have P:mw es i true 0 m (pushed i t.nodes (bf es i).head (bf es i).tail ROUNDS m es):=P;generalize pushed i t.nodes (bf es i).head (bf es i).tail ROUNDS m es=r at P⊢;obtain⟨r1,r2⟩:=r;cases r1 with
  |none=>obtain⟨p1,p2⟩:m=none/\e9 (aG es) i:=P;rw[p1]at hm;exact⟨(gD hm).1,p2⟩
  |some k=>
   have P:iO es i true 0 m k r2:=P;obtain⟨A,keep,eX,most,end_⟩:=P;rw[ql]at eX end_;have E:=Bl (v:=(bf es i).flow+k) (w:=true) (k:=k) hi A keep (by show(((bf es i).flow+k:Nat):Int)=((bf es i).flow:Int)+1*k;omega);show uH es i limit k (r2.set i {bf es i with flow:=(bf es i).flow+k});have at_:cx (r2.set i {bf es i with flow:=(bf es i).flow+k}) i=cx es i+k:=by rw[E.2];show(if i=i then cx r2 i+sg true*(k:Int)else _)=_;rw[aw rfl,keep];simp[sg]
   have tP:a_ (aG es) (cx (r2.set i {bf es i with flow:=(bf es i).flow+k})):=by rw[E.2];exact eX
   refine⟨E.1,tP,at_,?_,?_⟩;.intro y hy;cases q:m with|none=>rw[q]at hm;rw[(gD hm).1]at hy;cases hy|some z=>rw[q]at hm;have h1:=(gC hm).1 y hy;have h2:=most z q;omega
   rcases end_ with e|e
   .rw[e]at hm;rcases (gC hm).2.2 with q|q;.exact .inl q
    right;exact⟨⟨_,tP,at_⟩,full k q⟩
   right;refine⟨⟨_,tP,at_⟩,?_⟩;intro g hg;have U:=qv (a:=(i,true)) hi eX.iE (eX.within i) hg.iE (hg.within i) e;have:Fx r2 i true k i=cx es i+k:=by rw[<-E.2];exact at_
   simp[sg]at U;omega
 cases q:lesser limit (FhHold.room (bf es i) true)with
 |none=>exact main none q (by simp)
 |some z=>
  cases z with
  |zero=>
   show uH es i limit 0 es;refine⟨Alike.refl es,h.eX,by simp,by omega,?_⟩;rcases (gC q).2.2 with e|e;.exact .inl e
   exact .inr ⟨⟨_,h.eX,by simp⟩,full 0 e⟩
  |succ z=>exact main (some (z+1)) q (by simp)
structure DS (es:List Edge) (i limit:Nat) (r:Nat×List Edge):Prop where
  alike:Alike es r.2
  eX:a_ (aG es) (cx r.2)
  at_:cx r.2 i=cx es i - r.1
  most:r.1<=limit
  end_:r.1=limit\/dN (aG es) i (cx es i - r.1)
def zS{t:Tab}{es:List Edge}{i limit:Nat}(h:Right t es)(hi:i<es.length):DS es i limit (t.down es i limit):=by
 unfold Tab.down;rw[f_ hi];have wz:=FA h.eX hi;have ip:=sj (b:=false) (cx es) rfl (h.eX.lo i hi) (h.eX.hi i hi);have P:=qN (s:=i) (nodes:=t.nodes) (w:=false) ROUNDS (some (min limit ((bf es i).flow-(bf es i).lo))) es 0 hi h.nodes (by rw[sO];exact h.eX) (by intro y hy r hr;rw[sO,ip]at hr;cases hr;cases hy;show((min limit ((bf es i).flow-(bf es i).lo):Nat):Int)<=(((bf es i).flow-(bf es i).lo:Nat):Int);omega) (by intro hn;cases hn) (.inr (h.fuel _ vL));have P:mw es i false 0 (some (min limit ((bf es i).flow-(bf es i).lo))) (pushed i t.nodes (bf es i).tail (bf es i).head ROUNDS (some (min limit ((bf es i).flow-(bf es i).lo))) es):=P;show DS es i limit (match pushed i t.nodes (bf es i).tail (bf es i).head ROUNDS (some (min limit ((bf es i).flow-(bf es i).lo))) es with|(some k,fs)=>(k,fs.set i {bf es i with flow:=(bf es i).flow-k})|(none,fs)=>(0,fs));generalize pushed i t.nodes (bf es i).tail (bf es i).head ROUNDS (some (min limit ((bf es i).flow-(bf es i).lo))) es=r at P⊢;obtain⟨r1,r2⟩:=r;cases r1 with
 |none=>obtain⟨p1,_⟩:some (min limit ((bf es i).flow-(bf es i).lo))=none/\e9 (aG es) i:=P;cases p1
 |some k=>
  have P:iO es i false 0 (some (min limit ((bf es i).flow-(bf es i).lo))) k r2:=P;obtain⟨A,keep,eX,most,end_⟩:=P;rw[ql]at eX end_;have hk:=most _ rfl;have E:=Bl (v:=(bf es i).flow-k) (w:=false) (k:=k) hi A keep (by show(((bf es i).flow-k:Nat):Int)=((bf es i).flow:Int)+(-1)*k;omega);show DS es i limit (k,r2.set i {bf es i with flow:=(bf es i).flow-k});have at_:cx (r2.set i {bf es i with flow:=(bf es i).flow-k}) i=cx es i-k:=by rw[E.2];show(if i=i then cx r2 i+sg false*(k:Int)else _)=_;rw[aw rfl,keep];simp[sg];omega
  have tP:a_ (aG es) (cx (r2.set i {bf es i with flow:=(bf es i).flow-k})):=by rw[E.2];exact eX
  refine⟨E.1,tP,at_,by show k<=limit;omega,?_⟩;show k=limit\/dN (aG es) i (cx es i-k);rcases end_ with e|e
  .cases e;by_cases q:limit<=(bf es i).flow-(bf es i).lo;.left;omega
   right;refine⟨⟨_,tP,at_⟩,?_⟩;intro g hg;have:=hg.lo i hi;have this:((bf es i).lo:Int)<=g i:=this;show((bf es i).flow:Int)-_<=g i;omega
  right;refine⟨⟨_,tP,at_⟩,?_⟩;intro g hg;have U:=qv (a:=(i,false)) hi eX.iE (eX.within i) hg.iE (hg.within i) e;have:Fx r2 i false k i=cx es i-k:=by rw[<-E.2];exact at_
  simp[sg]at U;omega
end ak
namespace Flow
def Net.held(N:Net)(s:Nat)(l:Int)(h:Option Int):Net:={N with lo:=λi=>if i=s then l else N.lo i,hi:=λi=>if i=s then h else N.hi i}
def pC(f g:Fl):List Nat->Prop|[]=>True|c::cs=>f c<g c\/(f c=g c/\pC f g cs)
theorem Bx:∀{cs:List Nat},pC f g cs->pC g f cs->cs.map f=cs.map g
 |[],_,_=>rfl
 |c::cs,h1,h2=>by
  have e:f c=g c:=by rcases h1 with h1|h1<;>rcases h2 with h2|h2<;>omega
  rw[cV,cV,e];congr 1;refine Bx ?_ ?_
  .rcases h1 with h1|h1;.omega
   exact h1.2
  rcases h2 with h2|h2;.omega
  exact h2.2
def gj(N:Net)(cs:List Nat)(f:Fl):Prop:=a_ N f/\∀g,a_ N g->pC f g cs
def gj.nil(h:a_ N f):gj N [] f:=⟨h,λ_ _=>trivial⟩
def gG(hg:a_ N g)(h1:l<=g s)(h2:Under (g s) h):a_ (N.held s l h) g:=by
 refine⟨hg.iE,?_,?_⟩
 .intro e he;show(if e=s then l else N.lo e)<=g e;split;.rename_i q;rw[q];exact h1
  exact hg.lo e he
 intro e he;show Under (g e) (if e=s then h else N.hi e);split;.rename_i q;rw[q];exact h2
 exact hg.hi e he
def xH(hs:s<N.m)(h1:N.lo s<=x)(h2:Under x (N.hi s))(hg:a_ (N.held s x (some x)) g):a_ N g/\g s=x:=by
 have a1:=hg.lo s hs;have a2:=hg.hi s hs x (by show(if s=s then some x else N.hi s)=some x;rw[aw rfl]);have a1:(if s=s then x else N.lo s)<=g s:=a1;rw[aw rfl]at a1;have e:g s=x:=by omega
 refine⟨⟨hg.iE,?_,?_⟩,e⟩
 .intro i hi;by_cases q:i=s;.rw[q,e];exact h1
  have:=hg.lo i hi;have this:(if i=s then x else N.lo i)<=g i:=this;rw[au q]at this;exact this
 intro i hi;by_cases q:i=s;.rw[q,e];exact h2
 have:=hg.hi i hi;have this:Under (g i) (if i=s then some x else N.hi i):=this;rw[au q]at this;exact this
def gj.cons(hc:c<N.m)(hx:dN N c x)(h:gj (N.held c x (some x)) cs f):gj N (c::cs) f:=by
 obtain⟨⟨g0,hg0,e0⟩,RV⟩:=hx;have b1:N.lo c<=x:=by rw[<-e0];exact hg0.lo c hc
 have b2:Under x (N.hi c):=by rw[<-e0];exact hg0.hi c hc
 obtain⟨F1,F2⟩:=xH hc b1 b2 h.1;refine⟨F1,?_⟩;intro g hg;have:=RV g hg;by_cases q:g c=x;.refine .inr ⟨by omega,h.2 g (gG hg (by omega) (λz hz=>by cases hz;omega))⟩
 exact .inl (by omega)
end Flow
namespace ak
open FhHold Flow
def rj(t:Tab)(fs:List Edge)(i:Nat):List Edge:=match fs[i]? with
  |none=>fs
  |some e=>
    let r:=t.down fs i (e.flow-e.lo)
    match r.2[i]? with
      |none=>r.2
      |some g=>r.2.set i {g with lo:=g.flow,hi:=some g.flow}
def Ej(t:Tab)(es:List Edge):t.firstOf es=(List.range (t.rows*t.cols)).foldl (rj t) es:=rfl
def vC{es:List Edge}{i l:Nat}{h:Option Nat}(hi:i<es.length):aG (es.set i {bf es i with lo:=l,hi:=h})=(aG es).held i l (h.map Int.ofNat)/\cx (es.set i {bf es i with lo:=l,hi:=h})=cx es:=by
 constructor
 .unfold aG Net.held;rw[jk];congr 1
  .funext j;rw[jJ hi];split;.rename_i q;rw[q]
   rfl
  .funext j;rw[jJ hi];split;.rename_i q;rw[q]
   rfl
  .funext j;rw[jJ hi];show _=if j=i then(l:Int)else _;split<;>rfl
  funext j;rw[jJ hi];show _=if j=i then(h.map Int.ofNat)else _;split<;>rfl
 funext j;unfold cx;rw[jJ hi];split;.rename_i q;rw[q]
 rfl
def xl(hn:pE es n)(he:e.tail<n/\e.head<n):pE (es.set i e) n:=by
 intro x hx;rcases List.mem_or_eq_of_mem_set hx with h|h;.exact hn x h
 rw[h];exact he
def MF(h:Right t es)(hi:i<es.length):∃x:Int,dN (aG es) i x/\Right t (rj t es i)/\aG (rj t es i)=(aG es).held i x (some x)/\(rj t es i).length=es.length:=by
 have D:=zS (limit:=(bf es i).flow-(bf es i).lo) h hi;unfold rj;rw[f_ hi];show ∃x:Int,dN (aG es) i x/\Right t (match (t.down es i ((bf es i).flow-(bf es i).lo)).2[i]? with|none=>(t.down es i ((bf es i).flow-(bf es i).lo)).2|some g=>(t.down es i ((bf es i).flow-(bf es i).lo)).2.set i {g with lo:=g.flow,hi:=some g.flow})/\aG (match (t.down es i ((bf es i).flow-(bf es i).lo)).2[i]? with|none=>(t.down es i ((bf es i).flow-(bf es i).lo)).2|some g=>(t.down es i ((bf es i).flow-(bf es i).lo)).2.set i {g with lo:=g.flow,hi:=some g.flow})=(aG es).held i x (some x)/\(match (t.down es i ((bf es i).flow-(bf es i).lo)).2[i]? with|none=>(t.down es i ((bf es i).flow-(bf es i).lo)).2|some g=>(t.down es i ((bf es i).flow-(bf es i).lo)).2.set i {g with lo:=g.flow,hi:=some g.flow}).length=es.length;generalize t.down es i ((bf es i).flow-(bf es i).lo)=r at D⊢;obtain⟨k,fs⟩:=r;obtain⟨A,eX,at_,most,end_⟩:=D;have A:Alike es fs:=A;have at_:cx fs i=cx es i-k:=at_;have eX:a_ (aG es) (cx fs):=eX;have gL:i<fs.length:=by rw[A.len];exact hi
 have RV:dN (aG es) i (cx fs i):=by
  rw[at_];have end_:k=(bf es i).flow-(bf es i).lo\/dN (aG es) i (cx es i-k):=end_;rcases end_ with e|e;.have wz:=FA h.eX hi;refine⟨⟨_,eX,at_⟩,?_⟩;intro g hg;have:=hg.lo i hi;have this:((bf es i).lo:Int)<=g i:=this;show((bf es i).flow:Int)-k<=g i;omega
  exact e
 refine⟨cx fs i,RV,?_⟩;show Right t (match fs[i]? with
  |none=>fs
  |some g=>fs.set i {g with lo:=g.flow,hi:=some g.flow})/\aG (match fs[i]? with
  |none=>fs
  |some g=>fs.set i {g with lo:=g.flow,hi:=some g.flow})=_/\(match fs[i]? with
  |none=>fs
  |some g=>fs.set i {g with lo:=g.flow,hi:=some g.flow}).length=_
 rw[f_ gL];show Right t (fs.set i {bf fs i with lo:=(bf fs i).flow,hi:=some (bf fs i).flow})/\aG (fs.set i {bf fs i with lo:=(bf fs i).flow,hi:=some (bf fs i).flow})=_/\(fs.set i {bf fs i with lo:=(bf fs i).flow,hi:=some (bf fs i).flow}).length=_;obtain⟨B1,B2⟩:=vC (l:=(bf fs i).flow) (h:=some (bf fs i).flow) gL;have B1:aG (fs.set i {bf fs i with lo:=(bf fs i).flow,hi:=some (bf fs i).flow})=(aG fs).held i (cx fs i) (some (cx fs i)):=B1;refine⟨⟨xl (A.nodes h.nodes) (have k:=(A.nodes h.nodes) (bf fs i) (pM gL);⟨k.1,k.2⟩),?_,?_⟩,by rw[B1,A.gn],by rw[jk,A.len]⟩;.rw[B1,B2];refine gG (by rw[A.gn];exact eX) (by omega) (λz hz=>by cases hz;omega)
 rw[jk,A.len];exact h.few
theorem vE:∀(cs:List Nat)(es:List Edge),Right t es->(∀c,c∈cs->c<es.length)->gj (aG es) cs (cx (cs.foldl (rj t) es))/\(cs.foldl (rj t) es).length=es.length|[],es,h,_=>⟨gj.nil h.eX,rfl⟩|c::cs,es,h,hc=>by obtain⟨x,h1,h2,h3,h4⟩:=MF h (hc c cF);rw[qp];have ih:=vE cs (rj t es c) h2 (λd hd=>by rw[h4];exact hc d (dR _ hd));rw[h3]at ih;exact⟨gj.cons (hc c cF) h1 ih.1,ih.2.trans h4⟩
end ak
end
section
namespace Flow
def pX(m n:Nat)(g:Nat->Int):S (m+n) g=S m g+S n (λi=>g (m+i)):=by induction n with|zero=>show S m g=S m g+0;omega|succ n ih=>show S (m+n) g+g (m+n)=S m g+(S n (λi=>g (m+i))+g (m+n));rw[ih];omega
def zo(R C:Nat)(g:Nat->Int):S (R*C) g=S R (λi=>S C (λj=>g (i*C+j))):=by induction R with|zero=>rw[qm];rfl|succ R ih=>rw[i5,pX,ih];rfl
def DQ(R C:Nat)(g:Nat->Nat->Int):S R (λi=>S C (λj=>g i j))=S C (λj=>S R (λi=>g i j)):=by induction R with|zero=>show(0:Int)=S C (λ_=>0);rw[qD]|succ R ih=>show S R (λi=>S C (λj=>g i j))+S C (λj=>g R j)=S C (λj=>S R (λi=>g i j)+g R j);rw[ih,lP]
def XO(n:Nat)(g h:Nat->Int):S n (λi=>g i-h i)=S n g-S n h:=by induction n with|zero=>rfl|succ n ih=>show S n (λi=>g i-h i)+(g n-h n)=(S n g+g n)-(S n h+h n);rw[ih];omega
structure nZ (M N:Net) (o b:Nat->Nat):Prop where
  to:∀p,p<M.m->o p<N.m
  back:∀e,e<N.m->b e<M.m
  ob:∀e,e<N.m->o (b e)=e
  bo:∀p,p<M.m->b (o p)=p
  sum:∀G:Nat->Int,S N.m G=S M.m (λp=>G (o p))
  lo:∀p,p<M.m->N.lo (o p)=M.lo p
  hi:∀p,p<M.m->N.hi (o p)=M.hi p
  Am:∃u v:Nat->Nat,∀p,p<M.m->N.tl (o p)=u (M.tl p)/\N.hd (o p)=u (M.hd p)/\v (u (M.tl p))=M.tl p/\v (u (M.hd p))=M.hd p
def nZ.eX(I:nZ M N o b)(h:a_ N g):a_ M (λp=>g (o p)):=by
 obtain⟨u,v,L⟩:=I.Am;refine⟨?_,?_,?_⟩;.intro c;have:=h.iE (λx=>c (v x));rw[I.sum]at this;rw[<-this];refine cn λp hp=>?_;obtain⟨l1,l2,l3,l4⟩:=L p hp;show _=(c (v (N.hd (o p)))-c (v (N.tl (o p))))*g (o p);rw[l1,l2,l3,l4]
 .intro p hp;rw[<-I.lo p hp];exact h.lo _ (I.to p hp)
 intro p hp;rw[<-I.hi p hp];exact h.hi _ (I.to p hp)
def nZ.gI(I:nZ M N o b)(h:a_ M g):a_ N (λe=>g (b e)):=by
 obtain⟨u,v,L⟩:=I.Am;refine⟨?_,?_,?_⟩;.intro c;have:=h.iE (λx=>c (u x));rw[I.sum];rw[<-this];refine cn λp hp=>?_;obtain⟨l1,l2,l3,l4⟩:=L p hp;show(c (N.hd (o p))-c (N.tl (o p)))*g (b (o p))=_;rw[l1,l2,I.bo p hp]
 .intro e he;have:=h.lo _ (I.back e he);rw[<-I.lo _ (I.back e he),I.ob e he]at this;exact this
 intro e he;have:=h.hi _ (I.back e he);rw[<-I.hi _ (I.back e he),I.ob e he]at this;exact this
def nZ.max(I:nZ M N o b)(hp:p<M.m)(h:et N (o p) x):et M p x:=by obtain⟨⟨g,hg,e⟩,h2⟩:=h;refine⟨⟨_,I.eX hg,e⟩,?_⟩;intro f hf;have:=h2 _ (I.gI hf);simp only[I.bo p hp]at this;exact this
def nZ.min(I:nZ M N o b)(hp:p<M.m)(h:dN N (o p) x):dN M p x:=by obtain⟨⟨g,hg,e⟩,h2⟩:=h;refine⟨⟨_,I.eX hg,e⟩,?_⟩;intro f hf;have:=h2 _ (I.gI hf);simp only[I.bo p hp]at this;exact this
def nZ.FD(I:nZ M N o b)(h:e9 N (o p)):e9 M p:=by intro K;obtain⟨g,hg,e⟩:=h K;exact⟨_,I.eX hg,e⟩
def kG(A:Fl->Prop)(cs:List Nat)(f:Fl):Prop:=A f/\∀g,A g->pC f g cs
def kG.uniq{A:Fl->Prop}(h:kG A cs f)(k:kG A cs g):cs.map f=cs.map g:=Bx (h.2 g k.1) (k.2 f h.1)
theorem rG:∀{cs:List Nat},(∀c,c∈cs->f c=f' c)->(∀c,c∈cs->g c=g' c)->pC f g cs->pC f' g' cs
 |[],_,_,_=>trivial
 |c::cs,h1,h2,h=>by
  have e1:=h1 c cF;have e2:=h2 c cF;have ih:=rG (cs:=cs) (λd hd=>h1 d (dR _ hd)) (λd hd=>h2 d (dR _ hd));rcases h with h|⟨h3,h4⟩;.exact .inl (by omega)
  exact .inr ⟨by omega,ih h4⟩
end Flow
namespace ak
open FhHold Flow
def sum_append(a b:List Nat):FhHold.sum (a++b)=FhHold.sum a+FhHold.sum b:=by induction a with|nil=>show FhHold.sum b=0+FhHold.sum b;omega|cons x a ih=>show x+FhHold.sum (a++b)=x+FhHold.sum a+FhHold.sum b;rw[ih];omega
def Ow(n:Nat)(g:Nat->Nat):((FhHold.sum ((List.range n).map g):Nat):Int)=S n (λi=>(g i:Int)):=by induction n with|zero=>rfl|succ n ih=>rw[iQ,cR,sum_append];show((FhHold.sum ((List.range n).map g)+(g n+0):Nat):Int)=S n (λi=>(g i:Int))+(g n:Int);rw[<-ih];omega
def LQ(n:Nat)(g:Nat->List Nat):((FhHold.sum ((List.range n).flatMap g):Nat):Int)=S n (λi=>((FhHold.sum (g i):Nat):Int)):=by
 induction n with
 |zero=>rfl
 |succ n ih=>
  rw[iQ,tw,sum_append];have:FhHold.sum ([n].flatMap g)=FhHold.sum (g n):=by simp
  rw[this];show((FhHold.sum ((List.range n).flatMap g)+FhHold.sum (g n):Nat):Int)=S n (λi=>((FhHold.sum (g i):Nat):Int))+((FhHold.sum (g n):Nat):Int);rw[<-ih];omega
def Ol(t:Tab)(c:List Nat)(i j:Nat):((t.at_ c i j:Nat):Int)=S t.rows (λk=>if i=k\/i=t.rows then S t.cols (λl=>if j=l\/j=t.cols then(t.cell c k l:Int)else 0)else 0):=by
 unfold Tab.at_;rw[LQ];refine cn λk _=>?_;split;.rw[Ow];refine cn λl _=>?_;split<;>rfl
 rfl
def sJ(t:Tab)(c:List Nat)(hi:i<t.rows)(hj:j<t.cols):((t.at_ c i j:Nat):Int)=t.cell c i j:=by
 rw[Ol];rw[cn (h:=λk=>if k=i then(t.cell c i j:Int)else 0)];.exact wR i _ hi
 intro k hk;by_cases q:k=i
 .subst q;rw[aw (.inl rfl),aw rfl];rw[cn (h:=λl=>if l=j then(t.cell c k j:Int)else 0)];.exact wR j _ hj
  intro l hl;by_cases q:l=j;.subst q;rw[aw (.inl rfl),aw rfl]
  rw[au (by omega),au q]
 rw[au (by omega),au q]
def Lz(t:Tab)(c:List Nat)(hi:i<t.rows):((t.at_ c i t.cols:Nat):Int)=S t.cols (λl=>(t.cell c i l:Int)):=by
 rw[Ol];rw[cn (h:=λk=>if k=i then S t.cols (λl=>(t.cell c i l:Int))else 0)];.exact wR i _ hi
 intro k hk;by_cases q:k=i;.subst q;rw[aw (.inl rfl),aw rfl];refine cn λl _=>?_;rw[aw (.inr rfl)]
 rw[au (by omega),au q]
def LD(t:Tab)(c:List Nat)(hj:j<t.cols):((t.at_ c t.rows j:Nat):Int)=S t.rows (λk=>(t.cell c k j:Int)):=by
 rw[Ol];refine cn λk _=>?_;rw[aw (.inr rfl)];rw[cn (h:=λl=>if l=j then(t.cell c k j:Int)else 0)];.exact wR j _ hj
 intro l hl;by_cases q:l=j;.subst q;rw[aw (.inl rfl),aw rfl]
 rw[au (by omega),au q]
def LF(t:Tab)(c:List Nat):((t.at_ c t.rows t.cols:Nat):Int)=S t.rows (λk=>S t.cols (λl=>(t.cell c k l:Int))):=by rw[Ol];refine cn λk _=>?_;rw[aw (.inr rfl)];refine cn λl _=>?_;rw[aw (.inr rfl)]
def pr(t:Tab)(p:Nat):Nat:=p/(t.cols+1)
def pc(t:Tab)(p:Nat):Nat:=p%(t.cols+1)
def cX(t:Tab)(p:Nat):Bool:=decide (pr t p=t.rows) !=decide (pc t p=t.cols)
def cI(t:Tab)(p:Nat):Bool:=decide (pr t p<t.rows)&&(decide (pc t p<t.cols)&&t.isBlank (pr t p*t.cols+pc t p))
def aJ(t:Tab)(s:Places)(p:Nat):Bool:=s.contains p&&!cI t p
def PN(t:Tab)(s:Places):Net where
  m:=t.places
  tl:=λp=>if cX t p=true then t.rows+1+pc t p else pr t p
  hd:=λp=>if cX t p=true then pr t p else t.rows+1+pc t p
  lo:=λp=>if aJ t s p=true then 0 else(t.own p:Int)
  hi:=λp=>if aJ t s p=true then none else some (t.own p:Int)
def EG(t:Tab)(hj:j<=t.cols):pr t (i*(t.cols+1)+j)=i:=by unfold pr;rw[ik,uf (by omega),uj (by omega)];rfl
def EI(t:Tab)(hj:j<=t.cols):pc t (i*(t.cols+1)+j)=j:=by unfold pc;rw[ik,ug,uk (by omega)]
def RE(t:Tab)(p:Nat):pr t p*(t.cols+1)+pc t p=p:=by unfold pr pc;rw[ik];exact ue p (t.cols+1)
def EK(t:Tab)(p:Nat):pc t p<=t.cols:=by have:=qh p (show t.cols+1>0 by omega);unfold pc;omega
def EH(t:Tab)(h:p<t.places):pr t p<=t.rows:=by
 unfold Tab.places at h;have:pr t p<t.rows+1:=by unfold pr;exact uv (by rw[ik];exact h)
 omega
def EN(t:Tab)(hi:i<=t.rows)(hj:j<=t.cols):i*(t.cols+1)+j<t.places:=by unfold Tab.places;have:i*(t.cols+1)<=t.rows*(t.cols+1):=tG _ hi;have:(t.rows+1)*(t.cols+1)=t.rows*(t.cols+1)+(t.cols+1):=i5 _ _;omega
def mE(t:Tab)(h:p<t.places):(pr t p<t.rows/\pc t p<t.cols)\/(pr t p<t.rows/\pc t p=t.cols)\/(pr t p=t.rows/\pc t p<t.cols)\/(pr t p=t.rows/\pc t p=t.cols):=by have h1:=EH t h;have h2:=EK t p;omega
def Li(t:Tab)(p:Nat):t.own p=t.at_ t.cells (pr t p) (pc t p):=rfl
def iJ(t:Tab)(hj:j<=t.cols):t.edgeOf (i*(t.cols+1)+j)=if i<t.rows then(if j<t.cols then i*t.cols+j else t.rows*t.cols+i)else if j<t.cols then t.rows*t.cols+t.rows+j else t.rows*t.cols+t.rows+t.cols:=by have h1:=EG t (i:=i) hj;have h2:=EI t (i:=i) hj;unfold pr at h1;unfold pc at h2;unfold Tab.edgeOf;rw[h1,h2]
def qW(t:Tab)(p:Nat):t.edgeOf p=if pr t p<t.rows then(if pc t p<t.cols then pr t p*t.cols+pc t p else t.rows*t.cols+pr t p)else if pc t p<t.cols then t.rows*t.cols+t.rows+pc t p else t.rows*t.cols+t.rows+t.cols:=rfl
def placeOf(t:Tab)(e:Nat):Nat:=if e<t.rows*t.cols then(e/t.cols)*(t.cols+1)+e%t.cols else if e<t.rows*t.cols+t.rows then(e-t.rows*t.cols)*(t.cols+1)+t.cols else t.rows*(t.cols+1)+(e-(t.rows*t.cols+t.rows))
def cN(t:Tab):Nat:=t.rows*t.cols+t.rows+t.cols+1
def dk{i j R C:Nat}(hi:i<R)(hj:j<C):i*C+j<R*C:=by have:(i+1)*C<=R*C:=tG _ hi;rw[i5]at this;omega
def nU(t:Tab){p:Nat}(h:p<t.places):t.edgeOf p<cN t:=by
 rw[qW];unfold cN;rcases mE t h with⟨h1,h2⟩|⟨h1,h2⟩|⟨h1,h2⟩|⟨h1,h2⟩;.rw[aw h1,aw h2];have:=dk h1 h2;omega
 .rw[aw h1,au (by omega)];omega
 .rw[au (by omega),aw h2];omega
 rw[au (by omega),au (by omega)];omega
def vM(t:Tab){p:Nat}(h:p<t.places):placeOf t (t.edgeOf p)=p:=by
 have e:=RE t p;have x:=qW t p;unfold placeOf;rcases mE t h with⟨h1,h2⟩|⟨h1,h2⟩|⟨h1,h2⟩|⟨h1,h2⟩
 .rw[aw h1,aw h2]at x;rw[x,aw (dk h1 h2)];have d:(pr t p*t.cols+pc t p)/t.cols=pr t p:=by rw[ik,uf (by omega),uj h2];rfl
  have m:(pr t p*t.cols+pc t p)%t.cols=pc t p:=by rw[ik,ug,uk h2]
  rw[d,m,e]
 .rw[aw h1,au (by omega)]at x;rw[x,au (by omega),aw (by omega)];rw[ot];rw[h2]at e;exact e
 .rw[au (by omega),aw h2]at x;rw[x,au (by omega),au (by omega)];rw[ot,<-h1];exact e
 rw[au (by omega),au (by omega)]at x;rw[x,au (by omega),au (by omega)];rw[ot];rw[h1,h2]at e;exact e
def iM(t:Tab)(h:e<cN t):placeOf t e<t.places/\t.edgeOf (placeOf t e)=e:=by
 unfold cN at h;unfold placeOf;by_cases h1:e<t.rows*t.cols
 .rw[aw h1];have hC:0<t.cols:=by
   rcases Kj t.cols with q|q;.rw[q,yq]at h1;omega
   exact q
  have hd:e/t.cols<t.rows:=uv (by rw[ik];exact h1);have hm:e%t.cols<t.cols:=qh _ hC;refine⟨EN t (by omega) (by omega),?_⟩;rw[iJ t (by omega),aw hd,aw hm,ik];exact ue e t.cols
 rw[au h1];by_cases h2:e<t.rows*t.cols+t.rows;.rw[aw h2];refine⟨EN t (by omega) (by omega),?_⟩;rw[iJ t (by omega),aw (by omega),au (by omega)];omega
 rw[au h2];refine⟨EN t (by omega) (by omega),?_⟩;rw[iJ t (by omega),au (by omega)];split<;>omega
def M4(t:Tab)(G:Nat->Int):S (cN t) G=S t.places (λp=>G (t.edgeOf p)):=by
 unfold Tab.places;rw[zo];have VZ:∀i,S (t.cols+1) (λj=>G (t.edgeOf (i*(t.cols+1)+j)))=S t.cols (λj=>G (t.edgeOf (i*(t.cols+1)+j)))+G (t.edgeOf (i*(t.cols+1)+t.cols)):=λi=>rfl;have inner:∀i,i<t.rows->S (t.cols+1) (λj=>G (t.edgeOf (i*(t.cols+1)+j)))=S t.cols (λj=>G (i*t.cols+j))+G (t.rows*t.cols+i):=by intro i hi;rw[VZ,iJ t (bx _),aw hi,au (il _)];congr 1;refine cn λj hj=>?_;rw[iJ t (by omega),aw hi,aw hj]
 show _=S t.rows (λi=>S (t.cols+1) (λj=>G (t.edgeOf (i*(t.cols+1)+j))))+S (t.cols+1) (λj=>G (t.edgeOf (t.rows*(t.cols+1)+j)));rw[cn inner,lP,VZ,iJ t (bx _),au (il _),au (il _)];rw[cn (n:=t.cols) (g:=λj=>G (t.edgeOf (t.rows*(t.cols+1)+j))) (h:=λj=>G (t.rows*t.cols+t.rows+j)) (λj hj=>by rw[iJ t (by omega),au (il _),aw hj])];unfold cN;show S (t.rows*t.cols+t.rows+t.cols) G+G (t.rows*t.cols+t.rows+t.cols)=_;rw[pX,pX,zo];omega
end ak
end
section
namespace Flow
def zm(n:Nat)(g:Nat->Int):S (n+1) g=S n g+g n:=rfl
def a_.congr(h:a_ N f)(e:∀i,i<N.m->f i=g i):a_ N g:=by
 refine⟨?_,?_,?_⟩;.intro c;rw[<-h.iE c];refine cn λi hi=>?_;rw[e i hi]
 .intro i hi;rw[<-e i hi];exact h.lo i hi
 intro i hi;rw[<-e i hi];exact h.hi i hi
end Flow
namespace ak
open FhHold Flow
def j5{α:Type}(g:Nat->Nat->α)(R C:Nat):((List.range R).flatMap λi=>(List.range C).map λj=>g i j).length=R*C:=by induction R with|zero=>rw[qm];rfl|succ R ih=>rw[iQ,tw,dC,ih,i5];simp
def BI{α:Type}(g:Nat->Nat->α){R C i j:Nat}(hi:i<R)(hj:j<C):((List.range R).flatMap λi=>(List.range C).map λj=>g i j)[i*C+j]?=some (g i j):=by
 induction R with
 |zero=>omega
 |succ R ih=>
  rw[iQ,tw];by_cases q:i<R;.rw[pw (by rw[j5];exact dk q hj)];exact ih q
  have:i=R:=by omega
  subst this;rw[px (by rw[j5];omega),j5,ot];simp[hj]
def qM{α:Type}(g:Nat->α){n i:Nat}(h:i<n):((List.range n).map g)[i]?=some (g i):=by simp[h]
def Am(t:Tab)(v:Nat):Nat:=if v<t.rows then v else if v=t.rows then t.sink else v-1
def bal(t:Tab)(x:Nat):Nat:=if x<t.rows then x else if x=t.sink then t.rows else x+1
def Fq(t:Tab)(h:i<t.rows):Am t i=i:=aw h
def BB(t:Tab):Am t t.rows=t.sink:=by unfold Am;rw[au (il _),aw rfl]
def sE(t:Tab)(j:Nat):Am t (t.rows+1+j)=t.rows+j:=by unfold Am;rw[au (by omega),au (by omega)];omega
def iw(t:Tab)(s:Places):(t.edges s).length=cN t:=by unfold Tab.edges cN;simp only[dC,j5,aE,cZ,tI];omega
def Eg(h1:pr t p<t.rows)(h2:pc t p<t.cols):cX t p=false:=by unfold cX;rw[cM (by omega),cM (by omega)];rfl
def Hy(h1:pr t p<t.rows)(h2:pc t p=t.cols):cX t p=true:=by unfold cX;rw[cM (by omega),bq h2];rfl
def Hz(h1:pr t p=t.rows)(h2:pc t p<t.cols):cX t p=true:=by unfold cX;rw[bq h1,cM (by omega)];rfl
def HA(h1:pr t p=t.rows)(h2:pc t p=t.cols):cX t p=false:=by unfold cX;rw[bq h1,bq h2];rfl
def HK(h1:pr t p<t.rows)(h2:pc t p<t.cols):aJ t s p=(s.contains p&&!t.isBlank (pr t p*t.cols+pc t p)):=by unfold aJ cI;rw[bq h1,bq h2];rfl
def vp(h:¬(pr t p<t.rows/\pc t p<t.cols)):aJ t s p=s.contains p:=by
 unfold aJ cI;by_cases q:pr t p<t.rows;.rw[bq q,cM (λz=>h ⟨q,z⟩)];simp
 rw[cM q];simp
def xJ(t:Tab)(s:Places)(h:p<t.places):(t.edges s)[t.edgeOf p]?=some (edge (Am t ((PN t s).tl p)) (Am t ((PN t s).hd p)) (t.own p) (aJ t s p)):=by
 have e:=RE t p;have x:=qW t p;have tl:(PN t s).tl p=if cX t p=true then t.rows+1+pc t p else pr t p:=rfl;have hd:(PN t s).hd p=if cX t p=true then pr t p else t.rows+1+pc t p:=rfl;have LA:((List.range t.rows).flatMap λ(i:Nat)=>(List.range t.cols).map λ(j:Nat)=>edge i (t.rows+j) (t.cell t.cells i j) (s.contains (i*(t.cols+1)+j)&&!t.isBlank (i*t.cols+j))).length=t.rows*t.cols:=j5 _ _ _;have LB:((List.range t.rows).map λ(i:Nat)=>edge t.source i (t.own (i*(t.cols+1)+t.cols)) (s.contains (i*(t.cols+1)+t.cols))).length=t.rows:=by simp
 have LC:((List.range t.cols).map λ(j:Nat)=>edge (t.rows+j) t.sink (t.own (t.rows*(t.cols+1)+j)) (s.contains (t.rows*(t.cols+1)+j))).length=t.cols:=by simp
 unfold Tab.edges;dsimp only;rcases mE t h with⟨h1,h2⟩|⟨h1,h2⟩|⟨h1,h2⟩|⟨h1,h2⟩
 .rw[aw h1,aw h2]at x;rw[Eg h1 h2,au (by simp)]at tl hd;rw[x,tl,hd,pw (by rw[LA];exact dk h1 h2),BI _ h1 h2,Fq t h1,sE,HK h1 h2];have:t.own p=t.cell t.cells (pr t p) (pc t p):=by have:=sJ t t.cells h1 h2;rw[Li];omega
  rw[this,e]
 .rw[aw h1,au (by omega)]at x;rw[Hy h1 h2,aw rfl]at tl hd;rw[x,tl,hd,px (by rw[LA];omega),LA,ot,pw (by rw[LB];exact h1),qM _ h1,Fq t h1,sE,vp (by omega),h2];rw[h2]at e;rw[e];rfl
 .rw[au (by omega),aw h2]at x;rw[Hz h1 h2,aw rfl]at tl hd;rw[x,tl,hd,px (by rw[LA];omega),LA,Cz,ot,px (by rw[LB];omega),LB,ot,pw (by rw[LC];exact h2),qM _ h2,sE,h1,BB,vp (by omega)];rw[h1]at e;rw[e]
 rw[au (by omega),au (by omega)]at x;rw[HA h1 h2,au (by simp)]at tl hd;rw[x,tl,hd,px (by rw[LA];omega),LA,show t.rows*t.cols+t.rows+t.cols-t.rows*t.cols=t.rows+t.cols by omega,px (by rw[LB];omega),LB,ot,px (by rw[LC];omega),LC,Nat.sub_self,sE,h1,BB,vp (by omega),h2];rw[h1,h2]at e;rw[e];rfl
def j8(t:Tab)(s:Places)(h:p<t.places):bf (t.edges s) (t.edgeOf p)=edge (Am t ((PN t s).tl p)) (Am t ((PN t s).hd p)) (t.own p) (aJ t s p):=vw (xJ t s h)
def FO(t:Tab)(v:Nat)(h:v<=t.rows+t.cols+1):bal t (Am t v)=v:=by
 unfold bal Am Tab.sink;by_cases h1:v<t.rows;.rw[aw h1,aw h1]
 rw[au h1];by_cases h2:v=t.rows;.rw[aw h2,au (by omega),aw rfl,h2]
 rw[au h2,au (by omega),au (by omega)];omega
def Lp(t:Tab)(v:Nat)(h:v<=t.rows+t.cols+1):Am t v<t.nodes:=by
 unfold Am Tab.sink Tab.nodes;split;.omega
 split<;>omega
def FU(t:Tab)(s:Places)(h:p<t.places):(PN t s).tl p<=t.rows+t.cols+1/\(PN t s).hd p<=t.rows+t.cols+1:=by
 have h1:=EH t h;have h2:=EK t p;show(if cX t p=true then t.rows+1+pc t p else pr t p)<=_/\(if cX t p=true then pr t p else t.rows+1+pc t p)<=_;cases cX t p;.simp;omega
 simp;omega
def ig(a b v:Nat)(f:Bool):(edge a b v f).tail=a/\(edge a b v f).head=b/\(edge a b v f).flow=v/\(edge a b v f).lo=(if f=true then 0 else v)/\(edge a b v f).hi=(if f=true then none else some v):=by unfold edge;cases f<;>simp
def iso(t:Tab)(s:Places):nZ (PN t s) (aG (t.edges s)) t.edgeOf (placeOf t):=by
 have hm:(aG (t.edges s)).m=cN t:=iw t s;refine⟨?_,?_,?_,?_,?_,?_,?_,⟨Am t,bal t,?_⟩⟩;.intro p hp;rw[hm];exact nU t hp
 .intro e he;rw[hm]at he;exact(iM t he).1
 .intro e he;rw[hm]at he;exact(iM t he).2
 .intro p hp;exact vM t hp
 .intro G;rw[hm];exact M4 t G
 .intro p hp;show((bf (t.edges s) (t.edgeOf p)).lo:Int)=if aJ t s p=true then 0 else(t.own p:Int);rw[j8 t s hp,(ig _ _ _ _).2.2.2.1];split<;>rfl
 .intro p hp;show(bf (t.edges s) (t.edgeOf p)).hi.map Int.ofNat=if aJ t s p=true then none else some (t.own p:Int);rw[j8 t s hp,(ig _ _ _ _).2.2.2.2];split<;>rfl
 intro p hp;obtain⟨l1,l2⟩:=FU t s hp;refine⟨?_,?_,FO t _ l1,FO t _ l2⟩;.show(bf (t.edges s) (t.edgeOf p)).tail=_;rw[j8 t s hp,(ig _ _ _ _).1]
 show(bf (t.edges s) (t.edgeOf p)).head=_;rw[j8 t s hp,(ig _ _ _ _).2.1]
def gX(t:Tab):Fl:=λp=>(t.own p:Int)
def Bo(t:Tab)(s:Places):AI (PN t s) (gX t):=by
 intro c;show S ((t.rows+1)*(t.cols+1)) (λp=>(c ((PN t s).hd p)-c ((PN t s).tl p))*gX t p)=0;rw[zo];let x:Nat->Nat->Int:=λi j=>(t.cell t.cells i j:Int);let q:Nat->Int:=λj=>c (t.rows+1+j);have term:∀i j,i<=t.rows->j<=t.cols->(c ((PN t s).hd (i*(t.cols+1)+j))-c ((PN t s).tl (i*(t.cols+1)+j)))*gX t (i*(t.cols+1)+j)=(if (decide (i=t.rows) !=decide (j=t.cols))=true then c i-q j else q j-c i)*(t.at_ t.cells i j:Int):=by intro i j hi hj;show(c (if cX t (i*(t.cols+1)+j)=true then pr t (i*(t.cols+1)+j)else t.rows+1+pc t (i*(t.cols+1)+j))-c (if cX t (i*(t.cols+1)+j)=true then t.rows+1+pc t (i*(t.cols+1)+j)else pr t (i*(t.cols+1)+j)))*(t.at_ t.cells (pr t (i*(t.cols+1)+j)) (pc t (i*(t.cols+1)+j)):Int)=_;unfold cX;rw[EG t hj,EI t hj];split<;>rfl
 have inner:∀i,i<t.rows->S (t.cols+1) (λj=>(c ((PN t s).hd (i*(t.cols+1)+j))-c ((PN t s).tl (i*(t.cols+1)+j)))*gX t (i*(t.cols+1)+j))=S t.cols (λj=>(q j-q t.cols)*x i j):=by intro i hi;rw[zm,term i t.cols (by omega) (bx _),cM (by omega:¬i=t.rows),bq rfl,aw (show(false !=true)=true from rfl),Lz t t.cells hi];rw[cn (n:=t.cols) (h:=λj=>(q j-c i)*x i j) (λj hj=>by rw[term i j (by omega) (by omega),cM (by omega:¬i=t.rows),cM (by omega:¬j=t.cols),au (by simp),sJ t t.cells hi hj]),<-tQ,<-lP];refine cn λj _=>?_;rw[<-ym];congr 1;omega
 have last:S (t.cols+1) (λj=>(c ((PN t s).hd (t.rows*(t.cols+1)+j))-c ((PN t s).tl (t.rows*(t.cols+1)+j)))*gX t (t.rows*(t.cols+1)+j))=S t.rows (λi=>S t.cols (λj=>(q t.cols-q j)*x i j)):=by rw[zm,term t.rows t.cols (bx _) (bx _),bq rfl,bq rfl,au (by simp),LF t t.cells];rw[cn (n:=t.cols) (h:=λj=>S t.rows (λi=>(c t.rows-q j)*x i j)) (λj hj=>by rw[term t.rows j (bx _) (by omega),bq rfl,cM (by omega:¬j=t.cols),aw (show(true !=false)=true from rfl),LD t t.cells hj,tQ]),DQ,<-tQ,<-lP];refine cn λi _=>?_;rw[<-tQ,<-lP];refine cn λj _=>?_;rw[<-ym];congr 1;omega
 rw[zm,last,cn inner,<-lP];rw[<-qD t.rows];refine cn λi _=>?_;rw[<-lP,<-qD t.cols];refine cn λj _=>?_;rw[<-ym];have:q j-q t.cols+(q t.cols-q j)=0:=by omega
 rw[this,Int.zero_mul]
def pP(t:Tab)(s:Places):a_ (PN t s) (gX t):=by
 refine⟨Bo t s,?_,?_⟩;.intro p _;show(if aJ t s p=true then 0 else(t.own p:Int))<=(t.own p:Int);split<;>omega
 intro p _ h;show(if aJ t s p=true then none else some (t.own p:Int))=some h->(t.own p:Int)<=h;split;.intro z;cases z
 intro z;cases z;omega
def pU(t:Tab)(s:Places)(h:p<t.places):cx (t.edges s) (t.edgeOf p)=(t.own p:Int):=by show((bf (t.edges s) (t.edgeOf p)).flow:Int)=_;rw[j8 t s h,(ig _ _ _ _).2.2.1]
structure ic (t:Tab):Prop where
  r:t.rows<=16
  c:t.cols<=16
def ic.few(h:ic t):cN t*(t.nodes+1)<ROUNDS:=by
 have h1:t.rows*t.cols<=16*16:=lh h.r h.c;have h2:cN t<=289:=by unfold cN;have:=h.r;have:=h.c;omega
 have h3:t.nodes+1<=35:=by unfold Tab.nodes;have:=h.r;have:=h.c;omega
 have:cN t*(t.nodes+1)<=289*35:=lh h2 h3;unfold ROUNDS;omega
def mV(hs:ic t)(s:Places):Right t (t.edges s):=by
 refine⟨?_,?_,?_⟩
 .intro e he;obtain⟨i,hi,rfl⟩:=tF.mp he;have gL:i<cN t:=by rw[<-iw t s];exact hi
  obtain⟨h1,h2⟩:=iM t gL;have h3:=xJ t s h1;rw[h2,dZ hi]at h3;have h3:=bZ h3;obtain⟨l1,l2⟩:=FU t s h1;rw[h3,(ig _ _ _ _).1,(ig _ _ _ _).2.1];exact⟨Lp t _ l1,Lp t _ l2⟩
 .refine((iso t s).gI (pP t s)).congr ?_;intro e he;have he:e<cN t:=by rw[<-iw t s];exact he
  obtain⟨h1,h2⟩:=iM t he;show(t.own (placeOf t e):Int)=_;rw[<-pU t s h1,h2]
 rw[iw];exact hs.few
def pT(hs:ic t)(s:Places)(hp:p<t.places):dN (PN t s) p (t.least s p:Int):=by
 have hi:t.edgeOf p<(t.edges s).length:=by rw[iw];exact nU t hp
 have D:=zS (limit:=t.own p) (mV hs s) hi;unfold Tab.least;generalize t.down (t.edges s) (t.edgeOf p) (t.own p)=r at D⊢;obtain⟨A,eX,at_,most,end_⟩:=D;rw[pU t s hp]at at_ end_;have e:((t.own p-r.1:Nat):Int)=(t.own p:Int)-r.1:=by omega
 rw[e];refine(iso t s).min hp ?_;rcases end_ with q|q;.refine⟨⟨_,eX,at_⟩,?_⟩;intro g hg;have h1:=hg.lo _ hi;have h1:((bf (t.edges s) (t.edgeOf p)).lo:Int)<=g (t.edgeOf p):=h1;omega
 exact q
def mT(hs:ic t)(s:Places)(hp:p<t.places):match t.greatest s p with|none=>e9 (PN t s) p|some g=>et (PN t s) p (g:Int):=by
 have hi:t.edgeOf p<(t.edges s).length:=by rw[iw];exact nU t hp
 have U:=Qw (limit:=none) (mV hs s) hi;unfold Tab.greatest;generalize t.up (t.edges s) (t.edgeOf p) none=r at U⊢;obtain⟨r1,r2⟩:=r;cases r1 with
 |none=>obtain⟨_,u⟩:(none:Option Nat)=none/\e9 (aG (t.edges s)) (t.edgeOf p):=U;exact(iso t s).FD u
 |some k=>
  have U:uH (t.edges s) (t.edgeOf p) none k r2:=U;have:=U.end_.resolve_left (by simp);rw[pU t s hp]at this;show et (PN t s) p ((t.own p+k:Nat):Int);have e:((t.own p+k:Nat):Int)=(t.own p:Int)+k:=by omega
  rw[e];exact(iso t s).max hp this
end ak
end
section
namespace Flow
theorem p5:∀{cs:List Nat},pC (λp=>f (o p)) (λp=>g (o p)) cs->pC f g (cs.map o)
 |[],_=>trivial
 |c::cs,h=>by
  rcases h with h|⟨h1,h2⟩;.exact .inl h
  exact .inr ⟨h1,p5 h2⟩
end Flow
namespace ak
open FhHold Flow
def eg(t:Tab):List Nat:=(List.range (t.rows*t.cols)).map (placeOf t)
def je(t:Tab)(s:Places)(p:Nat)(lo hi:Nat)(g:Fl):Prop:=a_ (PN t s) g/\(lo:Int)<=g p/\g p<=(hi:Int)
def GK(h:n<=es.length):((es.take n).map λ(e:Edge)=>e.flow).map Int.ofNat=(List.range n).map (cx es):=by
 apply uo;intro i;by_cases q:i<n
 .have hi:i<es.length:=by omega
  rw[cC,cC,yS q,f_ hi,qM _ q];rfl
 rw[oq (by simp;omega),oq (by simp;omega)]
def BF(gL:i<es.length)(g:Fl):a_ ((aG es).held i (max (bf es i).lo lo:Nat) ((lesser (bf es i).hi (some hi)).map Int.ofNat)) g↔a_ (aG es) g/\(lo:Int)<=g i/\g i<=(hi:Int):=by
 obtain⟨z,hz⟩:∃z,lesser (bf es i).hi (some hi)=some z:=by cases q:lesser (bf es i).hi (some hi)with|none=>exact absurd (gD q).2 (by simp)|some z=>exact⟨z,rfl⟩
 obtain⟨z1,z2,z3⟩:=gC hz;have hzh:=z2 hi rfl;constructor
 .intro h;have a1:=h.lo i gL;have a1:(if i=i then((max (bf es i).lo lo:Nat):Int)else _)<=g i:=a1;rw[aw rfl]at a1;have a2:=h.hi i gL (z:Int) (by show(if i=i then((lesser (bf es i).hi (some hi)).map Int.ofNat)else _)=some (z:Int);rw[aw rfl,hz];rfl);refine⟨⟨h.iE,?_,?_⟩,by omega,by omega⟩
  .intro e he;by_cases q:e=i;.subst q;show((bf es e).lo:Int)<=g e;omega
   have:=h.lo e he;have this:(if e=i then((max (bf es i).lo lo:Nat):Int)else(aG es).lo e)<=g e:=this;rw[au q]at this;exact this
  intro e he x hx;by_cases q:e=i;.subst q;have hx:(bf es e).hi.map Int.ofNat=some x:=hx;cases w:(bf es e).hi with|none=>rw[w]at hx;cases hx|some y=>rw[w]at hx;cases hx;have:=z1 y w;show g e<=(y:Int);omega
  have:=h.hi e he x;have this:(if e=i then((lesser (bf es i).hi (some hi)).map Int.ofNat)else(aG es).hi e)=some x->g e<=x:=this;rw[au q]at this;exact this hx
 rintro⟨h,h1,h2⟩;refine gG h ?_ ?_;.have:=h.lo i gL;have this:((bf es i).lo:Int)<=g i:=this;omega
 intro x hx;rw[hz]at hx;cases hx;show g i<=(z:Int);rcases z3 with q|q;.exact h.hi i gL (z:Int) (by show(bf es i).hi.map Int.ofNat=_;rw[q];rfl)
 cases q;exact h2
def ku(t:Tab)(s:Places)(p lo:Nat):Bool:=match t.greatest s p with|none=>true|some g=>decide (lo<=g)
def within(t:Tab)(s:Places)(p lo hi:Nat):List Edge:=if t.own p<lo then(t.up (t.edges s) (t.edgeOf p) (some (lo-t.own p))).2 else if hi<t.own p then(t.down (t.edges s) (t.edgeOf p) (t.own p-hi)).2 else t.edges s
theorem Bq(t:Tab)(s:Places)(p lo hi:Nat):t.other s p lo hi=if hi<lo\/hi<t.least s p\/ku t s p lo=false then none else
    some (((t.firstOf (match (within t s p lo hi)[t.edgeOf p]? with
      |none=>within t s p lo hi
      |some e=>(within t s p lo hi).set (t.edgeOf p) {e with lo:=max e.lo lo,hi:=lesser e.hi (some hi)})).take (t.rows*t.cols)).map λ(e:Edge)=>e.flow):=rfl
def Bp(hs:ic t)(s:Places)(hp:p<t.places)(lo hi:Nat):match t.other s p lo hi with|none=>¬∃g,je t s p lo hi g|some c=>∃f,kG (je t s p lo hi) (eg t) f/\c.map Int.ofNat=(eg t).map f:=by
 have gL:t.edgeOf p<(t.edges s).length:=by rw[iw];exact nU t hp
 have R:=mV hs s;have L:=pT hs s hp;have G:=mT hs s hp;have I:=iso t s;have fl:=pU t s hp;rw[Bq];by_cases c:hi<lo\/hi<t.least s p\/ku t s p lo=false
 .rw[aw c];show ¬∃g,je t s p lo hi g;rintro⟨g,hg,h1,h2⟩;rcases c with c|c|c;.omega
  .have:=L.2 g hg;omega
  unfold ku at c;cases q:t.greatest s p with
  |none=>rw[q]at c;cases c
  |some x=>
   rw[q]at c G;have c:¬lo<=x:=by simpa using c
   have:=G.2 g hg;omega
 rw[au c];rw[qg,qg]at c;obtain⟨c1,c2,c3⟩:=c;have B:∃es,within t s p lo hi=es/\Alike (t.edges s) es/\a_ (aG (t.edges s)) (cx es)/\(lo:Int)<=cx es (t.edgeOf p)/\cx es (t.edgeOf p)<=(hi:Int):=by
  refine⟨_,rfl,?_⟩;unfold within;unfold ku at c3;by_cases d1:t.own p<lo
  .rw[aw d1];have U:=Qw (limit:=some (lo-t.own p)) R gL;generalize t.up (t.edges s) (t.edgeOf p) (some (lo-t.own p))=r at U⊢;obtain⟨r1,r2⟩:=r;cases r1 with
   |none=>exact absurd U.1 (by simp)
   |some k=>
    have U:uH (t.edges s) (t.edgeOf p) (some (lo-t.own p)) k r2:=U;have hk:k=lo-t.own p:=by
     have h1:=U.most _ rfl;rcases U.end_ with q|q;.cases q;rfl
     rw[fl]at q;have q:=I.max hp q;cases w:t.greatest s p with
     |none=>rw[w]at G;exact(q.o8 G).elim
     |some x=>
      rw[w]at G c3;have c3:lo<=x:=by simpa using c3
      have:=q.uniq G;omega
    have:=U.at_;rw[fl]at this;refine⟨U.alike,U.eX,?_,?_⟩;.show _<=cx r2 _;omega
    show cx r2 _<=_;omega
  rw[au d1];by_cases d2:hi<t.own p
  .rw[aw d2];have D:=zS (limit:=t.own p-hi) R gL;generalize t.down (t.edges s) (t.edgeOf p) (t.own p-hi)=r at D⊢;have hk:r.1=t.own p-hi:=by
    have h1:=D.most;rcases D.end_ with q|q;.exact q
    rw[fl]at q;have q:=I.min hp q;have:=q.uniq L;omega
   have:=D.at_;rw[fl]at this;exact⟨D.alike,D.eX,by omega,by omega⟩
  rw[au d2];exact⟨Alike.refl _,R.eX,by omega,by omega⟩
 obtain⟨es,e0,A,F,b1,b2⟩:=B;rw[e0];have Ez:t.edgeOf p<es.length:=by rw[A.len];exact gL
 rw[f_ Ez];show ∃f,kG (je t s p lo hi) (eg t) f/\(((t.firstOf (es.set (t.edgeOf p) {bf es (t.edgeOf p)with lo:=max (bf es (t.edgeOf p)).lo lo,hi:=lesser (bf es (t.edgeOf p)).hi (some hi)})).take (t.rows*t.cols)).map λ(e:Edge)=>e.flow).map Int.ofNat=(eg t).map f;obtain⟨B1,B2⟩:=vC (l:=max (bf es (t.edgeOf p)).lo lo) (h:=lesser (bf es (t.edgeOf p)).hi (some hi)) Ez;have R2:Right t (es.set (t.edgeOf p) {bf es (t.edgeOf p)with lo:=max (bf es (t.edgeOf p)).lo lo,hi:=lesser (bf es (t.edgeOf p)).hi (some hi)}):=by
  have kn:=A.nodes R.nodes;refine⟨xl kn (have k:=kn (bf es (t.edgeOf p)) (pM Ez);⟨k.1,k.2⟩),?_,?_⟩;.rw[B1,B2];exact(BF Ez _).mpr ⟨by rw[A.gn];exact F,b1,b2⟩
  rw[jk,A.len];exact R.few
 have NX:(es.set (t.edgeOf p) {bf es (t.edgeOf p)with lo:=max (bf es (t.edgeOf p)).lo lo,hi:=lesser (bf es (t.edgeOf p)).hi (some hi)}).length=cN t:=by rw[jk,A.len,iw]
 have xY:∀c,c∈List.range (t.rows*t.cols)->c<cN t:=by intro c hc;have:=dM.mp hc;unfold cN;omega
 obtain⟨P1,P2⟩:=vE (List.range (t.rows*t.cols)) _ R2 (λc hc=>by rw[NX];exact xY c hc);rw[<-Ej]at P1 P2;rw[B1]at P1;generalize t.firstOf _=fs at P1 P2⊢;rw[NX]at P2;have IV:=BF (lo:=lo) (hi:=hi) Ez;obtain⟨Q1,Q2⟩:=P1;obtain⟨q1,q2,q3⟩:=(IV _).mp Q1;rw[A.gn]at q1;refine⟨λx=>cx fs (t.edgeOf x),⟨⟨I.eX q1,q2,q3⟩,?_⟩,?_⟩
 .rintro g ⟨hg,g1,g2⟩;have hb:=I.bo p hp;have:=Q2 (λe=>g (placeOf t e)) ((IV _).mpr ⟨by rw[A.gn];exact I.gI hg,by simp only[hb];exact g1,by simp only[hb];exact g2⟩);unfold eg;refine p5 (rG ?_ ?_ this);.intro c hc;show cx fs c=cx fs (t.edgeOf (placeOf t c));rw[(iM t (xY c hc)).2]
  intro c _;rfl
 rw[GK (by rw[P2];unfold cN;omega)];unfold eg;rw[cQ];refine jm λc hc=>?_;show cx fs c=cx fs (t.edgeOf (placeOf t c));rw[(iM t (xY c hc)).2]
end ak
end
section
namespace Flow
abbrev dJ:=Nat×List iV
abbrev nY:=Nat×Bool×Nat
structure gF (N:Net) (f:Fl) (st:Nat->List nY):Prop where
  is:∀u x,x∈st u->x.1<N.m/\src N (x.1,x.2.1)=u/\dst N (x.1,x.2.1)=x.2.2
  all:∀a:iV,a.1<N.m->yd N f a->(a.1,a.2,dst N a)∈st (src N a)
  pos:∀a:iV,a.1<N.m->∀r,room N f a=some r->0<=r
structure i9 (N:Net) (f:Fl) (s u:Nat) (ent:List dJ):Prop where
  once:(ent.map (λz:dJ=>z.1)).Nodup
  way:∀x,x∈ent->Way N f s u x.2 x.1
  head:ent[0]?=some (u,[])
  sorted:ent.Pairwise (λx y=>x.2.length<=y.2.length)
  idx:∀(i:Nat) (x:dJ),ent[i]?=some x->x.2.length<=i
  chain:∀x,x∈ent->∀a L,x.2=a::L->(src N a,L)∈ent
def QN(N:Net)(f:Fl)(s:Nat)(ent:List dJ)(done:Nat):Prop:=∀(i:Nat)(x:dJ),i<done->ent[i]?=some x->∀a,Ai N f s a->src N a=x.1->∃y,y∈ent/\y.1=dst N a/\y.2.length<=x.2.length+1
structure r9 (N:Net) (f:Fl) (s u:Nat) (ent:List dJ) (done:Nat):Prop where
  base:i9 N f s u ent
  near:∀x,x∈ent->∀y,ent[done]?=some y->x.2.length<=y.2.length+1
  proc:QN N f s ent done
  le:done<=ent.length
structure wC (N:Net) (f:Fl) (s u:Nat) (st:List nY) (ent:List dJ) (d:Nat) (k:dJ) (j:Nat):Prop where
  base:i9 N f s u ent
  at_:ent[d]?=some k
  near:∀x,x∈ent->x.2.length<=k.2.length+1
  proc:QN N f s ent d
  cur:∀(i:Nat) (x:nY),i<j->st[i]?=some x->Ai N f s (x.1,x.2.1)->∃y,y∈ent/\y.1=x.2.2/\y.2.length<=k.2.length+1
section
variable {N:Net} {f:Fl} {s u:Nat} {st:Nat->List nY} {ent:List dJ}
def r9.start:r9 N f s u [(u,[])] 0:=by
 refine⟨⟨by simp,?_,rfl,by simp,?_,?_⟩,?_,?_,by simp⟩;.intro x hx;simp at hx;subst hx;rfl
 .intro i x h;cases i with|zero=>simp at h;subst h;simp|succ i=>simp at h
 .intro x hx a L e;simp at hx;subst hx;cases e
 .intro x hx y hy;simp at hx;subst hx;simp
 intro i x hi;omega
def r9.enter(Q:r9 N f s u ent d)(hk:ent[d]?=some k):wC N f s u (st k.1) ent d k 0:=⟨Q.base,hk,λx hx=>Q.near x hx k hk,Q.proc,λi x hi=>by omega⟩
def wC.skip(M:wC N f s u (st k.1) ent d k j)(hx:(st k.1)[j]?=some x)(no:x.2.2∈ent.map (λz:dJ=>z.1)\/x.1=s\/room N f (x.1,x.2.1)=some 0):wC N f s u (st k.1) ent d k (j+1):=by
 refine⟨M.base,M.at_,M.near,M.proc,?_⟩;intro i y hi hy hh;by_cases q:i<j;.exact M.cur i y q hy hh
 have e:i=j:=by omega
 subst e;rw[hx]at hy;cases hy;rcases no with h|h|h;.obtain⟨z,hz,e⟩:=br.mp h;exact⟨z,hz,e,M.near z hz⟩
 .exact absurd h hh.2.1
 have:=hh.2.2 0 h;omega
def wC.add(S:gF N f st)(M:wC N f s u (st k.1) ent d k j)(hx:(st k.1)[j]?=some x)(h1:x.2.2∉ent.map (λz:dJ=>z.1))(h2:x.1≠s)(h3:room N f (x.1,x.2.1)≠some 0):wC N f s u (st k.1) (ent++[(x.2.2,(x.1,x.2.1)::k.2)]) d k (j+1):=by
 have hd:d<ent.length:=(fh.mp M.at_).1;obtain⟨s1,s2,s3⟩:=S.is k.1 x (du hx);have Yo:k∈ent:=du M.at_;have hh:Ai N f s (x.1,x.2.1):=⟨s1,h2,λr hr=>by have:=S.pos (x.1,x.2.1) s1 r hr;have:r≠0:=λe=>h3 (by rw[hr,e]);omega⟩;have hw:Way N f s u ((x.1,x.2.1)::k.2) x.2.2:=⟨hh,s3,by rw[s2];exact M.base.way k Yo⟩;have mono:∀y,y∈ent->y∈ent++[(x.2.2,(x.1,x.2.1)::k.2)]:=λy hy=>iS _ hy;refine⟨⟨?_,?_,?_,?_,?_,?_⟩,?_,?_,?_,?_⟩;.rw[cR,yI];refine⟨M.base.once,by simp,?_⟩;intro a ha b hb e;simp at hb;subst e hb;exact h1 ha
 .intro y hy;rcases cO.mp hy with hy|hy;.exact M.base.way y hy
  simp at hy;subst hy;exact hw
 .rw[pw (by omega)];exact M.base.head
 .rw[yO];refine⟨M.base.sorted,by simp,?_⟩;intro a ha b hb;simp at hb;subst hb;have:=M.near a ha;rw[dr];omega
 .intro i y hy;by_cases q:i<ent.length;.rw[pw q]at hy;exact M.base.idx i y hy
  rw[px (by omega)]at hy;have e:i-ent.length=0:=by have:=(fh.mp hy).1;simp at this;omega
  rw[e]at hy;simp at hy;subst hy;have:=M.base.idx d k M.at_;rw[dr];omega
 .intro y hy a L e;rcases cO.mp hy with hy|hy;.exact mono _ (M.base.chain y hy a L e)
  simp at hy;subst hy;have e:(x.1,x.2.1)::k.2=a::L:=e;cases e;rw[s2];exact mono _ Yo
 .rw[pw hd];exact M.at_
 .intro y hy;rcases cO.mp hy with hy|hy;.exact M.near y hy
  simp at hy;subst hy;simp
 .intro i y hi hy a ha e;rw[pw (by omega)]at hy;obtain⟨z,z1,z2⟩:=M.proc i y hi hy a ha e;exact⟨z,mono _ z1,z2⟩
 intro i y hi hy ha;by_cases q:i<j;.obtain⟨z,z1,z2⟩:=M.cur i y q hy ha;exact⟨z,mono _ z1,z2⟩
 have e:i=j:=by omega
 subst e;rw[hx]at hy;cases hy;exact⟨_,fi _ (cW.mpr rfl),rfl,by simp⟩
def Ff:∀{l:List dJ}{i j:Nat}{x y:dJ},l.Pairwise (λx y=>x.2.length<=y.2.length)->i<=j->l[i]?=some x->l[j]?=some y->x.2.length<=y.2.length:=by
 intro l i j x y h Vg hx hy;by_cases q:i=j;.subst q;rw[hx]at hy;cases hy;exact bx _
 obtain⟨h1,e1⟩:=fh.mp hx;obtain⟨h2,e2⟩:=fh.mp hy;have:=KZ.mp h i j h1 h2 (by omega);rw[e1,e2]at this;exact this
def wC.leave(S:gF N f st)(M:wC N f s u (st k.1) ent d k (st k.1).length):r9 N f s u ent (d+1):=by
 have hd:d<ent.length:=(fh.mp M.at_).1;refine⟨M.base,?_,?_,by omega⟩;.intro x hx y hy;have h1:=M.near x hx;have h2:=Ff M.base.sorted (tV d) M.at_ hy;omega
 intro i x hi hx a ha e;by_cases q:i<d;.exact M.proc i x q hx a ha e
 have e':i=d:=by omega
 subst e';rw[M.at_]at hx;cases hx;have hm:=S.all a ha.1 ha.2.2;rw[e]at hm;obtain⟨j,hj,e2⟩:=tF.mp hm;obtain⟨y,y1,y2,y3⟩:=M.cur j (a.1,a.2,dst N a) hj (by rw[dZ hj,e2]) ha;exact⟨y,y1,y2,y3⟩
theorem r9.reach(Q:r9 N f s u ent d):∀(L:List iV)(v:Nat),Way N f s u L v->(∃y,y∈ent/\y.1=v/\y.2.length<=L.length)\/∃k,ent[d]?=some k/\k.2.length<L.length
 |[],v,h=>by have h:u=v:=h;subst h;exact .inl ⟨(u,[]),du Q.base.head,rfl,by simp⟩
 |a::L,v,⟨h1,h2,h3⟩=>by
  rcases Q.reach L _ h3 with⟨y,y1,y2,y3⟩|⟨k,k1,k2⟩
  .obtain⟨i,hi,e⟩:=tF.mp y1;have gL:ent[i]?=some y:=by rw[dZ hi,e]
   by_cases q:i<d;.obtain⟨z,z1,z2,z3⟩:=Q.proc i y q gL a h1 y2.symm;exact .inl ⟨z,z1,z2.trans h2,by rw[dr];omega⟩
   right;have hd:d<ent.length:=by omega
   refine⟨ent[d],dZ hd,?_⟩;have:=Ff Q.base.sorted (show d<=i by omega) (dZ hd) gL;rw[dr];omega
  exact .inr ⟨k,k1,by rw[dr];omega⟩
def Bg(h:(ent.map (λz:dJ=>z.1)).Nodup)(hx:x∈ent)(hy:y∈ent)(e:x.1=y.1):x=y:=by
 obtain⟨i,hi,ei⟩:=tF.mp hx;obtain⟨j,hj,ej⟩:=tF.mp hy;have gL:(ent.map (λz:dJ=>z.1))[i]?=some x.1:=by rw[cC,dZ hi,ei];rfl
 have NB:(ent.map (λz:dJ=>z.1))[j]?=some x.1:=by rw[cC,dZ hj,ej,e];rfl
 obtain⟨h1,e1⟩:=fh.mp gL;obtain⟨h2,e2⟩:=fh.mp NB;have:i=j:=(CU h).mp (e1.trans e2.symm);subst this;rw[<-ei,<-ej]
def r9.short(Q:r9 N f s u ent d)(hx:x∈ent)(hC:x.2.length<=C):dist N f s u C x.1=x.2.length:=by
 have h1:=jw (C:=C) (Q.base.way x hx);by_cases c:dist N f s u C x.1<C
 .obtain⟨L,hL,hl⟩:=first_is _ _ c;have hl:L.length=dist N f s u C x.1:=hl;rcases Q.reach L x.1 hL with⟨y,y1,y2,y3⟩|⟨k,k1,k2⟩;.have:=Bg Q.base.once y1 hx y2;subst this;omega
  have:=Q.near x hx k k1;omega
 omega
def r9.none(Q:r9 N f s u ent d)(hd:d=ent.length)(hg:g∉ent.map (λz:dJ=>z.1)):¬∃L,Way N f s u L g:=by
 rintro⟨L,hL⟩;rcases Q.reach L g hL with⟨y,y1,y2,_⟩|⟨k,k1,_⟩;.exact hg (br.mpr ⟨y,y1,y2⟩)
 rw[hd,oq (bx _)]at k1;cases k1
def i9.count(B:i9 N f s u ent)(hu:u<n)(hn:∀a:iV,a.1<N.m->dst N a<n):ent.length<=n:=by have:=ak.pS n (ent.map (λz:dJ=>z.1)) B.once (λv hv=>by obtain⟨x,hx,e⟩:=br.mp hv;have hw:=B.way x hx;rw[e]at hw;cases q:x.2 with|nil=>rw[q]at hw;have hw:u=v:=hw;omega|cons a L=>rw[q]at hw;obtain⟨h1,h2,_⟩:=hw;rw[<-h2];exact hn a h1.1);rw[aE]at this;exact this
def i9.len(B:i9 N f s u ent)(hu:u<n)(hn:∀a:iV,a.1<N.m->dst N a<n)(hx:x∈ent):x.2.length<=n:=by obtain⟨i,hi,e⟩:=tF.mp hx;have h1:=B.idx i x (by rw[dZ hi,e]);have h2:=B.count hu hn;omega
end
end Flow
end
section
namespace ak
open FhHold Flow
def fe(t:Tab)(s:Places)(p x:Nat):Prop:=∃g,a_ (PN t s) g/\g p=(x:Int)
def vz(hs:ic t)(s:Places)(hp:p<t.places):t.least s p=0↔fe t s p 0:=by
 have L:=pT hs s hp;constructor;.intro h;obtain⟨g,hg,e⟩:=L.1;exact⟨g,hg,by rw[e,h]⟩
 rintro⟨g,hg,e⟩;have:=L.2 g hg;rw[e]at this;omega
def BS(hs:ic t)(s:Places)(hp:p<t.places)(hk:t.own p<=k):ku t s p k=true↔fe t s p k:=by
 have O:=Bp hs s hp k k;have L:=pT hs s hp;have hl:¬k<t.least s p:=by have:=L.2 _ (pP t s);have e:gX t p=(t.own p:Int):=rfl;rw[e]at this;omega
 rw[Bq]at O;constructor;.intro h;rw[au (by rintro(c|c|c);{omega};{exact hl c};{rw[h]at c;cases c})]at O;obtain⟨f,hf,_⟩:=O;exact⟨f,hf.1.1,by have h1:=hf.1.2.1;have h2:=hf.1.2.2;omega⟩
 rintro⟨g,hg,e⟩;cases q:ku t s p k with|true=>rfl|false=>rw[aw (.inr (.inr q))]at O;exact absurd ⟨g,hg,by omega,by omega⟩ O
end ak
namespace ak
open FhHold Flow
def mh(hs:ic t)(s:Places)(hp:p<t.places)(hk:t.own p<=k):t.safe k s p=true↔p∈s/\fe t s p 0/\fe t s p k:=by have e:t.safe k s p=(s.contains p&&(t.least s p==0&&ku t s p k)):=rfl;rw[e,dA,dA,BS hs s hp hk,i4,vz hs s hp,fz]
def ir{t:Tab}{k p:Nat}:t.small k p=true↔1<=t.own p/\t.own p<k:=by unfold Tab.small;rw[dA,gW,gW]
def Hd{t:Tab}(hs:ic t)(s:Places){p k:Nat}(hp:p<t.places)(hk:t.small k p=true)(hf:aJ t s p=false):t.safe k s p=false:=by cases q:t.safe k s p with|false=>rfl|true=>obtain⟨h1,h2⟩:=ir.mp hk;obtain⟨_,⟨g,hg,e⟩,_⟩:=(mh hs s hp (by omega)).mp q;have:=hg.lo p hp;have this:(if aJ t s p=true then 0 else(t.own p:Int))<=g p:=this;rw[hf]at this;simp at this;omega
def FN(t:Tab)(k:Nat)(s:Places):t.bare k s=(t.smalls k).find? λp=>!t.safe k s p:=by unfold Tab.bare Tab.smalls;rw[List.find?_filter];congr 1;funext p;cases t.small k p<;>cases t.safe k s p<;>rfl
def BG(t:Tab)(k:Nat)(s:Places):t.good k s=true↔∀p,p<t.places->t.small k p=true->t.safe k s p=true:=by
 unfold Tab.good;rw[Option.isNone_iff_eq_none];unfold Tab.bare Tab.all;rw[C2];constructor;.intro h p hp hs;have:=h p (dM.mpr hp);rw[hs]at this;simpa using this
 intro h p hp;have hp:=dM.mp hp;cases q:t.small k p with|false=>simp|true=>rw[h p hp q];simp
def dP{t:Tab}{k p:Nat}:p∈t.smalls k↔p<t.places/\t.small k p=true:=by unfold Tab.smalls Tab.all;rw[gU,dM]
def iN{t:Tab}(hs:ic t){k:Nat}{s:Places}:t.good k s=true↔∀p,p∈t.smalls k->p∈s/\fe t s p 0/\fe t s p k:=by
 rw[BG];constructor;.intro h p hp;obtain⟨h1,h2⟩:=dP.mp hp;have:=(ir.mp h2).2;exact(mh hs s h1 (by omega)).mp (h p h1 h2)
 intro h p h1 h2;have:=(ir.mp h2).2;exact(mh hs s h1 (by omega)).mpr (h p (dP.mpr ⟨h1,h2⟩))
def less(u:Places)(p:Nat):Places:=u.filter λq=>q !=p
def j3:q∈less u p↔q∈u/\q≠p:=by unfold less;rw[gU,Cm]
def gH:aJ t (less u p) q=true↔aJ t u q=true/\q≠p:=by
 unfold aJ;rw[dA,dA,fz,fz,j3];constructor;.rintro⟨⟨a,b⟩,c⟩;exact⟨⟨a,c⟩,b⟩
 rintro⟨⟨a,c⟩,b⟩;exact⟨⟨a,b⟩,c⟩
def mU(h:a_ (PN t u) g)(k:∀q,q<t.places->(aJ t v q=true->0<=g q)/\(aJ t v q=false->g q=(t.own q:Int))):a_ (PN t v) g:=by
 refine⟨h.iE,λq hq=>?_,λq hq=>?_⟩;.show(if aJ t v q=true then 0 else(t.own q:Int))<=g q;cases c:aJ t v q with|true=>simp;exact(k q hq).1 c|false=>simp;rw[(k q hq).2 c];omega
 show Under (g q) (if aJ t v q=true then none else some (t.own q:Int));cases c:aJ t v q with|true=>simp;intro x hx;cases hx|false=>simp;intro x hx;cases hx;rw[(k q hq).2 c];omega
def xI(h:a_ (PN t u) g)(hq:q<t.places):0<=g q:=by have:=h.lo q hq;have this:(if aJ t u q=true then 0 else(t.own q:Int))<=g q:=this;split at this<;>omega
def ft(h:a_ (PN t u) g)(hq:q<t.places)(hf:aJ t u q=false):g q=(t.own q:Int):=by have h1:=h.lo q hq;have h1:(if aJ t u q=true then 0 else(t.own q:Int))<=g q:=h1;have h2:=h.hi q hq (t.own q:Int) (by show(if aJ t u q=true then none else some (t.own q:Int))=_;rw[hf];rfl);rw[hf]at h1;simp at h1;omega
def nQ(hp:p<t.places)(g:Fl):a_ (PN t (less u p)) g↔a_ (PN t u) g/\g p=(t.own p:Int):=by
 constructor
 .intro h;refine⟨mU h λq hq=>⟨λ_=>xI h hq,λc=>ft h hq ?_⟩,ft h hp ?_⟩;.cases d:aJ t (less u p) q with|false=>rfl|true=>rw[(gH.mp d).1]at c;cases c
  cases d:aJ t (less u p) p with|false=>rfl|true=>exact absurd rfl (gH.mp d).2
 rintro⟨h,e⟩;refine mU h λq hq=>⟨λ_=>xI h hq,λc=>?_⟩;by_cases z:q=p;.rw[z];exact e
 refine ft h hq ?_;cases d:aJ t u q with|false=>rfl|true=>rw[gH.mpr ⟨d,z⟩]at c;cases c
def oX(hp:p<t.places):fe t (less u p) q x↔∃g,a_ (PN t u) g/\g q=(x:Int)/\g p=(t.own p:Int):=by
 constructor;.rintro⟨g,hg,e⟩;obtain⟨h1,h2⟩:=(nQ hp g).mp hg;exact⟨g,h1,e,h2⟩
 rintro⟨g,hg,e1,e2⟩;exact⟨g,(nQ hp g).mpr ⟨hg,e2⟩,e1⟩
def xD{t:Tab}(hs:ic t){k:Nat}{u:Places}{p:Nat}(hp:p<t.places)(hn:t.small k p=false)(hg:∀q,q∈t.smalls k->q∈u):t.good k (less u p)=true↔∀q,q∈t.smalls k->fe t (less u p) q 0/\fe t (less u p) q k:=by
 rw[iN hs];constructor;.intro h q hq;exact(h q hq).2
 intro h q hq;refine⟨j3.mpr ⟨hg q hq,?_⟩,h q hq⟩;intro e;subst e;rw[(dP.mp hq).2]at hn;cases hn
def cD(t:Tab)(k:Nat)(u:Places)(p:Nat):Places:=if (u.contains p&&(!t.small k p&&t.good k (less u p)))=true then less u p else u
def Ot(t:Tab)(k:Nat)(s:Places):t.thin k s=t.all.foldl (cD t k) s:=rfl
def zV(h:p∉u):cD t k u p=u:=by
 unfold cD;have:u.contains p=false:=by cases q:u.contains p with|false=>rfl|true=>exact absurd (fz.mp q) h
 rw[this];rfl
def pY(h:q∈cD t k u p):q∈u:=by
 unfold cD at h;split at h;.exact(j3.mp h).1
 exact h
theorem zP{t:Tab}{k:Nat}{s:Places}:∀(l:List Nat)(u:Places),(∀q,q∈u->q∈s)->l.foldl (cD t k) u=(l.filter λp=>s.contains p).foldl (cD t k) u
 |[],_,_=>rfl
 |p::l,u,h=>by
  rw[qp,ll];by_cases c:s.contains p=true;.rw[aw c,qp];exact zP l _ λq hq=>h q (pY hq)
  rw[au c,zV (λz=>c (fz.mpr (h p z)))];exact zP l u h
theorem mZ:∀{l:List Nat},rises l=true->l.Pairwise (·<·)
 |[],_=>List.Pairwise.nil
 |[a],_=>Dd _ _
 |a::b::r,h=>by
  have h:(decide (a<b)&&rises (b::r))=true:=h;rw[dA,gW]at h;have ih:=mZ h.2;refine List.Pairwise.cons (λc hc=>?_) ih;rcases bE.mp hc with e|e;.rw[e];exact h.1
  exact Cq h.1 ((pq.mp ih).1 c e)
theorem iD:∀{a b:List Nat},a.Pairwise (·<·)->b.Pairwise (·<·)->(∀x,x∈a↔x∈b)->a=b
 |[],[],_,_,_=>rfl
 |[],y::b,_,_,h=>absurd ((h y).mpr (cF ..)) (by simp)
 |x::a,[],_,_,h=>absurd ((h x).mp (cF ..)) (by simp)
 |x::a,y::b,ha,hb,h=>by
  obtain⟨a1,a2⟩:=pq.mp ha;obtain⟨b1,b2⟩:=pq.mp hb;have e:x=y:=by
   have h1:x∈y::b:=(h x).mp (cF ..);have h2:y∈x::a:=(h y).mpr (cF ..);rcases bE.mp h1 with e|e;.exact e
   rcases bE.mp h2 with e'|e';.exact e'.symm
   have:=b1 x e;have:=a1 y e';omega
  subst e;congr 1;refine iD a2 b2 λz=>?_;constructor
  .intro hz;have:=a1 z hz;rcases bE.mp ((h z).mp (dR _ hz))with e|e;.omega
   exact e
  intro hz;have:=b1 z hz;rcases bE.mp ((h z).mpr (dR _ hz))with e|e;.omega
  exact e
def dG(n:Nat):(List.range n).Pairwise (·<·):=List.pairwise_lt_range
def El{t:Tab}{s:Places}(hs:s.Pairwise (·<·))(hp:∀p,p∈s->p<t.places):(t.all.filter λp=>s.contains p)=s:=by refine iD ((dG _).sublist lq) hs λx=>?_;unfold Tab.all;rw[gU,dM,fz];exact⟨λh=>h.2,λh=>⟨hp x h,h⟩⟩
def qH{t:Tab}{k:Nat}{s:Places}(hs:s.Pairwise (·<·))(hp:∀p,p∈s->p<t.places):t.thin k s=s.foldl (cD t k) s:=by rw[Ot,zP t.all s λ_ h=>h,El hs hp]
def BA(h:(a++p::b).Pairwise (·<·)):less (a++p::b) p=a++b:=by
 obtain⟨_,h2,h3⟩:=yO.mp h;obtain⟨h4,_⟩:=pq.mp h2;unfold less;rw[lK,ll,au (by simp)];congr 1;.refine yM.mpr λx hx=>?_;have:=h3 x hx p (cF ..);rw[Cm];omega
 refine yM.mpr λx hx=>?_;have:=h4 x hx;rw[Cm];omega
end ak
end
section
namespace ak
open FhHold Flow
def FY(a b:List Nat):Prop:=∃p,p∈a/\p∉b/\∀q,q<p->(q∈a↔q∈b)
def FY.WI(h:FY a b)(k:FY b a):False:=by
 obtain⟨p,p1,p2,p3⟩:=h;obtain⟨q,q1,q2,q3⟩:=k;rcases Nat.lt_trichotomy p q with c|c|c;.exact p2 ((q3 p c).mpr p1)
 .subst c;exact q2 p1
 exact q2 ((p3 q c).mpr q1)
def FY.irrefl(h:FY a a):False:=h.WI h
def jg(l:List Nat):sets 0 l=[[]]:=by cases l<;>rfl
theorem gB:∀{n:Nat}{l u:List Nat},u∈sets n l↔u.Sublist l/\u.length=n
 |0,l,u=>by
  rw[jg,cW];constructor;.rintro rfl;exact⟨List.nil_sublist _,rfl⟩
  rintro⟨_,h⟩;exact Dc.mp h
 |n+1,[],u=>by
  show u∈[]↔_;constructor;.intro h;cases h
  rintro⟨h,e⟩;rw[List.sublist_nil.mp h]at e;cases e
 |n+1,p::r,u=>by
  show u∈(sets n r).map (λ(u:Places)=>p::u)++sets (n+1) r↔_;rw[cO,br,gB (n:=n+1) (l:=r)];constructor
  .rintro(⟨v,hv,rfl⟩|⟨h1,h2⟩);.obtain⟨h1,h2⟩:=gB.mp hv;exact⟨h1.cons_cons p,by rw[dr,h2]⟩
   exact⟨h1.cons p,h2⟩
  rintro⟨h,e⟩;cases h with|cons _ h=>exact .inr ⟨h,e⟩|cons_cons _ h=>exact .inl ⟨_,gB.mpr ⟨h,by simpa using e⟩,rfl⟩
theorem oY:∀{n:Nat}{l:List Nat},l.Pairwise (·<·)->(sets n l).Pairwise FY
 |0,l,_=>by rw[jg];exact Dd _ _
 |_+1,[],_=>List.Pairwise.nil
 |n+1,p::r,h=>by
  obtain⟨h1,h2⟩:=pq.mp h;show((sets n r).map (λ(u:Places)=>p::u)++sets (n+1) r).Pairwise FY;rw[yO];refine⟨?_,oY h2,?_⟩
  .rw[CZ];refine(oY (n:=n) h2).imp_of_mem fun {a b} ha hb ab=>?_;obtain⟨q,q1,q2,q3⟩:=ab;have hq:=h1 q ((gB.mp ha).1.subset q1);refine⟨q,dR _ q1,?_,λz hz=>?_⟩
   .intro e;rcases bE.mp e with e|e;.omega
    exact q2 e
   rw[bE,bE,q3 z hz]
  intro a ha b hb;obtain⟨v,hv,rfl⟩:=br.mp ha;have sv:=(gB.mp hv).1;have sb:=(gB.mp hb).1;refine⟨p,cF ..,λe=>il _ (h1 p (sb.subset e)),λz hz=>?_⟩;constructor
  .intro e;rcases bE.mp e with e|e;.omega
   have:=h1 z (sv.subset e);omega
  intro e;have:=h1 z (sb.subset e);omega
theorem mz:∀(n:Nat)(l:List Nat),(sets n l).length<=2^l.length|0,l=>by rw[jg];exact Nat.one_le_two_pow|_+1,[]=>by show 0<=_;exact dW _|n+1,p::r=>by show((sets n r).map (λ(u:Places)=>p::u)++sets (n+1) r).length<=2^(r.length+1);rw[dC,aE,Nat.pow_succ];have:=mz n r;have:=mz (n+1) r;omega
theorem rF{t:Tab}{r:Places}:∀{l:List Places},l.Pairwise FY->r∈l->(∀u,u∈l->t.weight r<t.weight u\/(t.weight r=t.weight u/\(r=u\/FY r u)))->t.lightest l=some r
 |[],_,h,_=>by cases h
 |u::l,hp,hm,hr=>by
  obtain⟨p1,p2⟩:=pq.mp hp;show(match t.lightest l with|none=>some u|some v=>if t.weight v<t.weight u then some v else some u)=some r;by_cases hl:r∈l
  .rw[rF p2 hl λv hv=>hr v (dR _ hv)];have hu:=p1 r hl;rcases hr u (cF ..)with c|⟨_,c|c⟩;.show(if t.weight r<t.weight u then some r else some u)=some r;rw[aw c]
   .subst c;exact absurd hu λz=>z.irrefl
   exact absurd c λz=>z.WI hu
  have e:r=u:=(bE.mp hm).resolve_right hl;subst e;cases q:t.lightest l with
  |none=>rfl
  |some v=>
   show(if t.weight v<t.weight r then some v else some r)=some r;have hv:v∈l:=gK q;rw[au];rcases hr v (dR _ hv)with c|⟨c,_⟩;.omega
   omega
where
  gK {t:Tab}:∀{l:List Places} {v:Places},t.lightest l=some v->v∈l
    |u::l,v,h=>by
      have h:(match t.lightest l with|none=>some u|some v=>if t.weight v<t.weight u then some v else some u)=some v:=h
      cases q:t.lightest l with
      |none=>rw[q]at h;cases h;exact cF ..
      |some x=>
        rw[q]at h
        have h:(if t.weight x<t.weight u then some x else some u)=some v:=h
        split at h
        · cases h;exact dR _ (gK q)
        · cases h;exact cF ..
structure Good (t:Tab) (k:Nat) (u:Places):Prop where
  rise:u.Pairwise (·<·)
  place:∀p,p∈u->p<t.places
  good:t.good k u=true
theorem Good.smalls(hs:ic t)(h:Good t k u)(hp:p∈t.smalls k):p∈u:=((iN hs).mp h.good p hp).1
def iP{u:List Nat}{n:Nat}(h:u.Pairwise (·<·))(k:∀p,p∈u->p<n):u.Sublist (List.range n):=by
 have e:((List.range n).filter λp=>u.contains p)=u:=by refine iD ((dG _).sublist lq) h λx=>?_;rw[gU,dM,fz];exact⟨λz=>z.2,λz=>⟨k x z,z⟩⟩
 rw[<-e];exact lq
def fits(t:Tab)(k n:Nat):List Places:=(sets n t.all).filter λ(u:Places)=>(t.smalls k).all u.contains&&t.good k u
def vm{t:Tab}(hs:ic t){k n:Nat}{u:Places}:u∈fits t k n↔Good t k u/\u.length=n:=by
 unfold fits;rw[gU,gB,dA];constructor;.rintro⟨⟨h1,h2⟩,_,h3⟩;refine⟨⟨(dG _).sublist h1,λp hp=>dM.mp (h1.subset hp),h3⟩,h2⟩
 rintro⟨h,e⟩;refine⟨⟨iP h.rise h.place,e⟩,?_,h.good⟩;rw[jR];intro p hp;exact fz.mpr (h.smalls hs hp)
def vQ{α β:Type}{f:α->Option β}{l:List α}{i:Nat}{x:α}{y:β}(hx:l[i]?=some x)(hy:f x=some y)(hn:∀j z,j<i->l[j]?=some z->f z=none):l.findSome? f=some y:=by
 induction l generalizing i with
 |nil=>simp at hx
 |cons a l ih=>
  rw[List.findSome?_cons];cases i with
  |zero=>
   have e:a=x:=by simpa using hx
   rw[e,hy]
  |succ i=>rw[hn 0 a (by omega) rfl];refine ih (i:=i) (by simpa using hx) λj z hj hz=>hn (j+1) z (by omega) (by simpa using hz)
def P8{t:Tab}(hs:ic t){k:Nat}{r:Places}(hr:Good t k r)(h:∀u,Good t k u->r.length<u.length\/(r.length=u.length/\(t.weight r<t.weight u\/(t.weight r=t.weight u/\(r=u\/FY r u))))):t.best k=r:=by
 have e:t.best k=((List.range (t.places+1)).findSome? λn=>t.lightest (fits t k n)).getD t.all:=rfl;have hl:r.length<t.places+1:=by have:=(iP hr.rise hr.place).length_le;rw[cZ]at this;omega
 have L:t.lightest (fits t k r.length)=some r:=by
  refine rF ?_ ((vm hs).mpr ⟨hr,rfl⟩) λu hu=>?_;.exact(oY (dG _)).sublist lq
  obtain⟨h1,h2⟩:=(vm hs).mp hu;rcases h u h1 with c|⟨_,c⟩;.omega
  exact c
 rw[e,vQ (i:=r.length) (x:=r.length) (y:=r) (by simp[hl]) L ?_];.rfl
 intro j z hj hz;have ez:j=z:=by have:=fh.mp hz;simpa using this.2
 subst ez;have:fits t k j=[]:=by refine List.eq_nil_iff_forall_not_mem.mpr λu hu=>?_;obtain⟨h1,h2⟩:=(vm hs).mp hu;rcases h u h1 with c|⟨c,_⟩<;>omega
 rw[this];rfl
def qE(t:Tab):Prop:=∀p,p<t.places->cI t p=true->t.own p=0
def M2(hs:ic t)(hb:qE t)(k:Nat):Good t k t.all:=by
 refine⟨dG _,λp hp=>dM.mp hp,?_⟩;rw[BG];intro p hp hk;have hk:=ir.mp hk;have hf:∀c:Int,0<=c->a_ (PN t t.all) (λq=>c*(t.own q:Int)):=by
  intro c hc;refine mU (u:=t.all) (g:=λq=>c*(t.own q:Int)) (v:=t.all) ?_ ?_
  .have F:=pP t t.all;refine⟨?_,λq hq=>?_,λq hq=>?_⟩
   .intro d;have:=F.iE d;have e:(λe=>(d ((PN t t.all).hd e)-d ((PN t t.all).tl e))*(c*(t.own e:Int)))=λe=>c*((d ((PN t t.all).hd e)-d ((PN t t.all).tl e))*gX t e):=by funext e;show _=c*(_*(t.own e:Int));rw[<-Int.mul_assoc,<-Int.mul_assoc,yo _ c]
    rw[e,tQ,this,tX]
   .show(if aJ t t.all q=true then 0 else(t.own q:Int))<=c*(t.own q:Int);split;.exact JM hc (by omega)
    rename_i hn;have:t.own q=0:=hb q hq (by have hm:t.all.contains q=true:=fz.mpr (dM.mpr hq);unfold aJ at hn;rw[hm]at hn;simpa using hn);rw[this];simp
   show Under (c*(t.own q:Int)) (if aJ t t.all q=true then none else some (t.own q:Int));split;.intro x hx;cases hx
   rename_i hn;have:t.own q=0:=hb q hq (by have hm:t.all.contains q=true:=fz.mpr (dM.mpr hq);unfold aJ at hn;rw[hm]at hn;simpa using hn);rw[this];intro x hx;cases hx;simp
  intro q hq;refine⟨λ_=>JM hc (by omega),λhn=>?_⟩;have:t.own q=0:=hb q hq (by have hm:t.all.contains q=true:=fz.mpr (dM.mpr hq);unfold aJ at hn;rw[hm]at hn;simpa using hn);rw[this];simp
 have hz:fe t t.all p 0:=⟨_,hf 0 (by omega),by simp⟩;have e:t.safe k t.all p=(t.all.contains p&&(t.least t.all p==0&&ku t t.all p k)):=rfl;rw[e,dA,dA,i4,vz hs t.all hp,fz];refine⟨dM.mpr hp,hz,?_⟩;have G:=mT hs t.all hp;unfold ku;cases q:t.greatest t.all p with|none=>rfl|some g=>rw[q]at G;have:=G.2 _ (hf (k:Int) (by omega));have h1:(k:Int)*1<=(k:Int)*(t.own p:Int):=Int.mul_le_mul_of_nonneg_left (by omega) (by omega);show decide (k<=g)=true;refine bq ?_;have this:(k:Int)*(t.own p:Int)<=(g:Int):=this;omega
def Cj(t:Tab)(u:Places)(p:Nat):Prop:=(∀q,q∈u->pr t q=pr t p->q=p)\/(∀q,q∈u->pc t q=pc t p->q=p)
def Ef(hp:p<t.places)(h:Cj t u p)(hg:a_ (PN t u) g):g p=(t.own p:Int):=by
 have key:∀v:Nat,(∀q,q<t.places->q≠p->aJ t u q=true->(PN t u).tl q≠v/\(PN t u).hd q≠v)->((PN t u).tl p=v/\(PN t u).hd p≠v\/(PN t u).hd p=v/\(PN t u).tl p≠v)->g p=(t.own p:Int):=by
  intro v hv he;have c1:=hg.iE (λx=>if x=v then 1 else 0);have c2:=(Bo t u) (λx=>if x=v then 1 else 0);have d:S (PN t u).m (λe=>((λx=>if x=v then(1:Int)else 0) ((PN t u).hd e)-(λx=>if x=v then(1:Int)else 0) ((PN t u).tl e))*g e-((λx=>if x=v then(1:Int)else 0) ((PN t u).hd e)-(λx=>if x=v then(1:Int)else 0) ((PN t u).tl e))*gX t e)=0:=by rw[XO,c1,c2];rfl
  have d2:S (PN t u).m (λe=>if e=p then((if (PN t u).hd p=v then(1:Int)else 0)-(if (PN t u).tl p=v then(1:Int)else 0))*(g p-(t.own p:Int))else 0)=0:=by
   refine Eq.trans (cn λe he=>?_) d;have he:e<t.places:=he;by_cases q:e=p;.subst q;rw[aw rfl];show _=((if (PN t u).hd e=v then(1:Int)else 0)-(if (PN t u).tl e=v then(1:Int)else 0))*g e-((if (PN t u).hd e=v then(1:Int)else 0)-(if (PN t u).tl e=v then(1:Int)else 0))*(t.own e:Int);rw[Int.mul_sub]
   rw[au q];show _=((if (PN t u).hd e=v then(1:Int)else 0)-(if (PN t u).tl e=v then(1:Int)else 0))*g e-((if (PN t u).hd e=v then(1:Int)else 0)-(if (PN t u).tl e=v then(1:Int)else 0))*(t.own e:Int);cases c:aJ t u e with|true=>obtain⟨n1,n2⟩:=hv e he q c;rw[au n1,au n2];simp|false=>rw[ft hg he c];omega
  rw[wR (n:=(PN t u).m) p _ hp]at d2;rcases he with⟨e1,e2⟩|⟨e1,e2⟩;.rw[au e2,aw e1]at d2;omega
  rw[aw e1,au e2]at d2;omega
 have hpr:=EH t hp;rcases h with h|h
 .refine key (pr t p) (λq hq hn hf=>?_) ?_
  .have hm:q∈u:=by unfold aJ at hf;rw[dA]at hf;exact fz.mp hf.1
   have:pr t q≠pr t p:=λe=>hn (h q hm e);constructor;.show(if cX t q=true then t.rows+1+pc t q else pr t q)≠pr t p;split<;>omega
   show(if cX t q=true then pr t q else t.rows+1+pc t q)≠pr t p;split<;>omega
  show((if cX t p=true then t.rows+1+pc t p else pr t p)=pr t p/\(if cX t p=true then pr t p else t.rows+1+pc t p)≠pr t p)\/((if cX t p=true then pr t p else t.rows+1+pc t p)=pr t p/\(if cX t p=true then t.rows+1+pc t p else pr t p)≠pr t p);split;.right;omega
  left;omega
 refine key (t.rows+1+pc t p) (λq hq hn hf=>?_) ?_
 .have hm:q∈u:=by unfold aJ at hf;rw[dA]at hf;exact fz.mp hf.1
  have:pc t q≠pc t p:=λe=>hn (h q hm e);have:=EH t hq;constructor;.show(if cX t q=true then t.rows+1+pc t q else pr t q)≠t.rows+1+pc t p;split<;>omega
  show(if cX t q=true then pr t q else t.rows+1+pc t q)≠t.rows+1+pc t p;split<;>omega
 show((if cX t p=true then t.rows+1+pc t p else pr t p)=t.rows+1+pc t p/\(if cX t p=true then pr t p else t.rows+1+pc t p)≠t.rows+1+pc t p)\/((if cX t p=true then pr t p else t.rows+1+pc t p)=t.rows+1+pc t p/\(if cX t p=true then t.rows+1+pc t p else pr t p)≠t.rows+1+pc t p);split;.left;omega
 right;omega
def BX(h:u.Pairwise (·<·))(hp:p∈u):(less u p).length+1=u.length:=by obtain⟨a,b,rfl⟩:=Kh hp;rw[BA h,dC,dC,dr];omega
def Em(hs:ic t)(hu:Good t k u)(hp:p∈u)(hn:t.small k p=false)(hf:∀g,a_ (PN t u) g->g p=(t.own p:Int)):Good t k (less u p):=by refine⟨hu.rise.sublist lq,λq hq=>hu.place q (j3.mp hq).1,?_⟩;rw[xD hs (hu.place p hp) hn λq hq=>hu.smalls hs hq];intro q hq;obtain⟨_,⟨g,hg,e⟩,⟨g',Ut,e'⟩⟩:=(iN hs).mp hu.good q hq;exact⟨(oX (hu.place p hp)).mpr ⟨g,hg,e,hf g hg⟩,(oX (hu.place p hp)).mpr ⟨g',Ut,e',hf g' Ut⟩⟩
def rV(hs:ic t)(hu:Good t k u)(hp:p∈u)(hf:∀g,a_ (PN t u) g->g p=(t.own p:Int)):t.small k p=false:=by cases q:t.small k p with|false=>rfl|true=>obtain⟨_,⟨g,hg,e⟩,_⟩:=(iN hs).mp hu.good p (dP.mpr ⟨hu.place p hp,q⟩);have:=hf g hg;have:=(ir.mp q).1;omega
structure Core (t:Tab) (u:Places):Prop where
  blank:∀p,p∈u->cI t p=false
  RL:∀p,p∈u->¬Cj t u p
def FK(hs:ic t):∀(n:Nat)(u:Places),u.length=n->Good t k u->∃v,Good t k v/\Core t v/\(v=u\/v.length<u.length):=by
 intro n;induction n with
 |zero=>intro u e hu;have:u=[]:=Dc.mp e;subst this;exact⟨[],hu,⟨λp hp=>absurd hp (by simp),λp hp=>absurd hp (by simp)⟩,.inl rfl⟩
 |succ n ih=>
  intro u e hu;by_cases c:∃p,p∈u/\∀g,a_ (PN t u) g->g p=(t.own p:Int);.obtain⟨p,hp,hf⟩:=c;have hn:=rV hs hu hp hf;have hl:=BX hu.rise hp;obtain⟨v,v1,v2,v3⟩:=ih (less u p) (by omega) (Em hs hu hp hn hf);refine⟨v,v1,v2,.inr ?_⟩;rcases v3 with rfl|v3<;>omega
  refine⟨u,hu,⟨λp hp=>?_,λp hp hl=>?_⟩,.inl rfl⟩;.cases q:cI t p with|false=>rfl|true=>refine absurd ⟨p,hp,λg hg=>ft hg (hu.place p hp) ?_⟩ c;unfold aJ;rw[q];simp
  exact absurd ⟨p,hp,λg hg=>Ef (hu.place p hp) hl hg⟩ c
end ak
end
section
namespace ak
open FhHold Flow
def DW{a b:List Nat}(ha:a.Pairwise (·<·))(hb:b.Pairwise (·<·))(h:∀p,p∈a->p∈b):a.Sublist b:=by
 have e:(b.filter λp=>a.contains p)=a:=by refine iD (hb.sublist lq) ha λx=>?_;rw[gU,fz];exact⟨λz=>z.2,λz=>⟨h x z,z⟩⟩
 rw[<-e];exact lq
def cE(c:List Nat)(p:Nat):Bool:=match c.getLast? with|none=>true|some x=>decide (x<p)
def extend(c l:List Nat):List (List Nat):=(l.filter (cE c)).map λp=>c++[p]
def oneMore(ls:List (List Nat))(l:List Nat):List (List Nat):=ls.flatMap λc=>extend c l
def vP(h:c≠[]):cE (x::c) p=cE c p:=by unfold cE;cases c with|nil=>exact absurd rfl h|cons y c=>rw[List.getLast?_cons_cons]
def p6{c:List Nat}{x:Nat}(h:c.getLast?=some x):x∈c:=List.mem_of_getLast? h
theorem kQ:∀{l:List Nat}{n:Nat},l.Pairwise (·<·)->oneMore (sets n l) l=sets (n+1) l
 |[],0,_=>rfl
 |[],n+1,_=>rfl
 |p::r,0,h=>by
  rw[jg];have:∀l:List Nat,extend [] l=l.map λp=>[p]:=λl=>by unfold extend;have:cE []=λ_=>true:=rfl;rw[this,yM.mpr λ_ _=>rfl];rfl
  have one:∀l:List Nat,sets 1 l=l.map λp=>[p]:=λl=>by induction l with|nil=>rfl|cons x l ih=>show(sets 0 l).map (λ(u:Places)=>x::u)++sets 1 l=_;rw[ih,jg];rfl
  unfold oneMore;rw[s_,List.flatMap_nil,iG,this,one]
 |p::r,n+1,h=>by
  obtain⟨h1,h2⟩:=pq.mp h;show oneMore ((sets n r).map (λ(u:Places)=>p::u)++sets (n+1) r) (p::r)=(sets (n+1) r).map (λ(u:Places)=>p::u)++sets (n+2) r;unfold oneMore;rw[tw];congr 1
  .rw[<-kQ (n:=n) h2];unfold oneMore;rw[J3,CV];refine m4 λc hc=>?_;have sc:=(gB.mp hc).1;unfold extend;rw[cQ];have lu:cE (p::c) p=false:=by
    unfold cE;cases q:(p::c).getLast? with
    |none=>simp at q
    |some x=>
     have hx:=p6 q;refine cM ?_;rcases bE.mp hx with e|e;.omega
     have:=h1 x (sc.subset e);omega
   rw[ll,lu,au (by simp)];have:r.filter (cE (p::c))=r.filter (cE c):=by
    by_cases hc0:c=[];.subst hc0;refine CY λx hx=>?_;show decide (p<x)=true;exact bq (h1 x hx)
    exact CY λx _=>vP hc0
   rw[this];refine jm λx _=>rfl
  rw[<-kQ (n:=n+1) h2];unfold oneMore;refine m4 λc hc=>?_;obtain⟨sc,lc⟩:=gB.mp hc;unfold extend;have lu:cE c p=false:=by unfold cE;cases q:c.getLast? with|none=>rw[List.getLast?_eq_none_iff]at q;rw[q]at lc;cases lc|some x=>refine cM ?_;have:=h1 x (sc.subset (p6 q));omega
  rw[ll,lu,au (by simp)]
where
  m4 {α β:Type} {l:List α} {f g:α->List β} (h:∀x,x∈l->f x=g x):l.flatMap f=l.flatMap g:=by
    induction l with
    |nil=>rfl
    |cons a l ih=>rw[s_,s_,h a (cF ..),ih λx hx=>h x (dR _ hx)]
def gO(t:Tab)(k:Nat):List Nat:=t.all.filter λp=>!cI t p&&!(t.smalls k).contains p
def merge(t:Tab)(k:Nat)(c:List Nat):Places:=t.all.filter λp=>(t.smalls k).contains p || c.contains p
def BR(t:Tab)(k:Nat):(t.smalls k).Pairwise (·<·):=(dG _).sublist lq
def oW(t:Tab)(k:Nat):(gO t k).Pairwise (·<·):=(dG _).sublist lq
def jx(t:Tab)(k:Nat)(c:List Nat):(merge t k c).Pairwise (·<·):=(dG _).sublist lq
def qQ:p∈gO t k↔p<t.places/\cI t p=false/\p∉t.smalls k:=by
 unfold gO Tab.all;rw[gU,dM,dA,CW,CW];have:(t.smalls k).contains p=false↔p∉t.smalls k:=by rw[<-fz];simp
 rw[this]
def mem_merge(h:∀q,q∈c->q<t.places):p∈merge t k c↔p∈t.smalls k\/p∈c:=by
 unfold merge Tab.all;rw[gU,dM,JP,fz,fz];constructor;.exact λz=>z.2
 rintro(z|z);.exact⟨(dP.mp z).1,.inl z⟩
 exact⟨h p z,.inr z⟩
def oZ{l:List Nat}(h:l.Pairwise (·<·)):l.Nodup:=h.imp λz=>fw z
structure fj (t:Tab) (k:Nat) (c:List Nat):Prop where
  rise:c.Pairwise (·<·)
  mem:∀p,p∈c->p∈gO t k
def fj.place(h:fj t k c)(hp:p∈c):p<t.places:=(qQ.mp (h.mem p hp)).1
def fj.xj(h:fj t k c)(hp:p∈c):p∉t.smalls k:=(qQ.mp (h.mem p hp)).2.2
def oU{t:Tab}{k n:Nat}{c:List Nat}:c∈sets n (gO t k)↔fj t k c/\c.length=n:=by
 rw[gB];constructor;.rintro⟨h,e⟩;exact⟨⟨(oW t k).sublist h,λp hp=>h.subset hp⟩,e⟩
 rintro⟨h,e⟩;exact⟨DW h.rise (oW t k) h.mem,e⟩
theorem fj.merge(h:fj t k c)(p:Nat):p∈ak.merge t k c↔p∈t.smalls k\/p∈c:=mem_merge λ_ hq=>h.place hq
def fj.perm(h:fj t k c):(ak.merge t k c).Perm (t.smalls k++c):=by
 refine(List.perm_ext_iff_of_nodup (oZ (jx t k c)) ?_).mpr λp=>by rw[h.merge,cO]
 rw[yI];refine⟨oZ (BR t k),oZ h.rise,λa ha b hb e=>?_⟩;subst e;exact h.xj hb ha
def LP(h:a.Perm b):FhHold.sum a=FhHold.sum b:=by induction h with|nil=>rfl|cons x _ ih=>show x+FhHold.sum _=x+FhHold.sum _;rw[ih]|swap x y l=>show y+(x+FhHold.sum l)=x+(y+FhHold.sum l);omega|trans _ _ ZP ZO=>rw[ZP,ZO]
theorem fj.length(h:fj t k c):(ak.merge t k c).length=(t.smalls k).length+c.length:=by rw[h.perm.length_eq,dC]
theorem fj.weight(h:fj t k c):t.weight (ak.merge t k c)=t.weight (t.smalls k)+t.weight c:=by unfold Tab.weight;rw[LP (h.perm.map _),cR,sum_append]
structure Iv (t:Tab) (k:Nat) (c:List Nat):Prop where
  RL:∀p,p∈merge t k c->¬Cj t (merge t k c) p
  good:t.good k (merge t k c)=true
def Iv.is(h:Iv t k c):Good t k (merge t k c):=⟨jx t k c,λp hp=>by unfold merge Tab.all at hp;exact dM.mp (gU.mp hp).1,h.good⟩
def Fi(hs:ic t)(hv:Good t k v)(hc:Core t v):∃c,fj t k c/\merge t k c=v/\Iv t k c:=by
 have hS:fj t k (v.filter λp=>!(t.smalls k).contains p):=by refine⟨hv.rise.sublist lq,λp hp=>?_⟩;obtain⟨h1,h2⟩:=gU.mp hp;refine qQ.mpr ⟨hv.place p h1,hc.blank p h1,λz=>?_⟩;rw[fz.mpr z]at h2;cases h2
 have e:merge t k (v.filter λp=>!(t.smalls k).contains p)=v:=by
  refine iD (jx t k _) hv.rise λp=>?_;rw[hS.merge,gU];constructor
  .rintro(h|h);.exact hv.smalls hs h
   exact h.1
  intro h;by_cases c:p∈t.smalls k;.exact .inl c
  refine .inr ⟨h,?_⟩;cases q:(t.smalls k).contains p with|false=>rfl|true=>exact absurd (fz.mp q) c
 exact⟨_,hS,e,by rw[e];exact hc.RL,by rw[e];exact hv.good⟩
def LU(hs:ic t)(hb:qE t)(k:Nat):∃c,fj t k c/\Iv t k c:=by obtain⟨v,v1,v2,_⟩:=FK hs _ _ rfl (M2 hs hb k);obtain⟨c,c1,_,c3⟩:=Fi hs v1 v2;exact⟨c,c1,c3⟩
def AA:List Nat->List Nat->Bool | [],[]=>false | [],_::_=>true | _::_,[]=>false | x::r,y::u=>decide (x<y) || (decide (x=y)&&AA r u)
theorem By:∀{a b:List Nat},a.Pairwise (·<·)->b.Pairwise (·<·)->a.length=b.length->AA b a=false->a=b\/FY a b
 |[],[],_,_,_,_=>.inl rfl
 |[],_::_,_,_,h,_=>by cases h
 |_::_,[],_,_,h,_=>by cases h
 |x::r,y::u,ha,hb,hl,h=>by
  obtain⟨a1,a2⟩:=pq.mp ha;obtain⟨b1,b2⟩:=pq.mp hb;have h:(decide (y<x) || (decide (y=x)&&AA u r))=false:=h;rw[Ku]at h;have h1:¬y<x:=yK h.1;by_cases e:x=y
  .subst e;rw[bq rfl,qo]at h;rcases By a2 b2 (by simpa using hl) h.2 with c|⟨p,p1,p2,p3⟩;.exact .inl (by rw[c])
   have:=a1 p p1;refine .inr ⟨p,dR _ p1,λz=>?_,λq hq=>?_⟩
   .rcases bE.mp z with z|z;.omega
    exact p2 z
   rw[bE,bE,p3 q hq]
  refine .inr ⟨x,cF ..,λz=>?_,λq hq=>?_⟩
  .rcases bE.mp z with z|z;.exact e z
   have:=b1 x z;omega
  constructor
  .intro z;rcases bE.mp z with z|z;.omega
   have:=a1 q z;omega
  intro z;rcases bE.mp z with z|z;.omega
  have:=b1 q z;omega
def Hs(ha:fj t k a)(hb:fj t k b)(h:FY a b):FY (merge t k a) (merge t k b):=by
 obtain⟨p,p1,p2,p3⟩:=h;refine⟨p,(ha.merge p).mpr (.inr p1),λz=>?_,λq hq=>?_⟩
 .rcases (hb.merge p).mp z with z|z;.exact ha.xj p1 z
  exact p2 z
 rw[ha.merge,hb.merge,p3 q hq]
def xk(t:Tab)(a b:List Nat):Prop:=t.weight a<t.weight b\/(t.weight a=t.weight b/\AA b a=false)
def Er(hs:ic t)(ha:fj t k a)(hn:a.length=n)(hm:Iv t k a)(low:∀c,fj t k c->c.length<n->¬Iv t k c)(same:∀c,fj t k c->c.length=n->Iv t k c->xk t a c):t.best k=merge t k a:=by
 refine P8 hs hm.is λu hu=>?_;obtain⟨v,v1,v2,v3⟩:=FK hs _ _ rfl hu;obtain⟨c,c1,c2,c3⟩:=Fi hs v1 v2;have l1:=ha.length;have l2:=c1.length;rw[c2]at l2;have hc:n<=c.length:=by apply ly;intro z;exact low c c1 (by omega) c3
 rcases v3 with e|e
 .subst e;by_cases hl:c.length=n
  .right;refine⟨by omega,?_⟩;have w1:=ha.weight;have w2:=c1.weight;rw[c2]at w2;rcases same c c1 hl c3 with w|⟨w,l⟩;.left;omega
   right;refine⟨by omega,?_⟩;rcases By ha.rise c1.rise (by omega) l with z|z;.left;rw[z];exact c2
   right;rw[<-c2];exact Hs ha c1 z
  left;omega
 left;omega
end ak
end
section
namespace Wh
open PySem PySem.Spec PyProof.Rows L2
open PySem.W (Codec)
def iU{P:Program}{w:World}{K:PySem.W.Frag}{mg:Str->Option Value}{base:Heap}{x qual:Str}{st:Stmt}{f:Addr}{fd:FuncData}{N ps:List Str}{k:Nat}{sp:Sp}(F:gE K x qual st f fd)(S:aM N ps (ax st))(h:∀vs H Q E,sp vs H Q E->vs.length=ps.length/\∀(k_:Value)(A:Around)(outer:List Env)(s:Shared),eY k (A.deeper (envOfC qual (ax st) s.heap.objs.size f k_))->∃t,Cd (AG bu P w K mg base N qual (ax st) f k_ A outer s H E).QZ (h_ st) t/\t {nx:=λ_ H'=>Q .dQ H',rt:=Q} (start N vs) H):ay P w K mg base bu (k+1) f fd ps sp:=F.ok S (λvs H Q E q=>(h vs H Q E q).1) λk_ A outer s H vs Q E hr q=>(h vs H Q E q).2 k_ A outer s hr
def top(i:Nat):Stmt:=PySem.Challenge.pw_withheld_s01_answers.main.body.getD i (.Pass ⟨0,0,0,0⟩)
abbrev ph:Stmt:=top 3
abbrev JC:Stmt:=inClass ph 0
abbrev RJ:Stmt:=inClass ph 1
abbrev RH:Stmt:=inClass ph 2
abbrev JD:Stmt:=inClass ph 3
abbrev RI:Stmt:=inClass ph 4
abbrev JE:Stmt:=inClass ph 5
abbrev ZA:Stmt:=inClass ph 6
abbrev tN:Stmt:=inClass ph 7
abbrev uF:Stmt:=inClass ph 8
abbrev EM:Stmt:=inClass ph 9
abbrev ze:Stmt:=inClass ph 10
abbrev DL:Stmt:=inClass ph 11
abbrev DM:Stmt:=inClass ph 12
abbrev zN:Stmt:=inClass ph 13
def iz(la lb lc ld le lf:Addr):List (Str×V):=[("amounts",.ref la),("lows",.ref lb),("highs",.ref lc),("tails",.ref ld),("heads",.ref le),("steps",.ref lf)]
section
variable {la lb lc ld le lf:Addr}
def cP:(iz la lb lc ld le lf).lookup ("amounts":Str)=some (.ref la):=by rfl
def su:(iz la lb lc ld le lf).lookup ("lows":Str)=some (.ref lb):=by rfl
def j0:(iz la lb lc ld le lf).lookup ("highs":Str)=some (.ref lc):=by rfl
def va:(iz la lb lc ld le lf).lookup ("tails":Str)=some (.ref ld):=by rfl
def ve:(iz la lb lc ld le lf).lookup ("heads":Str)=some (.ref le):=by rfl
def vd:(iz la lb lc ld le lf).lookup ("steps":Str)=some (.ref lf):=by rfl
def zM:(iz la lb lc ld le lf).lookup ("room":Str)=none:=by rfl
end
def oV:Option Int->V|none=>.dQ|some x=>.int x
def nV(n:Nat):V:=.int (n:Int)
abbrev nY:=Nat×Bool×Nat
def QT(x:nY):List V:=[.int (x.1:Int),.int (Flow.sg x.2.1),.int (x.2.2:Int)]
structure NR where
  a:Addr
  dx:Addr
  la:Addr
  lb:Addr
  lc:Addr
  ld:Addr
  le:Addr
  lf:Addr
  tl:List Nat
  hd:List Nat
  kn:List (Addr×List (Addr×nY))
structure cy (C:Addr) (H:Hp) (r:NR) (am lo:List Int) (hi:List (Option Int)):Prop where
  ins:H r.a=some (.ins C r.dx (iz r.la r.lb r.lc r.ld r.le r.lf))
  hA:H r.la=some (.lst (am.map V.int))
  hL:H r.lb=some (.lst (lo.map V.int))
  hH:H r.lc=some (.lst (hi.map oV))
  hT:H r.ld=some (.lst (r.tl.map nV))
  hD:H r.le=some (.lst (r.hd.map nV))
  hS:H r.lf=some (.lst (r.kn.map λq=>V.ref q.1))
  hK:∀q,q∈r.kn->H q.1=some (.lst (q.2.map λz=>V.ref z.1))/\∀z,z∈q.2->H z.1=some (.tup (QT z.2))
  Nu:r.la≠r.lb
  Nt:r.la≠r.lc
  Ic:r.lb≠r.lc
  nd:∀x,x=r.la\/x=r.lb\/x=r.lc->x≠r.ld/\x≠r.le/\x≠r.lf/\∀q,q∈r.kn->x≠q.1
  kf:am.length=r.tl.length
  oa:lo.length=r.tl.length
  lG:hi.length=r.tl.length
  AB:r.hd.length=r.tl.length
def cy.move{am lo dI jC:List Int}{hi gL:List (Option Int)}(N:cy C H r am lo hi)(k:∀b o,H b=some o->b≠r.la->b≠r.lb->b≠r.lc->H' b=some o)(hA:H' r.la=some (.lst (dI.map V.int)))(hL:H' r.lb=some (.lst (jC.map V.int)))(hH:H' r.lc=some (.lst (gL.map oV)))(eA:dI.length=am.length)(eL:jC.length=lo.length)(eH:gL.length=hi.length):cy C H' r dI jC gL:=by have da:=N.nd r.la (.inl rfl);have db:=N.nd r.lb (.inr (.inl rfl));have dc:=N.nd r.lc (.inr (.inr rfl));have off:∀{b:Addr}{o:HO},H b=some o->(∀xs,o≠.lst xs)->H' b=some o:=fun {b o} e no=>k b o e (aI e N.hA (no _)) (aI e N.hL (no _)) (aI e N.hH (no _));refine⟨off N.ins (by intro xs z;cases z),hA,hL,hH,k _ _ N.hT da.1.symm db.1.symm dc.1.symm,k _ _ N.hD da.2.1.symm db.2.1.symm dc.2.1.symm,k _ _ N.hS da.2.2.1.symm db.2.2.1.symm dc.2.2.1.symm,?_,N.Nu,N.Nt,N.Ic,N.nd,eA.trans N.kf,eL.trans N.oa,eH.trans N.lG,N.AB⟩;intro q hq;obtain⟨h1,h2⟩:=N.hK q hq;exact⟨k _ _ h1 (da.2.2.2 q hq).symm (db.2.2.2 q hq).symm (dc.2.2.2 q hq).symm,λz hz=>off (h2 z hz) (by intro xs z;cases z)⟩
def cy.same{am lo:List Int}{hi:List (Option Int)}(N:cy C H r am lo hi)(s:aY H H'):cy C H' r am lo hi:=N.move (λb o e _ _ _=>s b o e) (s _ _ N.hA) (s _ _ N.hL) (s _ _ N.hH) rfl rfl rfl
def NN(r:NR)(lo:List Int)(hi:List (Option Int)):Flow.Net:=⟨r.tl.length,λp=>r.tl.getD p 0,λp=>r.hd.getD p 0,λp=>lo.getD p 0,λp=>hi.getD p none⟩
def fl(am:List Int):Flow.Fl:=λp=>am.getD p 0
def eO{xs:List Int}{p:Nat}(h:p<xs.length):(xs.map V.int)[p]?=some (V.int (xs.getD p 0)):=by rw[cC,dZ h,eI,dZ h];rfl
def Fw{xs:List (Option Int)}{p:Nat}(h:p<xs.length):(xs.map oV)[p]?=some (oV (xs.getD p none)):=by rw[cC,dZ h,eI,dZ h];rfl
def sG{xs:List Nat}{p:Nat}(h:p<xs.length):(xs.map nV)[p]?=some (.int ((xs.getD p 0:Nat):Int)):=by rw[cC,dZ h,eI,dZ h];rfl
structure jz (K:PySem.W.Frag) (mg:Str->Option Value) (C:Addr):Prop where
  cl:B9 K C
  nA:ee K C "amounts"
  nL:ee K C "lows"
  nH:ee K C "highs"
  nT:ee K C "tails"
  nD:ee K C "heads"
  nS:ee K C "steps"
  up:∃t,mg "UP"=some (.int 1 t)
  dn:∃t,mg "DOWN"=some (.int (-1) t)
  list:mg "list"=none
  range:mg "range"=none
  len:mg "len"=none
  min:mg "min"=none
  sum:mg "sum"=none
  zip:mg "zip"=none
  enum:mg "enumerate"=none
def TM(C:Addr)(vs:List V)(H:Hp)(Q:VK)(r:NR)(am lo:List Int)(hi:List (Option Int))(p:Nat)(b:Bool):Prop:=vs=[.ref r.a,.int (p:Int),.int (Flow.sg b)]/\cy C H r am lo hi/\p<r.tl.length/\Q (oV (Flow.room (NN r lo hi) (fl am) (p,b))) H
def yY(C:Addr):Sp:=λvs H Q _=>∃r am lo hi p b,TM C vs H Q r am lo hi p b
section
variable {P:Program} {w:World} {K:PySem.W.Frag} {mg:Str->Option Value} {base:Heap}
def SH:aM ["self","place","way"] ["self","place","way"] (ax tN):=⟨rfl,rfl,rfl,by decide +kernel,rfl,by decide +kernel,by decide +kernel⟩
def zL(F:gE K "room" "Net.room" tN f fd)(T:jz K mg C):ay P w K mg base bu 1 f fd ["self","place","way"] (yY C):=by
 obtain⟨tD,hD⟩:=T.dn;refine iU F SH λvs H Q E h=>?_;obtain⟨r,am,lo,hi,p,b,rfl,N,hp,k⟩:=h;refine⟨rfl,λ_ _ _ _ hr=>?_⟩;have hA:=eO (xs:=am) (p:=p) (by rw[N.kf];exact hp);have hL:=eO (xs:=lo) (p:=p) (by rw[N.oa];exact hp);have hH:=Fw (xs:=hi) (p:=p) (by rw[N.lG];exact hp);refine⟨_,aj (cG (cq (gy (pv 2) (bj (v:=.int (-1)) rfl hD ⟨_,rfl⟩))) (aq (aH (dv Lj (bF aW (az (pv 0) rfl) (pv 1) (λ_ _=>rfl)) (bF aW (az (pv 0) rfl) (pv 1) (λ_ _=>rfl))))) ba) (aj (cG (cq (oO (bF aW (az (pv 0) rfl) (pv 1) (λ_ _=>rfl)))) (aq (aH jO)) ba) (aq (aH (dv Lj (bF aW (az (pv 0) rfl) (pv 1) (λ_ _=>rfl)) (bF aW (az (pv 0) rfl) (pv 1) (λ_ _=>rfl)))))),?_⟩;refine⟨_,rfl,_,_,rfl,rfl,_,rfl,eu (λhb=>?_) (λhb=>?_)⟩
 .have hb:Flow.sg b=-1:=cK hb;have eb:b=false:=by cases b with|false=>rfl|true=>exact absurd hb (by decide)
  subst eb;refine⟨_,rfl,r.a,C,r.dx,_,_,rfl,N.ins,T.cl,T.nA,cP,_,rfl,r.la,_,_,_,rfl,rfl,bp.of N.hA,cj hA,_,rfl,r.a,C,r.dx,_,_,rfl,N.ins,T.cl,T.nL,su,_,rfl,r.lb,_,_,_,rfl,rfl,bp.of N.hL,cj hL,_,_,rfl,rfl,?_⟩;exact k
 have eb:b=true:=by cases b with|true=>rfl|false=>exact absurd (bq rfl) hb
 subst eb;refine⟨_,rfl,r.a,C,r.dx,_,_,rfl,N.ins,T.cl,T.nH,j0,_,rfl,r.lc,_,_,_,rfl,rfl,bp.of N.hH,cj hH,_,rfl,eu (λhb=>?_) (λhb=>?_)⟩
 .have hb:oV (hi.getD p none)=V.dQ:=cK hb;have e:hi.getD p none=none:=by cases q:hi.getD p none with|none=>rfl|some x=>rw[q]at hb;cases hb
  have e2:Flow.room (NN r lo hi) (fl am) (p,true)=none:=by show(hi.getD p none).map _=none;rw[e];rfl
  rw[e2]at k;exact k
 obtain⟨x,e⟩:∃x,hi.getD p none=some x:=by cases q:hi.getD p none with|none=>rw[q]at hb;exact absurd (bq rfl) hb|some x=>exact⟨x,rfl⟩
 rw[e]at hH;refine⟨_,rfl,r.a,C,r.dx,_,_,rfl,N.ins,T.cl,T.nH,j0,_,rfl,r.lc,_,_,_,rfl,rfl,bp.of N.hH,cj hH,_,rfl,r.a,C,r.dx,_,_,rfl,N.ins,T.cl,T.nA,cP,_,rfl,r.la,_,_,_,rfl,rfl,bp.of N.hA,cj hA,_,_,rfl,rfl,?_⟩;have e2:Flow.room (NN r lo hi) (fl am) (p,true)=some (x-am.getD p 0):=by show(hi.getD p none).map _=_;rw[e];rfl
 rw[e2]at k;exact k
end
end Wh
end
section
namespace Wh
open PySem PySem.Spec PyProof.Rows L2
open Flow(dJ r9 wC i9 gF)
def gp(r:NR)(u:Nat):List nY:=(r.kn.getD u (0,[])).2.map (·.2)
def rl(H:Hp)(N:Flow.Net)(x:dJ)(v:V):Prop:=match x.2 with|[]=>v=.dQ|a::_=>∃t,v=.ref t/\H t=some (.tup (QT (a.1,a.2,Flow.src N a)))
def dO(H:Hp)(N:Flow.Net)(ent:List dJ)(bc:List (Key×V)):Prop:=Paired (λ(x:dJ)(kv:Key×V)=>kv.1=Sum.inl (x.1:Int)/\rl H N x kv.2) ent bc
def rl.same(h:rl H N x v)(s:∀t xs,H t=some (.tup xs)->H' t=some (.tup xs)):rl H' N x v:=by
 unfold rl at h⊢;split;.rename_i q;rw[q]at h;exact h
 rename_i a L q;rw[q]at h;obtain⟨t,e,ht⟩:=h;exact⟨t,e,s t _ ht⟩
theorem dO.same(h:dO H N ent bc)(s:∀t xs,H t=some (.tup xs)->H' t=some (.tup xs)):dO H' N ent bc:=Paired.Gs h λ_ _ z=>⟨z.1,z.2.same s⟩
theorem dO.none:∀{ent:List dJ}{bc:List (Key×V)},dO H N ent bc->k∉ent.map (λz:dJ=>z.1)->jh bc (Sum.inl (k:Int))=none
 |_,_,.nil,_=>rfl
 |x::ent,kv::bc,.cons h t,hk=>by
  rw[cV,bE,qg]at hk;have ih:=dO.none (k:=k) t hk.2;unfold jh at ih⊢;rw[oj];have:decide (kv.1=Sum.inl (k:Int))=false:=by refine cM ?_;rw[h.1];intro e;have e:(x.1:Int)=(k:Int):=yn e;exact hk.1 (by omega)
  rw[this];exact ih
theorem dO.get:∀{ent:List dJ}{bc:List (Key×V)}{x:dJ},dO H N ent bc->(ent.map (λz:dJ=>z.1)).Nodup->x∈ent->∃v,jh bc (Sum.inl (x.1:Int))=some v/\rl H N x v
 |y::ent,kv::bc,x,.cons h t,hn,hx=>by
  rw[cV,lj]at hn;unfold jh;rw[oj];by_cases q:y.1=x.1
  .have e:x=y:=by
    rcases bE.mp hx with e|e;.exact e
    exact absurd (by rw[q];exact lx (f:=λz:dJ=>z.1) e) hn.1
   subst e;have:decide (kv.1=Sum.inl (x.1:Int))=true:=bq h.1;rw[this];exact⟨kv.2,rfl,h.2⟩
  have:decide (kv.1=Sum.inl (x.1:Int))=false:=by refine cM ?_;rw[h.1];intro e;have e:(y.1:Int)=(x.1:Int):=yn e;exact q (by omega)
  rw[this];have ZS:x∈ent:=by
   rcases bE.mp hx with e|e;.exact absurd (by rw[e]) q
   exact e
  exact dO.get t hn.2 ZS
theorem dO.isSome{N:Flow.Net}{ent:List dJ}{bc:List (Key×V)}{k:Nat}(h:dO H N ent bc)(hn:(ent.map (λz:dJ=>z.1)).Nodup):(jh bc (Sum.inl (k:Int))).isSome=decide (k∈ent.map (λz:dJ=>z.1)):=by
 by_cases q:k∈ent.map (λz:dJ=>z.1);.obtain⟨x,hx,e⟩:=br.mp q;obtain⟨v,hv,_⟩:=h.get hn hx;have e:x.1=k:=e;rw[e]at hv;rw[hv,bq q];rfl
 rw[h.none q,cM q];rfl
def dO.snoc(h:dO H N ent bc)(hv:rl H N x v):dO H N (ent++[x]) (bc++[(Sum.inl (x.1:Int),v)]):=by unfold dO at h⊢;induction h with|nil=>exact .cons ⟨rfl,hv⟩ .nil|cons a t ih=>exact .cons a ih
def PL(C:Addr)(vs:List V)(H:Hp)(Q:VK)(r:NR)(am lo:List Int)(hi:List (Option Int))(sN gN p:Nat):Prop:=vs=[.ref r.a,.int (sN:Int),.int (gN:Int),.int (p:Int)]/\cy C H r am lo hi/\gF (NN r lo hi) (fl am) (gp r)/\sN<r.kn.length/\r.kn.length<=1000/\(∀a:Flow.iV,a.1<(NN r lo hi).m->Flow.dst (NN r lo hi) a<r.kn.length)/\∀(H':Hp)(d:Addr)(bc:List (Key×V))(ent:List dJ)(done:Nat),aY H H'->H' d=some (.dK bc)->dO H' (NN r lo hi) ent bc->r9 (NN r lo hi) (fl am) p sN ent done->(gN∈ent.map (λz:dJ=>z.1)\/done=ent.length)->Q (.ref d) H'
def zu(C:Addr):Sp:=λvs H Q _=>∃r am lo hi sN gN p,PL C vs H Q r am lo hi sN gN p
section
variable {P:Program} {w:World} {K:PySem.W.Frag} {mg:Str->Option Value} {base:Heap}
def jb:aM ["self","start","goal","barred","came","found","done","knot","place","way","after"] ["self","start","goal","barred"] (ax uF):=⟨rfl,rfl,rfl,by decide +kernel,rfl,by decide +kernel,by decide +kernel⟩
def Br(F:gE K "reach" "Net.reach" uF f fd)(T:jz K mg C)(FR:gE K "room" "Net.room" tN fR vX)(bR:Binds K vX ["self","place","way"] [])(mR:cU K C "room" fR):ay P w K mg base bu 2 f fd ["self","start","goal","barred"] (zu C):=by
 have GR:ay P w K mg base bu 1 fR vX ["self","place","way"] (yY C):=zL FR T;refine iU F jb λvs H Q E h=>?_;obtain⟨r,am,lo,hi,sN,gN,p,rfl,N,S,hsN,hkn,RZ,k⟩:=h;refine⟨rfl,λ_ _ _ _ hr=>?_⟩;have hu:=AO hr;refine⟨_,aj (bh (i:=4) jb.nd rfl (Or.inl rfl) (OY (L3 (pv 1) jO OT) rfl rfl (by simp) (by decide))) (aj (bh (i:=5) jb.nd rfl (Or.inl rfl) (bK (ag (pv 1) ao))) (aj (bh (i:=6) jb.nd rfl (Or.inl rfl) aU) (aj (mi PassesOwn.never (zd (cq (EJ (pv 6) (dS dF (by rfl) T.len oh (ag (pv 5) ao)))) (zI (cq (nF hu (pv 2) (pv 4))))).pt (aj (bh (i:=7) jb.nd rfl (Or.inl rfl) (bF aW (pv 5) (pv 6) (λ_ _=>rfl))) (aj (bh (i:=6) jb.nd rfl (Or.inl rfl) (dv gR (pv 6) aU)) (aq (gd PassesOwn.never rfl (c9 (bF aW (az (pv 0) rfl) (pv 7) (λ_ _=>rfl))) (qz rfl (eP (bb (i:=8) jb.nd rfl (Or.inl rfl)) (eP (bb (i:=9) jb.nd rfl (Or.inl rfl)) (eP (bb (i:=10) jb.nd rfl (Or.inl rfl)) m_)))) (aq (cG (zd (cq (nF hu (pv 10) (pv 4))) (zd (cq (qA (pv 8) (pv 3))) (zI (zJ QA (aV (pv 0) T.cl mR GR hr bR .nil aR (ag (pv 8) (ag (pv 9) ao))) aU (DK _))))).pt (aj (Fd hu (pv 4) (pv 10) (km (ag (pv 8) (ag (pv 9) (ag (pv 7) ao)))) rfl) (aq (cA (i7 i6 lL lM fg (pv 5) (ag (pv 10) ao))))) ba))))))) (aq (aH (pv 4)))))),?_⟩;intro d hd;refine⟨_,rfl,ai,[(Sum.inl (sN:Int),V.dQ)],rfl,by show 1<=15;decide,?_⟩;refine⟨_,rfl,(by show 1<=sizeLine;decide),λl hl=>?_⟩;have s0:aY H (upd (upd (upd H d (.dK [])) d (.dK (oP [] [(Sum.inl (sN:Int),V.dQ)]))) l (.lst [.int (sN:Int)])):=λb o e=>by
  have nb:b≠d:=aa e hd;have e1:upd (upd H d (.dK [])) d (.dK (oP [] [(Sum.inl (sN:Int),V.dQ)])) b=some o:=by rw[ah nb,ah nb];exact e
  rw[ah (aa e1 hl)];exact e1
 have US:d≠l:=aa (by rw[ai]) hl;generalize hM:NN r lo hi=M at S RZ k;have zi:∀{ent:List dJ},i9 M (fl am) p sN ent->ent.length<=r.kn.length:=λB=>B.count hsN RZ;refine⟨λm σ H1=>∃(ent:List dJ)(bc:List (Key×V))(done:Nat)(v7 v8 v9 v10:Option V),m=r.kn.length+1-done/\σ=[some (.ref r.a),some (.int (sN:Int)),some (.int (gN:Int)),some (.int (p:Int)),some (.ref d),some (.ref l),some (.int (done:Int)),v7,v8,v9,v10]/\aY H H1/\H1 d=some (.dK bc)/\H1 l=some (.lst (ent.map λz=>V.int (z.1:Int)))/\dO H1 M ent bc/\r9 M (fl am) p sN ent done,⟨_,[(sN,[])],[(Sum.inl (sN:Int),V.dQ)],0,none,none,none,none,rfl,rfl,s0,?_,?_,?_,r9.start⟩,?_⟩;.rw[ah US,ai];rfl
 .rw[ai];rfl
 .exact .cons ⟨rfl,rfl⟩ .nil
 rintro m σ H1 ⟨ent,bc,done,v7,v8,v9,v10,rfl,rfl,s1,Ge,Aq,cr,Qu⟩;refine⟨_,rfl,_,rfl,l,_,rfl,.inl (bp.of Aq),_,_,rfl,rfl,_,rfl,eu (λij=>?_) (λij=>?_)⟩
 .have ij:(done:Int)<((ent.map λz=>V.int (z.1:Int)).length:Nat):=cK ij;rw[aE]at ij;have hdl:done<ent.length:=by omega
  refine⟨_,rfl,_,rfl,d,_,rfl,sZ.k (k:=Sum.inl (gN:Int)) Ge,_,rfl,eu (λhg=>?_) (λhg=>?_)⟩
  .obtain⟨kx,Z2⟩:∃kx,ent[done]?=some kx:=⟨_,dZ hdl⟩;have Yo:kx∈ent:=du Z2;have hkl:kx.1<r.kn.length:=by have hw:=Qu.base.way kx Yo;cases q:kx.2 with|nil=>rw[q]at hw;have hw:sN=kx.1:=hw;omega|cons a L=>rw[q]at hw;obtain⟨h1,h2,_⟩:=hw;rw[<-h2];exact RZ a h1.1
   refine⟨fun σ' H'=>∃(ent:List dJ)(bc:List (Key×V))(v7 v8 v9 v10:Option V),σ'=[some (.ref r.a),some (.int (sN:Int)),some (.int (gN:Int)),some (.int (p:Int)),some (.ref d),some (.ref l),some (.int ((done+1:Nat):Int)),v7,v8,v9,v10]/\aY H H'/\H' d=some (.dK bc)/\H' l=some (.lst (ent.map λz=>V.int (z.1:Int)))/\dO H' M ent bc/\r9 M (fl am) p sN ent (done+1),?_,?_⟩;.rintro σ' H' ⟨abi,aaz,w7,w8,w9,w10,rfl,s2,g1,g2,g3,g4⟩;have:=zi Qu.base;exact⟨_,(by omega),abi,aaz,done+1,w7,w8,w9,w10,rfl,rfl,s2,g1,g2,g3,g4⟩
   refine⟨_,rfl,_,rfl,l,_,_,_,rfl,rfl,bp.of Aq,cj (v:=V.int (kx.1:Int)) (by rw[cC,Z2];rfl),?_⟩;refine⟨_,rfl,_,_,rfl,rfl,?_⟩;have N1:=N.same s1;obtain⟨kq,Z3⟩:∃kq,r.kn[kx.1]?=some kq:=⟨_,dZ hkl⟩;have RX:kq∈r.kn:=du Z3;have Qn:gp r kx.1=kq.2.map (·.2):=by unfold gp;rw[eI,Z3];rfl
   have K1:=N1.hK kq RX;refine⟨_,rfl,r.a,C,r.dx,_,_,rfl,N1.ins,T.cl,T.nS,vd,_,rfl,r.lf,_,_,_,rfl,rfl,bp.of N1.hS,cj (v:=V.ref kq.1) (by rw[cC,Z3];rfl),kq.1,rfl,⟨_,bp.of K1.1⟩,?_⟩;refine fJ (K:=K) (a:=kq.1) (xs:=kq.2.map λz=>V.ref z.1) (λj σ' H'=>∃(ent:List dJ)(bc:List (Key×V))(v8 v9 v10:Option V),σ'=[some (.ref r.a),some (.int (sN:Int)),some (.int (gN:Int)),some (.int (p:Int)),some (.ref d),some (.ref l),some (.int ((done:Int)+1)),some (.int (kx.1:Int)),v8,v9,v10]/\aY H H'/\H' d=some (.dK bc)/\H' l=some (.lst (ent.map λz=>V.int (z.1:Int)))/\dO H' M ent bc/\wC M (fl am) p sN (gp r kx.1) ent done kx j) ⟨ent,bc,v8,v9,v10,rfl,s1,Ge,Aq,cr,Qu.enter Z2⟩ ?_ ?_ ?_;.rintro i σ' H' hi ⟨_,_,_,_,_,_,s2,_⟩;exact bp.of ((N.same s2).hK kq RX).1
   .rintro j y σ' H' hj ⟨wj,AD,u8,u9,u10,rfl,s2,hd2,sT,Rj,Mi⟩;obtain⟨z,hz,rfl⟩:∃z,kq.2[j]?=some z/\y=V.ref z.1:=by rw[cC]at hj;cases e:kq.2[j]? with|none=>rw[e]at hj;cases hj|some z=>rw[e]at hj;exact⟨z,rfl,(bZ hj).symm⟩
    have Uk:z∈kq.2:=du hz;have sS:(gp r kx.1)[j]?=some z.2:=by rw[Qn,cC,hz];rfl
    have N2:=N.same s2;have ht:=(N2.hK kq RX).2 z Uk;obtain⟨zt,pl,wy,af⟩:=z;obtain⟨i1,i2,i3⟩:=S.is kx.1 (pl,wy,af) (du sS);have aaS:pl<r.tl.length:=by rw[<-hM]at i1;exact i1
    refine⟨zt,_,rfl,qb.of ht,rfl,_,_,rfl,_,_,rfl,_,_,rfl,rfl,?_⟩;refine⟨_,rfl,_,rfl,d,_,rfl,sZ.k (k:=Sum.inl (af:Int)) hd2,_,rfl,?_⟩;rw[Rj.isSome Mi.base.once];have skip:(af∈wj.map (λz:dJ=>z.1)\/pl=p\/Flow.room M (fl am) (pl,wy)=some 0)->∀(a8 a9 a10:Option V),∃(ent:List dJ)(bc:List (Key×V))(v8 v9 v10:Option V),[some (V.ref r.a),some (.int (sN:Int)),some (.int (gN:Int)),some (.int (p:Int)),some (.ref d),some (.ref l),some (.int ((done:Int)+1)),some (.int (kx.1:Int)),a8,a9,a10]=[some (.ref r.a),some (.int (sN:Int)),some (.int (gN:Int)),some (.int (p:Int)),some (.ref d),some (.ref l),some (.int ((done:Int)+1)),some (.int (kx.1:Int)),v8,v9,v10]/\aY H H'/\H' d=some (.dK bc)/\H' l=some (.lst (ent.map λz=>V.int (z.1:Int)))/\dO H' M ent bc/\wC M (fl am) p sN (gp r kx.1) ent done kx (j+1):=λno a8 a9 a10=>⟨wj,AD,a8,a9,a10,rfl,s2,hd2,sT,Rj,Mi.skip sS no⟩;by_cases c1:af∈wj.map (λz:dJ=>z.1);.rw[bq c1];exact skip (.inl c1) _ _ _
    rw[cM c1];refine⟨_,rfl,_,rfl,_,_,rfl,rfl,_,rfl,eu (λc2=>?_) (λc2=>?_)⟩
    .have c2:pl≠p:=by intro e;subst e;have c2:(!decide ((pl:Int)=(pl:Int)))=true:=c2;rw[bq rfl]at c2;cases c2
     refine⟨_,rfl,r.a,r.dx,_,rfl,N2.ins,zM,_,rfl,_,rfl,r,am,lo,hi,pl,wy,rfl,N2,aaS,?_⟩;rw[hM];refine⟨?_,_,rfl,eu (λc3=>?_) (λc3=>?_)⟩;.cases Flow.room M (fl am) (pl,wy)<;>rfl
     .have c3:Flow.room M (fl am) (pl,wy)≠some 0:=by intro e;rw[e]at c3;have c3:(!decide (V.int 0=V.int 0))=true:=c3;rw[bq rfl]at c3;cases c3
      refine⟨_,rfl,_,rfl,_,rfl,(by show 3<=sizeLine;decide),λt Qh=>?_⟩;have Zw:d≠t:=aa hd2 Qh;have Ib:l≠t:=aa sT Qh;have Xs:wj.length=AD.length:=Paired.length Rj;have hc1:=zi Mi.base;have Yr:upd H' t (.tup [.int (pl:Int),.int (Flow.sg wy),.int (kx.1:Int)]) d=some (.dK AD):=by rw[ah Zw];exact hd2
      refine⟨_,rfl,_,rfl,d,_,rfl,Gy.k (k:=Sum.inl (af:Int)) Yr (by rw[<-Xs];exact wZ (by omega)),?_⟩;rw[Bk _ (Rj.none c1)];have Q9:upd (upd H' t (.tup [.int (pl:Int),.int (Flow.sg wy),.int (kx.1:Int)])) d (.dK (AD++[(Sum.inl (af:Int),V.ref t)])) l=some (.lst (wj.map λz=>V.int (z.1:Int))):=by rw[ah US.symm,ah Ib];exact sT
      refine⟨_,rfl,.inl ⟨rfl,_,bp.of Q9⟩,_,rfl,l,_,_,rfl,rfl,Q9,(by rw[aE];exact wZ (by omega)),?_⟩;have s3:aY H (upd (upd (upd H' t (.tup [.int (pl:Int),.int (Flow.sg wy),.int (kx.1:Int)])) d (.dK (AD++[(Sum.inl (af:Int),V.ref t)]))) l (.lst ((wj.map λz=>V.int (z.1:Int))++[V.int (af:Int)]))):=λb o e=>by
       have e2:=s2 b o e;have n1:b≠t:=aa e2 Qh;have n2:b≠d:=aa e hd;have n3:b≠l:=by
        intro q;subst q;have:H b=none:=by have h0:=hl;rw[ah US.symm,ah US.symm]at h0;exact h0
        rw[this]at e;cases e
       rw[ah n3,ah n2,ah n1];exact e2
      have aac:∀t' xs,H' t'=some (.tup xs)->(upd (upd (upd H' t (.tup [.int (pl:Int),.int (Flow.sg wy),.int (kx.1:Int)])) d (.dK (AD++[(Sum.inl (af:Int),V.ref t)]))) l (.lst ((wj.map λz=>V.int (z.1:Int))++[V.int (af:Int)]))) t'=some (.tup xs):=λt' xs e=>by rw[ah (aI e sT (by intro z;cases z)),ah (aI e hd2 (by intro z;cases z)),ah (aa e Qh)];exact e
      refine⟨wj++[(af,(pl,wy)::kx.2)],_,_,_,_,rfl,s3,?_,?_,(Rj.same aac).snoc ⟨t,rfl,?_⟩,Mi.add S sS c1 c2 c3⟩;.rw[ah US,ai]
      .rw[ai,cR];rfl
      rw[ah Ib.symm,ah Zw.symm,ai];rw[i2];rfl
     have c3:Flow.room M (fl am) (pl,wy)=some 0:=by
      cases q:Flow.room M (fl am) (pl,wy)with
      |none=>rw[q]at c3;exact absurd rfl c3
      |some x=>
       rw[q]at c3;by_cases e:x=0;.rw[e]
       exfalso;apply c3;show(!decide (V.int x=V.int 0))=true;rw[cM (λz=>e (by cases z;rfl))];rfl
     exact skip (.inr (.inr c3)) _ _ _
    have c2:pl=p:=by apply ly;intro e;apply c2;show(!decide ((pl:Int)=(p:Int)))=true;rw[cM (λz=>e (by omega))];rfl
    exact skip (.inr (.inl c2)) _ _ _
   rintro σ' H' ⟨wj,AD,u8,u9,u10,rfl,s2,hd2,sT,Rj,Mi⟩;have hj:(kq.2.map λz=>V.ref z.1).length=(gp r kx.1).length:=by rw[Qn,aE,aE]
   rw[hj]at Mi;exact⟨wj,AD,_,u8,u9,u10,rfl,s2,hd2,sT,Rj,Mi.leave S⟩
  refine⟨_,rfl,?_⟩;rw[cr.isSome Qu.base.once]at hg;refine k H1 d bc ent done s1 Ge cr Qu (.inl ?_);apply ly;intro hn;rw[cM hn]at hg;exact hg rfl
 refine⟨_,rfl,?_⟩;have Rb:¬(done:Int)<((ent.map λz=>V.int (z.1:Int)).length:Nat):=λz=>ij (bq z);rw[aE]at Rb;exact k H1 d bc ent done s1 Ge cr Qu (.inr (by have:=Qu.le;omega))
end
end Wh
end
section
namespace Wh
open PySem PySem.Spec PyProof.Rows L2
open Flow(dJ r9 wC i9 gF)
structure Good (r:NR) (am lo:List Int) (hi:List (Option Int)):Prop where
  steps:gF (NN r lo hi) (fl am) (gp r)
  kn:r.kn.length<=1000
  ends:∀a:Flow.iV,a.1<(NN r lo hi).m->Flow.dst (NN r lo hi) a<r.kn.length
def jI(H:Hp)(l:Addr)(mv:List Flow.iV):Prop:=∃ts:List Addr,H l=some (.lst (ts.map V.ref))/\Paired (λ(t:Addr)(a:Flow.iV)=>H t=some (.tup [.int (a.1:Int),.int (Flow.sg a.2)])) ts mv
theorem rB{α β:Type}{R:α->β->Prop}:∀{xs:List α}{ys:List β}{x:α}{y:β},Paired R xs ys->R x y->Paired R (xs++[x]) (ys++[y])|_,_,_,_,.nil,h=>.cons h .nil|_,_,_,_,.cons a t,h=>.cons a (rB t h)
def TZ(C:Addr)(vs:List V)(H:Hp)(Q:VK)(r:NR)(am lo:List Int)(hi:List (Option Int))(p:Nat)(b:Bool):Prop:=vs=[.ref r.a,.int (p:Int),.int (Flow.sg b)]/\cy C H r am lo hi/\p<r.tl.length/\Good r am lo hi/\(∀H',aY H H'->(Flow.room (NN r lo hi) (fl am) (p,b)=some 0\/¬∃L,Flow.Way (NN r lo hi) (fl am) p (Flow.dst (NN r lo hi) (p,b)) L (Flow.src (NN r lo hi) (p,b)))->Q .dQ H')/\(∀(H':Hp)(l:Addr)(L:List Flow.iV),aY H H'->H l=none->jI H' l ((p,b)::L)->Flow.room (NN r lo hi) (fl am) (p,b)≠some 0->Flow.Way (NN r lo hi) (fl am) p (Flow.dst (NN r lo hi) (p,b)) L (Flow.src (NN r lo hi) (p,b))->Flow.dist (NN r lo hi) (fl am) p (Flow.dst (NN r lo hi) (p,b)) r.kn.length (Flow.src (NN r lo hi) (p,b))=L.length->Q (.ref l) H')
def yZ(C:Addr):Sp:=λvs H Q _=>∃r am lo hi p b,TZ C vs H Q r am lo hi p b
def Mu{la lb lc ld le lf:Addr}:(iz la lb lc ld le lf).lookup ("reach":Str)=none:=by rfl
def xn{la lb lc ld le lf:Addr}:(iz la lb lc ld le lf).lookup ("circle":Str)=none:=by rfl
def Mw{la lb lc ld le lf:Addr}:(iz la lb lc ld le lf).lookup ("circle_room":Str)=none:=by rfl
def mj{la lb lc ld le lf:Addr}:(iz la lb lc ld le lf).lookup ("drive":Str)=none:=by rfl
def xm{la lb lc ld le lf:Addr}:(iz la lb lc ld le lf).lookup ("is_free":Str)=none:=by rfl
def BC{c A B Z:Prop}[Decidable c](h1:c->Z->A)(h2:¬c->Z->B)(z:Z):if c then A else B:=by
 by_cases h:c;.rw[aw h];exact h1 h z
 rw[au h];exact h2 h z
def La:(Flow.sg b=1)↔b=true:=by cases b<;>simp[Flow.sg]
def SD{am lo:List Int}{hi:List (Option Int)}(G:Good r am lo hi)(a:Flow.iV)(h:a.1<(NN r lo hi).m):Flow.src (NN r lo hi) a<r.kn.length:=by have:=G.ends (Flow.rev a) h;rw[Flow.zR]at this;exact this
section
variable {P:Program} {w:World} {K:PySem.W.Frag} {mg:Str->Option Value} {base:Heap}
def lV:aM ["self","place","way","start","goal","came","moves","knot","step"] ["self","place","way"] (ax EM):=⟨rfl,rfl,rfl,by decide +kernel,rfl,by decide +kernel,by decide +kernel⟩
def Fh{f fR fS C:Addr}{fd vX p_:FuncData}(F:gE K "circle" "Net.circle" EM f fd)(T:jz K mg C)(FR:gE K "room" "Net.room" tN fR vX)(bR:Binds K vX ["self","place","way"] [])(mR:cU K C "room" fR)(FS:gE K "reach" "Net.reach" uF fS p_)(bS:Binds K p_ ["self","start","goal","barred"] [])(mS:cU K C "reach" fS):ay P w K mg base bu 3 f fd ["self","place","way"] (yZ C):=by
 have GR:ay P w K mg base bu 1 fR vX ["self","place","way"] (yY C):=zL FR T;have GS:ay P w K mg base bu 2 fS p_ ["self","start","goal","barred"] (zu C):=Br FS T FR bR mR;obtain⟨tU,hU⟩:=T.up;refine iU F lV λvs H Q E h=>?_;obtain⟨r,am,lo,hi,p,b,rfl,N,hp,G,k1,k2⟩:=h;refine⟨rfl,λ_ _ _ _ hr=>?_⟩;have hu:=AO hr;have Ao:eY 1 _:=hr.mono (by decide);refine⟨_,aj (cG (zJ Xe (aV (pv 0) T.cl mR GR Ao bR .nil aR (ag (pv 1) (ag (pv 2) ao))) aU (DK _)) (aq (aH jO)) ba) (aj (bh (i:=3) lV.nd rfl (Or.inl rfl) (jv (cq (gy (pv 2) (bj (v:=.int 1) rfl hU ⟨_,rfl⟩))) (bF aW (az (pv 0) rfl) (pv 1) (λ_ _=>rfl)) (bF aW (az (pv 0) rfl) (pv 1) (λ_ _=>rfl)))) (aj (bh (i:=4) lV.nd rfl (Or.inl rfl) (jv (cq (gy (pv 2) (bj (v:=.int 1) rfl hU ⟨_,rfl⟩))) (bF aW (az (pv 0) rfl) (pv 1) (λ_ _=>rfl)) (bF aW (az (pv 0) rfl) (pv 1) (λ_ _=>rfl)))) (aj (bh (i:=5) lV.nd rfl (Or.inl rfl) (aV (pv 0) T.cl mS GS hr bS .nil aR (ag (pv 3) (ag (pv 4) (ag (pv 1) ao))))) (aj (cG (cq (nF hu (pv 4) (pv 5))) (aq (aH jO)) ba) (aj (bh (i:=6) lV.nd rfl (Or.inl rfl) (bK (ag (km (ag (pv 1) (ag (pv 2) ao))) ao))) (aj (bh (i:=7) lV.nd rfl (Or.inl rfl) (pv 4)) (aj (mi PassesOwn.never (cq (qA (pv 7) (pv 3))) (aj (bh (i:=8) lV.nd rfl (Or.inl rfl) (OZ hu (pv 5) (pv 7) (λ_ _=>rfl))) (aj (cA (i7 i6 lL lM fg (pv 6) (ag (km (ag (bF lZ (pv 8) aU (λ_ _=>rfl)) (ag (bF lZ (pv 8) aU (λ_ _=>rfl)) ao))) ao))) (aq (bh (i:=7) lV.nd rfl (Or.inl rfl) (bF lZ (pv 8) aU (λ_ _=>rfl))))))) (aq (aH (pv 6)))))))))),?_⟩;have G':=G;have hm:p<(NN r lo hi).m:=hp;have Ih:=G.ends (p,b) hm;have hgl:=SD G (p,b) hm;have eD:∀q,q<r.tl.length->(r.hd.map nV)[q]?=some (.int ((Flow.dst (NN r lo hi) (q,true):Nat):Int)):=λq hq=>sG (xs:=r.hd) (by rw[N.AB];exact hq);have eT:∀q,q<r.tl.length->(r.tl.map nV)[q]?=some (.int ((Flow.src (NN r lo hi) (q,true):Nat):Int)):=λq hq=>sG (xs:=r.tl) hq;refine⟨_,rfl,r.a,r.dx,_,rfl,N.ins,zM,_,rfl,_,rfl,r,am,lo,hi,p,b,rfl,N,hp,?_⟩;generalize hM:NN r lo hi=M at *;refine⟨?_,_,rfl,eu (λc=>?_) (λc=>?_)⟩;.cases Flow.room M (fl am) (p,b)<;>rfl
 .refine k1 H (aY.refl H) (.inl ?_);have c:oV (Flow.room M (fl am) (p,b))=V.int 0:=cK c;cases q:Flow.room M (fl am) (p,b)with|none=>rw[q]at c;cases c|some x=>rw[q]at c;have c:V.int x=V.int 0:=c;cases c;rfl
 have c0:Flow.room M (fl am) (p,b)≠some 0:=by intro e;rw[e]at c;exact c (bq rfl)
 obtain⟨st,sS⟩:∃st,st=Flow.dst M (p,b):=⟨_,rfl⟩;obtain⟨gl,IZ⟩:∃gl,gl=Flow.src M (p,b):=⟨_,rfl⟩;have d1:b=true->(r.hd.map nV)[p]?=some (.int (st:Int)):=λe=>by subst e sS;exact eD p hp
 have d2:¬b=true->(r.tl.map nV)[p]?=some (.int (st:Int)):=λe=>by cases b with|true=>exact absurd rfl e|false=>subst sS;exact eT p hp
 have g1:b=true->(r.tl.map nV)[p]?=some (.int (gl:Int)):=λe=>by subst e IZ;exact eT p hp
 have g2:¬b=true->(r.hd.map nV)[p]?=some (.int (gl:Int)):=λe=>by cases b with|true=>exact absurd rfl e|false=>subst IZ;exact eD p hp
 have yes:∀{x:Bool},decide (Flow.sg b=1)=true->b=true:=λh=>La.mp (cK h);have nos:¬decide (Flow.sg b=1)=true->¬b=true:=λh e=>h (bq (La.mpr e));refine⟨_,rfl,_,_,rfl,rfl,_,rfl,BC (λcb z=>⟨_,rfl,r.a,C,r.dx,_,_,rfl,N.ins,T.cl,T.nD,ve,_,rfl,r.le,_,_,_,rfl,rfl,bp.of N.hD,cj (d1 (yes (x:=true) cb)),z⟩) (λcb z=>⟨_,rfl,r.a,C,r.dx,_,_,rfl,N.ins,T.cl,T.nT,va,_,rfl,r.ld,_,_,_,rfl,rfl,bp.of N.hT,cj (d2 (nos cb)),z⟩) ?_⟩;refine⟨_,rfl,_,_,rfl,rfl,_,rfl,BC (λcb z=>⟨_,rfl,r.a,C,r.dx,_,_,rfl,N.ins,T.cl,T.nT,va,_,rfl,r.ld,_,_,_,rfl,rfl,bp.of N.hT,cj (g1 (yes (x:=true) cb)),z⟩) (λcb z=>⟨_,rfl,r.a,C,r.dx,_,_,rfl,N.ins,T.cl,T.nD,ve,_,rfl,r.le,_,_,_,rfl,rfl,bp.of N.hD,cj (g2 (nos cb)),z⟩) ?_⟩;refine⟨_,rfl,r.a,r.dx,_,rfl,N.ins,Mu,_,rfl,_,rfl,_,rfl,r,am,lo,hi,st,gl,p,rfl,N,?_,?_,G.kn,?_,?_⟩;.rw[hM];have:=G.steps;rw[hM]at this;exact this
 .rw[sS];exact Ih
 .rw[hM];have:=G.ends;rw[hM]at this;exact this
 rw[hM];intro H1 d bc ent done s1 Ge cr Qu fin;refine⟨_,rfl,_,rfl,d,_,rfl,sZ.k (k:=Sum.inl (gl:Int)) Ge,_,rfl,?_⟩;rw[cr.isSome Qu.base.once];by_cases cg:gl∈ent.map (λz:dJ=>z.1)
 .rw[bq cg];obtain⟨gx,Vi,YK⟩:=br.mp cg;have YK:gx.1=gl:=YK;have QD:∀a:Flow.iV,a.1<M.m->Flow.dst M a<r.kn.length:=by have:=G.ends;rw[hM]at this;exact this
  have rg:=Qu.short (C:=r.kn.length) Vi (Qu.base.len (by rw[sS];exact Ih) QD Vi);have Wf:=Qu.base.way gx Vi;rw[YK]at rg Wf;refine⟨_,rfl,_,rfl,(by show 2<=sizeLine;decide),λt ht=>⟨(by show 1<=sizeLine;decide),λl hl=>?_⟩⟩;refine⟨_,rfl,?_⟩;have Ym:H l=none:=by cases q:H l with|none=>rfl|some o=>have e1:=s1 _ _ q;rw[ah (aa e1 ht),e1]at hl;cases hl
  have Ib:l≠t:=by intro e;subst e;rw[ai]at hl;cases hl
  have ndl:d≠l:=by intro e;subst e;rw[ah (aa Ge ht),Ge]at hl;cases hl
  have Zw:d≠t:=aa Ge ht;have Xh:aY H1 (upd (upd H1 t (.tup [.int (p:Int),.int (Flow.sg b)])) l (.lst [.ref t])):=λx o e=>by
   have n1:x≠t:=aa e ht;have e1:upd H1 t (.tup [.int (p:Int),.int (Flow.sg b)]) x=some o:=by rw[ah n1];exact e
   rw[ah (aa e1 hl)];exact e1
  refine⟨λm σ H2=>∃(x:dJ)(mv:List Flow.iV)(v8:Option V),m=x.2.length/\σ=[some (.ref r.a),some (.int (p:Int)),some (.int (Flow.sg b)),some (.int (st:Int)),some (.int (gl:Int)),some (.ref d),some (.ref l),some (.int (x.1:Int)),v8]/\(∀y o,H1 y=some o->y≠l->H2 y=some o)/\jI H2 l mv/\x∈ent/\mv++x.2=(p,b)::gx.2/\mv.length<=gx.2.length+1,⟨_,gx,[(p,b)],none,rfl,(by rw[YK];rfl),(λy o e _=>Xh y o e),⟨[t],ai,.cons (by rw[ah Ib.symm,ai]) .nil⟩,Vi,rfl,by simp⟩,?_⟩;rintro m σ H2 ⟨x,mv,v8,rfl,rfl,kp,⟨ts,Ie,M7⟩,hx,Vt,lmv⟩;have hnl:H1 l=none:=by cases q:H1 l with|none=>rfl|some o=>rw[ah (aa q ht),q]at hl;cases hl
  have hd2:H2 d=some (.dK bc):=kp d _ Ge ndl;have abx:gx.2.length<=r.kn.length:=Qu.base.len (by rw[sS];exact Ih) QD Vi;have hkn:=G.kn;refine⟨_,rfl,_,rfl,_,_,rfl,rfl,_,rfl,eu (λc1=>?_) (λc1=>?_)⟩
  .have c1:x.1≠st:=by intro e;rw[e]at c1;have c1:(!decide ((st:Int)=(st:Int)))=true:=c1;rw[bq rfl]at c1;cases c1
   have Yf:=Qu.base.way x hx;obtain⟨a,L,ex⟩:∃a L,x.2=a::L:=by cases q:x.2 with|nil=>rw[q]at Yf;have Yf:st=x.1:=Yf;exact absurd Yf.symm c1|cons a L=>exact⟨a,L,rfl⟩
   have Ik:=Qu.base.chain x hx a L ex;obtain⟨v,hv,cv⟩:=cr.get Qu.base.once hx;unfold rl at cv;rw[ex]at cv;obtain⟨t8,rfl,ht8⟩:=cv;have nt8:t8≠l:=aa ht8 hnl;have N_:=kp t8 _ ht8 nt8;refine⟨fun σ' H'=>∃(x':dJ)(mv:List Flow.iV)(v8:Option V),x'.2.length<x.2.length/\σ'=[some (.ref r.a),some (.int (p:Int)),some (.int (Flow.sg b)),some (.int (st:Int)),some (.int (gl:Int)),some (.ref d),some (.ref l),some (.int (x'.1:Int)),v8]/\(∀y o,H1 y=some o->y≠l->H' y=some o)/\jI H' l mv/\x'∈ent/\mv++x'.2=(p,b)::gx.2/\mv.length<=gx.2.length+1,?_,?_⟩;.rintro σ' H' ⟨x',mv',w8,lt,rfl,q1,q2,q3,q4,q5⟩;exact⟨_,lt,x',mv',w8,rfl,rfl,q1,q2,q3,q4,q5⟩
   refine⟨_,rfl,_,rfl,d,V.ref t8,rfl,.inl ⟨bc,Sum.inl (x.1:Int),.inl hd2,rfl,hv.symm⟩,?_⟩;refine⟨_,rfl,.inl ⟨rfl,_,bp.of Ie⟩,_,rfl,t8,_,_,_,rfl,rfl,qb.of N_,rfl,_,rfl,t8,_,_,_,rfl,rfl,qb.of N_,rfl,(by show 2<=sizeLine;decide),λt2 Ny=>?_⟩;have V8:l≠t2:=aa Ie Ny;have aaI:upd H2 t2 (.tup [.int (a.1:Int),.int (Flow.sg a.2)]) l=some (.lst (ts.map V.ref)):=by rw[ah V8];exact Ie
   have lts:ts.length=mv.length:=Paired.length M7;refine⟨l,_,_,rfl,rfl,aaI,(by rw[aE,lts];exact dX lmv (dX (by omega:gx.2.length+1<=1001) (by decide))),?_⟩;have aaL:upd (upd H2 t2 (.tup [.int (a.1:Int),.int (Flow.sg a.2)])) l (.lst (ts.map V.ref++[V.ref t2])) t8=some (.tup (QT (a.1,a.2,Flow.src M a))):=by rw[ah nt8,ah (aa N_ Ny)];exact N_
   refine⟨_,rfl,t8,_,_,_,rfl,rfl,qb.of aaL,rfl,?_⟩;refine⟨(Flow.src M a,L),mv++[a],_,(by rw[ex];simp),rfl,?_,⟨ts++[t2],?_,?_⟩,Ik,?_,?_⟩;.intro y o e n;rw[ah n,ah (aa (kp y o e n) Ny)];exact kp y o e n
   .rw[ai,cR];rfl
   .refine rB (Paired.Gs M7 λt' a' e=>?_) ?_;.rw[ah (aI e Ie (by intro z;cases z)),ah (aa e Ny)];exact e
    rw[ah V8.symm,ai]
   .rw[<-Vt,ex,jS];rfl
   have:=congrArg List.length Vt;rw[ex,dC,dr,dr]at this;rw[dC,tI];omega
  have c1:x.1=st:=by apply ly;intro e;apply c1;show(!decide ((x.1:Int)=(st:Int)))=true;rw[cM (λz=>e (by omega))];rfl
  refine⟨_,rfl,?_⟩;have ex:x=(st,[]):=Flow.Bg Qu.base.once hx (du Qu.base.head) c1;rw[ex]at Vt;rw[iG]at Vt;rw[Vt]at M7;refine k2 H2 l gx.2 (λy o e=>kp y o (s1 y o e) (λq=>by rw[q,Ym]at e;cases e)) Ym ⟨ts,Ie,M7⟩ c0 ?_ ?_;.rw[<-sS,<-IZ];exact Wf
  rw[<-sS,<-IZ];exact rg
 rw[cM cg];refine k1 H1 s1 (.inr ?_);rw[<-sS,<-IZ];exact Qu.none (fin.resolve_left cg) cg
end
end Wh
end
section
namespace Wh
open PySem PySem.Spec PyProof.Rows L2
section
variable {prog:Program} {w:World} {A:Around} {R:Result->Shared->Prop} {it:Addr} {fp wr:List Addr} {n:Nat} {P:Nat->Value->Prop} {St:Nat->Heap->Prop} {kw:List (Str×Value)}
def sC:(toString "min"++toString ".loop":String)="min.loop":=by decide
def Ph(wk:Walks prog w A.in1 it fp wr n P St)(bt:Nat->Nat->Bool)(hc:CmpOf prog w A.in1 .Lt P bt)(Z:Addr)(nz:Z∉fp):∀(k j:Nat)(s:Shared)(vb:Value)(c:Nat),n-(j+1)=k->j+1<=n->St (j+1) s.heap->P (argBest bt j) vb->s.heap.get? Z=some {cls:=.type "list",dict:=none,data:=.seq #[vb,vb] c,slots:=#[]}->(∀v h' tk,P (argBest bt (n-1)) v->(∀b o,b∉wr->b≠Z->s.heap.get? b=some o->h'.get? b=some o)->R (.ok (.ret v)) {s with heap:=h',toks:=tk})->codeAny (model prog w) A (.builtin "min.loop" ⟨[.ref it,.none,.ref Z],kw⟩) R s:=by
 have zw:Z∉wr:=λh=>nz (wk.sub _ h);intro k;induction k with
 |zero=>
  intro j s vb c e0 le st pb gz fin;have en:j+1=n:=by omega
  refine uc Cv (?_:wpAny _ _ _ _ _ _);rw[uu oI _];show wpAny _ A.in1 (seqItems? (.ref Z) >>= _) _ _ s;refine aZ (Co gz rfl (?_:wpAny _ A.in1 (tryCatch (pyNext (.ref it)) _ >>= _) _ _ s));refine aZ (tZ (wk.done s _ _ (en▸st) λh1 t1 kp=>?_));have Ql:=kp Z _ zw gz;show wpAny _ A.in1 (updateSeq Z (λ_=>#[]) >>= _) _ _ _;apply aZ;refine Cu Ql rfl (aZ (tS (bz ?_)));exact fin vb _ t1 (by rw[<-en];exact pb) λb o h1 h2 e=>(tH _ _ (jq h2)).trans (kp b o h1 e)
 |succ k ih=>
  intro j s vb c e0 le st pb gz fin;have jn:j+1<n:=by omega
  refine uc Cv (?_:wpAny _ _ _ _ _ _);rw[uu oI _];show wpAny _ A.in1 (seqItems? (.ref Z) >>= _) _ _ s;refine aZ (Co gz rfl (?_:wpAny _ A.in1 (tryCatch (pyNext (.ref it)) _ >>= _) _ _ s));refine aZ (tZ (wk.item (j+1) s _ _ jn st λv h1 t1 pv M6 kp=>?_));have Ql:=kp Z _ zw gz;refine(aZ (tZ (lT (aZ (hc (j+1) (argBest bt j) v vb _ _ _ pv pb ?_)))):wpAny _ A.in1 (tryCatch (holding [v,v] (richCompare .Lt v vb >>= _)) _ >>= _) _ _ _);refine aZ (lT (pj (aZ (tS (bz ?_)))));by_cases q:bt (j+1) (argBest bt j)=true
  .have ea:argBest bt (j+1)=j+1:=by show(if bt (j+1) (argBest bt j)=true then _ else _)=_;rw[aw q]
   rw[q,aw rfl];apply aZ;refine Cu Ql rfl (aZ (tS ?_));rw[sC];refine bz ⟨qk oI _,ih (j+1) _ v _ (by omega) jn ?_ (by rw[ea];exact pv) (yL _ Ql rfl) λv2 h2 t2 p2 k2=>?_⟩;.exact wk.frame _ _ _ M6 λb hb o e=>(tH _ _ (λz:Z=b=>nz (z▸hb))).trans e
   exact fin v2 h2 t2 p2 λb o n1 n2 e=>k2 b o n1 n2 ((tH _ _ (jq n2)).trans (kp b o n1 e))
  have q:bt (j+1) (argBest bt j)=false:=by simpa using q
  have ea:argBest bt (j+1)=argBest bt j:=by show(if bt (j+1) (argBest bt j)=true then _ else _)=_;rw[au (by rw[q];exact e_)]
  rw[q,au e_];refine aZ (tS ?_);rw[sC];refine bz ⟨qk oI _,ih (j+1) _ vb c (by omega) jn M6 (by rw[ea];exact pb) Ql λv2 h2 t2 p2 k2=>?_⟩;exact fin v2 h2 t2 p2 λb o n1 n2 e=>k2 b o n1 n2 (kp b o n1 e)
def Mx(wk:Walks prog w A.in1 it fp wr n P St)(bt:Nat->Nat->Bool)(hc:CmpOf prog w A.in1 .Lt P bt)(Z:Addr)(nz:Z∉fp)(st:St 0 s.heap)(gz:s.heap.get? Z=some {cls:=.type "list",dict:=none,data:=.seq #[] c,slots:=#[]})(fin:∀v h' tk,(0<n/\P (argBest bt (n-1)) v)\/(n=0/\v=d)->(∀b o,b∉wr->b≠Z->s.heap.get? b=some o->h'.get? b=some o)->R (.ok (.ret v)) {s with heap:=h',toks:=tk}):codeAny (model prog w) A (.builtin "min.loop" ⟨[.ref it,.none,.ref Z],[("default",d)]⟩) R s:=by
 have zw:Z∉wr:=λh=>nz (wk.sub _ h);refine uc Cv (?_:wpAny _ _ _ _ _ _);rw[uu oI _];show wpAny _ A.in1 (seqItems? (.ref Z) >>= _) _ _ s;refine aZ (Co gz rfl (?_:wpAny _ A.in1 (tryCatch (pyNext (.ref it)) _ >>= _) _ _ s));by_cases hn:0<n
 .refine aZ (tZ (wk.item 0 s _ _ hn st λv h1 t1 pv M6 kp=>?_));have Ql:=kp Z _ zw gz;show wpAny _ A.in1 (updateSeq Z (λ_=>#[v,v]) >>= _) _ _ _;apply aZ;refine Cu Ql rfl ?_;rw[sC];refine bz ⟨qk oI _,Ph wk bt hc Z nz _ 0 _ v _ rfl hn ?_ pv (yL _ Ql rfl) λv2 h2 t2 p2 k2=>?_⟩;.exact wk.frame _ _ _ M6 λb hb o e=>(tH _ _ (λz:Z=b=>nz (z▸hb))).trans e
  exact fin v2 h2 t2 (.inl ⟨hn,p2⟩) λb o n1 n2 e=>k2 b o n1 n2 ((tH _ _ (jq n2)).trans (kp b o n1 e))
 have en:n=0:=by omega
 refine aZ (tZ (wk.done s _ _ (by rw[en];exact st) λh1 t1 kp=>?_));refine aZ (wpAny_rule (bz ?_));exact fin d h1 t1 (.inr ⟨en,rfl⟩) λb o n1 _ e=>kp b o n1 e
end
section
variable {prog:Program} {w:World} {A:Around} {E:Value->Shared->Prop} {s:Shared}
def Pk(a d:Value):argsOk "min" ⟨[a],[("default",d)]⟩:=by unfold argsOk;kernel_rfl
end
section
variable {prog:Program} {w:World} {A:Around} {E:Value->Shared->Prop} {s:Shared}
def Ac{id:String}{b:Builtin}{args:List Value}{kw:List (Str×Value)}{Q:Value->Shared->Prop}(k0:builtinKind id=none)(p0:plainId id=true)(e0:entryFor table id=some b)(a0:argsOk id ⟨args,kw⟩)(go:wpAny (model prog w) A.in1 (b ⟨args,kw⟩) (λfin s1=>match fin with|.done f=>(match (Except.ok f:Result)with|.ok (.ret v)=>Q v s1|.ok _=>False|.error e=>E e s1)|.again c1=>c1.quiet=true/\codeAny (model prog w) A c1 (λr s2=>match r with|.ok (.ret v)=>Q v s2|.ok _=>False|.error e=>E e s2) s1) E s):wpAny (model prog w) A (call (.builtin id) args kw) Q E s:=by
 refine yh (codeAny_call_builtin p0 e0 (?_:wpAny _ _ _ _ _ _));simp only[checkBuiltinCall,k0];cases q:Manifest.signature? id with
 |none=>exact bz go
 |some sig=>
  have ok:Bind.checkArgs id sig ⟨args,kw⟩=pure ():=by simpa only[argsOk,q]using a0
  simp only[ok];exact bz go
def Pj{Q:Value->Shared->Prop}(hh:A.handled=none)(hl:s.heap.IsList l b_.toArray)(hi:IntsAre b_ ns)(h1:∀h' tk M t',(∀b o,s.heap.get? b=some o->h'.get? b=some o)->M∈ns->(∀a,a∈ns->M<=a)->Q (.int M t') {s with heap:=h',toks:=tk})(h2:∀h' tk,(∀b o,s.heap.get? b=some o->h'.get? b=some o)->ns=[]->Q d {s with heap:=h',toks:=tk}):wpAny (model prog w) A (call (.builtin "min") [.ref l] [("default",d)]) Q E s:=by
 obtain⟨xs,e⟩:=hi.allInts.items;have hn:numsOf (intItems xs).toList=ns:=by rw[<-e];exact hi.numsOf
 rw[nums_intItems]at hn;subst hn;rw[e]at hl;refine Ac F.kind_min F.plain_min F.entry_min (Pk _ _) ?_;show wpAny _ A.in1 (Builtin.Builtins.bindParams "min" ["key","default"] 0 ⟨[],[("default",d)]⟩ >>= _) _ _ s;refine aZ (wpAny_of_eq (show Builtin.Builtins.bindParams "min" ["key","default"] 0 ⟨[],[("default",d)]⟩=pure [none,some d]from rfl) (aZ (bz ?_)));refine aZ (iter_intList hl λs2 e2 st Ng hlI=>?_);subst e2;apply aZ;refine uh ?_;rw[sC];have wk:=Walks.list (prog:=prog) (w:=w) (A:=A.in1) hh s.heap.objs.size l hlI (intItems xs);refine bz ⟨qk oI _,Mx (d:=d) wk _ (CmpOf.ints_lt (numAt xs) (λ_ _=>intItems_at)) _ (λhm=>il _ (Ng _ hm)) (wk.frame _ _ _ st λb _ o q=>ed _ q) (gu _ rfl) λv h' tk hP hk=>?_⟩;have old:∀b o,s.heap.get? b=some o->h'.get? b=some o:=old_kept λb o hb q=>hk b o hb (fw (cY q)) (ed _ q);rcases hP with⟨n0,hP⟩|⟨n0,rfl⟩
 .have hsz:0<xs.size:=by simpa [intItems]using n0
  have hP:(intItems xs)[argBest (λi j=>decide (numAt xs i<numAt xs j)) (xs.size-1)]?=some v:=by simpa [intItems]using hP
  obtain⟨t,rfl⟩:=intItems_at hP;obtain⟨g1,g2⟩:=argBest_lt (numAt xs) (xs.size-1);refine h1 h' tk _ t old ?_ λa ha=>?_;.rw[numAt_eq];exact PySem.getD_mem (by rw[aE,tu];omega)
  obtain⟨j,hj,rfl⟩:=mem_getD ha;rw[aE,tu]at hj;rw[<-numAt_eq];exact g2 j (by omega)
 refine h2 h' tk old ?_;have:xs.size=0:=by simpa [intItems]using n0
 have:xs=#[]:=Array.eq_empty_of_size_eq_zero this;rw[this];rfl
end
section
variable {X:Cx} {p pos AE:Pos} {e:Expr} {te td:TE} {d:Expr}
def WQ(K:PySem.W.Frag)(te td:TE):TE:=fun σ H Q=>fb te iW σ H λvs H1=>fb td iW σ H1 λzs H2=>∃(z:V)(a:Addr)(ns:List Int),zs=[z]/\vs=[.ref a]/\bp K H2 a (ns.map V.int)/\(∀m,m∈ns->(∀y,y∈ns->m<=y)->Q (.int m) H2)/\(ns=[]->Q z H2)
def OX(hc:X.calm=true)(hg:Gl X "min")(hm:X.mg "min"=none)(he:PE X e te)(hd:PE X d td)(hs:starEach [e] X.env=[(false,eval e X.env)]:=by rfl):PE X (.Call (.Name "min" p) [e] [⟨some "default",d,AE⟩] pos) (WQ X.K te td):=by intro pins s σ H Q I h;refine tj (oQ I hg hm PyProof.Rows.boot_min ?_);have hk:PK X [⟨some "default",d,AE⟩] (fb td iW):=OV hd SU;refine KY (dH (ag he ao hs pos pins s σ H _ I h) λus s1⟨vs,H1,I1,r1,q1⟩=>?_) (by rw[hs];rfl) (by rw[hs];rfl);refine dH (hk pos pins s1 σ H1 _ I1 q1) λws s2⟨zs,H2,I2,r2,z,a,ns,ez,ev,hq,q2,q3⟩=>?_;subst ez ev;rw[ck.NT r1];obtain⟨b_,rv,hl,_⟩:=I2.list hq;cases r2 with|cons rz rr=>cases rr;exact Pj (I2.ok.hd hc) hl.isList rv.ints (λh' tk m t' hk h1 h2=>⟨.int m,H2,I2.kept hk,⟨_,rfl⟩,q2 m h1 h2⟩) λh' tk hk h1=>⟨z,H2,I2.kept hk,rz,q3 h1⟩
end
end Wh
end
section
namespace Wh
open PySem PySem.Spec PyProof.Rows L2
open Flow(dJ r9 wC i9 gF)
def jI.same(h:jI H l mv)(s:aY H H'):jI H' l mv:=by obtain⟨ts,h1,h2⟩:=h;exact⟨ts,s _ _ h1,Paired.Gs h2 λ_ _ e=>s _ _ e⟩
theorem nG{α β:Type}{R:α->β->Prop}:∀{xs:List α}{ys:List β}{i:Nat}{x:α},Paired R xs ys->xs[i]?=some x->∃y,ys[i]?=some y/\R x y|_,_,_,_,.nil,e=>by simp at e|_,_,0,_,.cons r _,e=>by simp at e;subst e;exact⟨_,rfl,r⟩|_,_,i+1,x,.cons _ t,e=>by obtain⟨y,h1,h2⟩:=nG (i:=i) (x:=x) t (by simpa using e);exact⟨y,by simpa using h1,h2⟩
def take_snoc{α:Type}{l:List α}{i:Nat}{x:α}(h:l[i]?=some x):l.take (i+1)=l.take i++[x]:=by rw[lJ,h];rfl
def P5(C:Addr)(vs:List V)(H:Hp)(Q:VK)(r:NR)(am lo:List Int)(hi:List (Option Int))(l:Addr)(mv:List Flow.iV):Prop:=vs=[.ref r.a,.ref l]/\cy C H r am lo hi/\jI H l mv/\(∀a,a∈mv->a.1<r.tl.length)/\mv.length<=1001/\∀H',aY H H'->(∀m,(∃a,a∈mv/\Flow.room (NN r lo hi) (fl am) a=some m)->(∀a,a∈mv->∀y,Flow.room (NN r lo hi) (fl am) a=some y->m<=y)->Q (.int m) H')/\((∀a,a∈mv->Flow.room (NN r lo hi) (fl am) a=none)->Q .dQ H')
def zB(C:Addr):Sp:=λvs H Q _=>∃r am lo hi l mv,P5 C vs H Q r am lo hi l mv
section
variable {P:Program} {w:World} {K:PySem.W.Frag} {mg:Str->Option Value} {base:Heap}
def m9:aM ["self","moves","rooms","place","way","room"] ["self","moves"] (ax ze):=⟨rfl,rfl,rfl,by decide +kernel,rfl,by decide +kernel,by decide +kernel⟩
def Bs(F:gE K "circle_room" "Net.circle_room" ze f fd)(T:jz K mg C)(FR:gE K "room" "Net.room" tN fR vX)(bR:Binds K vX ["self","place","way"] [])(mR:cU K C "room" fR):ay P w K mg base bu 2 f fd ["self","moves"] (zB C):=by
 have GR:ay P w K mg base bu 1 fR vX ["self","place","way"] (yY C):=zL FR T;refine iU F m9 λvs H Q E h=>?_;obtain⟨r,am,lo,hi,l,mv,rfl,N,Mv,hmv,hlen,k⟩:=h;refine⟨rfl,λ_ _ _ _ hr=>?_⟩;have hu:=AO hr;refine⟨_,aj (jZ (i:=2) (own:=[("place",3),("way",4)]) (g:=Wu K 2 (JH (gg 3) (JH (gg 4) Wv))) rfl m9.nd rfl rfl (m6 rfl rfl rfl rfl) (c9 (pv 1)) (dq (by rfl)) (λ_ _ _ _ _=>qz (n:=2) rfl (eP (bb (i:=3) m9.nd rfl (Or.inl rfl) (Or.inr rfl)) (eP (bb (i:=4) m9.nd rfl (Or.inl rfl) (Or.inr rfl)) m_))) (λ_ _ _ _ _=>gi) (λ_ _ _ _ _=>aV (pv 0) T.cl mR GR hr bR .nil aR (ag (pv 3) (ag (pv 4) ao)))) (aq (aH (OX rfl rfl T.min (jU (own:=[("room",5)]) rfl m9.nd (c9 (pv 2)) (dq (by rfl)) (λ_ _ _ _ _=>bb (i:=5) m9.nd rfl (Or.inl rfl) (Or.inr rfl)) (λ_ _ _ _ _=>pH (cq (so (pv 5)))) (λ_ _ _ _ _=>pv 5)) jO))),?_⟩;obtain⟨ts,Ie,M7⟩:=Mv;refine⟨_,rfl,l,rfl,⟨_,bp.of Ie⟩,λD hD=>?_⟩;have hDl:l≠D:=aa Ie hD;let rm:Flow.iV->V:=λa=>oV (Flow.room (NN r lo hi) (fl am) a);refine kE (K:=K) (a:=l) (xs:=ts.map V.ref) (λi H'=>(∀b o,H b=some o->H' b=some o)/\H' D=some (.lst ((mv.take i).map rm))) ⟨λb o e=>by rw[ah (aa e hD)];exact e,ai⟩ (λi H' _⟨s1,_⟩=>bp.of (s1 _ _ Ie)) ?_ ?_
 .rintro i x H1 hx ⟨s1,qZ⟩;obtain⟨t,ht,rfl⟩:∃t,ts[i]?=some t/\x=V.ref t:=by rw[cC]at hx;cases e:ts[i]? with|none=>rw[e]at hx;cases hx|some z=>rw[e]at hx;exact⟨z,rfl,(bZ hx).symm⟩
  obtain⟨a,ha,Yi⟩:=nG M7 ht;have ham:a∈mv:=du ha;have N1:=N.same s1;refine⟨t,_,rfl,qb.of (s1 _ _ Yi),rfl,_,_,rfl,_,_,rfl,rfl,rfl,?_⟩;refine⟨_,rfl,r.a,r.dx,_,rfl,N1.ins,zM,_,rfl,_,rfl,r,am,lo,hi,a.1,a.2,rfl,N1,hmv a ham,?_⟩;refine⟨_,qZ,?_,?_,?_⟩;.rw[aE,gT];exact dX (cB (yG _ _) hlen) (by decide)
  .intro b o e;rw[ah (aa e hD)];exact s1 b o e
  rw[ai,take_snoc ha,cR];rfl
 rintro H1 ⟨s1,qZ⟩;have Yk:(ts.map V.ref).length=mv.length:=by rw[aE];exact Paired.length M7
 rw[Yk,iH]at qZ;refine⟨_,rfl,D,rfl,⟨_,bp.of qZ⟩,λG hG=>?_⟩;have hGD:D≠G:=aa qZ hG;refine kE (K:=K) (a:=D) (xs:=mv.map rm) (λi H'=>(∀b o,H1 b=some o->H' b=some o)/\H' G=some (.lst (((mv.take i).filterMap (Flow.room (NN r lo hi) (fl am))).map V.int))) ⟨λb o e=>by rw[ah (aa e hG)];exact e,ai⟩ (λi H' _⟨s2,_⟩=>bp.of (s2 _ _ qZ)) ?_ ?_
 .rintro i x H2 hx ⟨s2,Vp⟩;obtain⟨a,ha,rfl⟩:∃a,mv[i]?=some a/\x=rm a:=by rw[cC]at hx;cases e:mv[i]? with|none=>rw[e]at hx;cases hx|some z=>rw[e]at hx;exact⟨z,rfl,(bZ hx).symm⟩
  refine⟨rfl,_,rfl,_,rfl,eu (λc=>?_) (λc=>?_)⟩
  .obtain⟨y,hy⟩:∃y,Flow.room (NN r lo hi) (fl am) a=some y:=by cases q:Flow.room (NN r lo hi) (fl am) a with|none=>exfalso;have c:(!decide (oV (Flow.room (NN r lo hi) (fl am) a)=V.dQ))=true:=c;rw[q,bq (show oV none=V.dQ from rfl)]at c;cases c|some y=>exact⟨y,rfl⟩
   refine⟨_,rfl,_,Vp,?_,?_,?_⟩;.rw[aE];refine dX (cB (KU _ _) ?_) (by decide:1001<sizeLine);rw[gT];exact cB (yG _ _) hlen
   .intro b o e;rw[ah (aa e hG)];exact s2 b o e
   rw[ai,take_snoc ha,yP,cR];have:List.filterMap (Flow.room (NN r lo hi) (fl am)) [a]=[y]:=by rw[qt,hy];rfl
   rw[this];show some (HO.lst (_++[oV (Flow.room (NN r lo hi) (fl am) a)]))=_;rw[hy];rfl
  have hn:Flow.room (NN r lo hi) (fl am) a=none:=by cases q:Flow.room (NN r lo hi) (fl am) a with|none=>rfl|some y=>exfalso;apply c;show(!decide (oV (Flow.room (NN r lo hi) (fl am) a)=V.dQ))=true;rw[q,cM (show ¬oV (some y)=V.dQ by intro z;cases z)];rfl
  refine⟨s2,?_⟩;rw[Vp,take_snoc ha,yP];have:List.filterMap (Flow.room (NN r lo hi) (fl am)) [a]=[]:=by rw[qt,hn];rfl
  rw[this,iG]
 rintro H2 ⟨s2,Vp⟩;rw[aE,iH]at Vp;have sA:aY H H2:=λb o e=>s2 b o (s1 b o e);obtain⟨k1,k2⟩:=k H2 sA;refine⟨_,G,_,rfl,rfl,bp.of Vp,λm Q8 NA=>k1 m ?_ ?_,λe=>k2 ?_⟩;.obtain⟨a,ha,e⟩:=tq.mp Q8;exact⟨a,ha,e⟩
 .intro a ha y hy;exact NA y (tq.mpr ⟨a,ha,hy⟩)
 intro a ha;cases q:Flow.room (NN r lo hi) (fl am) a with|none=>rfl|some y=>have:=tq.mpr ⟨a,ha,q⟩;rw[e]at this;cases this
end
end Wh
end
section
namespace Wh
open PySem PySem.Spec PyProof.Rows L2
open Flow(dJ r9 wC i9 gF a_)
structure gv (r:NR) (lo:List Int) (hi:List (Option Int)):Prop where
  is:∀u x,x∈gp r u->x.1<(NN r lo hi).m/\Flow.src (NN r lo hi) (x.1,x.2.1)=u/\Flow.dst (NN r lo hi) (x.1,x.2.1)=x.2.2
  all:∀a:Flow.iV,a.1<(NN r lo hi).m->(NN r lo hi).hi a.1≠some ((NN r lo hi).lo a.1)->(a.1,a.2,Flow.dst (NN r lo hi) a)∈gp r (Flow.src (NN r lo hi) a)
  kn:r.kn.length<=1000
  ends:∀a:Flow.iV,a.1<(NN r lo hi).m->Flow.dst (NN r lo hi) a<r.kn.length
def Bi(h:a_ N f)(a:Flow.iV)(ha:a.1<N.m)(x:Int)(hx:Flow.room N f a=some x):0<=x:=by
 obtain⟨e,b⟩:=a;cases b
 .have h1:=h.lo e ha;have hx:f e-N.lo e=x:=by simpa [Flow.room]using hx
  omega
 cases q:N.hi e with
 |none=>simp[Flow.room,q]at hx
 |some z=>
  have h1:=h.hi e ha z q;have hx:z-f e=x:=by simpa [Flow.room,q]using hx
  omega
def gv.good{am lo:List Int}{hi:List (Option Int)}(W:gv r lo hi)(F:a_ (NN r lo hi) (fl am)):Good r am lo hi:=by
 refine⟨⟨W.is,?_,λa ha x hx=>Bi F a ha x hx⟩,W.kn,W.ends⟩;intro a ha ho;refine W.all a ha ?_;intro e;obtain⟨i,b⟩:=a;have h1:(NN r lo hi).lo i<=fl am i:=F.lo i ha;have h2:fl am i<=(NN r lo hi).lo i:=F.hi i ha _ e;cases b;.have:=ho (fl am i-(NN r lo hi).lo i) (by simp[Flow.room]);omega
 have:=ho ((NN r lo hi).lo i-fl am i) (by show((NN r lo hi).hi i).map _=_;rw[e];rfl);omega
theorem FL:∀(L:List Flow.iV)(a:Flow.iV)(e:Nat),Flow.cf (L++[a]) e=Flow.cf L e+(if e=a.1 then Flow.sg a.2 else 0)|[],a,e=>by show(if e=a.1 then Flow.sg a.2 else 0)+0=0+_;omega|b::L,a,e=>by show(if e=b.1 then Flow.sg b.2 else 0)+Flow.cf (L++[a]) e=(if e=b.1 then Flow.sg b.2 else 0)+Flow.cf L e+_;rw[FL L a e];omega
def Ts(v:Int)(h:p<am.length)(e:Nat):fl (am.set p v) e=if e=p then v else fl am e:=by
 unfold fl;rw[eI,eI,yH];by_cases q:p=e;.subst q;rw[aw rfl,aw h,aw rfl];rfl
 rw[au q,au (λz=>q z.symm)]
def jd(h:j<n):Iz n (j:Int)=some j:=by unfold Iz;rw[aw (by omega),aw (by omega)];rfl
theorem map_set{α β:Type}(g:α->β):∀(l:List α)(i:Nat)(v:α),(l.map g).set i (g v)=(l.set i v).map g|[],_,_=>rfl|a::l,0,v=>rfl|a::l,i+1,v=>by show g a::(l.map g).set i (g v)=g a::(l.set i v).map g;rw[map_set g l i v]
def Hf(h:∀e,fl am e=Flow.push (fl ra) L k e)(ha:a.1<am.length)(e:Nat):fl (am.set a.1 (fl am a.1+Flow.sg a.2*k)) e=Flow.push (fl ra) (L++[a]) k e:=by
 rw[Ts _ ha];show _=fl ra e+k*Flow.cf (L++[a]) e;rw[FL,ki];have h1:=h e;have h1:fl am e=fl ra e+k*Flow.cf L e:=h1;by_cases q:e=a.1;.rw[aw q,aw q,<-q,h1,yo k (Flow.sg a.2)];omega
 rw[au q,au q,h1];omega
def P0(C:Addr)(vs:List V)(H:Hp)(Q:VK)(r:NR)(am lo:List Int)(hi:List (Option Int))(p:Nat)(b:Bool):Prop:=vs=[.ref r.a,.int (p:Int),.int (Flow.sg b)]/\cy C H r am lo hi/\p<r.tl.length/\gv r lo hi/\a_ (NN r lo hi) (fl am)/\∀(H':Hp)(dI:List Int),(∀x o,H x=some o->x≠r.la->H' x=some o)->cy C H' r dI lo hi->a_ (NN r lo hi) (fl dI)->((Flow.room (NN r lo hi) (fl dI) (p,b)=some 0\/¬∃L,Flow.Way (NN r lo hi) (fl dI) p (Flow.dst (NN r lo hi) (p,b)) L (Flow.src (NN r lo hi) (p,b)))->Q (.bl false) H')/\(b=true->Flow.e9 (NN r lo hi) p->Q (.bl true) H')
def pF(C:Addr):Sp:=λvs H Q _=>∃r am lo hi p b,P0 C vs H Q r am lo hi p b
section
variable {P:Program} {w:World} {K:PySem.W.Frag} {mg:Str->Option Value} {base:Heap}
def m8:aM ["self","place","way","moves","room","moved","moved_way"] ["self","place","way"] (ax DL):=⟨rfl,rfl,rfl,by decide +kernel,rfl,by decide +kernel,by decide +kernel⟩
def Mm(F:gE K "drive" "Net.drive" DL f fd)(T:jz K mg C)(FR:gE K "room" "Net.room" tN fR vX)(bR:Binds K vX ["self","place","way"] [])(mR:cU K C "room" fR)(FS:gE K "reach" "Net.reach" uF fS p_)(bS:Binds K p_ ["self","start","goal","barred"] [])(mS:cU K C "reach" fS)(FC:gE K "circle" "Net.circle" EM fC IJ)(bC:Binds K IJ ["self","place","way"] [])(mC:cU K C "circle" fC)(FM:gE K "circle_room" "Net.circle_room" ze fM Ip)(bM:Binds K Ip ["self","moves"] [])(mM:cU K C "circle_room" fM):ay P w K mg base bu 4 f fd ["self","place","way"] (pF C):=by
 have GC:ay P w K mg base bu 3 fC IJ ["self","place","way"] (yZ C):=Fh FC T FR bR mR FS bS mS;have GM:ay P w K mg base bu 2 fM Ip ["self","moves"] (zB C):=Bs FM T FR bR mR;refine iU F m8 λvs H Q E h=>?_;obtain⟨r,ra,lo,hi,p,b,rfl,N0,hp,Wi,F0,k⟩:=h;refine⟨rfl,λ_ _ _ _ hr=>?_⟩;have U9:eY 2 _:=hr.mono (by decide);refine⟨_,aj (bh (i:=3) m8.nd rfl (Or.inl rfl) (aV (pv 0) T.cl mC GC hr bC .nil aR (ag (pv 1) (ag (pv 2) ao)))) (aj (mi PassesOwn.never (cq (so (pv 3))) (aj (bh (i:=4) m8.nd rfl (Or.inl rfl) (aV (pv 0) T.cl mM GM U9 bM .nil aR (ag (pv 3) ao))) (aj (cG (cq (oO (pv 4))) (aq (aH ou)) ba) (aj (gd PassesOwn.never rfl (c9 (pv 3)) (qz (n:=2) rfl (eP (bb (i:=5) m8.nd rfl (Or.inl rfl)) (eP (bb (i:=6) m8.nd rfl (Or.inl rfl)) m_))) (aq (kj (dv gR (bF aW (az (pv 0) rfl) (pv 5) (λ_ _=>rfl)) (dv qB (pv 6) (pv 4))) (kl (az (pv 0) rfl) (pv 5) set_list)))) (aq (bh (i:=3) m8.nd rfl (Or.inl rfl) (aV (pv 0) T.cl mC GC hr bC .nil aR (ag (pv 1) (ag (pv 2) ao))))))))) (aq (aH ou))),?_⟩;generalize hM:NN r lo hi=M at Wi F0 k;have j_:p<M.m:=by rw[<-hM];exact hp
 let B:Int:=(M.m:Int)*(2*(r.kn.length+1):Nat);let Ay:List Int->Int:=λam=>Flow.Ay M (fl am) p (Flow.dst M (p,b)) r.kn.length;have hB:∀am,Ay am<=B:=λam=>Flow.LG;let Kept:Hp->Prop:=λH1=>∀x o,H x=some o->x≠r.la->H1 x=some o;let VG:V->Option V->Option V->Option V->L2.St:=λm v4 v5 v6=>[some (.ref r.a),some (.int (p:Int)),some (.int (Flow.sg b)),some m,v4,v5,v6];let Wd:Nat->L2.St->Hp->Prop:=λm σ H1=>∃(am:List Int)(mo:V)(v4 v5 v6:Option V),σ=VG mo v4 v5 v6/\Kept H1/\cy C H1 r am lo hi/\a_ M (fl am)/\((mo=.dQ/\m=0/\(Flow.room M (fl am) (p,b)=some 0\/¬∃L,Flow.Way M (fl am) p (Flow.dst M (p,b)) L (Flow.src M (p,b))))\/∃l L,mo=.ref l/\m=1+(B-Ay am).toNat/\l≠r.la/\jI H1 l ((p,b)::L)/\Flow.room M (fl am) (p,b)≠some 0/\Flow.Way M (fl am) p (Flow.dst M (p,b)) L (Flow.src M (p,b))/\Flow.dist M (fl am) p (Flow.dst M (p,b)) r.kn.length (Flow.src M (p,b))=L.length);have iE:∀(am:List Int)(H1:Hp)(mo:V)(v4 v5 v6:Option V)(X:L2.St->Hp->Prop),Kept H1->cy C H1 r am lo hi->a_ M (fl am)->(∀m H2 ZG,Wd m (VG ZG v4 v5 v6) H2->(m=0\/(Flow.room M (fl am) (p,b)≠some 0/\m=1+(B-Ay am).toNat))->X (VG ZG v4 v5 v6) H2)->yZ C [.ref r.a,.int (p:Int),.int (Flow.sg b)] H1 (λx H2=>X (VG x v4 v5 v6) H2) E0:=by
  intro am H1 mo v4 v5 v6 X kp N1 F1 hX;have G1:=gv.good (am:=am) Wi (by rw[hM];exact F1);refine⟨r,am,lo,hi,p,b,rfl,N1,hp,G1,?_,?_⟩;.rw[hM];intro H2 s2 p9;exact hX 0 H2 .dQ ⟨am,.dQ,v4,v5,v6,rfl,λx o e n=>s2 x o (kp x o e n),N1.same s2,F1,.inl ⟨rfl,rfl,p9⟩⟩ (.inl rfl)
  rw[hM];intro H2 l L s2 hl mv c0 hw rg;have X8:l≠r.la:=by intro e;rw[e,N1.hA]at hl;cases hl
  exact hX _ H2 (.ref l) ⟨am,.ref l,v4,v5,v6,rfl,λx o e n=>s2 x o (kp x o e n),N1.same s2,F1,.inr ⟨l,L,rfl,rfl,X8,mv,c0,hw,rg⟩⟩ (.inr ⟨c0,rfl⟩)
 refine⟨_,rfl,r.a,r.dx,_,rfl,N0.ins,xn,_,rfl,_,rfl,?_⟩;refine iE ra H .dQ none none none _ (λx o e _=>e) N0 F0 ?_;intro m0 H0 mo0 w0 _;refine⟨Wd,⟨m0,w0⟩,?_⟩;rintro m σ H1 ⟨am,mo,v4,v5,v6,rfl,kp,N1,F1,cs⟩;have G1:=gv.good (am:=am) Wi (by rw[hM];exact F1);rcases cs with⟨rfl,rfl,p9⟩|⟨l,L,rfl,rfl,X8,Mv,c0,hw,rg⟩;.refine⟨_,rfl,_,rfl,?_⟩;refine Xi rfl ?_;exact((k H1 am kp N1 F1).1 p9)
 refine⟨_,rfl,_,rfl,eu (λ_=>?_) (λc=>absurd rfl c)⟩;have once:=Flow.kJ hw rg;have hh:=Flow.m5 hw;have ij:∀a,a∈(p,b)::L->a.1<M.m:=λa ha=>by
  rcases bE.mp ha with rfl|ha;.exact j_
  exact(hh a ha).1
 have Od:∀a,a∈(p,b)::L->a.1<r.tl.length:=λa ha=>by have:=ij a ha;rw[<-hM]at this;exact this
 have aby:L.length<=r.kn.length:=by rw[<-rg];exact Flow.pJ _
 have hkn:=Wi.kn;have aar:∀a,a∈(p,b)::L->∀x,Flow.room M (fl am) a=some x->0<x:=λa ha x hx=>by
  rcases bE.mp ha with rfl|ha;.have:=Bi F1 (p,b) j_ x hx;have:x≠0:=λe=>c0 (by rw[hx,e]);omega
  exact(hh a ha).2.2 x hx
 refine⟨fun σ' H'=>∃m',m'<1+(B-Ay am).toNat/\Wd m' σ' H',fun σ' H' h=>h,?_⟩;refine⟨_,rfl,r.a,r.dx,_,rfl,N1.ins,Mw,_,rfl,r,am,lo,hi,l,(p,b)::L,rfl,N1,Mv,Od,(by rw[dr];omega),?_⟩;rw[hM];intro H2 s2;have N2:=N1.same s2;have lD:Kept H2:=λx o e n=>s2 x o (kp x o e n);refine⟨?_,?_⟩
 .intro kk hk1 Vf;obtain⟨ka,hka,Ve⟩:=hk1;have AE:0<kk:=aar ka hka kk Ve;refine⟨_,rfl,_,rfl,?_⟩;rw[cM (show ¬V.int kk=V.dQ by intro z;cases z)];obtain⟨ts,Ie,M7⟩:=Mv.same s2;have Uy:Flow.Fits M (fl am) ((p,b)::L) kk:=λa ha x hx=>Vf a ha x hx;have F2:a_ M (Flow.push (fl am) ((p,b)::L) kk):=Flow.qO (a:=(p,b)) F1 j_ hw once (by omega) Uy;refine⟨_,rfl,l,rfl,⟨_,bp.of Ie⟩,fJ (K:=K) (a:=l) (xs:=ts.map V.ref) (λi σ' H'=>∃(dI:List Int)(v5 v6:Option V),σ'=VG (.ref l) (some (.int kk)) v5 v6/\(∀x o,H2 x=some o->x≠r.la->H' x=some o)/\cy C H' r dI lo hi/\∀e,fl dI e=Flow.push (fl am) (((p,b)::L).take i) kk e) ⟨am,v5,v6,rfl,λx o e _=>e,N2,λe=>by show fl am e=fl am e+kk*0;simp⟩ ?_ ?_ ?_⟩;.rintro i σ' H' _ ⟨_,_,_,_,k3,_,_⟩;exact bp.of (k3 _ _ Ie X8)
  .rintro i x σ' H' hx ⟨dI,u5,u6,rfl,k3,N3,Vj⟩;obtain⟨t,ht,rfl⟩:∃t,ts[i]?=some t/\x=V.ref t:=by rw[cC]at hx;cases e:ts[i]? with|none=>rw[e]at hx;cases hx|some z=>rw[e]at hx;exact⟨z,rfl,(bZ hx).symm⟩
   obtain⟨a,ha,Yi⟩:=nG M7 ht;have ham:a∈(p,b)::L:=du ha;have aaK:=k3 _ _ Yi (aI Yi N2.hA (by intro z;cases z));have hal:a.1<dI.length:=by rw[N3.kf];exact Od a ham
   refine⟨t,_,rfl,qb.of aaK,rfl,_,_,rfl,_,_,rfl,rfl,?_⟩;refine⟨_,rfl,r.a,C,r.dx,_,_,rfl,N3.ins,T.cl,T.nA,cP,_,rfl,r.la,_,_,_,rfl,rfl,bp.of N3.hA,cj (eO hal),_,rfl,_,rfl,_,_,rfl,rfl,.inl ?_,_,_,rfl,rfl,?_⟩;.show -(2^64)<Flow.sg a.2/\Flow.sg a.2<2^64;cases a.2<;>decide
   refine⟨_,rfl,r.a,C,r.dx,_,_,rfl,N3.ins,T.cl,T.nA,cP,_,rfl,r.la,_,_,a.1,rfl,rfl,N3.hA,(by rw[aE];exact jd hal),?_⟩;refine⟨dI.set a.1 (fl dI a.1+Flow.sg a.2*kk),_,_,rfl,?_,?_,?_⟩;.intro x o e n;rw[ah n];exact k3 x o e n
   .refine N3.move (λx o e n _ _=>by rw[ah n];exact e) ?_ (by rw[ah N3.Nu.symm];exact N3.hL) (by rw[ah N3.Nt.symm];exact N3.hH) (by rw[jk]) rfl rfl;rw[ai,<-map_set];rfl
   intro e;rw[take_snoc ha];exact Hf Vj hal e
  rintro σ' H' ⟨dI,u5,u6,rfl,k3,N3,Vj⟩;have Yk:(ts.map V.ref).length=((p,b)::L).length:=by rw[aE];exact Paired.length M7
  rw[Yk,iH]at Vj;have efl:fl dI=Flow.push (fl am) ((p,b)::L) kk:=funext Vj;have F3:a_ M (fl dI):=by rw[efl];exact F2
  refine⟨_,rfl,r.a,r.dx,_,rfl,N3.ins,xn,_,rfl,_,rfl,?_⟩;refine iE dI H' .dQ (some (.int kk)) u5 u6 _ (λx o e n=>k3 x o (lD x o e n) n) N3 F3 ?_;intro m2 H4 ZG w2 NA;refine⟨m2,?_,w2⟩;rcases NA with rfl|⟨nz,rfl⟩;.omega
  have full:∃c,c∈L/\Flow.room M (fl am) c=some kk:=by
   rcases bE.mp hka with rfl|h
   .exfalso;apply nz;have e1:fl dI p=fl am p+kk*Flow.sg b:=by rw[efl];show fl am p+kk*((if p=p then Flow.sg b else 0)+Flow.cf L p)=_;rw[aw rfl,Flow.kF (λhm=>by obtain⟨c,hc,e⟩:=br.mp hm;exact(hh c hc).2.1 e)];simp
    cases b
    .have h1:fl am p-M.lo p=kk:=by simpa [Flow.room]using Ve
     show some (fl dI p-M.lo p)=some 0;rw[e1];simp[Flow.sg];omega
    cases q:M.hi p with
    |none=>simp[Flow.room,q]at Ve
    |some z=>
     have h1:z-fl am p=kk:=by simpa [Flow.room,q]using Ve
     show(M.hi p).map (λh=>h-fl dI p)=some 0;rw[q,e1];show some (z-(fl am p+kk*1))=some 0;congr 1;omega
   exact⟨ka,h,Ve⟩
  have grow:=Flow.xT (a:=(p,b)) (k:=kk) (C:=r.kn.length) hw rg AE full;rw[<-efl]at grow;have grow:Ay am+2<=Ay dI:=grow;have:=hB dI;omega
 intro ES;refine⟨_,rfl,_,rfl,?_⟩;refine eV ?_;have hb:b=true:=by cases b with|true=>rfl|false=>have:=ES (p,false) cF;simp[Flow.room]at this
 subst hb;exact(k H2 am lD N2 F1).2 rfl (Flow.kK F1 j_ hw once ES)
end
end Wh
end
section
namespace Wh
open PySem PySem.Spec PyProof.Rows L2
open Flow(dJ r9 wC i9 gF a_ dN et)
def HL(F:a_ N f)(hp:p<N.m)(h:Flow.room N f (p,false)=some 0\/¬∃L,Flow.Way N f p (Flow.dst N (p,false)) L (Flow.src N (p,false)))(hg:Flow.AI N g)(gw:Flow.Within N p g)(hl:N.lo p<=g p):f p<=g p:=by
 rcases h with h|h
 .have h:f p-N.lo p=0:=by simpa [Flow.room]using h
  omega
 have U:=Flow.qv (a:=(p,false)) hp F.iE (F.within p) hg gw h;simp[Flow.sg]at U;omega
def HM(F:a_ N f)(hp:p<N.m)(h:Flow.room N f (p,true)=some 0\/¬∃L,Flow.Way N f p (Flow.dst N (p,true)) L (Flow.src N (p,true)))(hg:Flow.AI N g)(gw:Flow.Within N p g)(hh:Flow.Under (g p) (N.hi p)):g p<=f p:=by
 rcases h with h|h
 .cases q:N.hi p with
  |none=>simp[Flow.room,q]at h
  |some z=>
   have h:z-f p=0:=by simpa [Flow.room,q]using h
   have:=hh z q;omega
 have U:=Flow.qv (a:=(p,true)) hp F.iE (F.within p) hg gw h;simp[Flow.sg]at U;omega
def Lq(F:a_ N f)(hp:p<N.m)(h:Flow.room N f (p,false)=some 0\/¬∃L,Flow.Way N f p (Flow.dst N (p,false)) L (Flow.src N (p,false))):dN N p (f p):=⟨⟨f,F,rfl⟩,λg hg=>HL F hp h hg.iE (hg.within p) (hg.lo p hp)⟩
def Tp(F:a_ N f)(hp:p<N.m)(h:Flow.room N f (p,true)=some 0\/¬∃L,Flow.Way N f p (Flow.dst N (p,true)) L (Flow.src N (p,true))):et N p (f p):=⟨⟨f,F,rfl⟩,λg hg=>HM F hp h hg.iE (hg.within p) (hg.hi p hp)⟩
def dU{α:Type}{l:List α}{p:Nat}{d v:α}(h:p<l.length)(e:Nat):(l.set p v).getD e d=if e=p then v else l.getD e d:=by
 rw[eI,eI,yH];by_cases q:p=e;.subst q;rw[aw rfl,aw h,aw rfl];rfl
 rw[au q,au (λz=>q z.symm)]
def pL{lo:List Int}{hi:List (Option Int)}{p:Nat}(x:Int)(y:Option Int)(h1:p<lo.length)(h2:p<hi.length):NN r (lo.set p x) (hi.set p y)=(NN r lo hi).held p x y:=by
 unfold NN Flow.Net.held;congr 1;.funext e;exact dU h1 e
 funext e;exact dU h2 e
def XQ{lo:List Int}{hi:List (Option Int)}{p:Nat}(x:Int)(h1:p<lo.length):NN r (lo.set p x) hi=(NN r lo hi).held p x ((NN r lo hi).hi p):=by
 unfold NN Flow.Net.held;congr 1;.funext e;exact dU h1 e
 funext e;show hi.getD e none=if e=p then hi.getD p none else hi.getD e none;split;.rename_i q;rw[q]
 rfl
def XR{lo:List Int}{hi:List (Option Int)}{p:Nat}(y:Option Int)(h2:p<hi.length):NN r lo (hi.set p y)=(NN r lo hi).held p ((NN r lo hi).lo p) y:=by
 unfold NN Flow.Net.held;congr 1
 .funext e;show lo.getD e 0=if e=p then lo.getD p 0 else lo.getD e 0;split;.rename_i q;rw[q]
  rfl
 funext e;exact dU h2 e
def gv.change{lo jC:List Int}{hi gL:List (Option Int)}(W:gv r lo hi)(h:∀e,e<r.tl.length->gL.getD e none≠some (jC.getD e 0)->hi.getD e none≠some (lo.getD e 0)):gv r jC gL:=⟨W.is,λa ha hn=>W.all a ha (h a.1 ha hn),W.kn,W.ends⟩
def gv.fix{lo:List Int}{hi:List (Option Int)}{p:Nat}(W:gv r lo hi)(x:Int)(h1:p<lo.length)(h2:p<hi.length):gv r (lo.set p x) (hi.set p (some x)):=by
 refine W.change λe _ hn=>?_;rw[dU h1,dU h2]at hn;by_cases q:e=p;.rw[aw q,aw q]at hn;exact absurd rfl hn
 rw[au q,au q]at hn;exact hn
def gv.free{lo jC:List Int}{hi gL:List (Option Int)}{p:Nat}(W:gv r lo hi)(hf:hi.getD p none=none)(wz:∀e,e≠p->jC.getD e 0=lo.getD e 0)(qa:∀e,e≠p->gL.getD e none=hi.getD e none):gv r jC gL:=by
 refine W.change λe _ hn=>?_;by_cases q:e=p;.rw[q,hf];intro z;cases z
 rw[wz e q,qa e q]at hn;exact hn
def lB(r:NR)(H H':Hp):Prop:=∀x o,H x=some o->x≠r.la->x≠r.lb->x≠r.lc->H' x=some o
def MU(C:Addr)(vs:List V)(H:Hp)(Q:VK)(r:NR)(am lo:List Int)(hi:List (Option Int))(p:Nat):Prop:=vs=[.ref r.a,.int (p:Int)]/\cy C H r am lo hi/\p<r.tl.length/\Q (.bl (decide (oV (hi.getD p none)=V.dQ))) H
def pO(C:Addr):Sp:=λvs H Q _=>∃r am lo hi p,MU C vs H Q r am lo hi p
def MS(C:Addr)(vs:List V)(H:Hp)(Q:VK)(r:NR)(am lo:List Int)(hi:List (Option Int))(p:Nat):Prop:=vs=[.ref r.a,.int (p:Int)]/\cy C H r am lo hi/\p<r.tl.length/\gv r lo hi/\a_ (NN r lo hi) (fl am)/\∀(H':Hp)(dI:List Int),lB r H H'->cy C H' r dI (lo.set p (fl dI p)) (hi.set p (some (fl dI p)))->gv r (lo.set p (fl dI p)) (hi.set p (some (fl dI p)))->a_ (NN r lo hi) (fl dI)->dN (NN r lo hi) p (fl dI p)->Q .dQ H'
def uO(C:Addr):Sp:=λvs H Q _=>∃r am lo hi p,MS C vs H Q r am lo hi p
section
variable {P:Program} {w:World} {K:PySem.W.Frag} {mg:Str->Option Value} {base:Heap}
def SM:aM ["self","place"] ["self","place"] (ax JE):=⟨rfl,rfl,rfl,by decide +kernel,rfl,by decide +kernel,by decide +kernel⟩
def Hn(F:gE K "is_free" "Net.is_free" JE f fd)(T:jz K mg C):ay P w K mg base bu 1 f fd ["self","place"] (pO C):=by refine iU F SM λvs H Q E h=>?_;obtain⟨r,am,lo,hi,p,rfl,N,hp,k⟩:=h;refine⟨rfl,λ_ _ _ _ hr=>?_⟩;refine⟨_,aq (aH (oN (oO (bF aW (az (pv 0) rfl) (pv 1) (λ_ _=>rfl))))),?_⟩;exact⟨_,rfl,r.a,C,r.dx,_,_,rfl,N.ins,T.cl,T.nH,j0,_,rfl,r.lc,_,_,_,rfl,rfl,bp.of N.hH,cj (Fw (by rw[N.lG];exact hp)),k⟩
def sy{la lb lc ld le lf:Addr}:(iz la lb lc ld le lf).lookup ("hold":Str)=none:=by rfl
def ie{la lb lc ld le lf:Addr}:(iz la lb lc ld le lf).lookup ("release":Str)=none:=by rfl
def Fj{la lb lc ld le lf:Addr}:(iz la lb lc ld le lf).lookup ("go_to":Str)=none:=by rfl
def Pf{la lb lc ld le lf x:Addr}:gc "amounts" (.ref x) (iz la lb lc ld le lf)=iz x lb lc ld le lf:=by rfl
def EZ(r:NR)(H H':Hp):Prop:=∀x o,H x=some o->x≠r.lb->x≠r.lc->H' x=some o
def EZ.to3(h:EZ r H H'):lB r H H':=λx o e _ n2 n3=>h x o e n2 n3
def lB.trans(h:lB r H H1)(k:lB r H1 H2):lB r H H2:=λx o e n1 n2 n3=>k x o (h x o e n1 n2 n3) n1 n2 n3
def TX(C:Addr)(vs:List V)(H:Hp)(Q:VK)(r:NR)(am lo:List Int)(hi:List (Option Int))(p:Nat)(le mo:Int):Prop:=vs=[.ref r.a,.int (p:Int),.int le,.int mo]/\cy C H r am lo hi/\p<r.tl.length/\∀(H':Hp),EZ r H H'->cy C H' r am (lo.set p le) (hi.set p (some mo))->Q .dQ H'
def oK(C:Addr):Sp:=λvs H Q _=>∃r am lo hi p le mo,TX C vs H Q r am lo hi p le mo
def XC(C:Addr)(vs:List V)(H:Hp)(Q:VK)(r:NR)(am lo:List Int)(hi:List (Option Int))(p:Nat):Prop:=vs=[.ref r.a,.int (p:Int)]/\cy C H r am lo hi/\p<r.tl.length/\∀(H':Hp),EZ r H H'->cy C H' r am (lo.set p 0) (hi.set p none)->Q .dQ H'
def AK(C:Addr):Sp:=λvs H Q _=>∃r am lo hi p,XC C vs H Q r am lo hi p
def NR.at_(r:NR)(x:Addr):NR:={r with la:=x}
def abl(C:Addr)(vs:List V)(H:Hp)(Q:VK)(r:NR)(am dI lo:List Int)(hi:List (Option Int))(l:Addr):Prop:=vs=[.ref r.a,.ref l]/\cy C H r am lo hi/\H l=some (.lst (dI.map V.int))/\dI.length=am.length/\am.length<=1000/\∀(H':Hp)(x:Addr),(∀y o,H y=some o->y≠r.a->H' y=some o)->H x=none->cy C H' (r.at_ x) dI lo hi->Q .dQ H'
def NP(C:Addr):Sp:=λvs H Q _=>∃r am dI lo hi l,abl C vs H Q r am dI lo hi l
def SJ:aM ["self","place","least","most"] ["self","place","least","most"] (ax JD):=⟨rfl,rfl,rfl,by decide +kernel,rfl,by decide +kernel,by decide +kernel⟩
def O_(F:gE K "hold" "Net.hold" JD f fd)(T:jz K mg C):ay P w K mg base bu 1 f fd ["self","place","least","most"] (oK C):=by
 refine iU F SJ λvs H Q E h=>?_;obtain⟨r,am,lo,hi,p,le,mo,rfl,N,hp,k⟩:=h;refine⟨rfl,λ_ _ _ _ hr=>?_⟩;refine⟨_,aj (kj (pv 2) (kl (az (pv 0) rfl) (pv 1) set_list)) (aq (kj (pv 3) (kl (az (pv 0) rfl) (pv 1) set_list))),?_⟩;have hL:p<lo.length:=by rw[N.oa];exact hp
 have Im:p<hi.length:=by rw[N.lG];exact hp
 refine⟨_,rfl,_,rfl,r.a,C,r.dx,_,_,rfl,N.ins,T.cl,T.nL,su,_,rfl,r.lb,_,_,p,rfl,rfl,N.hL,(by rw[aE];exact jd hL),?_⟩;have N2:cy C (upd H r.lb (.lst ((lo.map V.int).set p (V.int le)))) r am (lo.set p le) hi:=by refine N.move (λx o e n1 n2 n3=>by rw[ah n2];exact e) (by rw[ah N.Nu];exact N.hA) (by rw[ai,map_set]) (by rw[ah N.Ic.symm];exact N.hH) rfl (by rw[jk]) rfl
 refine⟨_,rfl,_,rfl,r.a,C,r.dx,_,_,rfl,N2.ins,T.cl,T.nH,j0,_,rfl,r.lc,_,_,p,rfl,rfl,N2.hH,(by rw[aE];exact jd Im),?_⟩;have eo:V.int mo=oV (some mo):=rfl;refine k _ (λx o e n2 n3=>by rw[ah n3,ah n2];exact e) ?_;refine N2.move (λx o e n1 n2 n3=>by rw[ah n3];exact e) (by rw[ah N2.Nt];exact N2.hA) (by rw[ah N2.Ic];exact N2.hL) ?_ rfl rfl (by rw[jk]);rw[ai,eo,map_set]
def WX:aM ["self","place"] ["self","place"] (ax RI):=⟨rfl,rfl,rfl,by decide +kernel,rfl,by decide +kernel,by decide +kernel⟩
def S0(F:gE K "release" "Net.release" RI f fd)(T:jz K mg C):ay P w K mg base bu 1 f fd ["self","place"] (AK C):=by
 refine iU F WX λvs H Q E h=>?_;obtain⟨r,am,lo,hi,p,rfl,N,hp,k⟩:=h;refine⟨rfl,λ_ _ _ _ hr=>?_⟩;refine⟨_,aj (kj aU (kl (az (pv 0) rfl) (pv 1) set_list)) (aq (kj jO (kl (az (pv 0) rfl) (pv 1) set_list))),?_⟩;have hL:p<lo.length:=by rw[N.oa];exact hp
 have Im:p<hi.length:=by rw[N.lG];exact hp
 refine⟨_,rfl,r.a,C,r.dx,_,_,rfl,N.ins,T.cl,T.nL,su,_,rfl,r.lb,_,_,p,rfl,rfl,N.hL,(by rw[aE];exact jd hL),?_⟩;have N2:cy C (upd H r.lb (.lst ((lo.map V.int).set p (V.int 0)))) r am (lo.set p 0) hi:=by refine N.move (λx o e n1 n2 n3=>by rw[ah n2];exact e) (by rw[ah N.Nu];exact N.hA) (by rw[ai,map_set]) (by rw[ah N.Ic.symm];exact N.hH) rfl (by rw[jk]) rfl
 refine⟨_,rfl,r.a,C,r.dx,_,_,rfl,N2.ins,T.cl,T.nH,j0,_,rfl,r.lc,_,_,p,rfl,rfl,N2.hH,(by rw[aE];exact jd Im),?_⟩;refine k _ (λx o e n2 n3=>by rw[ah n3,ah n2];exact e) ?_;refine N2.move (λx o e n1 n2 n3=>by rw[ah n3];exact e) (by rw[ah N2.Nt];exact N2.hA) (by rw[ah N2.Ic];exact N2.hL) ?_ rfl rfl (by rw[jk]);rw[ai,<-map_set];rfl
def aam:aM ["self","amounts"] ["self","amounts"] (ax ZA):=⟨rfl,rfl,rfl,by decide +kernel,rfl,by decide +kernel,by decide +kernel⟩
def Xg(F:gE K "go_to" "Net.go_to" ZA f fd)(T:jz K mg C):ay P w K mg base bu 1 f fd ["self","amounts"] (NP C):=by
 refine iU F aam λvs H Q E h=>?_;obtain⟨r,am,dI,lo,hi,l,rfl,N,hl,el,hm,k⟩:=h;refine⟨rfl,λ_ _ _ _ hr=>?_⟩;refine⟨_,aq (eB (pv 0) (fZ fv (by rfl) T.list rb (ag (pv 1) ao)) rfl),?_⟩;refine⟨_,rfl,l,_,rfl,.inl (bp.of hl),λx hx=>?_⟩;have nx:r.a≠x:=aa N.ins hx;refine⟨_,rfl,r.a,C,r.dx,_,rfl,(by rw[ah nx];exact N.ins),T.cl,T.nA,(by show 6<1000;decide),?_⟩;rw[Pf];have keep:∀y o,H y=some o->y≠r.a->(upd (upd H x (.lst (dI.map V.int))) r.a (.ins C r.dx (iz x r.lb r.lc r.ld r.le r.lf))) y=some o:=λy o e n=>by rw[ah n,ah (aa e hx)];exact e
 have nl:∀{y:Addr}{xs:List V},H y=some (.lst xs)->y≠r.a:=λe=>aI e N.ins (by intro z;cases z);have nt:∀{y:Addr}{xs:List V},H y=some (.tup xs)->y≠r.a:=λe=>aI e N.ins (by intro z;cases z);have db:=N.nd r.lb (.inr (.inl rfl));have dc:=N.nd r.lc (.inr (.inr rfl));refine k _ x keep hx ⟨ai,by show upd _ _ _ x=_;rw[ah nx.symm,ai],keep _ _ N.hL (nl N.hL),keep _ _ N.hH (nl N.hH),keep _ _ N.hT (nl N.hT),keep _ _ N.hD (nl N.hD),keep _ _ N.hS (nl N.hS),?_,(aa N.hL hx).symm,(aa N.hH hx).symm,N.Ic,?_,el.trans N.kf,N.oa,N.lG,N.AB⟩;.intro q hq;obtain⟨h1,h2⟩:=N.hK q hq;exact⟨keep _ _ h1 (nl h1),λz hz=>keep _ _ (h2 z hz) (nt (h2 z hz))⟩
 intro y hy;rcases hy with hy|hy;.have hy:y=x:=hy;subst hy;exact⟨(aa N.hT hx).symm,(aa N.hD hx).symm,(aa N.hS hx).symm,λq hq=>(aa (N.hK q hq).1 hx).symm⟩
 exact N.nd y (.inr hy)
def LW:aM ["self","place"] ["self","place"] (ax zN):=⟨rfl,rfl,rfl,by decide +kernel,rfl,by decide +kernel,by decide +kernel⟩
def Hm{f fD fH C:Addr}{fd Uz wB:FuncData}(F:gE K "settle_lowest" "Net.settle_lowest" zN f fd)(T:jz K mg C)(GD:ay P w K mg base bu 4 fD Uz ["self","place","way"] (pF C))(bD:Binds K Uz ["self","place","way"] [])(mD:cU K C "drive" fD)(GH:ay P w K mg base bu 1 fH wB ["self","place","least","most"] (oK C))(bH:Binds K wB ["self","place","least","most"] [])(mH:cU K C "hold" fH):ay P w K mg base bu 5 f fd ["self","place"] (uO C):=by
 obtain⟨tD,hD⟩:=T.dn;refine iU F LW λvs H Q E h=>?_;obtain⟨r,am,lo,hi,p,rfl,N,hp,Wi,F0,k⟩:=h;refine⟨rfl,λ_ _ _ _ hr=>?_⟩;refine⟨_,aj (cA (aV (pv 0) T.cl mD GD hr bD .nil aR (ag (pv 1) (ag (bj (v:=.int (-1)) rfl hD ⟨_,rfl⟩) ao)))) (aq (cA (aV (pv 0) T.cl mH GH (hr.mono (by decide)) bH .nil aR (ag (pv 1) (ag (bF aW (az (pv 0) rfl) (pv 1) (λ_ _=>rfl)) (ag (bF aW (az (pv 0) rfl) (pv 1) (λ_ _=>rfl)) ao)))))),?_⟩;refine⟨_,rfl,r.a,r.dx,_,rfl,N.ins,mj,_,rfl,r,am,lo,hi,p,false,rfl,N,hp,Wi,F0,?_⟩;intro H1 lF kp N1 F1;refine⟨λp9=>?_,λe=>by cases e⟩;have hA:p<lF.length:=by rw[N1.kf];exact hp
 have hL:p<lo.length:=by rw[N1.oa];exact hp
 have Im:p<hi.length:=by rw[N1.lG];exact hp
 refine⟨_,rfl,r.a,r.dx,_,rfl,N1.ins,sy,_,rfl,_,rfl,r.a,C,r.dx,_,_,rfl,N1.ins,T.cl,T.nA,cP,_,rfl,r.la,_,_,_,rfl,rfl,bp.of N1.hA,cj (eO hA),_,rfl,r.a,C,r.dx,_,_,rfl,N1.ins,T.cl,T.nA,cP,_,rfl,r.la,_,_,_,rfl,rfl,bp.of N1.hA,cj (eO hA),r,lF,lo,hi,p,fl lF p,fl lF p,rfl,N1,hp,?_⟩;intro H2 lD N2;refine k _ lF ?_ N2 (Wi.fix _ hL Im) F1 (Lq F1 hp p9);intro x o e n1 n2 n3;exact lD x o (kp x o e n1) n2 n3
end
end Wh
end
section
namespace Wh
open PySem PySem.Spec PyProof.Rows L2
open Flow(dJ r9 wC i9 gF a_ dN et)
def HH(hp:p<N.m)(h1:N.lo p<=x)(h2:N.hi p=none)(g:Flow.Fl):a_ (N.held p x (some y)) g↔a_ N g/\x<=g p/\g p<=y:=by
 constructor
 .intro h;have a1:=h.lo p hp;have a1:(if p=p then x else N.lo p)<=g p:=a1;rw[aw rfl]at a1;have a2:=h.hi p hp y (by show(if p=p then some y else N.hi p)=some y;rw[aw rfl]);refine⟨⟨h.iE,λe he=>?_,λe he=>?_⟩,a1,a2⟩
  .by_cases q:e=p;.subst q;omega
   have:=h.lo e he;have this:(if e=p then x else N.lo e)<=g e:=this;rw[au q]at this;exact this
  by_cases q:e=p;.subst q;intro z hz;rw[h2]at hz;cases hz
  have:=h.hi e he;have this:Flow.Under (g e) (if e=p then some y else N.hi e):=this;rw[au q]at this;exact this
 rintro⟨h,h3,h4⟩;exact Flow.gG h h3 (λz hz=>by cases hz;exact h4)
def rp(h:Flow.Within N p g):Flow.Within (N.held p x y) p g:=by
 refine⟨λe he hn=>?_,λe he hn=>?_⟩;.show(if e=p then x else N.lo e)<=g e;rw[au hn];exact h.lo e he hn
 show Flow.Under (g e) (if e=p then y else N.hi e);rw[au hn];exact h.hi e he hn
def P6(C:Addr)(vs:List V)(H:Hp)(Q:VK)(r:NR)(am lo:List Int)(hi:List (Option Int))(p:Nat)(le mo:Int):Prop:=vs=[.ref r.a,.int (p:Int),.int le,.int mo]/\cy C H r am lo hi/\p<r.tl.length/\gv r lo hi/\a_ (NN r lo hi) (fl am)/\le<=mo/\(hi.getD p none=none->lo.getD p 0<=le)/\(∀z,hi.getD p none=some z->lo.getD p 0=z)/\(∀(H':Hp)(dI jC:List Int)(gL:List (Option Int)),lB r H H'->cy C H' r dI jC gL->gv r jC gL->(∀x,jC.set p x=lo.set p x)->(∀y,gL.set p y=hi.set p y)->(∀g,a_ (NN r jC gL) g↔a_ (NN r lo hi) g/\le<=g p/\g p<=mo)->a_ (NN r jC gL) (fl dI)->Q (.bl true) H')/\(∀(H':Hp)(dI jC:List Int)(gL:List (Option Int)),lB r H H'->cy C H' r dI jC gL->(∀x,jC.set p x=lo.set p x)->(∀y,gL.set p y=hi.set p y)->(¬∃g,a_ (NN r lo hi) g/\le<=g p/\g p<=mo)->Q (.bl false) H')
def pG(C:Addr):Sp:=λvs H Q _=>∃r am lo hi p le mo,P6 C vs H Q r am lo hi p le mo
section
variable {P:Program} {w:World} {K:PySem.W.Frag} {mg:Str->Option Value} {base:Heap}
def OH:aM ["self","place","least","most"] ["self","place","least","most"] (ax DM):=⟨rfl,rfl,rfl,by decide +kernel,rfl,by decide +kernel,by decide +kernel⟩
def Mo(F:gE K "bring_within" "Net.bring_within" DM f fd)(T:jz K mg C)(GD:ay P w K mg base bu 4 fD Uz ["self","place","way"] (pF C))(bD:Binds K Uz ["self","place","way"] [])(mD:cU K C "drive" fD)(GI:ay P w K mg base bu 1 fI x9 ["self","place"] (pO C))(bI:Binds K x9 ["self","place"] [])(mI:cU K C "is_free" fI)(GH:ay P w K mg base bu 1 fH wB ["self","place","least","most"] (oK C))(bH:Binds K wB ["self","place","least","most"] [])(mH:cU K C "hold" fH):ay P w K mg base bu 5 f fd ["self","place","least","most"] (pG C):=by
 obtain⟨tD,hD⟩:=T.dn;obtain⟨tU,hU⟩:=T.up;refine iU F OH λvs H Q E h=>?_;obtain⟨r,am,lo,hi,p,le,mo,rfl,N,hp,Wi,F0,Yk,Nf,hfx,k1,k2⟩:=h;refine⟨rfl,λ_ _ _ _ hr=>?_⟩;have Ao:eY 1 _:=hr.mono (by decide);refine⟨_,aj (cG (dj (aV (pv 0) T.cl mI GI Ao bI .nil aR (ag (pv 1) ao))) (aj (cG (cq (EJ (bF aW (az (pv 0) rfl) (pv 1) (λ_ _=>rfl)) (pv 2))) (aj (kj (pv 2) (kl (az (pv 0) rfl) (pv 1) set_list)) (aq (cA (aV (pv 0) T.cl mD GD hr bD .nil aR (ag (pv 1) (ag (bj (v:=.int 1) rfl hU ⟨_,rfl⟩) ao)))))) (aq (cG (cq (wI (bF aW (az (pv 0) rfl) (pv 1) (λ_ _=>rfl)) (pv 3))) (aj (kj (pv 3) (kl (az (pv 0) rfl) (pv 1) set_list)) (aq (cA (aV (pv 0) T.cl mD GD hr bD .nil aR (ag (pv 1) (ag (bj (v:=.int (-1)) rfl hD ⟨_,rfl⟩) ao)))))) ba))) (aq (cA (aV (pv 0) T.cl mH GH Ao bH .nil aR (ag (pv 1) (ag (pv 2) (ag (pv 3) ao))))))) ba) (aq (aH (uY pB pB (pv 2) (bF aW (az (pv 0) rfl) (pv 1) (λ_ _=>rfl)) (pv 3)))),?_⟩;have hA:p<am.length:=by rw[N.kf];exact hp
 have hL:p<lo.length:=by rw[N.oa];exact hp
 have Im:p<hi.length:=by rw[N.lG];exact hp
 have j_:p<(NN r lo hi).m:=hp;let D:Ends:={nx:=λ_ H'=>Q .dQ H',rt:=Q};let σ:L2.St:=[some (.ref r.a),some (.int (p:Int)),some (.int le),some (.int mo)];have ret:∀(H':Hp)(dI jC:List Int)(gL:List (Option Int)),cy C H' r dI jC gL->(le<=fl dI p/\fl dI p<=mo->Q (.bl true) H')->(¬(le<=fl dI p/\fl dI p<=mo)->Q (.bl false) H')->Rq (yX (FW λi j=>.bl (decide (i<=j))) (FW λi j=>.bl (decide (i<=j))) (cJ 2) (Ae (Gq K) (wd K (cJ 0) "amounts") (cJ 1)) (cJ 3)) D σ H':=by
  intro H' dI jC gL N' h1 h2;refine⟨_,rfl,_,rfl,r.a,C,r.dx,_,_,rfl,N'.ins,T.cl,T.nA,cP,_,rfl,r.la,_,_,_,rfl,rfl,bp.of N'.hA,cj (eO (by rw[N'.kf];exact hp)),_,_,rfl,rfl,_,rfl,eu (λc=>?_) (λc=>?_)⟩
  .have c:le<=fl dI p:=cK c;refine⟨_,rfl,_,_,rfl,rfl,?_⟩;show Q (.bl (decide (fl dI p<=mo))) H';by_cases c2:fl dI p<=mo;.rw[bq c2];exact h1 ⟨c,c2⟩
   rw[cM c2];exact h2 (λz=>c2 z.2)
  exact h2 (λz=>c (bq z.1))
 have Ry:∀(H1:Hp)(lF lo1:List Int)(Vh:List (Option Int)),lB r H H1->cy C H1 r lF lo1 Vh->lo1.set p le=lo.set p le->Vh.set p (some mo)=hi.set p (some mo)->(le<=fl lF p/\fl lF p<=mo->a_ (NN r lo hi) (fl lF))->(¬(le<=fl lF p/\fl lF p<=mo)->¬∃g,a_ (NN r lo hi) g/\le<=g p/\g p<=mo)->hi.getD p none=none->Jh (rf C "hold" (oK C) [] E0 (cJ 0) (fb (cJ 1) (fb (cJ 2) (fb (cJ 3) iW)))) {D with nx:=fun σ2 H2=>Rq (yX (FW λi j=>.bl (decide (i<=j))) (FW λi j=>.bl (decide (i<=j))) (cJ 2) (Ae (Gq K) (wd K (cJ 0) "amounts") (cJ 1)) (cJ 3)) D σ2 H2} σ H1:=by
  intro H1 lF lo1 Vh kp N1 e1 e2 xY Ob hf;refine⟨_,rfl,r.a,r.dx,_,rfl,N1.ins,sy,_,rfl,_,rfl,_,rfl,r,lF,lo1,Vh,p,le,mo,rfl,N1,hp,?_⟩;intro H3 lD N3;rw[e1,e2]at N3;have sQ:lB r H H3:=kp.trans lD.to3;have IV:∀g,a_ (NN r (lo.set p le) (hi.set p (some mo))) g↔a_ (NN r lo hi) g/\le<=g p/\g p<=mo:=λg=>by rw[pL le (some mo) hL Im];exact HH j_ (Nf hf) hf g
  refine ret _ lF _ _ N3 (λc=>?_) (λc=>k2 _ _ _ _ sQ N3 (λx=>by rw[lS]) (λx=>by rw[lS]) (Ob c));refine k1 _ lF _ _ sQ N3 ?_ (λx=>by rw[lS]) (λx=>by rw[lS]) IV ((IV _).mpr ⟨xY c,c.1,c.2⟩);refine Wi.free hf (λe he=>?_) (λe he=>?_);.rw[dU hL,au he]
  rw[dU Im,au he]
 refine⟨_,rfl,r.a,r.dx,_,rfl,N.ins,xm,_,rfl,r,am,lo,hi,p,rfl,N,hp,_,rfl,eu (λcf=>?_) (λcf=>?_)⟩
 .have hf:hi.getD p none=none:=by have cf:oV (hi.getD p none)=V.dQ:=cK cf;cases q:hi.getD p none with|none=>rfl|some z=>rw[q]at cf;cases cf
  have Yq:(NN r lo hi).hi p=none:=hf;refine⟨_,rfl,r.a,C,r.dx,_,_,rfl,N.ins,T.cl,T.nA,cP,_,rfl,r.la,_,_,_,rfl,rfl,bp.of N.hA,cj (eO hA),_,rfl,_,_,rfl,rfl,_,rfl,eu (λc1=>?_) (λc1=>?_)⟩
  .have c1:fl am p<le:=cK c1;refine⟨_,rfl,_,rfl,r.a,C,r.dx,_,_,rfl,N.ins,T.cl,T.nH,j0,_,rfl,r.lc,_,_,p,rfl,rfl,N.hH,(by rw[aE];exact jd Im),?_⟩;have N1:cy C (upd H r.lc (.lst ((hi.map oV).set p (V.int le)))) r am lo (hi.set p (some le)):=by refine N.move (λx o e n1 n2 n3=>by rw[ah n3];exact e) (by rw[ah N.Nt];exact N.hA) (by rw[ah N.Ic];exact N.hL) ?_ rfl rfl (by rw[jk]);rw[ai,<-map_set];rfl
   have eN:=XR (r:=r) (lo:=lo) (some le) Im;have F1:a_ (NN r lo (hi.set p (some le))) (fl am):=by rw[eN];exact Flow.gG F0 (F0.lo p j_) (λz hz=>by cases hz;omega)
   have W1:gv r lo (hi.set p (some le)):=Wi.free hf (λe he=>rfl) (λe he=>by rw[dU Im,au he]);refine⟨_,rfl,r.a,r.dx,_,rfl,N1.ins,mj,_,rfl,r,am,lo,hi.set p (some le),p,true,rfl,N1,hp,W1,F1,?_⟩;intro H2 gk lD N2 F2;have up:∀z,z=(NN r lo hi).held p ((NN r lo hi).lo p) (some le)->True:=λ_ _=>trivial;have top:fl gk p<=le:=by refine F2.hi p hp le ?_;rw[eN];show(if p=p then some le else _)=some le;rw[aw rfl]
   refine⟨λp9=>?_,λ_ Rc=>?_⟩
   .refine Ry H2 gk lo (hi.set p (some le)) (λx o e n1 n2 n3=>lD x o (by rw[ah n3];exact e) n1) N2 rfl (by rw[lS]) (λc=>?_) (λc=>?_) hf
    .have:fl gk p=le:=by omega
     rw[eN]at F2;refine⟨F2.iE,λe he=>?_,λe he=>?_⟩
     .have:=F2.lo e he;have this:(if e=p then(NN r lo hi).lo p else(NN r lo hi).lo e)<=fl gk e:=this;by_cases q:e=p;.rw[aw q]at this;rw[q]at this⊢;exact this
      rw[au q]at this;exact this
     by_cases q:e=p;.rw[q,Yq];intro z hz;cases hz
     have:=F2.hi e he;have this:Flow.Under (fl gk e) (if e=p then some le else(NN r lo hi).hi e):=this;rw[au q]at this;exact this
    rintro⟨g,hg,g1,g2⟩;rw[eN]at F2 p9;have lt:fl gk p<le:=by
     rcases Int.lt_or_le (fl gk p) le with h|h;.exact h
     exact absurd ⟨h,by omega⟩ c
    rcases p9 with h|h
    .have h:le-fl gk p=0:=by
      have h2:(some le).map (λh=>h-fl gk p)=some 0:=by have h3:(if p=p then some le else(NN r lo hi).hi p).map (λh=>h-fl gk p)=some 0:=h;rw[aw rfl]at h3;exact h3
      simpa using h2
     omega
    have U:=Flow.qv (N:=(NN r lo hi).held p ((NN r lo hi).lo p) (some le)) (a:=(p,true)) (f:=fl gk) (g:=g) j_ F2.iE (F2.within p) hg.iE (rp (hg.within p)) h;simp[Flow.sg]at U;omega
   exfalso;obtain⟨g,hg,h⟩:=Rc (le+1);have:=hg.hi p hp le (by rw[eN];show(if p=p then some le else _)=some le;rw[aw rfl]);omega
  have c1:¬fl am p<le:=λz=>c1 (bq z);refine⟨_,rfl,r.a,C,r.dx,_,_,rfl,N.ins,T.cl,T.nA,cP,_,rfl,r.la,_,_,_,rfl,rfl,bp.of N.hA,cj (eO hA),_,rfl,_,_,rfl,rfl,_,rfl,eu (λc2=>?_) (λc2=>?_)⟩
  .have c2:mo<fl am p:=cK c2;refine⟨_,rfl,_,rfl,r.a,C,r.dx,_,_,rfl,N.ins,T.cl,T.nL,su,_,rfl,r.lb,_,_,p,rfl,rfl,N.hL,(by rw[aE];exact jd hL),?_⟩;have N1:cy C (upd H r.lb (.lst ((lo.map V.int).set p (V.int mo)))) r am (lo.set p mo) hi:=by refine N.move (λx o e n1 n2 n3=>by rw[ah n2];exact e) (by rw[ah N.Nu];exact N.hA) (by rw[ai,map_set]) (by rw[ah N.Ic.symm];exact N.hH) rfl (by rw[jk]) rfl
   have eN:=XQ (r:=r) (hi:=hi) mo hL;have F1:a_ (NN r (lo.set p mo) hi) (fl am):=by rw[eN];exact Flow.gG F0 (by omega) (F0.hi p j_)
   have W1:gv r (lo.set p mo) hi:=Wi.free hf (λe he=>by rw[dU hL,au he]) (λe he=>rfl);refine⟨_,rfl,r.a,r.dx,_,rfl,N1.ins,mj,_,rfl,r,am,lo.set p mo,hi,p,false,rfl,N1,hp,W1,F1,?_⟩;intro H2 gk lD N2 F2;have bot:mo<=fl gk p:=by have:=F2.lo p hp;rw[eN]at this;have this:(if p=p then mo else(NN r lo hi).lo p)<=fl gk p:=this;rw[aw rfl]at this;exact this
   refine⟨λp9=>?_,λz=>by cases z⟩;refine Ry H2 gk (lo.set p mo) hi (λx o e n1 n2 n3=>lD x o (by rw[ah n2];exact e) n1) N2 (by rw[lS]) rfl (λc=>?_) (λc=>?_) hf
   .rw[eN]at F2;refine⟨F2.iE,λe he=>?_,λe he=>?_⟩
    .by_cases q:e=p;.subst q;have:=Nf hf;show lo.getD e 0<=fl gk e;omega
     have:=F2.lo e he;have this:(if e=p then mo else(NN r lo hi).lo e)<=fl gk e:=this;rw[au q]at this;exact this
    have:=F2.hi e he;have this:Flow.Under (fl gk e) (if e=p then(NN r lo hi).hi p else(NN r lo hi).hi e):=this;by_cases q:e=p;.rw[q,Yq];intro z hz;cases hz
    rw[au q]at this;exact this
   rintro⟨g,hg,g1,g2⟩;rw[eN]at F2 p9;have lt:mo<fl gk p:=by
    rcases Int.lt_or_le mo (fl gk p)with h|h;.exact h
    exact absurd ⟨by omega,h⟩ c
   rcases p9 with h|h
   .have h:fl gk p-mo=0:=by have h3:some (fl gk p-(if p=p then mo else(NN r lo hi).lo p))=some 0:=h;rw[aw rfl]at h3;simpa using h3
    omega
   have U:=Flow.qv (N:=(NN r lo hi).held p mo ((NN r lo hi).hi p)) (a:=(p,false)) (f:=fl gk) (g:=g) j_ F2.iE (F2.within p) hg.iE (rp (hg.within p)) h;simp[Flow.sg]at U;omega
  have c2:¬mo<fl am p:=λz=>c2 (bq z);exact Ry H am lo hi (λx o e _ _ _=>e) N rfl rfl (λ_=>F0) (λc=>absurd ⟨by omega,by omega⟩ c) hf
 obtain⟨z,hz⟩:∃z,hi.getD p none=some z:=by cases q:hi.getD p none with|none=>exact absurd (bq (by rw[q];rfl)) cf|some z=>exact⟨z,rfl⟩
 have hlz:=hfx z hz;have only:∀g,a_ (NN r lo hi) g->g p=z:=λg hg=>by have h1:=hg.lo p j_;have h2:=hg.hi p j_ z hz;have h1:lo.getD p 0<=g p:=h1;omega
 have own:=only _ F0;refine ret H am lo hi N (λc=>k1 H am lo hi (λx o e _ _ _=>e) N Wi (λ_=>rfl) (λ_=>rfl) (λg=>⟨λhg=>⟨hg,by rw[only g hg,<-own];exact c.1,by rw[only g hg,<-own];exact c.2⟩,λhg=>hg.1⟩) F0) (λc=>k2 H am lo hi (λx o e _ _ _=>e) N (λ_=>rfl) (λ_=>rfl) ?_);rintro⟨g,hg,g1,g2⟩;rw[only g hg,<-own]at g1 g2;exact c ⟨g1,g2⟩
end
end Wh
end
section
namespace Wh
open PySem PySem.Spec PyProof.Rows L2
open Flow(dJ r9 wC i9 gF a_ dN et)
def vV(R C p:Nat):Nat:=if (decide (p/(C+1)=R) !=decide (p%(C+1)=C))=true then R+1+p%(C+1)else p/(C+1)
def rZ(R C p:Nat):Nat:=if (decide (p/(C+1)=R) !=decide (p%(C+1)=C))=true then p/(C+1)else R+1+p%(C+1)
def iT(R C n:Nat):List Nat:=(List.range n).map (vV R C)
def heads(R C n:Nat):List Nat:=(List.range n).map (rZ R C)
def XI(CN:Addr)(vs:List V)(H:Hp)(Q:VK)(a dx ld le:Addr)(fs:List (Str×V))(R C:Nat):Prop:=vs=[.ref a,.int (R:Int),.int (C:Int)]/\H a=some (.ins CN dx fs)/\fs.lookup ("tails":Str)=some (.ref ld)/\fs.lookup ("heads":Str)=some (.ref le)/\ld≠le/\H ld=some (.lst [])/\H le=some (.lst [])/\R<=16/\C<=16/\∀H':Hp,(∀x o,H x=some o->x≠ld->x≠le->H' x=some o)->H' ld=some (.lst ((iT R C ((R+1)*(C+1))).map nV))->H' le=some (.lst ((heads R C ((R+1)*(C+1))).map nV))->Q .dQ H'
def Jm(CN:Addr):Sp:=λvs H Q _=>∃a dx ld le fs R C,XI CN vs H Q a dx ld le fs R C
def Lx(hj:j<=C):(i*(C+1)+j)/(C+1)=i:=by rw[ik,uf (by omega),uj (by omega)];rfl
def zf(hj:j<=C):(i*(C+1)+j)%(C+1)=j:=by rw[ik,ug,uk (by omega)]
section
variable {P:Program} {w:World} {K:PySem.W.Frag} {mg:Str->Option Value} {base:Heap}
def AM:aM ["self","rows","columns","row","column","column_knot","leads_back"] ["self","rows","columns"] (ax RJ):=⟨rfl,rfl,rfl,by decide +kernel,rfl,by decide +kernel,by decide +kernel⟩
def S6(F:gE K "lay_pipes" "Net.lay_pipes" RJ f fd)(T:jz K mg CN):ay P w K mg base bu 1 f fd ["self","rows","columns"] (Jm CN):=by
 refine iU F AM λvs H Q E h=>?_;obtain⟨a,dx,ld,le,fs,R,C,rfl,RY,fT,fH,nle,h1,h2,hR,hC,k⟩:=h;refine⟨rfl,λ_ _ _ _ hr=>?_⟩;refine⟨_,aq (gd PassesOwn.never rfl (iu rfl T.range (ag (dv gR (pv 1) aU) ao)) (bb (i:=3) AM.nd rfl (Or.inl rfl)) (aq (gd PassesOwn.never rfl (iu rfl T.range (ag (dv gR (pv 2) aU) ao)) (bb (i:=4) AM.nd rfl (Or.inl rfl)) (aj (bh (i:=5) AM.nd rfl (Or.inl rfl) (dv gR (dv gR (pv 1) aU) (pv 4))) (aj (bh (i:=6) AM.nd rfl (Or.inl rfl) (zK QA (oN (gy (pv 3) (pv 1))) (oN (gy (pv 4) (pv 2))) (DK _))) (aj (cA (i7 i6 lL lM fg (az (pv 0) rfl) (ag (jv (dj (pv 6)) (pv 5) (pv 3)) ao))) (aq (cA (i7 i6 lL lM fg (az (pv 0) rfl) (ag (jv (dj (pv 6)) (pv 3) (pv 5)) ao)))))))))),?_⟩;let At:Nat->Hp->Prop:=λn H'=>(∀x o,H x=some o->x≠ld->x≠le->H' x=some o)/\H' ld=some (.lst ((iT R C n).map nV))/\H' le=some (.lst ((heads R C n).map nV));have nal:a≠ld:=aI RY h1 (by intro z;cases z);have nae:a≠le:=aI RY h2 (by intro z;cases z);have VA:∀i j,i<=R->j<=C->i*(C+1)+j<sizeLine:=λi j hi hj=>by have:i*(C+1)<=16*17:=lh (by omega) (by omega);exact dX (by omega:_<=1000) (by decide)
 refine⟨_,rfl,_,_,rfl,rfl,_,rfl,(by omega),(by omega),?_⟩;have eR:((R:Int)+1).toNat=R+1:=by omega
 have eC:((C:Int)+1).toNat=C+1:=by omega
 rw[eR];refine qV (n:=R+1) (λi σ H'=>∃v3 v4 v5 v6:Option V,σ=[some (.ref a),some (.int (R:Int)),some (.int (C:Int)),v3,v4,v5,v6]/\At (i*(C+1)) H') ⟨none,none,none,none,rfl,λx o e _ _=>e,by rw[qm];exact h1,by rw[qm];exact h2⟩ ?_ ?_
 .rintro i σ H1 hi ⟨v3,v4,v5,v6,rfl,at1⟩;refine⟨_,rfl,_,_,rfl,rfl,_,rfl,(by omega),(by omega),?_⟩;rw[eC];refine qV (n:=C+1) (λj σ H'=>∃v4 v5 v6:Option V,σ=[some (.ref a),some (.int (R:Int)),some (.int (C:Int)),some (.int (0+(i:Int))),v4,v5,v6]/\At (i*(C+1)+j) H') ⟨v4,v5,v6,rfl,at1⟩ ?_ ?_
  .rintro j σ H2 hj ⟨u4,u5,u6,rfl,k2,t2,d2⟩;refine⟨_,rfl,_,_,rfl,rfl,_,rfl,_,_,rfl,rfl,?_⟩;refine⟨_,rfl,_,rfl,_,_,rfl,rfl,_,rfl,_,rfl,_,_,rfl,rfl,rfl,?_⟩;obtain⟨lb,Qi⟩:∃lb:Bool,lb=(decide (i=R) !=decide (j=C)):=⟨_,rfl⟩;have elb:(!decide (V.bl (decide ((0+(i:Int))=(R:Int)))=V.bl (decide ((0+(j:Int))=(C:Int)))))=lb:=by
    have e1:decide ((0+(i:Int))=(R:Int))=decide (i=R):=by
     by_cases q:i=R;.rw[bq q,bq (by omega)]
     rw[cM q,cM (by omega)]
    have e2:decide ((0+(j:Int))=(C:Int))=decide (j=C):=by
     by_cases q:j=C;.rw[bq q,bq (by omega)]
     rw[cM q,cM (by omega)]
    rw[e1,e2,Qi];cases decide (i=R)<;>cases decide (j=C)<;>rfl
   rw[elb];have NB:j<=C:=by omega
   have etl:vV R C (i*(C+1)+j)=if lb=true then R+1+j else i:=by unfold vV;rw[Lx NB,zf NB,Qi]
   have ehd:rZ R C (i*(C+1)+j)=if lb=true then i else R+1+j:=by unfold rZ;rw[Lx NB,zf NB,Qi]
   have We:=k2 a _ RY nal nae;have Gv:((iT R C (i*(C+1)+j)).map nV).length<sizeLine:=by unfold iT;rw[aE,aE,cZ];exact VA i j (by omega) NB
   have NX:((heads R C (i*(C+1)+j)).map nV).length<sizeLine:=by unfold heads;rw[aE,aE,cZ];exact VA i j (by omega) NB
   have snT:∀v:V,v=nV (vV R C (i*(C+1)+j))->(iT R C (i*(C+1)+j)).map nV++[v]=(iT R C (i*(C+1)+(j+1))).map nV:=λv e=>by unfold iT;rw[<-Cz,iQ,cR,cR,e];rfl
   have snH:∀v:V,v=nV (rZ R C (i*(C+1)+j))->(heads R C (i*(C+1)+j)).map nV++[v]=(heads R C (i*(C+1)+(j+1))).map nV:=λv e=>by unfold heads;rw[<-Cz,iQ,cR,cR,e];rfl
   refine⟨_,rfl,a,CN,dx,_,_,rfl,We,T.cl,T.nT,fT,.inl ⟨rfl,_,bp.of t2⟩,?_⟩;refine⟨_,rfl,_,rfl,?_⟩;have q1:∀(Z:V->Hp->Prop),Z (nV (vV R C (i*(C+1)+j))) H2->(if lb=true then cJ 5 ([some (V.ref a),some (.int (R:Int)),some (.int (C:Int)),some (.int (0+(i:Int))),some (.int (0+(j:Int))),some (.int ((R:Int)+1+(0+(j:Int)))),some (.bl lb)]:L2.St) H2 Z else cJ 3 ([some (V.ref a),some (.int (R:Int)),some (.int (C:Int)),some (.int (0+(i:Int))),some (.int (0+(j:Int))),some (.int ((R:Int)+1+(0+(j:Int)))),some (.bl lb)]:L2.St) H2 Z):=by
    intro Z hZ;rw[etl]at hZ;cases lb
    .refine gM ⟨_,rfl,?_⟩;have:V.int (0+(i:Int))=nV i:=by unfold nV;congr 1;omega
     rw[this];exact hZ
    refine eV ⟨_,rfl,?_⟩;have:V.int ((R:Int)+1+(0+(j:Int)))=nV (R+1+j):=by unfold nV;congr 1;omega
    rw[this];exact hZ
   refine q1 _ ?_;refine⟨ld,_,_,rfl,rfl,t2,Gv,?_⟩;rw[snT _ rfl];have aaC:upd H2 ld (.lst ((iT R C (i*(C+1)+(j+1))).map nV)) a=some (.ins CN dx fs):=by rw[ah nal];exact We
   have d3:upd H2 ld (.lst ((iT R C (i*(C+1)+(j+1))).map nV)) le=some (.lst ((heads R C (i*(C+1)+j)).map nV)):=by rw[ah nle.symm];exact d2
   refine⟨_,rfl,a,CN,dx,_,_,rfl,aaC,T.cl,T.nD,fH,.inl ⟨rfl,_,bp.of d3⟩,?_⟩;refine⟨_,rfl,_,rfl,?_⟩;have q2:∀(Z:V->Hp->Prop)(Hx:Hp),Z (nV (rZ R C (i*(C+1)+j))) Hx->(if lb=true then cJ 3 ([some (V.ref a),some (.int (R:Int)),some (.int (C:Int)),some (.int (0+(i:Int))),some (.int (0+(j:Int))),some (.int ((R:Int)+1+(0+(j:Int)))),some (.bl lb)]:L2.St) Hx Z else cJ 5 ([some (V.ref a),some (.int (R:Int)),some (.int (C:Int)),some (.int (0+(i:Int))),some (.int (0+(j:Int))),some (.int ((R:Int)+1+(0+(j:Int)))),some (.bl lb)]:L2.St) Hx Z):=by
    intro Z Hx hZ;rw[ehd]at hZ;cases lb
    .refine gM ⟨_,rfl,?_⟩;have:V.int ((R:Int)+1+(0+(j:Int)))=nV (R+1+j):=by unfold nV;congr 1;omega
     rw[this];exact hZ
    refine eV ⟨_,rfl,?_⟩;have:V.int (0+(i:Int))=nV i:=by unfold nV;congr 1;omega
    rw[this];exact hZ
   refine q2 _ _ ?_;refine⟨le,_,_,rfl,rfl,d3,NX,?_⟩;rw[snH _ rfl];refine⟨_,_,_,rfl,λx o e n1 n2=>by rw[ah n2,ah n1];exact k2 x o e n1 n2,by rw[ah nle,ai],ai⟩
  rintro σ H2 ⟨u4,u5,u6,rfl,at2⟩;refine⟨_,_,_,_,rfl,?_⟩;rw[i5];exact at2
 rintro σ H1 ⟨v3,v4,v5,v6,rfl,k1,t1,d1⟩;exact k H1 k1 t1 d1
end
end Wh
end
section
namespace Wh
open PySem PySem.Spec PyProof.Rows L2
open Flow(dJ r9 wC i9 gF a_ dN et)
structure Gx (r:NR):Prop where
  nd:(r.kn.map (·.1)).Nodup
  ap:∀q,q∈r.kn->q.1≠r.ld/\q.1≠r.le/\q.1≠r.lf
def jy(kn:List (Addr×List (Addr×nY)))(u:Nat)(z:Addr×nY):List (Addr×List (Addr×nY)):=kn.modify u λq=>(q.1,q.2++[z])
def vt(kn:List (Addr×List (Addr×nY)))(u:Nat)(z:Addr×nY):(jy kn u z).map (·.1)=kn.map (·.1):=by
 apply uo;intro i;unfold jy;rw[cC,Kw,cC];cases kn[i]? with
 |none=>rfl
 |some q=>
  show some (if u=i then(q.1,q.2++[z])else q).1=some q.1;by_cases h:u=i;.rw[aw h]
  rw[au h]
def M3(kn:List (Addr×List (Addr×nY)))(u:Nat)(z:Addr×nY):(jy kn u z).length=kn.length:=by unfold jy;rw[List.length_modify]
def BO(kn:List (Addr×List (Addr×nY)))(u:Nat)(z:Addr×nY)(i:Nat):(jy kn u z)[i]?=(kn[i]?).map λq=>if i=u then(q.1,q.2++[z])else q:=by
 unfold jy;rw[Kw];cases kn[i]? with
 |none=>rfl
 |some q=>
  show some (if u=i then(q.1,q.2++[z])else q)=some (if i=u then(q.1,q.2++[z])else q);by_cases h:u=i;.rw[aw h,aw h.symm]
  rw[au h,au (λe=>h e.symm)]
def mr(h:q∈jy kn u z):∃(i:Nat)(q0:Addr×List (Addr×nY)),kn[i]?=some q0/\q=if i=u then(q0.1,q0.2++[z])else q0:=by obtain⟨i,hi⟩:=wD.mp h;rw[BO]at hi;cases e:kn[i]? with|none=>rw[e]at hi;cases hi|some q0=>rw[e]at hi;exact⟨i,q0,e,(bZ hi).symm⟩
def NR.cz(r:NR)(kn:List (Addr×List (Addr×nY))):NR:={r with kn:=kn}
def cy.add{am lo:List Int}{hi:List (Option Int)}{u:Nat}{q0:Addr×List (Addr×nY)}{x:nY}(N:cy C H r am lo hi)(Kn:Gx r)(hu:r.kn[u]?=some q0)(ht:H t=none):cy C (upd (upd H t (.tup (QT x))) q0.1 (.lst ((q0.2.map λz=>V.ref z.1)++[V.ref t]))) (r.cz (jy r.kn u (t,x))) am lo hi/\Gx (r.cz (jy r.kn u (t,x))):=by
 have Ij:q0∈r.kn:=du hu;obtain⟨k1,k2⟩:=N.hK q0 Ij;have X6:q0.1≠t:=aa k1 ht;have keep:∀b o,H b=some o->b≠q0.1->(upd (upd H t (.tup (QT x))) q0.1 (.lst ((q0.2.map λz=>V.ref z.1)++[V.ref t]))) b=some o:=λb o e n=>by rw[ah n,ah (aa e ht)];exact e
 have da:=N.nd r.la (.inl rfl);have db:=N.nd r.lb (.inr (.inl rfl));have dc:=N.nd r.lc (.inr (.inr rfl));have ap:=Kn.ap q0 Ij;have Wy:(jy r.kn u (t,x)).map (·.1)=r.kn.map (·.1):=vt _ _ _;have abh:(jy r.kn u (t,x)).map (λq=>V.ref q.1)=r.kn.map (λq=>V.ref q.1):=by have:=congrArg (List.map V.ref) Wy;rw[cQ,cQ]at this;exact this
 refine⟨⟨keep _ _ N.ins (aI N.ins k1 (by intro z;cases z)),keep _ _ N.hA (da.2.2.2 q0 Ij),keep _ _ N.hL (db.2.2.2 q0 Ij),keep _ _ N.hH (dc.2.2.2 q0 Ij),keep _ _ N.hT ap.1.symm,keep _ _ N.hD ap.2.1.symm,?_,?_,N.Nu,N.Nt,N.Ic,?_,N.kf,N.oa,N.lG,N.AB⟩,⟨?_,?_⟩⟩;.have h1:=keep _ _ N.hS ap.2.2.symm;show _=some (HO.lst ((jy r.kn u (t,x)).map λq=>V.ref q.1));rw[abh];exact h1
 .intro q hq;obtain⟨i,q1,hi,eq⟩:=mr hq;have Va:q1∈r.kn:=du hi;obtain⟨m1,m2⟩:=N.hK q1 Va;have oE:∀z,z∈q1.2->(upd (upd H t (.tup (QT x))) q0.1 (.lst ((q0.2.map λz=>V.ref z.1)++[V.ref t]))) z.1=some (.tup (QT z.2)):=λz hz=>keep _ _ (m2 z hz) (aI (m2 z hz) k1 (by intro w;cases w));by_cases c:i=u
  .subst c;rw[hu]at hi;cases hi;rw[aw rfl]at eq;subst eq;refine⟨?_,?_⟩;.rw[ai,cR];rfl
   intro z hz;rcases cO.mp hz with hz|hz;.exact oE z hz
   have:z=(t,x):=cW.mp hz;subst this;rw[ah X6.symm,ai]
  rw[au c]at eq;subst eq;have nq:q.1≠q0.1:=by
   intro e;have e1:(r.kn.map (·.1))[i]?=some q.1:=by rw[cC,hi];rfl
   have e2:(r.kn.map (·.1))[u]?=some q.1:=by rw[cC,hu,e];rfl
   exact c (QB Kn.nd e1 e2)
  exact⟨keep _ _ m1 nq,oE⟩
 .intro y hy;obtain⟨n1,n2,n3,n4⟩:=N.nd y hy;refine⟨n1,n2,n3,λq hq=>?_⟩;obtain⟨i,q1,hi,eq⟩:=mr hq;have:=n4 q1 (du hi);rw[eq];split<;>exact this
 .show((jy r.kn u (t,x)).map (·.1)).Nodup;rw[Wy];exact Kn.nd
 intro q hq;obtain⟨i,q1,hi,eq⟩:=mr hq;have:=Kn.ap q1 (du hi);rw[eq];split<;>exact this
def Bd(hu:u<r.kn.length)(v:Nat):gp (r.cz (jy r.kn u (t,x))) v=if v=u then gp r v++[x]else gp r v:=by
 unfold gp;show((jy r.kn u (t,x)).getD v (0,[])).2.map _=_;rw[eI,BO,eI];by_cases c:v=u;.subst c;rw[aw rfl,dZ hu];show(if v=v then _ else _:Addr×List (Addr×nY)).2.map _=_;rw[aw rfl,cR];rfl
 rw[au c];cases r.kn[v]? with|none=>rfl|some q=>show(if v=u then _ else _:Addr×List (Addr×nY)).2.map _=_;rw[au c];rfl
def XS(r:NR)(H H':Hp):Prop:=∀x o,H x=some o->x≠r.lb->x≠r.lc->x∉r.kn.map (·.1)->H' x=some o
def XB(C:Addr)(vs:List V)(H:Hp)(Q:VK)(r:NR)(am lo:List Int)(hi:List (Option Int))(p B:Nat):Prop:=vs=[.ref r.a,.int (p:Int)]/\cy C H r am lo hi/\Gx r/\p<r.tl.length/\r.tl.getD p 0<r.kn.length/\r.hd.getD p 0<r.kn.length/\(∀q,q∈r.kn->q.2.length<=B)/\B<=1000/\∀(H':Hp)(Ex:List (Addr×List (Addr×nY))),XS r H H'->Ex.map (·.1)=r.kn.map (·.1)->cy C H' (r.cz Ex) am (lo.set p 0) (hi.set p none)->Gx (r.cz Ex)->(∀q,q∈Ex->q.2.length<=B+2)->(∀v,gp (r.cz Ex) v=(if v=r.tl.getD p 0 then gp r v++[(p,true,r.hd.getD p 0)]else gp r v)++(if v=r.hd.getD p 0 then [(p,false,r.tl.getD p 0)]else []))->Q .dQ H'
def Jj(C:Addr):Sp:=λvs H Q _=>∃r am lo hi p B,XB C vs H Q r am lo hi p B
section
variable {P:Program} {w:World} {K:PySem.W.Frag} {mg:Str->Option Value} {base:Heap}
def Jo:aM ["self","place","tail","head"] ["self","place"] (ax RH):=⟨rfl,rfl,rfl,by decide +kernel,rfl,by decide +kernel,by decide +kernel⟩
def SY(F:gE K "set_free" "Net.set_free" RH f fd)(T:jz K mg C)(GR:ay P w K mg base bu 1 fR vX ["self","place"] (AK C))(bR:Binds K vX ["self","place"] [])(mR:cU K C "release" fR):ay P w K mg base bu 2 f fd ["self","place"] (Jj C):=by
 obtain⟨tD,hD⟩:=T.dn;obtain⟨tU,hU⟩:=T.up;refine iU F Jo λvs H Q E h=>?_;obtain⟨r,am,lo,hi,p,B,rfl,N,Kn,hp,ZV,qa,hB,hB',k⟩:=h;refine⟨rfl,λ_ _ _ _ hr=>?_⟩;refine⟨_,aj (bh (i:=2) Jo.nd rfl (Or.inl rfl) (bF aW (az (pv 0) rfl) (pv 1) (λ_ _=>rfl))) (aj (bh (i:=3) Jo.nd rfl (Or.inl rfl) (bF aW (az (pv 0) rfl) (pv 1) (λ_ _=>rfl))) (aj (cA (aV (pv 0) T.cl mR GR hr bR .nil aR (ag (pv 1) ao))) (aj (cA (i7 i6 lL lM fg (bF aW (az (pv 0) rfl) (pv 2) (λ_ _=>rfl)) (ag (km (ag (pv 1) (ag (bj (v:=.int 1) rfl hU ⟨_,rfl⟩) (ag (pv 3) ao)))) ao))) (aq (cA (i7 i6 lL lM fg (bF aW (az (pv 0) rfl) (pv 3) (λ_ _=>rfl)) (ag (km (ag (pv 1) (ag (bj (v:=.int (-1)) rfl hD ⟨_,rfl⟩) (ag (pv 2) ao)))) ao))))))),?_⟩;have hL:p<lo.length:=by rw[N.oa];exact hp
 have Im:p<hi.length:=by rw[N.lG];exact hp
 refine⟨_,rfl,r.a,C,r.dx,_,_,rfl,N.ins,T.cl,T.nT,va,_,rfl,r.ld,_,_,_,rfl,rfl,bp.of N.hT,cj (sG hp),?_⟩;refine⟨_,rfl,r.a,C,r.dx,_,_,rfl,N.ins,T.cl,T.nD,ve,_,rfl,r.le,_,_,_,rfl,rfl,bp.of N.hD,cj (sG (by rw[N.AB];exact hp)),?_⟩;obtain⟨tp,rX⟩:∃tp,tp=r.tl.getD p 0:=⟨_,rfl⟩;obtain⟨hd,Ar⟩:∃hd,hd=r.hd.getD p 0:=⟨_,rfl⟩;rw[<-rX]at ZV⊢;rw[<-Ar]at qa⊢;refine⟨_,rfl,r.a,r.dx,_,rfl,N.ins,ie,_,rfl,r,am,lo,hi,p,rfl,N,hp,?_⟩;intro H2 lD N2;obtain⟨q0,Ij⟩:∃q0,r.kn[tp]?=some q0:=⟨_,dZ ZV⟩;have Yj:=du Ij;have K0:=N2.hK q0 Yj;refine⟨_,rfl,r.a,C,r.dx,_,_,rfl,N2.ins,T.cl,T.nS,vd,_,rfl,r.lf,_,_,_,rfl,rfl,bp.of N2.hS,cj (v:=V.ref q0.1) (by rw[cC,Ij];rfl),.inl ⟨rfl,_,bp.of K0.1⟩,_,rfl,_,rfl,(by show 3<=sizeLine;decide),λt ht=>?_⟩;have len0:∀q,q∈r.kn->q.2.length<sizeLine:=λq hq=>dX (hB q hq) (dX hB' (by decide));refine⟨q0.1,_,_,rfl,rfl,(by rw[ah (aa K0.1 ht)];exact K0.1),(by rw[aE];exact len0 q0 Yj),?_⟩;obtain⟨N3,Kn3⟩:=N2.add (x:=(p,true,hd)) Kn Ij ht;have N3:cy C (upd (upd H2 t (.tup [.int (p:Int),.int 1,.int (hd:Int)])) q0.1 (.lst ((q0.2.map λz=>V.ref z.1)++[V.ref t]))) (r.cz (jy r.kn tp (t,(p,true,hd)))) am (lo.set p 0) (hi.set p none):=N3;have sQ:∀x o,H x=some o->x≠r.lb->x≠r.lc->x∉r.kn.map (·.1)->(upd (upd H2 t (.tup [.int (p:Int),.int 1,.int (hd:Int)])) q0.1 (.lst ((q0.2.map λz=>V.ref z.1)++[V.ref t]))) x=some o:=λx o e n1 n2 n3=>by have e2:=lD x o e n1 n2;rw[ah (λz=>n3 (by rw[z];exact lx (f:=λq:Addr×List (Addr×nY)=>q.1) Yj)),ah (aa e2 ht)];exact e2
 have QU:=λv=>Bd (r:=r) (t:=t) (x:=(p,true,hd)) ZV v;have hB3:∀q,q∈jy r.kn tp (t,(p,true,hd))->q.2.length<=B+1:=λq hq=>by
  obtain⟨i,q1,hi,eq⟩:=mr hq;have:=hB q1 (du hi);rw[eq];split;.rw[dC,tI];omega
  omega
 have RM:(jy r.kn tp (t,(p,true,hd))).length=r.kn.length:=M3 _ _ _;have R_:(jy r.kn tp (t,(p,true,hd))).map (·.1)=r.kn.map (·.1):=vt _ _ _;generalize upd (upd H2 t (.tup [.int (p:Int),.int 1,.int (hd:Int)])) q0.1 (.lst ((q0.2.map λz=>V.ref z.1)++[V.ref t]))=H3 at N3 sQ;generalize abI:jy r.kn tp (t,(p,true,hd))=Qg at N3 Kn3 QU hB3 RM R_;obtain⟨q1,Va⟩:∃q1,Qg[hd]?=some q1:=⟨_,dZ (by rw[RM];exact qa)⟩;have Q8:=du Va;have K1:=N3.hK q1 Q8;refine⟨_,rfl,r.a,C,r.dx,_,_,rfl,N3.ins,T.cl,T.nS,vd,_,rfl,r.lf,_,_,_,rfl,rfl,bp.of N3.hS,cj (v:=V.ref q1.1) (by show(Qg.map λq=>V.ref q.1)[hd]?=_;rw[cC,Va];rfl),.inl ⟨rfl,_,bp.of K1.1⟩,_,rfl,_,rfl,(by show 3<=sizeLine;decide),λt1 Qh=>?_⟩;refine⟨q1.1,_,_,rfl,rfl,(by rw[ah (aa K1.1 Qh)];exact K1.1),(by rw[aE];exact dX (hB3 q1 Q8) (dX (by omega:B+1<=1001) (by decide))),?_⟩;obtain⟨N4,Kn4⟩:=N3.add (x:=(p,false,tp)) Kn3 Va Qh;refine k _ (jy Qg hd (t1,(p,false,tp))) ?_ ?_ N4 Kn4 ?_ ?_;.intro x o e n1 n2 n3;have e3:=sQ x o e n1 n2 n3;rw[ah (λz=>n3 (by rw[z,<-R_];exact lx (f:=λq:Addr×List (Addr×nY)=>q.1) Q8)),ah (aa e3 Qh)];exact e3
 .rw[vt,R_]
 .intro q hq;obtain⟨i,q2,hi,eq⟩:=mr hq;have:=hB3 q2 (du hi);rw[eq];split;.rw[dC,tI];omega
  omega
 intro v;have:=Bd (r:=r.cz Qg) (u:=hd) (t:=t1) (x:=(p,false,tp)) (by show hd<Qg.length;rw[RM];exact qa) v;have this:gp (r.cz (jy Qg hd (t1,(p,false,tp)))) v=if v=hd then gp (r.cz Qg) v++[(p,false,tp)]else gp (r.cz Qg) v:=this;rw[this,QU v,<-rX,<-Ar];split;.rfl
 rw[iG]
end
end Wh
end
section
namespace Wh
open PySem PySem.Spec PyProof.Rows L2
open Flow(dJ r9 wC i9 gF a_ dN et)
def K8(h:p<(R+1)*(C+1)):vV R C p<R+C+2:=by have h1:p/(C+1)<R+1:=uv (by rw[ik];exact h);have h2:p%(C+1)<C+1:=qh _ (by omega);unfold vV;split<;>omega
def Ls(h:p<(R+1)*(C+1)):rZ R C p<R+C+2:=by have h1:p/(C+1)<R+1:=uv (by rw[ik];exact h);have h2:p%(C+1)<C+1:=qh _ (by omega);unfold rZ;split<;>omega
def qJ(h:p<n):(iT R C n).getD p 0=vV R C p:=by unfold iT;rw[eI,cC,qu h];rfl
def qU(h:p<n):(heads R C n).getD p 0=rZ R C p:=by unfold heads;rw[eI,cC,qu h];rfl
def d_:(iT R C n).length=n:=by unfold iT;rw[aE,cZ]
def HI:(heads R C n).length=n:=by unfold heads;rw[aE,cZ]
structure DT (am lo:List Int) (hi:List (Option Int)) (fr:List Nat):Prop where
  lo:∀e,e<am.length->lo.getD e 0=if e∈fr then 0 else am.getD e 0
  hi:∀e,e<am.length->hi.getD e none=if e∈fr then none else some (am.getD e 0)
structure uJ (r:NR) (am lo:List Int) (hi:List (Option Int)) (R C:Nat) (fr:List Nat):Prop where
  tl:r.tl=iT R C am.length
  hd:r.hd=heads R C am.length
  bd:DT am lo hi fr
  wi:gv r lo hi
def TV(CN:Addr)(vs:List V)(H:Hp)(Q:VK)(x dx aA aF:Addr)(R C:Nat)(am:List Int)(fr:List Nat):Prop:=vs=[.ref x,.int (R:Int),.int (C:Int),.ref aA,.ref aF]/\H x=some (.ins CN dx [])/\H aA=some (.lst (am.map V.int))/\H aF=some (.lst (fr.map nV))/\R<=16/\C<=16/\am.length=(R+1)*(C+1)/\fr.length<=300/\(∀p,p∈fr->p<am.length)/\∀(H':Hp)(r:NR)(lo:List Int)(hi:List (Option Int)),r.a=x->(∀y o,H y=some o->y≠x->H' y=some o)->cy CN H' r am lo hi->uJ r am lo hi R C fr->H r.la=none->H r.lb=none->H r.lc=none->Q .dQ H'
def Du(CN:Addr):Sp:=λvs H Q _=>∃x dx aA aF R C am fr,TV CN vs H Q x dx aA aF R C am fr
section
variable {P:Program} {w:World} {K:PySem.W.Frag} {mg:Str->Option Value} {base:Heap}
def zc:aM ["self","rows","columns","amounts","free","place","knot"] ["self","rows","columns","amounts","free"] (ax JC):=⟨rfl,rfl,rfl,by decide +kernel,rfl,by decide +kernel,by decide +kernel⟩
def f1(a:V):List (Str×V):=[("amounts",a)]
def f2(a b:V):List (Str×V):=[("amounts",a),("lows",b)]
def f3(a b c:V):List (Str×V):=[("amounts",a),("lows",b),("highs",c)]
def f4(a b c d:V):List (Str×V):=[("amounts",a),("lows",b),("highs",c),("tails",d)]
def f5(a b c d e:V):List (Str×V):=[("amounts",a),("lows",b),("highs",c),("tails",d),("heads",e)]
def pf1:gc "amounts" a []=f1 a:=by rfl
def pf2:gc "lows" b (f1 a)=f2 a b:=by rfl
def pf3:gc "highs" c (f2 a b)=f3 a b c:=by rfl
def pf4:gc "tails" d (f3 a b c)=f4 a b c d:=by rfl
def pf5:gc "heads" e (f4 a b c d)=f5 a b c d e:=by rfl
def pf6:gc "steps" (.ref f) (f5 (.ref a) (.ref b) (.ref c) (.ref d) (.ref e))=iz a b c d e f:=by rfl
def MG:(f5 a b c d e).lookup ("tails":Str)=some d:=by rfl
def MI:(f5 a b c d e).lookup ("heads":Str)=some e:=by rfl
def Tt:(f5 a b c d e).lookup ("lay_pipes":Str)=none:=by rfl
def D_{la lb lc ld le lf:Addr}:(iz la lb lc ld le lf).lookup ("set_free":Str)=none:=by rfl
def O9{f fL fS CN:Addr}{fd Rh p_:FuncData}(F:gE K "__init__" "Net.__init__" JC f fd)(T:jz K mg CN)(GL:ay P w K mg base bu 1 fL Rh ["self","rows","columns"] (Jm CN))(bL:Binds K Rh ["self","rows","columns"] [])(mL:cU K CN "lay_pipes" fL)(GS:ay P w K mg base bu 2 fS p_ ["self","place"] (Jj CN))(bS:Binds K p_ ["self","place"] [])(mS:cU K CN "set_free" fS):ay P w K mg base bu 3 f fd ["self","rows","columns","amounts","free"] (Du CN):=by
 refine iU F zc λvs H Q E h=>?_;obtain⟨x,dx,aA,aF,R,C,am,fr,rfl,hx,hA,hF,hR,hC,hlen,Vj,Nf,k⟩:=h;refine⟨rfl,λ_ _ _ _ hr=>?_⟩;refine⟨_,aj (eB (pv 0) (fZ fv (by rfl) T.list rb (ag (pv 3) ao)) rfl) (aj (eB (pv 0) (fZ fv (by rfl) T.list rb (ag (pv 3) ao)) rfl) (aj (eB (pv 0) (fZ fv (by rfl) T.list rb (ag (pv 3) ao)) rfl) (aj (eB (pv 0) (bK ao) rfl) (aj (eB (pv 0) (bK ao) rfl) (aj (cA (aV (pv 0) T.cl mL GL (hr.mono (by decide)) bL .nil aR (ag (pv 1) (ag (pv 2) ao)))) (aj (eB (pv 0) (jU (own:=[("knot",6)]) rfl zc.nd (iu rfl T.range (ag (dv gR (dv gR (pv 1) (pv 2)) aU) ao)) (dq (by rfl)) (λ_ _ _ _ _=>bb (i:=6) zc.nd rfl (Or.inl rfl) (Or.inr rfl)) (λ_ _ _ _ _=>gi) (λ_ _ _ _ _=>bK ao)) rfl) (aq (gd PassesOwn.never rfl (c9 (pv 4)) (bb (i:=5) zc.nd rfl (Or.inl rfl)) (aq (cA (aV (pv 0) T.cl mS GS hr bS .nil aR (ag (pv 5) ao)))))))))))),?_⟩;have M8:aA≠x:=aI hA hx (by intro z;cases z);refine⟨_,rfl,aA,_,rfl,.inl (bp.of hA),λla ZZ=>?_⟩;have Az:x≠la:=aa hx ZZ;refine⟨_,rfl,x,CN,dx,[],rfl,(by rw[ah Az];exact hx),T.cl,T.nA,(by show 0<1000;decide),?_⟩;rw[pf1];obtain⟨H1,Vx,k1,x1,a1⟩:∃H1:Hp,H1=upd (upd H la (.lst (am.map V.int))) x (.ins CN dx (f1 (.ref la)))/\(∀y o,H y=some o->y≠x->H1 y=some o)/\H1 x=some (.ins CN dx (f1 (.ref la)))/\H1 la=some (.lst (am.map V.int)):=by
  refine⟨_,rfl,λy o e n=>?_,ai,?_⟩;.rw[ah n,ah (aa e ZZ)];exact e
  rw[ah Az.symm,ai]
 rw[<-Vx];refine⟨_,rfl,aA,_,rfl,.inl (bp.of (k1 _ _ hA M8)),λlb Qi=>?_⟩;have Gr:x≠lb:=aa x1 Qi;refine⟨_,rfl,x,CN,dx,_,rfl,(by rw[ah Gr];exact x1),T.cl,T.nL,(by show 1<1000;decide),?_⟩;rw[pf2];obtain⟨H2,Nk,k2,x2,b2⟩:∃H2:Hp,H2=upd (upd H1 lb (.lst (am.map V.int))) x (.ins CN dx (f2 (.ref la) (.ref lb)))/\(∀y o,H1 y=some o->y≠x->H2 y=some o)/\H2 x=some (.ins CN dx (f2 (.ref la) (.ref lb)))/\H2 lb=some (.lst (am.map V.int)):=by
  refine⟨_,rfl,λy o e n=>?_,ai,?_⟩;.rw[ah n,ah (aa e Qi)];exact e
  rw[ah Gr.symm,ai]
 rw[<-Nk];refine⟨_,rfl,aA,_,rfl,.inl (bp.of (k2 _ _ (k1 _ _ hA M8) M8)),λlc Nc=>?_⟩;have IQ:x≠lc:=aa x2 Nc;refine⟨_,rfl,x,CN,dx,_,rfl,(by rw[ah IQ];exact x2),T.cl,T.nH,(by show 2<1000;decide),?_⟩;rw[pf3];obtain⟨H3,Vw,k3,x3,c3⟩:∃H3:Hp,H3=upd (upd H2 lc (.lst (am.map V.int))) x (.ins CN dx (f3 (.ref la) (.ref lb) (.ref lc)))/\(∀y o,H2 y=some o->y≠x->H3 y=some o)/\H3 x=some (.ins CN dx (f3 (.ref la) (.ref lb) (.ref lc)))/\H3 lc=some (.lst (am.map V.int)):=by
  refine⟨_,rfl,λy o e n=>?_,ai,?_⟩;.rw[ah n,ah (aa e Nc)];exact e
  rw[ah IQ.symm,ai]
 rw[<-Vw];refine⟨dW _,λld Us=>?_⟩;have IP:x≠ld:=aa x3 Us;refine⟨_,rfl,x,CN,dx,_,rfl,(by rw[ah IP];exact x3),T.cl,T.nT,(by show 3<1000;decide),?_⟩;rw[pf4];obtain⟨H4,UD,k4,x4,d4⟩:∃H4:Hp,H4=upd (upd H3 ld (.lst [])) x (.ins CN dx (f4 (.ref la) (.ref lb) (.ref lc) (.ref ld)))/\(∀y o,H3 y=some o->y≠x->H4 y=some o)/\H4 x=some (.ins CN dx (f4 (.ref la) (.ref lb) (.ref lc) (.ref ld)))/\H4 ld=some (.lst []):=by
  refine⟨_,rfl,λy o e n=>?_,ai,?_⟩;.rw[ah n,ah (aa e Us)];exact e
  rw[ah IP.symm,ai]
 rw[<-UD];refine⟨dW _,λle hle=>?_⟩;have NU:x≠le:=aa x4 hle;refine⟨_,rfl,x,CN,dx,_,rfl,(by rw[ah NU];exact x4),T.cl,T.nD,(by show 4<1000;decide),?_⟩;rw[pf5];obtain⟨H5,eH5,k5,x5,e5⟩:∃H5:Hp,H5=upd (upd H4 le (.lst [])) x (.ins CN dx (f5 (.ref la) (.ref lb) (.ref lc) (.ref ld) (.ref le)))/\(∀y o,H4 y=some o->y≠x->H5 y=some o)/\H5 x=some (.ins CN dx (f5 (.ref la) (.ref lb) (.ref lc) (.ref ld) (.ref le)))/\H5 le=some (.lst []):=by
  refine⟨_,rfl,λy o e n=>?_,ai,?_⟩;.rw[ah n,ah (aa e hle)];exact e
  rw[ah NU.symm,ai]
 rw[<-eH5];have ne1:la≠lb:=aa a1 Qi;have ne2:la≠lc:=aa (k2 _ _ a1 Az.symm) Nc;have ne3:lb≠lc:=aa b2 Nc;have a3:=k3 _ _ (k2 _ _ a1 Az.symm) Az.symm;have b3:=k3 _ _ b2 Gr.symm;have ad:la≠ld:=aa a3 Us;have bd:lb≠ld:=aa b3 Us;have cd:lc≠ld:=aa c3 Us;have a4:=k4 _ _ a3 Az.symm;have b4:=k4 _ _ b3 Gr.symm;have c4:=k4 _ _ c3 IQ.symm;have ae:la≠le:=aa a4 hle;have be:lb≠le:=aa b4 hle;have ce:lc≠le:=aa c4 hle;have de:ld≠le:=aa d4 hle;have a5:=k5 _ _ a4 Az.symm;have b5:=k5 _ _ b4 Gr.symm;have c5:=k5 _ _ c4 IQ.symm;have d5:=k5 _ _ d4 IP.symm;have Ew:∀y o,H y=some o->y≠x->H5 y=some o:=λy o e n=>k5 _ _ (k4 _ _ (k3 _ _ (k2 _ _ (k1 _ _ e n) n) n) n) n;have fla:H la=none:=ZZ;have new:∀{G:Hp}{y:Addr}{o:HO},(∀y o,H y=some o->y≠x->G y=some o)->G x=some o->G y=none->H y=none:=fun {G y o'} kp gx e=>by
  cases q:H y with
  |none=>rfl
  |some o=>
   by_cases n:y=x;.rw[n,gx]at e;cases e
   rw[kp y o q n]at e;cases e
 have flb:H lb=none:=new k1 x1 Qi;have flc:H lc=none:=new (λy o e n=>k2 _ _ (k1 _ _ e n) n) x2 Nc;have fld:H ld=none:=new (λy o e n=>k3 _ _ (k2 _ _ (k1 _ _ e n) n) n) x3 Us;have fle:H le=none:=new (λy o e n=>k4 _ _ (k3 _ _ (k2 _ _ (k1 _ _ e n) n) n) n) x4 hle;refine⟨_,rfl,x,dx,_,rfl,x5,Tt,_,rfl,_,rfl,x,dx,ld,le,_,R,C,rfl,x5,MG,MI,de,d5,e5,hR,hC,?_⟩;intro H6 k6 d6 e6;have x6:=k6 _ _ x5 IP NU;have a6:=k6 _ _ a5 ad ae;have b6:=k6 _ _ b5 bd be;have c6:=k6 _ _ c5 cd ce;have kp6:∀y o,H y=some o->y≠x->H6 y=some o:=λy o e n=>k6 _ _ (Ew y o e n) (aa e fld) (aa e fle);rw[<-hlen]at d6 e6;refine⟨_,rfl,_,rfl,_,_,rfl,rfl,_,_,rfl,rfl,_,rfl,(by omega),(by omega),λlf Yl=>?_⟩;have eN:((R:Int)+(C:Int)+2).toNat=R+C+2:=by omega
 rw[eN];refine mq (n:=R+C+2) (λi H'=>∃as:List Addr,as.length=i/\as.Nodup/\(∀y o,H6 y=some o->H' y=some o)/\H' lf=some (.lst (as.map V.ref))/\lf∉as/\∀y,y∈as->H6 y=none/\H' y=some (.lst [])) ⟨[],rfl,CD,λy o e=>by rw[ah (aa e Yl)];exact e,ai,by simp,by simp⟩ ?_ ?_
 .rintro i H7 hi ⟨as,U3,Zx,k7,f7,X9,NJ⟩;refine⟨rfl,dW _,λy hy=>⟨_,(by rw[ah (aa f7 hy)];exact f7),?_,as++[y],?_,?_,?_,?_,?_,?_⟩⟩;.rw[aE,U3];exact gq hi (cB (by omega:R+C+2<=34) (by decide))
  .rw[dC,tI,U3]
  .refine Fk Zx λhm=>?_;rw[(NJ y hm).2]at hy;cases hy
  .intro z o e;have n1:z≠lf:=aa e Yl;rw[ah n1,ah (aa (k7 z o e) hy)];exact k7 z o e
  .rw[ai,cR];rfl
  .intro hm;rcases cO.mp hm with h|h;.exact X9 h
   have:lf=y:=cW.mp h;exact aa f7 hy this
  intro z hz;have nlf:z≠lf:=by
   intro e;subst e;rcases cO.mp hz with h|h;.exact X9 h
   have:z=y:=cW.mp h;exact aa f7 hy this
  rcases cO.mp hz with h|h;.obtain⟨g1,g2⟩:=NJ z h;refine⟨g1,?_⟩;rw[ah nlf,ah (aa g2 hy)];exact g2
  have:z=y:=cW.mp h;subst this;refine⟨?_,by rw[ah nlf,ai]⟩;cases q:H6 z with|none=>rfl|some o=>rw[k7 z o q]at hy;cases hy
 rintro H7 ⟨as,U3,Zx,k7,f7,X9,NJ⟩;have x7:=k7 _ _ x6;refine⟨_,rfl,x,CN,dx,_,rfl,x7,T.cl,T.nS,(by show 5<1000;decide),?_⟩;rw[pf6];have aas:x≠lf:=aa x6 Yl;have aat:∀y,y∈as->y≠x:=λy hy e=>by have:=(NJ y hy).1;rw[e,x6]at this;cases this
 obtain⟨r0,Gb⟩:∃r0:NR,r0=⟨x,dx,la,lb,lc,ld,le,lf,iT R C am.length,heads R C am.length,as.map λy=>(y,[])⟩:=⟨_,rfl⟩;have k8:∀y o,H7 y=some o->y≠x->(upd H7 x (.ins CN dx (iz la lb lc ld le lf))) y=some o:=λy o e n=>by rw[ah n];exact e
 have ZL:∀y o,H y=some o->y≠x->(upd H7 x (.ins CN dx (iz la lb lc ld le lf))) y=some o:=λy o e n=>k8 _ _ (k7 _ _ (kp6 y o e n)) n;have N8:cy CN (upd H7 x (.ins CN dx (iz la lb lc ld le lf))) r0 am am (am.map some):=by
  subst Gb;refine⟨ai,k8 _ _ (k7 _ _ a6) Az.symm,k8 _ _ (k7 _ _ b6) Gr.symm,?_,k8 _ _ (k7 _ _ d6) IP.symm,k8 _ _ (k7 _ _ e6) NU.symm,?_,?_,ne1,ne2,ne3,?_,d_.symm,d_.symm,?_,HI.trans d_.symm⟩;.have:=k8 _ _ (k7 _ _ c6) IQ.symm;rw[cQ];exact this
  .have:=k8 _ _ f7 aas.symm;rw[this,cQ];rfl
  .intro q hq;obtain⟨y,hy,rfl⟩:=br.mp hq;exact⟨k8 _ _ (NJ y hy).2 (aat y hy),λz hz=>by cases hz⟩
  .intro z hz;have kz:z≠ld/\z≠le:=by
    rcases hz with rfl|rfl|rfl;.exact⟨ad,ae⟩
    .exact⟨bd,be⟩
    exact⟨cd,ce⟩
   have oz:∃o,H6 z=some o:=by
    rcases hz with rfl|rfl|rfl;.exact⟨_,a6⟩
    .exact⟨_,b6⟩
    exact⟨_,c6⟩
   obtain⟨o,oz⟩:=oz;refine⟨kz.1,kz.2,aa oz Yl,λq hq=>?_⟩;obtain⟨y,hy,rfl⟩:=br.mp hq;exact aa oz (NJ y hy).1
  show(am.map some).length=(iT R C am.length).length;rw[aE,d_]
 have Kn8:Gx r0:=by
  subst Gb;refine⟨?_,?_⟩
  .show((as.map λy=>(y,([]:List (Addr×nY)))).map (·.1)).Nodup;rw[cQ];have:as.map ((λx:Addr×List (Addr×nY)=>x.1)∘λy=>(y,[]))=as:=by have:((λx:Addr×List (Addr×nY)=>x.1)∘λy=>(y,[]))=id:=rfl;rw[this,Ky]
   rw[this];exact Zx
  intro q hq;obtain⟨y,hy,rfl⟩:=br.mp hq;exact⟨(aa d6 (NJ y hy).1).symm,(aa e6 (NJ y hy).1).symm,λ(e:y=lf)=>X9 (e▸hy)⟩
 have fas:∀y,y∈as->H y=none:=λy hy=>new kp6 x6 (NJ y hy).1;have nxF:aF≠x:=aI hF hx (by intro z;cases z);have QS:r0.tl=iT R C am.length:=by rw[Gb]
 have Z_:r0.hd=heads R C am.length:=by rw[Gb]
 have lb0:r0.lb=lb:=by rw[Gb]
 have lc0:r0.lc=lc:=by rw[Gb]
 have a0:r0.a=x:=by rw[Gb]
 have kn0:r0.kn.map (·.1)=as:=by rw[Gb];show(as.map λy=>(y,([]:List (Addr×nY)))).map (·.1)=as;rw[cQ];have:((λx:Addr×List (Addr×nY)=>x.1)∘λy=>(y,[]))=id:=rfl;rw[this,Ky]
 have st0:∀u,gp r0 u=[]:=λu=>by rw[Gb];unfold gp;show((as.map λy=>(y,([]:List (Addr×nY)))).getD u (0,[])).2.map _=[];rw[eI,cC];cases as[u]?<;>rfl
 have len0:∀q,q∈r0.kn->q.2.length<=0:=λq hq=>by rw[Gb]at hq;obtain⟨y,hy,rfl⟩:=br.mp hq;exact bx _
 generalize upd H7 x (.ins CN dx (iz la lb lc ld le lf))=H8 at N8 ZL;refine⟨_,rfl,aF,rfl,⟨_,bp.of (ZL _ _ hF nxF)⟩,fJ (K:=K) (a:=aF) (xs:=fr.map nV) (λi σ H'=>∃(v5 v6:Option V)(kn:List (Addr×List (Addr×nY)))(lo:List Int)(hi:List (Option Int)),σ=[some (.ref x),some (.int (R:Int)),some (.int (C:Int)),some (.ref aA),some (.ref aF),v5,v6]/\(∀y o,H y=some o->y≠x->H' y=some o)/\cy CN H' (r0.cz kn) am lo hi/\Gx (r0.cz kn)/\kn.map (·.1)=as/\(∀q,q∈kn->q.2.length<=2*i)/\DT am lo hi (fr.take i)/\(∀u x,x∈gp (r0.cz kn) u->x.1∈fr.take i/\((x.2.1=true/\u=vV R C x.1/\x.2.2=rZ R C x.1)\/(x.2.1=false/\u=rZ R C x.1/\x.2.2=vV R C x.1)))/\∀p,p∈fr.take i->(p,true,rZ R C p)∈gp (r0.cz kn) (vV R C p)/\(p,false,vV R C p)∈gp (r0.cz kn) (rZ R C p)) ⟨none,none,r0.kn,am,am.map some,rfl,ZL,N8,Kn8,kn0,len0,⟨λe _=>by rw[au (by simp)],λe he=>?_⟩,λu y hy=>?_,λp hp=>by simp at hp⟩ ?_ ?_ ?_⟩;.rw[au (by simp),eI,cC,dZ he,eI,dZ he];rfl
 .have:=st0 u;have hy:y∈gp r0 u:=hy;rw[this]at hy;cases hy
 .rintro i σ H9 _ ⟨_,_,_,_,_,_,k9,_⟩;exact bp.of (k9 _ _ hF nxF)
 .rintro i y σ H9 hy ⟨v5,v6,kn,lo,hi,rfl,k9,N9,Kn9,Vq,ln9,Rl,M6,M5⟩;obtain⟨p,hp,rfl⟩:∃p,fr[i]?=some p/\y=nV p:=by rw[cC]at hy;cases e:fr[i]? with|none=>rw[e]at hy;cases hy|some z=>rw[e]at hy;exact⟨z,rfl,(bZ hy).symm⟩
  have iF:p<am.length:=Nf p (du hp);have Ra:i<fr.length:=(fh.mp hp).1;have Of:kn.length=R+C+2:=by have:=congrArg List.length Vq;rw[aE,U3]at this;exact this
  have Ig:(r0.cz kn).tl.getD p 0=vV R C p:=by show r0.tl.getD p 0=_;rw[QS];exact qJ iF
  have Ar:(r0.cz kn).hd.getD p 0=rZ R C p:=by show r0.hd.getD p 0=_;rw[Z_];exact qU iF
  have xW:p<(R+1)*(C+1):=by rw[<-hlen];exact iF
  have aaB:H9 x=some (.ins CN r0.dx (iz r0.la r0.lb r0.lc r0.ld r0.le r0.lf)):=by rw[<-a0];exact N9.ins
  refine⟨_,rfl,x,r0.dx,_,rfl,aaB,D_,_,rfl,r0.cz kn,am,lo,hi,p,2*i,?_,N9,Kn9,?_,?_,?_,ln9,(by omega),?_⟩;.show [V.ref x,nV p]=[V.ref r0.a,nV p];rw[a0]
  .show p<r0.tl.length;rw[QS,d_];exact iF
  .rw[Ig];show _<kn.length;rw[Of];exact K8 xW
  .rw[Ar];show _<kn.length;rw[Of];exact Ls xW
  rw[Ig,Ar];intro H10 Ex ZM abf N10 abq ln10 NO;have bdn:DT am (lo.set p 0) (hi.set p none) (fr.take (i+1)):=by
   have e1:p<lo.length:=by rw[N9.oa];show p<r0.tl.length;rw[QS,d_];exact iF
   have e2:p<hi.length:=by rw[N9.lG];show p<r0.tl.length;rw[QS,d_];exact iF
   refine⟨λe he=>?_,λe he=>?_⟩
   .rw[dU e1,take_snoc hp];by_cases c:e=p;.rw[aw c,aw (by rw[c];simp)]
    rw[au c,Rl.lo e he];by_cases c2:e∈fr.take i;.rw[aw c2,aw (iS _ c2)]
    rw[au c2,au (λh=>by
     rcases cO.mp h with h|h;.exact c2 h
     exact c (cW.mp h))]
   rw[dU e2,take_snoc hp];by_cases c:e=p;.rw[aw c,aw (by rw[c];simp)]
   rw[au c,Rl.hi e he];by_cases c2:e∈fr.take i;.rw[aw c2,aw (iS _ c2)]
   rw[au c2,au (λh=>by
    rcases cO.mp h with h|h;.exact c2 h
    exact c (cW.mp h))]
  have up:∀u y,y∈gp (r0.cz kn) u->y∈gp (r0.cz Ex) u:=λu y hy=>by
   have:=NO u;have this:gp (r0.cz Ex) u=_:=this;rw[this];refine iS _ ?_;split;.exact iS _ hy
   exact hy
  have ht:(p,true,rZ R C p)∈gp (r0.cz Ex) (vV R C p):=by have:=NO (vV R C p);have this:gp (r0.cz Ex) (vV R C p)=_:=this;rw[this,aw rfl];exact iS _ (fi _ (cW.mpr rfl))
  have Vm:(p,false,vV R C p)∈gp (r0.cz Ex) (rZ R C p):=by have:=NO (rZ R C p);have this:gp (r0.cz Ex) (rZ R C p)=_:=this;rw[this,aw (rfl:rZ R C p=rZ R C p)];exact fi _ (cW.mpr rfl)
  refine⟨_,_,Ex,lo.set p 0,hi.set p none,rfl,?_,N10,abq,abf.trans Vq,?_,bdn,?_,?_⟩
  .intro y o e n;refine ZM y o (k9 y o e n) ?_ ?_ ?_;.show y≠r0.lb;rw[lb0];exact aa e flb
   .show y≠r0.lc;rw[lc0];exact aa e flc
   show y∉kn.map (·.1);rw[Vq];intro hm;rw[fas y hm]at e;cases e
  .intro q hq;have:=ln10 q hq;omega
  .intro u y hy;have:=NO u;have this:gp (r0.cz Ex) u=_:=this;rw[this]at hy;rw[take_snoc hp];have old:y∈gp (r0.cz kn) u->y.1∈fr.take i++[p]/\((y.2.1=true/\u=vV R C y.1/\y.2.2=rZ R C y.1)\/(y.2.1=false/\u=rZ R C y.1/\y.2.2=vV R C y.1)):=λh=>⟨iS _ (M6 u y h).1,(M6 u y h).2⟩;rcases cO.mp hy with h|h
   .split at h
    .rename_i c;rcases cO.mp h with h|h;.exact old h
     have:=cW.mp h;subst this;exact⟨fi _ (cW.mpr rfl),.inl ⟨rfl,c,rfl⟩⟩
    exact old h
   split at h;.rename_i c;have:=cW.mp h;subst this;exact⟨fi _ (cW.mpr rfl),.inr ⟨rfl,c,rfl⟩⟩
   cases h
  intro q hq;rw[take_snoc hp]at hq;rcases cO.mp hq with h|h;.exact⟨up _ _ (M5 q h).1,up _ _ (M5 q h).2⟩
  have:=cW.mp h;subst this;exact⟨ht,Vm⟩
 rintro σ H9 ⟨v5,v6,kn,lo,hi,rfl,k9,N9,Kn9,Vq,ln9,Rl,M6,M5⟩;rw[aE,iH]at Rl M6 M5;have Of:kn.length=R+C+2:=by have:=congrArg List.length Vq;rw[aE,U3]at this;exact this
 have hm:(r0.cz kn).tl.length=am.length:=by show r0.tl.length=_;rw[QS,d_]
 have eT:∀p,p<am.length->Flow.src (NN (r0.cz kn) lo hi) (p,true)=vV R C p/\Flow.dst (NN (r0.cz kn) lo hi) (p,true)=rZ R C p/\Flow.src (NN (r0.cz kn) lo hi) (p,false)=rZ R C p/\Flow.dst (NN (r0.cz kn) lo hi) (p,false)=vV R C p:=λp hp=>by
  have e1:(NN (r0.cz kn) lo hi).tl p=vV R C p:=by show r0.tl.getD p 0=_;rw[QS];exact qJ hp
  have e2:(NN (r0.cz kn) lo hi).hd p=rZ R C p:=by show r0.hd.getD p 0=_;rw[Z_];exact qU hp
  exact⟨e1,e2,e2,e1⟩
 refine k H9 (r0.cz kn) lo hi a0 k9 N9 ⟨QS,Z_,Rl,⟨?_,?_,?_,?_⟩⟩ (by show H r0.la=none;rw[Gb];exact fla) (by show H r0.lb=none;rw[Gb];exact flb) (by show H r0.lc=none;rw[Gb];exact flc)
 .intro u y hy;obtain⟨h1,h2⟩:=M6 u y hy;have U6:=Nf y.1 h1;obtain⟨g1,g2,g3,g4⟩:=eT y.1 U6;refine⟨by show y.1<(r0.cz kn).tl.length;rw[hm];exact U6,?_⟩;rcases h2 with⟨q1,q2,q3⟩|⟨q1,q2,q3⟩;.rw[q1,g1,g2];exact⟨q2.symm,q3.symm⟩
  rw[q1,g3,g4];exact⟨q2.symm,q3.symm⟩
 .rintro⟨e,b⟩ he hn;have he:e<am.length:=by have he:e<(r0.cz kn).tl.length:=he;rw[hm]at he;exact he
  have hf:e∈fr:=by apply ly;intro c;apply hn;show hi.getD e none=some (lo.getD e 0);rw[Rl.hi e he,Rl.lo e he,au c,au c]
  obtain⟨g1,g2,g3,g4⟩:=eT e he;obtain⟨s1,s2⟩:=M5 e hf;cases b;.rw[g3,g4];exact s2
  rw[g1,g2];exact s1
 .show kn.length<=1000;omega
 rintro⟨e,b⟩ he;have he:e<am.length:=by have he:e<(r0.cz kn).tl.length:=he;rw[hm]at he;exact he
 obtain⟨g1,g2,g3,g4⟩:=eT e he;have xW:e<(R+1)*(C+1):=by rw[<-hlen];exact he
 show _<kn.length;rw[Of];cases b;.rw[g4];exact K8 xW
 rw[g2];exact Ls xW
end
end Wh
end
section
namespace Wh
open PySem PySem.Spec PyProof.Rows L2
section
variable {X:Cx} {e:Expr} {lo hi:Option Expr} {st:Expr} {te:TE} {tl th ts:TO} {p2 pos:Pos}
def VS(K:PySem.W.Frag)(te:TE)(tl th ts:TO):TE:=fun σ H Q=>te σ H λx H1=>tl σ H1 λl H2=>th σ H2 λu H3=>ts σ H3 λk H4=>∃(a:Addr)(ns:List Int),x=.ref a/\bp K H4 a (ns.map V.int)/\k≠some 0/\∀p,H4 p=none->Q (.ref p) (upd H4 p (.lst ((pickNums ns l u k).map V.int)))
def Hh(he:PE X e te)(hl:PO X lo tl)(hu:PO X hi th)(hk:PO X (some st) ts):PE X (.Subscript e (.Slice lo hi (some st) p2) pos) (VS X.K te tl th ts):=by intro pins s σ H Q I h;refine Subscript_ (dH (he pins s σ H _ I h) λv s1⟨x,H1,I1,r1,q1⟩=>?_);refine wpAny_Slice (dH (hl pins s1 σ H1 _ I1 q1) λvl s2⟨l,H2,I2,pl,q2⟩=>dH (hu pins s2 σ H2 _ I2 q2) λvu s3⟨u,H3,I3,pu,q3⟩=>dH (hk pins s3 σ H3 _ I3 q3) λvk s4⟨k,H4,I4,pk,a,ns,ex,hq,h0,q⟩=>?_);subst ex;cases r1;have I5:Inv X pins σ H4 {s4 with heap:=s4.heap.push {cls:=.type "slice",data:=.fields #[vl,vu,vk]}}:=I4.kept (t':=s4.toks) λb ob q=>ed _ q;obtain⟨b_,rv,hL,hz⟩:=I5.list hq;have xY:=rv.ints;have hlen:b_.length=ns.length:=xY.length;show wpAny (model X.prog X.w) X.A (subscriptTail e (.Slice lo hi (some st) p2) (.ref a) (.ref s4.heap.objs.size)) (EP X pins σ Q) X.xe {s4 with heap:=s4.heap.push {cls:=.type "slice",data:=.fields #[vl,vu,vk]}};refine tail_any (ops:=[.ref a,.ref s4.heap.objs.size]) hL.isList.typeIs CF.lookup ?_ (by with_unfolding_all rfl);refine Kl hL.isList (Heap.IsSliceOf.new ..) pl pu pk h0 ?_ (by rw[dt,hlen];rw[aE]at hz;exact hz);have hp:=xY.pick l u k;have hv:=kN hp;have hle:=length_pickNums_le xY l u k;refine⟨.ref _,_,I5.Wb (t':=s4.toks) hv ?_,rfl,q _ I5.fresh⟩;rw[aE]at hz⊢;omega
end
theorem filterMap_map{α β γ:Type}(f:α->β)(g:β->Option γ)(h:α->γ):∀l:List α,(∀x,x∈l->g (f x)=some (h x))->(l.map f).filterMap g=l.map h|[],_=>rfl|a::l,e=>by rw[cV,qt,e a cF,cV];show h a::_=_;rw[filterMap_map f g h l (λx hx=>e x (dR _ hx))]
def L4{ns:List Int}{R C c:Nat}(hR:1<=R)(hc:c<C)(hl:ns.length=R*C):pickNums ns (some (c:Int)) none (some (C:Int))=(List.range R).map λk=>ns.getD (k*C+c) 0:=by
 unfold pickNums;have hcn:c<ns.length:=by rw[hl];have:1*C<=R*C:=tG _ hR;omega
 have hb:sliceBounds (some (c:Int)) none (some (C:Int)) ns.length=((c:Int),(ns.length:Int),(C:Int)):=by
  unfold sliceBounds;have h1:(C:Int)>0:=by omega
  have h2:¬(c:Int)<0:=by omega
  simp only[Option.getD_some,h1,h2,lR,jN];congr 1;omega
 rw[hb];show(sliceRange (c:Int) (ns.length:Int) (C:Int)).filterMap (ns[·]?)=_;unfold sliceRange;have h1:(C:Int)>0:=by omega
 have h2:(c:Int)<(ns.length:Int):=by omega
 simp only[h1,h2,lR];have zi:((ns.length:Int)-(c:Int)+(C:Int)-1)/(C:Int)=(R:Int):=by
  rw[hl];have e:((R*C:Nat):Int)-(c:Int)+(C:Int)-1=(C:Int)*(R:Int)+((C:Int)-1-(c:Int)):=by rw[oJ,yo];omega
  rw[e,Int.mul_add_ediv_left _ _ (by omega),Int.ediv_eq_zero_of_lt (by omega) (by omega)];omega
 rw[zi,om];refine filterMap_map _ _ _ _ λk hk=>?_;have hk:=dM.mp hk;have e:((c:Int)+(C:Int)*(k:Int)).toNat=k*C+c:=by rw[<-oJ,ik C k];omega
 have ij:k*C+c<ns.length:=by rw[hl];exact ak.dk hk hc
 show ns[((c:Int)+(C:Int)*(k:Int)).toNat]?=_;rw[e,dZ ij,eI,dZ ij];rfl
end Wh
end
section
namespace Wh
open PySem PySem.Spec PyProof.Rows L2
structure E1 (K:PySem.W.Frag) (a:Addr) (es:Array DictEntry):Prop where
  ex:∃(o:Obj) (ep:Nat),K.lookup a=some o/\o.ExactDict/\o.data=.dict es ep
  keys:∀e,e∈es->∃(i:Int) (t:Tok),e.key=.int i t/\e.hash=hashInt i
section
variable {X:Cx} {o i:Expr} {pos:Pos} {td ty:TE}
def E1.map{K:PySem.W.Frag}{a:Addr}{es:Array DictEntry}{h:Heap}{P:Program}{w:World}(D:E1 K a es)(k:K.In h):h.MapOf (eh P w) a (λz=>findBy lN es z):=by obtain⟨o,ep,h1,h2,h3⟩:=D.ex;refine⟨o,es,ep,k _ _ h1,h2,h3,λe he=>?_,λ_=>rfl⟩;obtain⟨j,t,e1,e2⟩:=D.keys e he;refine⟨Sum.inl j,?_,e2⟩;show Value.isInt j e.key=true;rw[e1];show(j==j)=true;exact um j
def SA(K:PySem.W.Frag)(td ty:TE):TE:=fun σ H Q=>td σ H λx H1=>ty σ H1 λy H2=>∃(a:Addr)(es:Array DictEntry)(k:Int)(v:V)(u:Value),x=.ref a/\y=.int k/\E1 K a es/\findBy lN es (Sum.inl k)=some u/\RelV v u/\Q v H2
def L8(ho:PE X o td)(hi:PE X i ty)(hs:Sq i):PE X (.Subscript o i pos) (SA X.K td ty):=by intro pins s σ H Q I h;refine E7 K2.lookup hs (dH (ho pins s σ H _ I h) λu s1⟨x,H1,I1,rx,q1⟩=>dH (hi pins s1 σ H1 _ I1 q1) λiv s2⟨y,H2,I2,ry,a,es,k,v,u',ex,ey,D,fu,rv,q2⟩=>?_);subst ex ey;obtain rfl:u=Value.ref a:=rx;have M:=D.map (P:=X.prog) (w:=X.w) I2.An;refine⟨?_,wpAny_getItem_of (knd:=eh X.prog X.w) (wL (k:=Sum.inl k) ry) M fu ⟨v,H2,I2.tok _,rv,q2⟩⟩;obtain⟨ob,ep,h1,h2,_⟩:=D.ex;exact⟨ob,I2.An _ _ h1,h2.1⟩
end
end Wh
end
section
namespace Wh
open FhHold ak
open Flow(S cn lP zm pX zo DQ)
def LO(l:List Int)(z:Int):(l++[z]).sum=l.sum+z:=by rw[List.sum_append];simp
def Ji(n:Nat)(g:Nat->Int):((List.range n).map g).sum=S n g:=by induction n with|zero=>rfl|succ n ih=>rw[iQ,cR,cV,lI,LO,ih];rfl
def cu(R C:Nat):List Nat:=(List.range R).flatMap λi=>(List.range C).map λj=>i*(C+1)+j
def vB(R W:Nat):List.range (R*W)=(List.range R).flatMap λi=>(List.range W).map λj=>i*W+j:=by induction R with|zero=>rw[qm];rfl|succ R ih=>rw[i5,JO,ih,iQ,tw];congr 1;simp
def p8(R C:Nat):(List.range (R*(C+1))).filter (λp=>decide (p%(C+1)≠C))=cu R C:=by
 rw[vB,List.filter_flatMap];unfold cu;congr 1;funext i;rw[iQ,cR,lK];have h1:((List.range C).map λj=>i*(C+1)+j).filter (λp=>decide (p%(C+1)≠C))=(List.range C).map λj=>i*(C+1)+j:=by rw[yM];intro p hp;obtain⟨j,hj,rfl⟩:=br.mp hp;have hj:=dM.mp hj;rw[zf (by omega)];exact bq (by omega)
 have h2:([C].map λj=>i*(C+1)+j).filter (λp=>decide (p%(C+1)≠C))=[]:=by rw[List.filter_eq_nil_iff];intro p hp;obtain⟨j,hj,rfl⟩:=br.mp hp;have hj:j=C:=cW.mp hj;subst hj;rw[zf (bx _)];simp
 rw[h1,h2,iG]
def B4(t:Tab):eg t=cu t.rows t.cols:=by
 unfold eg cu;rw[vB,CV];have:∀i,i∈List.range t.rows->(((List.range t.cols).map λj=>i*t.cols+j).map (placeOf t))=(List.range t.cols).map λj=>i*(t.cols+1)+j:=by
  intro i hi;have hi:=dM.mp hi;rw[cQ];refine jm λj hj=>?_;have hj:=dM.mp hj;show placeOf t (i*t.cols+j)=i*(t.cols+1)+j;unfold placeOf;rw[aw (dk hi hj)];have d:(i*t.cols+j)/t.cols=i:=by rw[ik,uf (by omega),uj hj];rfl
  have m:(i*t.cols+j)%t.cols=j:=by rw[ik,ug,uk hj]
  rw[d,m]
 rw[J1,J1];congr 1;exact jm this
def Ea:p∈cu R C↔∃i j,i<R/\j<C/\p=i*(C+1)+j:=by
 unfold cu;rw[ui];constructor;.rintro⟨i,hi,h⟩;obtain⟨j,hj,rfl⟩:=br.mp h;exact⟨i,j,dM.mp hi,dM.mp hj,rfl⟩
 rintro⟨i,j,hi,hj,rfl⟩;exact⟨i,dM.mpr hi,br.mpr ⟨j,dM.mpr hj,rfl⟩⟩
def Ab(R C:Nat):(cu R C).Nodup:=by rw[<-p8];exact List.Pairwise.filter _ List.nodup_range
def kL(R C:Nat):(cu R C).length=R*C:=by unfold cu;exact j5 _ _ _
def vI(hi:i<R)(hj:j<C):(cu R C)[i*C+j]?=some (i*(C+1)+j):=by unfold cu;exact BI _ hi hj
def dh(t:Tab):List Int:=(List.range t.places).map λp=>(t.own p:Int)
def bJ(t:Tab):(dh t).length=t.places:=by unfold dh;rw[aE,cZ]
def fE(t:Tab)(h:p<t.places):(dh t).getD p 0=(t.own p:Int):=by unfold dh;rw[eI,cC,qu h];rfl
def uE(t:Tab)(hj:j<=t.cols):t.own (i*(t.cols+1)+j)=t.at_ t.cells i j:=by rw[Li,EG t hj,EI t hj]
def OJ{cs:List Int}{R C i:Nat}(hl:cs.length=R*C)(hi:i<R):(cs.drop (i*C)).take C=(List.range C).map λj=>cs.getD (i*C+j) 0:=by
 apply uo;intro j;by_cases hj:j<C
 .have ij:i*C+j<cs.length:=by rw[hl];exact dk hi hj
  rw[yS hj,C3,cC,qu hj,dZ ij];show _=some (cs.getD (i*C+j) 0);rw[eI,dZ ij];rfl
 rw[oq (by rw[gT];omega),oq (by rw[aE,cZ];omega)]
section
variable (t:Tab)
def vq:((t.cells.map Int.ofNat).getD (i*t.cols+j) 0)=(t.cell t.cells i j:Int):=by unfold Tab.cell;rw[eI,cC,eI];cases t.cells[i*t.cols+j]?<;>rfl
def O0{i:Nat}(hl:t.cells.length=t.rows*t.cols)(hi:i<t.rows):(List.range (t.cols+1)).map (λj=>(t.own (i*(t.cols+1)+j):Int))=(((t.cells.map Int.ofNat).drop (i*t.cols)).take t.cols)++[(((t.cells.map Int.ofNat).drop (i*t.cols)).take t.cols).sum]:=by
 rw[OJ (by rw[aE];exact hl) hi,Ji,iQ,cR];congr 1;.refine jm λj hj=>?_;have hj:=dM.mp hj;rw[uE t (by omega),sJ t t.cells hi hj,vq]
 show [(t.own (i*(t.cols+1)+t.cols):Int)]=_;rw[uE t (bx _),Lz t t.cells hi];congr 1;exact cn λj _=>(vq t).symm
def L9:(List.range (t.cols+1)).map (λj=>(t.own (t.rows*(t.cols+1)+j):Int))=((List.range t.cols).map λj=>((List.range t.rows).map λk=>(t.cells.map Int.ofNat).getD (k*t.cols+j) 0).sum)++[((List.range t.cols).map λj=>((List.range t.rows).map λk=>(t.cells.map Int.ofNat).getD (k*t.cols+j) 0).sum).sum]:=by
 rw[iQ,cR];have col:∀j,((List.range t.rows).map λk=>(t.cells.map Int.ofNat).getD (k*t.cols+j) 0).sum=S t.rows (λk=>(t.cell t.cells k j:Int)):=λj=>by rw[Ji];exact cn λk _=>vq t
 congr 1;.refine jm λj hj=>?_;have hj:=dM.mp hj;rw[uE t (by omega),LD t t.cells hj,col]
 show [(t.own (t.rows*(t.cols+1)+t.cols):Int)]=_;rw[uE t (bx _),LF t t.cells,Ji,DQ];congr 1;exact cn λj _=>(col j).symm
def Hi(i:Nat):(List.range (i*(t.cols+1))).map (λp=>(t.own p:Int))++(List.range (t.cols+1)).map (λj=>(t.own (i*(t.cols+1)+j):Int))=(List.range ((i+1)*(t.cols+1))).map λp=>(t.own p:Int):=by rw[i5,JO (n:=i*(t.cols+1)) (m:=t.cols+1),cR,cQ];rfl
end
def fK(R C:Nat)(bl:List Int):List Nat:=((cu R C).zip bl).filterMap λx=>if x.2=1 then some x.1 else none
def p4:p∈fK R C bl↔∃i j,i<R/\j<C/\p=i*(C+1)+j/\bl[i*C+j]?=some 1:=by
 unfold fK;rw[tq];constructor
 .rintro⟨⟨q,b⟩,hm,h⟩;obtain⟨k,hk⟩:=wD.mp hm;rw[yT]at hk;obtain⟨h1,h2⟩:=hk;have h1:(cu R C)[k]?=some q:=h1;have h2:bl[k]?=some b:=h2;by_cases c:b=1
  .have h:some q=some p:=by have h:(if b=1 then some q else none)=some p:=h;rw[aw c]at h;exact h
   cases h;have hk:k<R*C:=by have:=(fh.mp h1).1;rw[kL]at this;exact this
   have hC:0<C:=by
    rcases Kj C with z|z;.rw[z,yq]at hk;omega
    exact z
   have hi:k/C<R:=uv (by rw[ik];exact hk);have hj:k%C<C:=qh _ hC;have ek:k/C*C+k%C=k:=by rw[ik];exact ue k C
   refine⟨k/C,k%C,hi,hj,?_,by rw[ek,h2,c]⟩;have:=vI hi hj;rw[ek,h1]at this;exact bZ this
  have h:(if b=1 then some q else none)=some p:=h;rw[au c]at h;cases h
 rintro⟨i,j,hi,hj,rfl,hb⟩;refine⟨(i*(C+1)+j,1),?_,by simp⟩;refine wD.mpr ⟨i*C+j,?_⟩;rw[yT];exact⟨vI hi hj,hb⟩
def tabOf(R C:Nat)(cs bs:List Nat):Tab:=⟨R,C,cs,bs.map λx=>x==1⟩
def qR(hp:p<(tabOf R C cs bs).places):p∈fK R C (bs.map Int.ofNat)↔cI (tabOf R C cs bs) p=true:=by
 rw[p4];unfold cI;have eb:∀k,(tabOf R C cs bs).isBlank k=true↔(bs.map Int.ofNat)[k]?=some 1:=λk=>by
  show(bs.map λx=>x==1).getD k false=true↔_;rw[eI,cC,cC];cases bs[k]? with
  |none=>simp
  |some x=>
   show(x==1)=true↔some (Int.ofNat x)=some 1;rw[i4];constructor;.rintro rfl;rfl
   intro h;have h:((x:Nat):Int)=1:=bZ h;omega
 constructor;.rintro⟨i,j,hi,hj,rfl,hb⟩;have e1:pr (tabOf R C cs bs) (i*(C+1)+j)=i:=EG (tabOf R C cs bs) (by show j<=C;omega);have e2:pc (tabOf R C cs bs) (i*(C+1)+j)=j:=EI (tabOf R C cs bs) (by show j<=C;omega);rw[e1,e2];have h1:decide (i<(tabOf R C cs bs).rows)=true:=bq hi;have h2:decide (j<(tabOf R C cs bs).cols)=true:=bq hj;rw[h1,h2];exact(eb _).mpr hb
 intro h;rw[dA,dA]at h;obtain⟨h1,h2,h3⟩:=h;have h1:pr (tabOf R C cs bs) p<R:=cK h1;have h2:pc (tabOf R C cs bs) p<C:=cK h2;exact⟨_,_,h1,h2,(RE (tabOf R C cs bs) p).symm,(eb _).mp h3⟩
end Wh
end
section
namespace Wh
open PySem PySem.Spec PyProof.Rows L2
open FhHold (Tab)
open ak(dk)
abbrev yc:Stmt:=top 26
abbrev Jg:Stmt:=inClass yc 0
abbrev Rx:Stmt:=inClass yc 1
abbrev Dk:Stmt:=inClass yc 2
abbrev Rv:Stmt:=inClass yc 3
abbrev uN:Stmt:=inClass yc 4
abbrev zp:Stmt:=inClass yc 5
abbrev Rt:Stmt:=inClass yc 6
abbrev Rr:Stmt:=inClass yc 7
abbrev Jf:Stmt:=inClass yc 8
def ji(R C:Nat)(aA aB:Addr):List (Str×V):=[("rows",nV R),("columns",nV C),("amounts",.ref aA),("blank_places",.ref aB)]
section
variable {R C:Nat} {aA aB:Addr}
def E3:(ji R C aA aB).lookup ("rows":Str)=some (nV R):=by rfl
def iK:(ji R C aA aB).lookup ("columns":Str)=some (nV C):=by rfl
def eZ:(ji R C aA aB).lookup ("amounts":Str)=some (.ref aA):=by rfl
def uM:(ji R C aA aB).lookup ("blank_places":Str)=some (.ref aB):=by rfl
def Bb:(ji R C aA aB).lookup ("cell_places":Str)=none:=by rfl
def yW:(ji R C aA aB).lookup ("has_place":Str)=none:=by rfl
def Di:(ji R C aA aB).lookup ("make_net":Str)=none:=by rfl
def K_:(ji R C aA aB).lookup ("all_places":Str)=none:=by rfl
def vy:(ji R C aA aB).lookup ("is_small":Str)=none:=by rfl
def qI:(ji R C aA aB).lookup ("small_places":Str)=none:=by rfl
def K9:(ji R C aA aB).lookup ("movable":Str)=none:=by rfl
def Ou:(ji R C aA aB).lookup ("has_lone_place":Str)=none:=by rfl
end
structure i_ (K:PySem.W.Frag) (mg:Str->Option Value) (C:Addr):Prop where
  cl:B9 K C
  nR:ee K C "rows"
  nC:ee K C "columns"
  nA:ee K C "amounts"
  nB:ee K C "blank_places"
  list:mg "list"=none
  range:mg "range"=none
  len:mg "len"=none
  sum:mg "sum"=none
  zip:mg "zip"=none
def P4(CT:Addr)(vs:List V)(H:Hp)(Q:VK)(a dx aA aB:Addr)(R C:Nat):Prop:=vs=[.ref a]/\H a=some (.ins CT dx (ji R C aA aB))/\R<=16/\C<=16/\∀(H':Hp)(l:Addr),aY H H'->H l=none->H' l=some (.lst ((cu R C).map nV))->Q (.ref l) H'
def sd(CT:Addr):Sp:=λvs H Q _=>∃a dx aA aB R C,P4 CT vs H Q a dx aA aB R C
def XJ(CT:Addr)(vs:List V)(H:Hp)(Q:VK)(a dx aA aB:Addr)(R C:Nat)(am:List Int)(p:Int):Prop:=vs=[.ref a,.int p]/\H a=some (.ins CT dx (ji R C aA aB))/\H aA=some (.lst (am.map V.int))/\Q (.bl (decide (p<(am.length:Int)))) H
def wG(CT:Addr):Sp:=λvs H Q _=>∃a dx aA aB R C am p,XJ CT vs H Q a dx aA aB R C am p
section
variable {P:Program} {w:World} {K:PySem.W.Frag} {mg:Str->Option Value} {base:Heap}
def W0:aM ["self","place"] ["self","place"] (ax Rv):=⟨rfl,rfl,rfl,by decide +kernel,rfl,by decide +kernel,by decide +kernel⟩
def S7(F:gE K "has_place" "Table.has_place" Rv f fd)(T:i_ K mg CT):ay P w K mg base bu 1 f fd ["self","place"] (wG CT):=by refine iU F W0 λvs H Q E h=>?_;obtain⟨a,dx,aA,aB,R,C,am,p,rfl,h1,h2,k⟩:=h;refine⟨rfl,λ_ _ _ _ hr=>?_⟩;refine⟨_,aq (aH (oN (EJ (pv 1) (dS dF (by rfl) T.len oh (ag (az (pv 0) rfl) ao))))),?_⟩;refine⟨_,rfl,_,rfl,a,CT,dx,_,_,rfl,h1,T.cl,T.nA,eZ,aA,_,rfl,.inl (bp.of h2),_,_,rfl,rfl,?_⟩;rw[aE];exact k
def si:aM ["self","width","place"] ["self"] (ax Dk):=⟨rfl,rfl,rfl,by decide +kernel,rfl,by decide +kernel,by decide +kernel⟩
def Mn(F:gE K "cell_places" "Table.cell_places" Dk f fd)(T:i_ K mg CT):ay P w K mg base bu 1 f fd ["self"] (sd CT):=by
 refine iU F si λvs H Q E h=>?_;obtain⟨a,dx,aA,aB,R,C,rfl,h1,hR,hC,k⟩:=h;refine⟨rfl,λ_ _ _ _ hr=>?_⟩;refine⟨_,aj (bh (i:=1) si.nd rfl (Or.inr rfl) (dv gR (az (pv 0) rfl) aU)) (aq (aH (jU (own:=[("place",2)]) (te:=cJ 2) (g:=gg 2) (tt:=tB (VT (Ae (rI (λ_ j=>0<j) λi j=>.int (i%j)) (cJ 2) (cJ 1)) (wd K (cJ 0) "columns"))) rfl si.nd (iu rfl T.range (ag (dv qB (az (pv 0) rfl) (pv 1)) ao)) (dq (by rfl)) (λ_ _ _ _ _=>bb (i:=2) si.nd rfl (Or.inl rfl) (Or.inr rfl)) (λ_ _ _ _ _=>pH (cq (qA (dv Lk (pv 2) (pv 1)) (az (pv 0) rfl)))) (λ_ _ _ _ _=>pv 2)))),?_⟩;refine⟨_,rfl,a,CT,dx,_,_,rfl,h1,T.cl,T.nC,iK,_,_,rfl,rfl,?_⟩;have hW:R*(C+1)<=16*17:=lh hR (by omega);have eW:((R:Int)*((C:Int)+1))=((R*(C+1):Nat):Int):=by rw[oJ];rfl
 refine⟨_,rfl,a,CT,dx,_,_,rfl,h1,T.cl,T.nR,E3,_,rfl,_,_,rfl,rfl,.inl ⟨by omega,by omega⟩,(R*(C+1):Nat),(by rw[<-eW]),(by omega),(by omega),λD hD=>?_⟩;rw[om];refine mq (n:=R*(C+1)) (λi H'=>aY H H'/\H' D=some (.lst (((List.range i).filter λp=>decide (p%(C+1)≠C)).map nV))) ⟨λb o e=>by rw[ah (aa e hD)];exact e,ai⟩ ?_ ?_
 .rintro i H1 hi ⟨s1,qZ⟩;have h11:=s1 _ _ h1;have e0:(0:Int)+(i:Int)=(i:Int):=by omega
  have em:((0:Int)+(i:Int))%((C:Int)+1)=((i%(C+1):Nat):Int):=by rw[e0,Int.natCast_emod];rfl
  refine⟨rfl,_,rfl,_,rfl,_,_,rfl,rfl,(by omega),_,rfl,a,CT,dx,_,_,rfl,h11,T.cl,T.nC,iK,_,_,rfl,rfl,_,rfl,eu (λc=>?_) (λc=>?_)⟩
  .have c:¬i%(C+1)=C:=by intro e;have c:(!decide (((0:Int)+(i:Int))%((C:Int)+1)=(C:Int)))=true:=c;rw[em,e,bq rfl]at c;cases c
   refine⟨_,rfl,_,qZ,?_,?_,?_⟩;.rw[aE];refine dX (cB (jo _ _) ?_) (by decide:1000<sizeLine);rw[cZ];omega
   .intro b o e;rw[ah (aa e hD)];exact s1 b o e
   rw[ai,iQ,lK];have:[i].filter (λp=>decide (p%(C+1)≠C))=[i]:=by rw[ll,aw (bq c)];rfl
   rw[this,cR];have:V.int (0+(i:Int))=nV i:=by unfold nV;rw[e0]
   rw[this];rfl
  have c:i%(C+1)=C:=by apply ly;intro e;apply c;show(!decide (((0:Int)+(i:Int))%((C:Int)+1)=(C:Int)))=true;rw[em,cM (λz=>e (by omega))];rfl
  refine⟨s1,?_⟩;rw[qZ,iQ,lK];have:[i].filter (λp=>decide (p%(C+1)≠C))=[]:=by rw[ll,au (by simp[c])];rfl
  rw[this,iG]
 rintro H1 ⟨s1,qZ⟩;rw[p8]at qZ;exact k H1 D s1 hD qZ
end
end Wh
end
section
namespace Wh
open PySem PySem.Spec PyProof.Rows L2
open FhHold (Tab)
open ak(dk)
def Fz{K:PySem.W.Frag}{a b:Addr}{xs ys:List V}{g:TG}{tb:TS}{D:Ends}{σ:L2.St}{H:Hp}(Pv:Nat->L2.St->Hp->Prop)(h0:Pv 0 σ H)(hl:∀i σ H,Pv i σ H->bp K H a xs/\bp K H b ys)(hs:∀i x y σ H T,xs[i]?=some x->ys[i]?=some y->H T=none->Pv i σ H->g (.ref T) σ (upd H T (.tup [x,y])) fun σ2 H2=>tb {D with nx:=Pv (i+1),ct:=Pv (i+1),bk:=D.nx} σ2 H2)(hd:∀i σ H,i=min xs.length ys.length->Pv i σ H->D.nx σ H):∃W:Nat->Nat->L2.St->Hp->Prop,(∃m,W 0 m σ H)/\∀i m σ H,W i m σ H->((VJ K a b).stop i H/\D.nx σ H)\/((VJ K a b).go i H/\∃N:L2.St->Hp->Prop,(∀σ' H',N σ' H'->∃m',m'<m/\W (i+1) m' σ' H')/\∀x H',(VJ K a b).Es i H x H'->g x σ H' fun σ2 H2=>tb {D with nx:=N,ct:=N,bk:=D.nx} σ2 H2):=by
 refine⟨λi m σ H=>m=min xs.length ys.length-i/\i<=min xs.length ys.length/\Pv i σ H,⟨min xs.length ys.length,by simp,dW _,h0⟩,?_⟩;rintro i m σ H ⟨rfl,hi,p⟩;obtain⟨q1,q2⟩:=hl i σ H p;by_cases ij:i<min xs.length ys.length
 .have l1:i<xs.length:=by omega
  have l2:i<ys.length:=by omega
  refine .inr ⟨⟨xs,ys,xs[i],ys[i],q1,q2,dZ l1,dZ l2⟩,Pv (i+1),fun σ' H' p'=>⟨_,by omega,rfl,ij,p'⟩,λv H' y=>?_⟩;obtain⟨T,x,y,rfl,hT,rfl,e1,e2⟩:=y;exact hs i x y σ H T (e1 xs q1) (e2 ys q2) hT p
 have e:i=min xs.length ys.length:=by omega
 exact .inl ⟨⟨xs,ys,q1,q2,by omega⟩,hd i σ H e p⟩
def uG(l:List Nat):l.map nV=(l.map Int.ofNat).map V.int:=by rw[cQ];rfl
theorem jF(h:i<=n):HT.Ak n d (some (i:Int))=i:=by rw[HT.jF];omega
def gA(l:List Nat):List (Key×V):=l.map λ(p:Nat)=>((Sum.inl (p:Int):Key),V.bl true)
def rM{l:List Nat}{p:Nat}(h:p∉l):jh (gA l) (Sum.inl (p:Int))=none:=by induction l with|nil=>rfl|cons a l ih=>rw[bE,qg]at h;have ih:=ih h.2;unfold jh at ih⊢;show Option.map _ (List.find? _ (((Sum.inl (a:Int):Key),V.bl true)::gA l))=none;rw[oj,cM (λe:(Sum.inl (a:Int):Key)=Sum.inl (p:Int)=>h.1 (by have:=yn e;omega))];exact ih
def B6{l:List Nat}{p:Nat}(h:p∈l):∃v,jh (gA l) (Sum.inl (p:Int))=some v:=by cases q:jh (gA l) (Sum.inl (p:Int))with|some v=>exact⟨v,rfl⟩|none=>exfalso;apply LK q;exact br.mpr ⟨((Sum.inl (p:Int):Key),V.bl true),br.mpr ⟨p,h,rfl⟩,rfl⟩
def wx(l:List Nat)(p:Nat):(jh (gA l) (Sum.inl (p:Int))).isSome=decide (p∈l):=by
 by_cases h:p∈l;.obtain⟨v,e⟩:=B6 h;rw[e,bq h];rfl
 rw[rM h,cM h];rfl
structure TabAt (CT:Addr) (H:Hp) (a:Addr) (R C:Nat) (cs bs:List Nat) (dx aA aB:Addr):Prop where
  ins:H a=some (.ins CT dx (ji R C aA aB))
  hA:H aA=some (.lst ((dh (tabOf R C cs bs)).map V.int))
  hB:H aB=some (.dK (gA (fK R C (bs.map Int.ofNat))))
def TabAt.same(T:TabAt CT H a R C cs bs dx aA aB)(s:aY H H'):TabAt CT H' a R C cs bs dx aA aB:=⟨s _ _ T.ins,s _ _ T.hA,s _ _ T.hB⟩
def HS(CT:Addr)(vs:List V)(H:Hp)(Q:VK)(x dx aC aK:Addr)(R C:Nat)(cs bs:List Nat):Prop:=vs=[.ref x,nV R,nV C,.ref aC,.ref aK]/\H x=some (.ins CT dx [])/\H aC=some (.lst (cs.map nV))/\H aK=some (.lst (bs.map nV))/\1<=R/\R<=16/\1<=C/\C<=16/\cs.length=R*C/\bs.length=R*C/\∀(H':Hp)(aA aB:Addr),(∀y o,H y=some o->y≠x->H' y=some o)->H aA=none->TabAt CT H' x R C cs bs dx aA aB->Q .dQ H'
def qK(CT:Addr):Sp:=λvs H Q _=>∃x dx aC aK R C cs bs,HS CT vs H Q x dx aC aK R C cs bs
def g1(a:V):List (Str×V):=[("rows",a)]
def g2(a b:V):List (Str×V):=[("rows",a),("columns",b)]
def g3(a b c:V):List (Str×V):=[("rows",a),("columns",b),("amounts",c)]
def pg1:gc "rows" a []=g1 a:=by rfl
def pg2:gc "columns" b (g1 a)=g2 a b:=by rfl
def pg3:gc "amounts" c (g2 a b)=g3 a b c:=by rfl
def pg4:gc "blank_places" (.ref d) (g3 (nV R) (nV C) (.ref c))=ji R C c d:=by rfl
section
variable {P:Program} {w:World} {K:PySem.W.Frag} {mg:Str->Option Value} {base:Heap}
def tK:aM ["self","rows","columns","counts","blanks","row","cells","sums","place","blank","column"] ["self","rows","columns","counts","blanks"] (ax Jg):=⟨rfl,rfl,rfl,by decide +kernel,rfl,by decide +kernel,by decide +kernel⟩
def D5{f fC CT:Addr}{fd IJ:FuncData}(F:gE K "__init__" "Table.__init__" Jg f fd)(T:i_ K mg CT)(GC:ay P w K mg base bu 1 fC IJ ["self"] (sd CT))(bC:Binds K IJ ["self"] [])(mC:cU K CT "cell_places" fC):ay P w K mg base bu 2 f fd ["self","rows","columns","counts","blanks"] (qK CT):=by
 refine iU F tK λvs H Q E h=>?_;obtain⟨x,dx,aC,aK,R,C,cs,bs,rfl,hx,hCs,YB,R1,hR,C1,hC,lcs,lbs,k⟩:=h;refine⟨rfl,λ_ _ _ _ hr=>?_⟩;have hu:=AO hr;refine⟨_,aj (eB (pv 0) (pv 1) rfl) (aj (eB (pv 0) (pv 2) rfl) (aj (eB (pv 0) (bK ao) rfl) (aj (eB (pv 0) L7 rfl) (aj (gd PassesOwn.never rfl (iu rfl T.range (ag (pv 1) ao)) (bb (i:=5) tK.nd rfl (Or.inl rfl)) (aj (bh (i:=6) tK.nd rfl (Or.inl rfl) (uX zD (pv 3) (jG (dv qB (pv 5) (pv 2))) (jG (dv qB (dv gR (pv 5) aU) (pv 2))))) (aq (cA (i7 i6 Df Dg qP (az (pv 0) rfl) (ag (dv kr (pv 6) (bK (ag (dS (zk rfl) (by rfl) T.sum yQ (ag (pv 6) ao)) ao))) ao)))))) (aj (jZ (i:=7) (own:=[("column",10)]) (g:=gg 10) (te:=Ua (RC K) (fb (VS K (cJ 3) (AJ (cJ 10)) E5 (AJ (cJ 2))) iW)) rfl tK.nd rfl rfl (m6 rfl rfl rfl rfl) (iu rfl T.range (ag (pv 2) ao)) (dq (by rfl)) (λ_ _ _ _ _=>bb (i:=10) tK.nd rfl (Or.inl rfl) (Or.inr rfl)) (λ_ _ _ _ _=>gi) (λ_ _ _ _ _=>dS (zk rfl) (by rfl) T.sum yQ (ag (Hh (pv 3) (jG (pv 10)) OU (jG (pv 2))) ao))) (aj (cA (i7 i6 Df Dg qP (az (pv 0) rfl) (ag (dv kr (pv 7) (bK (ag (dS (zk rfl) (by rfl) T.sum yQ (ag (pv 7) ao)) ao))) ao))) (aq (gd PassesOwn.never rfl (Lg rfl T.zip (ag (gZ (pv 0) T.cl mC GC hr bC .nil aR) (ag (pv 4) ao))) (qz (n:=2) rfl (eP (bb (i:=8) tK.nd rfl (Or.inl rfl)) (eP (bb (i:=9) tK.nd rfl (Or.inl rfl)) m_))) (aq (cG (cq (gy (pv 9) aU)) (aq (Fd hu (az (pv 0) rfl) (pv 8) ou rfl)) ba)))))))))),?_⟩;obtain⟨t,ht⟩:∃t,t=tabOf R C cs bs:=⟨_,rfl⟩;have Q7:t.rows=R:=by rw[ht];rfl
 have Nw:t.cols=C:=by rw[ht];rfl
 have Ig:t.cells=cs:=by rw[ht];rfl
 have ij:t.cells.length=t.rows*t.cols:=by rw[Ig,Q7,Nw];exact lcs
 have nxC:aC≠x:=aI hCs hx (by intro z;cases z);have Zt:aK≠x:=aI YB hx (by intro z;cases z);refine⟨_,rfl,_,rfl,x,CT,dx,[],rfl,hx,T.cl,T.nR,(by show 0<1000;decide),?_⟩;rw[pg1];refine⟨_,rfl,_,rfl,x,CT,dx,_,rfl,ai,T.cl,T.nC,(by show 1<1000;decide),?_⟩;rw[pg2];obtain⟨H1,Vx,k1,x1⟩:∃H1:Hp,H1=upd (upd H x (.ins CT dx (g1 (nV R)))) x (.ins CT dx (g2 (nV R) (nV C)))/\(∀y o,H y=some o->y≠x->H1 y=some o)/\H1 x=some (.ins CT dx (g2 (nV R) (nV C))):=by refine⟨_,rfl,λy o e n=>?_,ai⟩;rw[ah n,ah n];exact e
 rw[<-Vx];refine⟨dW _,λaA hA=>?_⟩;have M8:x≠aA:=aa x1 hA;have YC:H aA=none:=by cases q:H aA with|none=>rfl|some o=>rw[k1 _ _ q M8.symm]at hA;cases hA
 refine⟨_,rfl,x,CT,dx,_,rfl,(by rw[ah M8];exact x1),T.cl,T.nA,(by show 2<1000;decide),?_⟩;rw[pg3];obtain⟨H2,Nk,k2,x2,a2⟩:∃H2:Hp,H2=upd (upd H1 aA (.lst [])) x (.ins CT dx (g3 (nV R) (nV C) (.ref aA)))/\(∀y o,H1 y=some o->y≠x->H2 y=some o)/\H2 x=some (.ins CT dx (g3 (nV R) (nV C) (.ref aA)))/\H2 aA=some (.lst []):=by
  refine⟨_,rfl,λy o e n=>?_,ai,?_⟩;.rw[ah n,ah (aa e hA)];exact e
  rw[ah M8.symm,ai]
 rw[<-Nk];intro aB hB;have X5:x≠aB:=aa x2 hB;refine⟨_,rfl,x,CT,dx,_,rfl,(by rw[ah X5];exact x2),T.cl,T.nB,(by show 3<1000;decide),?_⟩;rw[pg4];obtain⟨H3,Vw,k3,x3,b3⟩:∃H3:Hp,H3=upd (upd H2 aB (.dK [])) x (.ins CT dx (ji R C aA aB))/\(∀y o,H2 y=some o->y≠x->H3 y=some o)/\H3 x=some (.ins CT dx (ji R C aA aB))/\H3 aB=some (.dK []):=by
  refine⟨_,rfl,λy o e n=>?_,ai,?_⟩;.rw[ah n,ah (aa e hB)];exact e
  rw[ah X5.symm,ai]
 rw[<-Vw];have a3:=k3 _ _ a2 M8.symm;have UX:aA≠aB:=aI a3 b3 (by intro z;cases z);have sQ:∀y o,H y=some o->y≠x->H3 y=some o:=λy o e n=>k3 _ _ (k2 _ _ (k1 _ _ e n) n) n;have fA:∀y o,H y=some o->y≠x->y≠aA:=λy o e n=>aa (k1 _ _ e n) hA;have fB:∀y o,H y=some o->y≠x->y≠aB:=λy o e n=>aa (k2 _ _ (k1 _ _ e n) n) hB;have ncs:cs.map nV=(cs.map Int.ofNat).map V.int:=uG cs;have Wx:∀i,i<=R->(List.range (i*(C+1))).map (λp=>(t.own p:Int))++(List.range (C+1)).map (λj=>(t.own (i*(C+1)+j):Int))=(List.range ((i+1)*(C+1))).map λp=>(t.own p:Int):=λi _=>by have:=Hi t i;rw[Nw]at this;exact this
 have hW:(R+1)*(C+1)<=17*17:=lh (by omega) (by omega);have hsz:∀n,n<=1000->n<=sizeLine:=λn h=>cB h (by decide);refine⟨_,rfl,(R:Int),rfl,(by omega),(by omega),?_⟩;rw[om];refine qV (n:=R) (λi σ H'=>∃v5 v6:Option V,σ=[some (.ref x),some (nV R),some (nV C),some (.ref aC),some (.ref aK),v5,v6,none,none,none,none]/\(∀y o,H y=some o->y≠x->H' y=some o)/\H' x=some (.ins CT dx (ji R C aA aB))/\H' aB=some (.dK [])/\H' aA=some (.lst (((List.range (i*(C+1))).map λp=>(t.own p:Int)).map V.int))) ⟨none,none,rfl,sQ,x3,b3,by rw[qm];exact a3⟩ ?_ ?_
 .rintro i σ H4 hi ⟨v5,v6,rfl,Iy,x4,b4,a4⟩;have Vh:(i+1)*C<=R*C:=tG _ hi;have e0:(0:Int)+(i:Int)=(i:Int):=by omega
  have eL:((0:Int)+(i:Int))*(C:Int)=((i*C:Nat):Int):=by rw[e0,oJ]
  have eU:((0:Int)+(i:Int)+1)*(C:Int)=(((i+1)*C:Nat):Int):=by rw[e0,oJ];rfl
  have eS:(i+1)*C=i*C+C:=i5 _ _;refine⟨_,rfl,_,rfl,_,rfl,_,_,rfl,rfl,.inl ⟨by omega,by omega⟩,_,rfl,_,rfl,_,_,rfl,rfl,_,rfl,_,_,rfl,rfl,.inl ⟨by omega,by omega⟩,_,rfl,aC,_,rfl,bp.of (Iy _ _ hCs nxC),λl6 Yn=>?_⟩;obtain⟨ns,Ap⟩:∃ns,ns=((cs.map Int.ofNat).drop (i*C)).take C:=⟨_,rfl⟩;have Sg:wm (cs.map nV) (some (((0:Int)+(i:Int))*(C:Int))) (some (((0:Int)+(i:Int)+1)*(C:Int)))=ns.map V.int:=by rw[eL,eU,Ap,ncs];unfold wm;rw[aE,aE,jF (by rw[lcs];omega),jF (by rw[lcs];omega),eS,ot,<-yr,<-yt]
  have abu:ns.length<=C:=by rw[Ap,gT];omega
  rw[Sg];have n6A:aA≠l6:=aa a4 Yn;have x5:upd H4 l6 (.lst (ns.map V.int)) x=some (.ins CT dx (ji R C aA aB)):=by rw[ah (aa x4 Yn)];exact x4
  have a5:upd H4 l6 (.lst (ns.map V.int)) aA=some (.lst (((List.range (i*(C+1))).map λp=>(t.own p:Int)).map V.int)):=by rw[ah n6A];exact a4
  refine⟨_,rfl,x,CT,dx,_,_,rfl,x5,T.cl,T.nA,eZ,.inl ⟨rfl,_,bp.of a5⟩,_,rfl,_,rfl,l6,ns,rfl,bp.of ai,(by show 1<=sizeLine;decide),λl7 Qj=>?_⟩;have n67:l6≠l7:=aa (by rw[ai]) Qj;have nA7:aA≠l7:=aa a5 Qj;refine⟨l6,l7,_,_,rfl,rfl,(by rw[ah n67,ai]),ai,(by rw[aE];exact hsz _ (by show ns.length+1<=1000;omega)),λl8 IC=>?_⟩;have a7:upd (upd H4 l6 (.lst (ns.map V.int))) l7 (.lst [V.int ns.sum]) aA=some (.lst (((List.range (i*(C+1))).map λp=>(t.own p:Int)).map V.int)):=by rw[ah nA7];exact a5
  have ZE:aA≠l8:=aa a7 IC;have abv:i*(C+1)<=R*(C+1):=tG _ (by omega);have hRC:(R+1)*(C+1)=R*(C+1)+(C+1):=i5 _ _;refine⟨aA,l8,_,_,rfl,rfl,(by rw[ah ZE];exact a7),ai,(by rw[aE,aE,cZ,dC,aE];exact hsz _ (by show i*(C+1)+(ns.length+1)<=1000;omega)),?_⟩;refine⟨_,_,rfl,λy o e n=>?_,?_,?_,?_⟩
  .have e4:=Iy y o e n;have n6:y≠l6:=aa e4 Yn;have e5:upd H4 l6 (.lst (ns.map V.int)) y=some o:=by rw[ah n6];exact e4
   have n7:y≠l7:=aa e5 Qj;have e6:upd (upd H4 l6 (.lst (ns.map V.int))) l7 (.lst [V.int ns.sum]) y=some o:=by rw[ah n7];exact e5
   rw[ah (fA y o e n),ah (aa e6 IC)];exact e6
  .have n7:x≠l7:=aa x5 Qj;have e6:upd (upd H4 l6 (.lst (ns.map V.int))) l7 (.lst [V.int ns.sum]) x=some (.ins CT dx (ji R C aA aB)):=by rw[ah n7];exact x5
   rw[ah M8,ah (aa e6 IC)];exact e6
  .have e5:upd H4 l6 (.lst (ns.map V.int)) aB=some (.dK []):=by rw[ah (aa b4 Yn)];exact b4
   have e6:upd (upd H4 l6 (.lst (ns.map V.int))) l7 (.lst [V.int ns.sum]) aB=some (.dK []):=by rw[ah (aa e5 Qj)];exact e5
   rw[ah UX.symm,ah (aa e6 IC)];exact e6
  rw[ai,<-Wx i (by omega),cR];have:=O0 t ij (show i<t.rows by rw[Q7];exact hi);rw[Nw,Ig,<-Ap]at this;rw[this,cR];rfl
 rintro σ H4 ⟨v5,v6,rfl,Iy,x4,b4,a4⟩;refine⟨_,rfl,(C:Int),rfl,(by omega),(by omega),λl7 Qj=>?_⟩;rw[om];let oe:Nat->Int:=λj=>((List.range R).map λk=>(cs.map Int.ofNat).getD (k*C+j) 0).sum;have lci:(cs.map Int.ofNat).length=R*C:=by rw[aE];exact lcs
 refine mq (n:=C) (λj H'=>(∀y o,H4 y=some o->H' y=some o)/\H' l7=some (.lst (((List.range j).map oe).map V.int))) ⟨λy o e=>by rw[ah (aa e Qj)];exact e,ai⟩ ?_ ?_
 .rintro j H5 hj ⟨k5,s5⟩;have hC5:=k5 _ _ (Iy _ _ hCs nxC);have e0:(0:Int)+(j:Int)=(j:Int):=by omega
  rw[ncs]at hC5;refine⟨rfl,_,rfl,_,rfl,_,rfl,_,rfl,_,rfl,aC,_,rfl,bp.of hC5,?_,λl8 IC=>?_⟩;.intro z;have z:(C:Int)=0:=bZ z;omega
  have ZF:l7≠l8:=aa s5 IC;refine⟨l8,_,rfl,bp.of ai,_,(by rw[ah ZF];exact s5),?_,?_,?_⟩;.rw[aE,aE,cZ];exact gq hj (hsz _ (by omega))
  .intro y o e;have n7:y≠l7:=aa e Qj;rw[ah n7,ah (aa (k5 y o e) IC)];exact k5 y o e
  rw[ai,iQ,cR,cR];have:pickNums (cs.map Int.ofNat) (some (0+(j:Int))) none (some (C:Int))=(List.range R).map λk=>(cs.map Int.ofNat).getD (k*C+j) 0:=by rw[e0];exact L4 R1 hj lci
  rw[this];rfl
 rintro H5 ⟨k5,s5⟩;have x5:=k5 _ _ x4;have a5:=k5 _ _ a4;have b5:=k5 _ _ b4;refine⟨_,rfl,x,CT,dx,_,_,rfl,x5,T.cl,T.nA,eZ,.inl ⟨rfl,_,bp.of a5⟩,_,rfl,_,rfl,l7,(List.range C).map oe,rfl,bp.of s5,(by show 1<=sizeLine;decide),λl8 IC=>?_⟩;have ZF:l7≠l8:=aa s5 IC;have ZE:aA≠l8:=aa a5 IC;refine⟨l7,l8,_,_,rfl,rfl,(by rw[ah ZF];exact s5),ai,(by rw[aE,aE,cZ];exact hsz _ (by show C+1<=1000;omega)),λl9 Vc=>?_⟩;have a6:upd H5 l8 (.lst [V.int ((List.range C).map oe).sum]) aA=some (.lst (((List.range (R*(C+1))).map λp=>(t.own p:Int)).map V.int)):=by rw[ah ZE];exact a5
 have nA9:aA≠l9:=aa a6 Vc;have hRC:(R+1)*(C+1)=R*(C+1)+(C+1):=i5 _ _;refine⟨aA,l9,_,_,rfl,rfl,(by rw[ah nA9];exact a6),ai,(by rw[aE,aE,cZ,dC,aE,aE,cZ];exact hsz _ (by show R*(C+1)+(C+1)<=1000;omega)),?_⟩;obtain⟨H6,eH6,k6,x6,a6',b6⟩:∃H6:Hp,H6=upd (upd (upd H5 l8 (.lst [V.int ((List.range C).map oe).sum])) l9 (.lst (((List.range C).map oe).map V.int++[V.int ((List.range C).map oe).sum]))) aA (.lst (((List.range (R*(C+1))).map λp=>(t.own p:Int)).map V.int++(((List.range C).map oe).map V.int++[V.int ((List.range C).map oe).sum])))/\(∀y o,H y=some o->y≠x->H6 y=some o)/\H6 x=some (.ins CT dx (ji R C aA aB))/\H6 aA=some (.lst ((dh t).map V.int))/\H6 aB=some (.dK []):=by
  have kk:∀y o,H5 y=some o->y≠aA->(upd (upd (upd H5 l8 (.lst [V.int ((List.range C).map oe).sum])) l9 (.lst (((List.range C).map oe).map V.int++[V.int ((List.range C).map oe).sum]))) aA (.lst (((List.range (R*(C+1))).map λp=>(t.own p:Int)).map V.int++(((List.range C).map oe).map V.int++[V.int ((List.range C).map oe).sum])))) y=some o:=λy o e n=>by
   have e6:upd H5 l8 (.lst [V.int ((List.range C).map oe).sum]) y=some o:=by rw[ah (aa e IC)];exact e
   rw[ah n,ah (aa e6 Vc)];exact e6
  refine⟨_,rfl,λy o e n=>kk y o (k5 _ _ (Iy y o e n)) (fA y o e n),kk _ _ x5 M8,?_,kk _ _ b5 UX.symm⟩;rw[ai];have:=L9 t;rw[Nw,Q7,Ig]at this;have e2:dh t=(List.range (R*(C+1))).map (λp=>(t.own p:Int))++((List.range C).map oe++[((List.range C).map oe).sum]):=by rw[<-this,Wx R (bx _)];unfold dh Tab.places;rw[Nw,Q7]
  rw[e2,cR,cR];rfl
 rw[<-eH6];refine⟨_,rfl,x,dx,_,rfl,x6,Bb,x,dx,aA,aB,R,C,rfl,x6,hR,hC,?_⟩;intro H7 lc s7 Nc c7;have nlc:∀y o,H6 y=some o->y≠lc:=λy o e=>aa e Nc;refine⟨_,rfl,lc,aK,_,_,rfl,bp.of c7,bp.of (s7 _ _ (k6 _ _ YB Zt)),?_⟩;let bl:List Int:=bs.map Int.ofNat;have Yu:bs.map nV=bl.map V.int:=uG bs;refine Fz (K:=K) (a:=lc) (b:=aK) (xs:=(cu R C).map nV) (ys:=bs.map nV) (λi σ H'=>∃v8 v9:Option V,σ=[some (.ref x),some (nV R),some (nV C),some (.ref aC),some (.ref aK),v5,v6,some (.ref l7),v8,v9,none]/\(∀y o,H6 y=some o->y≠aB->H' y=some o)/\H' lc=some (.lst ((cu R C).map nV))/\H' aB=some (.dK (gA ((((cu R C).zip bl).take i).filterMap λz=>if z.2=1 then some z.1 else none)))) ⟨none,none,rfl,λy o e _=>s7 y o e,c7,s7 _ _ b6⟩ ?_ ?_ ?_;.rintro i σ H8 ⟨_,_,_,k8,c8,_⟩;exact⟨bp.of c8,bp.of (k8 _ _ (k6 _ _ YB Zt) (fB _ _ YB Zt))⟩
 .rintro i u v σ H8 T8 Q6 hv Uw ⟨v8,v9,rfl,k8,c8,b8⟩;obtain⟨p,hp,rfl⟩:∃p,(cu R C)[i]?=some p/\u=nV p:=by rw[cC]at Q6;cases e:(cu R C)[i]? with|none=>rw[e]at Q6;cases Q6|some z=>rw[e]at Q6;exact⟨z,rfl,(bZ Q6).symm⟩
  obtain⟨q,hq,rfl⟩:∃q,bs[i]?=some q/\v=nV q:=by rw[cC]at hv;cases e:bs[i]? with|none=>rw[e]at hv;cases hv|some z=>rw[e]at hv;exact⟨z,rfl,(bZ hv).symm⟩
  have hz:((cu R C).zip bl)[i]?=some (p,(q:Int)):=by rw[yT];exact⟨hp,by show(bs.map Int.ofNat)[i]?=_;rw[cC,hq];rfl⟩
  have x8:=k8 _ _ x6 X5;have nB8:aB≠T8:=aa b8 Uw;have b8':upd H8 T8 (.tup [nV p,nV q]) aB=some (.dK (gA ((((cu R C).zip bl).take i).filterMap λz=>if z.2=1 then some z.1 else none))):=by rw[ah nB8];exact b8
  refine⟨T8,_,rfl,qb.of ai,rfl,_,_,rfl,_,_,rfl,rfl,?_⟩;refine⟨_,rfl,_,_,rfl,rfl,_,rfl,eu (λc=>?_) (λc=>?_)⟩
  .have c:(q:Int)=1:=cK c;have fresh:p∉(((cu R C).zip bl).take i).filterMap λz=>if z.2=1 then some z.1 else none:=by
    intro hm;obtain⟨⟨p',q'⟩,Q8,NA⟩:=tq.mp hm;obtain⟨j,hj⟩:=wD.mp Q8;have hji:j<i:=by have:=(fh.mp hj).1;rw[gT]at this;omega
    rw[yS hji,yT]at hj;have e1:(cu R C)[j]?=some p':=hj.1;have e2:p'=p:=by
     have NA:(if q'=1 then some p' else none)=some p:=NA;split at NA;.exact bZ NA
     cases NA
    rw[e2]at e1;have:=QB (Ab R C) e1 hp;omega
   have Xr:(gA ((((cu R C).zip bl).take i).filterMap λz=>if z.2=1 then some z.1 else none)).length<sizeLine:=by unfold gA;rw[aE];refine dX (cB (KU _ _) ?_) (by decide:300<sizeLine);rw[gT,JR,kL];have:R*C<=16*16:=lh hR hC;omega
   refine⟨_,rfl,x,CT,dx,_,_,rfl,(by rw[ah (aa x8 Uw)];exact x8),T.cl,T.nB,uM,_,rfl,aB,_,rfl,Gy.k (k:=Sum.inl (p:Int)) b8' Xr,?_⟩;refine⟨_,_,rfl,?_,?_,?_⟩;.intro y o e n;rw[ah n,ah (aa (k8 y o e n) Uw)];exact k8 y o e n
   .rw[ah (aI c8 b8 (by intro z;cases z)),ah (aa c8 Uw)];exact c8
   rw[ai,Bk _ (rM fresh),take_snoc hz,yP];have:[(p,(q:Int))].filterMap (λz=>if z.2=1 then some z.1 else none)=[p]:=by simp[c]
   rw[this];unfold gA;rw[cR];rfl
  have c:¬(q:Int)=1:=λz=>c (bq z);refine⟨_,_,rfl,?_,?_,?_⟩;.intro y o e n;rw[ah (aa (k8 y o e n) Uw)];exact k8 y o e n
  .rw[ah (aa c8 Uw)];exact c8
  rw[b8',take_snoc hz,yP];have:[(p,(q:Int))].filterMap (λz=>if z.2=1 then some z.1 else none)=[]:=by simp[c]
  rw[this,iG]
 rintro i σ H8 hi ⟨v8,v9,rfl,k8,c8,b8⟩;have hiz:i=((cu R C).zip bl).length:=by rw[hi,JR,aE,aE];show _=min _ (bs.map Int.ofNat).length;rw[aE]
 rw[hiz,iH]at b8;refine k H8 aA aB (λy o e n=>k8 y o (k6 y o e n) (fB y o e n)) YC ⟨k8 _ _ x6 X5,?_,b8⟩;have:=k8 _ _ a6' UX;rw[ht]at this;exact this
end
end Wh
end
section
namespace Wh
open PySem PySem.Spec PyProof.Rows L2
open FhHold (Tab)
open ak(dk PN aJ cI pr pc cX gX)
open Flow(a_ nZ dN et)
def gh(R C:Nat)(bs s:List Nat):List Nat:=s.filter λp=>decide (p∉fK R C (bs.map Int.ofNat))
def eQ(hp:p<(tabOf R C cs bs).places):p∈gh R C bs s↔aJ (tabOf R C cs bs) s p=true:=by
 unfold gh aJ;rw[gU,gW,qR (cs:=cs) hp,dA,fz];constructor
 .rintro⟨h1,h2⟩;refine⟨h1,?_⟩;cases q:cI (tabOf R C cs bs) p;.rfl
  exact absurd q h2
 rintro⟨h1,h2⟩;refine⟨h1,?_⟩;intro q;rw[q]at h2;cases h2
def pI{R C:Nat}{cs bs s:List Nat}{lo:List Int}{hi:List (Option Int)}(nn:uJ r (dh (tabOf R C cs bs)) lo hi R C (gh R C bs s)):nZ (PN (tabOf R C cs bs) s) (NN r lo hi) id id:=by
 have hm:r.tl.length=(tabOf R C cs bs).places:=by rw[nn.tl,d_,bJ]
 have hN:(NN r lo hi).m=(tabOf R C cs bs).places:=hm;refine⟨λp hp=>by rw[hN];exact hp,λe he=>by rw[hN]at he;exact he,λ_ _=>rfl,λ_ _=>rfl,λG=>by rw[hN];rfl,λp hp=>?_,λp hp=>?_,⟨id,id,λp hp=>⟨?_,?_,rfl,rfl⟩⟩⟩
 .have hp:p<(tabOf R C cs bs).places:=hp;show lo.getD p 0=if aJ (tabOf R C cs bs) s p=true then 0 else((tabOf R C cs bs).own p:Int);rw[nn.bd.lo p (by rw[bJ];exact hp),fE _ hp];by_cases c:p∈gh R C bs s;.rw[aw c,aw ((eQ hp).mp c)]
  rw[au c,au (λz=>c ((eQ hp).mpr z))]
 .have hp:p<(tabOf R C cs bs).places:=hp;show hi.getD p none=if aJ (tabOf R C cs bs) s p=true then none else some ((tabOf R C cs bs).own p:Int);rw[nn.bd.hi p (by rw[bJ];exact hp),fE _ hp];by_cases c:p∈gh R C bs s;.rw[aw c,aw ((eQ hp).mp c)]
  rw[au c,au (λz=>c ((eQ hp).mpr z))]
 .have hp:p<(tabOf R C cs bs).places:=hp;show r.tl.getD p 0=_;rw[nn.tl,qJ (by rw[bJ];exact hp)];rfl
 have hp:p<(tabOf R C cs bs).places:=hp;show r.hd.getD p 0=_;rw[nn.hd,qU (by rw[bJ];exact hp)];rfl
def vg{R C:Nat}{cs bs s:List Nat}{lo:List Int}{hi:List (Option Int)}(nn:uJ r (dh (tabOf R C cs bs)) lo hi R C (gh R C bs s)):a_ (NN r lo hi) (fl (dh (tabOf R C cs bs))):=by
 refine((pI nn).gI (ak.pP (tabOf R C cs bs) s)).congr ?_;intro p hp;have hp:p<(tabOf R C cs bs).places:=by have hp:p<r.tl.length:=hp;rw[nn.tl,d_,bJ]at hp;exact hp
 show((tabOf R C cs bs).own p:Int)=fl _ p;unfold fl;rw[fE _ hp]
def XG(CT:Addr)(vs:List V)(H:Hp)(Q:VK)(a dx aA aB aS:Addr)(R C:Nat)(cs bs s:List Nat):Prop:=vs=[.ref a,.ref aS]/\TabAt CT H a R C cs bs dx aA aB/\H aS=some (.lst (s.map nV))/\s.length<=300/\∀(H':Hp)(l:Addr),aY H H'->H l=none->H' l=some (.lst ((gh R C bs s).map nV))->Q (.ref l) H'
def ED(CT:Addr):Sp:=λvs H Q _=>∃a dx aA aB aS R C cs bs s,XG CT vs H Q a dx aA aB aS R C cs bs s
def XF(CT CN:Addr)(vs:List V)(H:Hp)(Q:VK)(a dx aA aB aS:Addr)(R C:Nat)(cs bs s:List Nat):Prop:=vs=[.ref a,.ref aS]/\TabAt CT H a R C cs bs dx aA aB/\H aS=some (.lst (s.map nV))/\R<=16/\C<=16/\s.length<=300/\(∀p,p∈s->p<(tabOf R C cs bs).places)/\∀(H':Hp)(r:NR)(lo:List Int)(hi:List (Option Int)),aY H H'->cy CN H' r (dh (tabOf R C cs bs)) lo hi->uJ r (dh (tabOf R C cs bs)) lo hi R C (gh R C bs s)->H r.la=none->H r.lb=none->H r.lc=none->H r.a=none->Q (.ref r.a) H'
def pA(CT CN:Addr):Sp:=λvs H Q _=>∃a dx aA aB aS R C cs bs s,XF CT CN vs H Q a dx aA aB aS R C cs bs s
section
variable {P:Program} {w:World} {K:PySem.W.Frag} {mg:Str->Option Value} {base:Heap}
def Jp:aM ["self","places","place"] ["self","places"] (ax Rt):=⟨rfl,rfl,rfl,by decide +kernel,rfl,by decide +kernel,by decide +kernel⟩
def S4(F:gE K "movable" "Table.movable" Rt f fd)(T:i_ K mg CT):ay P w K mg base bu 1 f fd ["self","places"] (ED CT):=by
 refine iU F Jp λvs H Q E h=>?_;obtain⟨a,dx,aA,aB,aS,R,C,cs,bs,Gd,rfl,Ta,hS,Z0,k⟩:=h;refine⟨rfl,λ_ _ _ _ hr=>?_⟩;have hu:=AO hr;refine⟨_,aq (aH (jU (own:=[("place",2)]) (g:=gg 2) (te:=cJ 2) (tt:=tB (E6 (cJ 2) (wd K (cJ 0) "blank_places"))) rfl Jp.nd (c9 (pv 1)) (dq (by rfl)) (λ_ _ _ _ _=>bb (i:=2) Jp.nd rfl (Or.inl rfl) (Or.inr rfl)) (λ_ _ _ _ _=>pH (cq (nF hu (pv 2) (az (pv 0) rfl)))) (λ_ _ _ _ _=>pv 2))),?_⟩;refine⟨_,rfl,aS,rfl,⟨_,bp.of hS⟩,λD hD=>?_⟩;refine kE (K:=K) (a:=aS) (xs:=Gd.map nV) (λi H'=>aY H H'/\H' D=some (.lst ((gh R C bs (Gd.take i)).map nV))) ⟨λb o e=>by rw[ah (aa e hD)];exact e,ai⟩ (λi H' _⟨s1,_⟩=>bp.of (s1 _ _ hS)) ?_ ?_
 .rintro i y H1 hy ⟨s1,qZ⟩;obtain⟨p,hp,rfl⟩:∃p,Gd[i]?=some p/\y=nV p:=by rw[cC]at hy;cases e:Gd[i]? with|none=>rw[e]at hy;cases hy|some z=>rw[e]at hy;exact⟨z,rfl,(bZ hy).symm⟩
  refine⟨rfl,_,rfl,_,rfl,a,CT,dx,_,_,rfl,s1 _ _ Ta.ins,T.cl,T.nB,uM,aB,_,rfl,sZ.k (k:=Sum.inl (p:Int)) (s1 _ _ Ta.hB),_,rfl,?_⟩;rw[wx];by_cases c:p∈fK R C (bs.map Int.ofNat);.rw[bq c];refine gM ⟨s1,?_⟩;rw[qZ,take_snoc hp];unfold gh;rw[lK,ll,au (by simp[c])];simp
  rw[cM c];refine eV ⟨_,rfl,_,qZ,?_,?_,?_⟩;.rw[aE];unfold gh;refine dX (cB (jo _ _) ?_) (by decide:300<sizeLine);rw[gT];omega
  .intro b o e;rw[ah (aa e hD)];exact s1 b o e
  rw[ai,take_snoc hp];unfold gh;rw[lK,ll,aw (by simp[c]),cR];rfl
 rintro H1 ⟨s1,qZ⟩;rw[aE,iH]at qZ;exact k H1 D s1 hD qZ
def WY:aM ["self","hidden"] ["self","hidden"] (ax Rr):=⟨rfl,rfl,rfl,by decide +kernel,rfl,by decide +kernel,by decide +kernel⟩
def S3(F:gE K "make_net" "Table.make_net" Rr f fd)(T:i_ K mg CT)(mgN:mg "Net"=some (.ref CN))(MN:Mk K CN fI)(GI:ay P w K mg base bu 3 fI x9 ["self","rows","columns","amounts","free"] (Du CN))(bI:Binds K x9 ["self","rows","columns","amounts","free"] [])(GM:ay P w K mg base bu 1 fM Ip ["self","places"] (ED CT))(bM:Binds K Ip ["self","places"] [])(mM:cU K CT "movable" fM):ay P w K mg base bu 5 f fd ["self","hidden"] (pA CT CN):=by
 refine iU F WY λvs H Q E h=>?_;obtain⟨a,dx,aA,aB,aS,R,C,cs,bs,Gd,rfl,Ta,hS,hR,hC,Z0,hpS,k⟩:=h;refine⟨rfl,λ_ _ _ _ hr=>?_⟩;refine⟨_,aq (aH (ni MN GI hr rfl mgN bI .nil aR (ag (az (pv 0) rfl) (ag (az (pv 0) rfl) (ag (az (pv 0) rfl) (ag (aV (pv 0) T.cl mM GM (hr.mono (by decide)) bM .nil aR (ag (pv 1) ao)) ao)))))),?_⟩;refine⟨_,rfl,a,CT,dx,_,_,rfl,Ta.ins,T.cl,T.nR,E3,_,rfl,a,CT,dx,_,_,rfl,Ta.ins,T.cl,T.nC,iK,_,rfl,a,CT,dx,_,_,rfl,Ta.ins,T.cl,T.nA,eZ,_,rfl,a,dx,_,rfl,Ta.ins,K9,_,rfl,a,dx,aA,aB,aS,R,C,cs,bs,Gd,rfl,Ta,hS,Z0,?_⟩;intro H1 D s1 _ qZ;have T1:=Ta.same s1;intro x IK hx Vk ndx;have keep:∀y o,H1 y=some o->upd (upd H1 IK (.own x)) x (.ins CN IK []) y=some o:=λy o e=>by rw[ah (aa e hx),ah (aa e Vk)];exact e
 refine⟨x,IK,aA,D,R,C,dh (tabOf R C cs bs),gh R C bs Gd,rfl,ai,keep _ _ T1.hA,keep _ _ qZ,hR,hC,bJ _,?_,?_,?_⟩;.unfold gh;exact cB (jo _ _) Z0
 .intro p hp;rw[bJ];exact hpS p (gU.mp hp).1
 intro H2 r lo hi ea k2 N2 nn n1 n2 n3;have low:∀y,upd (upd H1 IK (.own x)) x (.ins CN IK []) y=none->H y=none:=λy e=>by cases q:H y with|none=>rfl|some o=>rw[keep y o (s1 y o q)]at e;cases e
 have s2:aY H H2:=λy o e=>k2 y o (keep y o (s1 y o e)) (aa (s1 y o e) hx);refine⟨rfl,?_⟩;rw[<-ea];exact k H2 r lo hi s2 N2 nn (low _ n1) (low _ n2) (low _ n3) (by rw[ea];exact s1.free hx)
end
end Wh
end
section
namespace Wh
open PySem PySem.Spec PyProof.Rows L2
open FhHold (Tab)
open ak(dk PN aJ cI pr pc cX gX)
open Flow(a_ nZ dN et)
abbrev DD:Stmt:=top 29
abbrev uR:Stmt:=top 30
abbrev Dz:Stmt:=top 31
abbrev DA:Stmt:=top 32
abbrev DB:Stmt:=top 33
abbrev DC:Stmt:=top 34
structure rQ (mg:Str->Option Value):Prop where
  wl:∃t,mg "WRONG_LIST"=some (.int (-1) t)
  ob:∃t,mg "OUT_OF_BOUNDS"=some (.int (-2) t)
  np:∃t,mg "NO_PLACE"=some (.int (-4) t)
  ng:∃t,mg "NOT_GOOD"=some (.int (-5) t)
  tm:∃t,mg "TOO_MANY_PLACES"=some (.int (-6) t)
  nt:∃t,mg "NO_TABLE"=some (.int (-9) t)
  ml:∃t,mg "MOST_LINES"=some (.int 16 t)
  mc:∃t,mg "MOST_COUNT"=some (.int 1000000 t)
  lb:∃t,mg "LEAST_BOUND"=some (.int 2 t)
  mb:∃t,mg "MOST_BOUND"=some (.int 1000 t)
  mp:∃t,mg "MOST_BEST_PLACES"=some (.int 12 t)
def lY(t:Tab):Int->List Nat->Bool|_,[]=>true|b,a::l=>decide (b<(a:Int))&&(decide (a<t.places)&&lY t (a:Int) l)
theorem xh(t:Tab):∀(l:List Nat)(b:Int),lY t b l=((match l with|[]=>true|a::_=>decide (b<(a:Int)))&&FhF.isSet t l)
 |[],b=>rfl
 |[a],b=>by show(decide (b<(a:Int))&&(decide (a<t.places)&&true))=(decide (b<(a:Int))&&(true&&(decide (a<t.places)&&true)));simp
 |a::c::l,b=>by
  have ih:=xh t (c::l) (a:Int);show(decide (b<(a:Int))&&(decide (a<t.places)&&lY t (a:Int) (c::l)))=(decide (b<(a:Int))&&FhF.isSet t (a::c::l));rw[ih];unfold FhF.isSet;show(decide (b<(a:Int))&&(decide (a<t.places)&&(decide ((a:Int)<(c:Int))&&(FhHold.rises (c::l)&&(c::l).all λp=>decide (p<t.places)))))=(decide (b<(a:Int))&&((decide (a<c)&&FhHold.rises (c::l))&&(decide (a<t.places)&&(c::l).all λp=>decide (p<t.places))));have e:decide ((a:Int)<(c:Int))=decide (a<c):=by
   by_cases h:a<c;.rw[bq h,bq (by omega)]
   rw[cM h,cM (by omega)]
  rw[e];cases decide (b<(a:Int))<;>cases decide (a<t.places)<;>cases decide (a<c)<;>simp
def kZ(t:Tab)(l:List Nat):lY t (-1) l=FhF.isSet t l:=by rw[xh];cases l with|nil=>rfl|cons a l=>show(decide ((-1:Int)<(a:Int))&&_)=_;rw[bq (by omega),qo]
def iL(h:FhF.isSet t s=true):∀p,p∈s->p<t.places:=by unfold FhF.isSet at h;rw[dA,jR]at h;intro p hp;exact cK (h.2 p hp)
def PY(CT:Addr)(vs:List V)(H:Hp)(Q:VK)(a dx aA aB aS:Addr)(R C:Nat)(cs bs s:List Nat):Prop:=vs=[.ref a,.ref aS]/\TabAt CT H a R C cs bs dx aA aB/\H aS=some (.lst (s.map nV))/\Q (.bl (FhF.isSet (tabOf R C cs bs) s)) H
def kD(CT:Addr):Sp:=λvs H Q _=>∃a dx aA aB aS R C cs bs s,PY CT vs H Q a dx aA aB aS R C cs bs s
def PH(CT:Addr)(vs:List V)(H:Hp)(Q:VK)(a dx aA aB:Addr)(R C:Nat)(cs bs:List Nat)(p:Nat):Prop:=vs=[.ref a,nV p]/\TabAt CT H a R C cs bs dx aA aB/\∀(H':Hp)(l:Addr),aY H H'->H l=none->H' l=some (.lst ((HoldNeutral.told (FhF.told (tabOf R C cs bs) (.value p))).map V.int))->Q (.ref l) H'
def zq(CT:Addr):Sp:=λvs H Q _=>∃a dx aA aB R C cs bs p,PH CT vs H Q a dx aA aB R C cs bs p
section
variable {P:Program} {w:World} {K:PySem.W.Frag} {mg:Str->Option Value} {base:Heap}
def sf:aM ["table","numbers","before","number"] ["table","numbers"] (ax DD):=⟨rfl,rfl,rfl,by decide +kernel,rfl,by decide +kernel,by decide +kernel⟩
def Mj(F:gE K "is_set" "is_set" DD f fd)(T:i_ K mg CT)(GH:ay P w K mg base bu 1 fH wB ["self","place"] (wG CT))(bH:Binds K wB ["self","place"] [])(mH:cU K CT "has_place" fH):ay P w K mg base bu 2 f fd ["table","numbers"] (kD CT):=by
 refine iU F sf λvs H Q E h=>?_;obtain⟨a,dx,aA,aB,aS,R,C,cs,bs,l,rfl,Ta,hS,k⟩:=h;refine⟨rfl,λ_ _ _ _ hr=>?_⟩;refine⟨_,aj (bh (i:=2) sf.nd rfl (Or.inl rfl) (Qz K7 aU)) (aj (gd PassesOwn.never rfl (c9 (pv 1)) (bb (i:=3) sf.nd rfl (Or.inl rfl)) (aj (cG (tM (cq (EK (pv 3) (pv 2))) (qy (fm (dj (aV (pv 0) T.cl mH GH hr bH .nil aR (ag (pv 3) ao)))))).pt (aq (aH ou)) ba) (aq (bh (i:=2) sf.nd rfl (Or.inl rfl) (pv 3))))) (aq (aH ou))),?_⟩;obtain⟨t,ht⟩:∃t,t=tabOf R C cs bs:=⟨_,rfl⟩;have hlen:((dh (tabOf R C cs bs)).length:Int)=(t.places:Int):=by rw[bJ,ht]
 rw[<-ht]at k;refine⟨_,rfl,?_⟩;refine⟨_,rfl,aS,rfl,⟨_,bp.of hS⟩,fJ (K:=K) (a:=aS) (xs:=l.map nV) (λi σ H'=>∃(b:Int)(v3:Option V),H'=H/\σ=[some (.ref a),some (.ref aS),some (.int b),v3]/\lY t (-1) l=lY t b (l.drop i)) ⟨-1,none,rfl,rfl,rfl⟩ ?_ ?_ ?_⟩;.rintro i σ H' _ ⟨_,_,rfl,_⟩;exact bp.of hS
 .rintro i y σ H' hy ⟨b,v3,rfl,rfl,he⟩;obtain⟨p,hp,rfl⟩:∃p,l[i]?=some p/\y=nV p:=by rw[cC]at hy;cases e:l[i]? with|none=>rw[e]at hy;cases hy|some z=>rw[e]at hy;exact⟨z,rfl,(bZ hy).symm⟩
  have AS:l.drop i=p::l.drop (i+1):=by have hi:=(fh.mp hp).1;have e:=(fh.mp hp).2;rw[tJ hi,e]
  rw[AS]at he;have he:lY t (-1) l=(decide (b<(p:Int))&&(decide (p<t.places)&&lY t (p:Int) (l.drop (i+1)))):=he;refine⟨_,rfl,_,rfl,_,_,rfl,rfl,_,rfl,eu (λc=>?_) (λc=>?_)⟩;.have c:(p:Int)<=b:=cK c;refine eV ?_;rw[cM (by omega),ud,kZ]at he;rw[he]at k;exact k
  have c:¬(p:Int)<=b:=λz=>c (bq z);rw[bq (by omega),qo]at he;refine⟨_,rfl,a,dx,_,rfl,Ta.ins,yW,_,rfl,a,dx,aA,aB,R,C,_,(p:Int),rfl,Ta.ins,Ta.hA,_,rfl,?_⟩;rw[hlen];by_cases c2:p<t.places;.rw[bq (by omega:(p:Int)<(t.places:Int))];refine gM ?_;refine⟨_,rfl,(p:Int),_,rfl,rfl,?_⟩;rw[bq c2,qo]at he;exact he
  rw[cM (by omega:¬(p:Int)<(t.places:Int))];refine eV ?_;rw[cM c2,ud,kZ]at he;rw[he]at k;exact k
 rintro σ H' ⟨b,v3,rfl,rfl,he⟩;rw[aE,yD,kZ]at he;have he:FhF.isSet t l=true:=he;rw[he]at k;exact k
def OB:aM ["table","place"] ["table","place"] (ax Dz):=⟨rfl,rfl,rfl,by decide +kernel,rfl,by decide +kernel,by decide +kernel⟩
def Ma(F:gE K "value_answer" "value_answer" Dz f fd)(T:i_ K mg CT)(TC:rQ mg)(GH:ay P w K mg base bu 1 fH wB ["self","place"] (wG CT))(bH:Binds K wB ["self","place"] [])(mH:cU K CT "has_place" fH):ay P w K mg base bu 2 f fd ["table","place"] (zq CT):=by
 obtain⟨t4,h4⟩:=TC.np;refine iU F OB λvs H Q E h=>?_;obtain⟨a,dx,aA,aB,R,C,cs,bs,p,rfl,Ta,k⟩:=h;refine⟨rfl,λ_ _ _ _ hr=>?_⟩;refine⟨_,aj (cG (fm (dj (aV (pv 0) T.cl mH GH hr bH .nil aR (ag (pv 1) ao)))) (aq (aH (bK (ag (bj (v:=.int (-4)) rfl h4 ⟨_,rfl⟩) ao)))) ba) (aq (aH (bK (ag aU (ag (bF aW (az (pv 0) rfl) (pv 1) (λ_ _=>rfl)) ao))))),?_⟩;obtain⟨t,ht⟩:∃t,t=tabOf R C cs bs:=⟨_,rfl⟩;have hlen:((dh (tabOf R C cs bs)).length:Int)=(t.places:Int):=by rw[bJ,ht]
 rw[<-ht]at k;refine⟨_,rfl,a,dx,_,rfl,Ta.ins,yW,_,rfl,a,dx,aA,aB,R,C,_,(p:Int),rfl,Ta.ins,Ta.hA,_,rfl,?_⟩;rw[hlen];have keep:∀(l:Addr)(o:HO),H l=none->aY H (upd H l o):=λl o h b u e=>by rw[ah (aa e h)];exact e
 by_cases c:p<t.places
 .rw[bq (by omega:(p:Int)<(t.places:Int))];refine gM ?_;refine⟨_,rfl,a,CT,dx,_,_,rfl,Ta.ins,T.cl,T.nA,eZ,_,rfl,aA,_,_,_,rfl,rfl,bp.of Ta.hA,cj (eO (by rw[bJ,<-ht];exact c)),(by show 2<=sizeLine;decide),λl hl=>?_⟩;refine k _ l (keep l _ hl) hl ?_;rw[ai];have:FhF.told t (.value p)=⟨0,[t.own p],[]⟩:=by show(if t.places<=p then _ else _)=_;rw[au (by omega)]
  rw[this];show some (HO.lst [V.int 0,V.int ((dh (tabOf R C cs bs)).getD p 0)])=some (HO.lst [V.int 0,V.int (t.own p:Int)]);rw[<-ht,fE t c]
 rw[cM (by omega:¬(p:Int)<(t.places:Int))];refine eV ?_;refine⟨(by show 1<=sizeLine;decide),λl hl=>?_⟩;refine k _ l (keep l _ hl) hl ?_;rw[ai];have:FhF.told t (.value p)=FhF.says (-4):=by show(if t.places<=p then _ else _)=_;rw[aw (by omega)]
 rw[this];rfl
end
end Wh
end
section
namespace Wh
open PySem PySem.Spec PyProof.Rows L2
open FhHold (Tab)
open ak(dk PN aJ cI pr pc cX gX je eg)
open Flow(a_ nZ dN et)
structure Sz (R C:Nat) (cs bs:List Nat):Prop where
  r1:1<=R
  r:R<=16
  c1:1<=C
  c:C<=16
  lc:cs.length=R*C
  lb:bs.length=R*C
def Sz.size(h:Sz R C cs bs):ak.ic (tabOf R C cs bs):=⟨h.r,h.c⟩
def nZ.S_(I:nZ M N id id)(hp:p<M.m)(h:dN N p x):dN M p x:=I.min (p:=p) hp h
def nZ.Tb(I:nZ M N id id)(hp:p<M.m)(h:et N p x):et M p x:=I.max (p:=p) hp h
def nZ.kK(I:nZ M N id id)(h:Flow.e9 N p):Flow.e9 M p:=I.FD (p:=p) h
def PM(CT:Addr)(vs:List V)(H:Hp)(Q:VK)(a dx aA aB aS:Addr)(R C:Nat)(cs bs s:List Nat)(p:Nat):Prop:=vs=[.ref a,nV p,.ref aS]/\TabAt CT H a R C cs bs dx aA aB/\Sz R C cs bs/\H aS=some (.lst (s.map nV))/\s.length<=300/\∀(H':Hp)(l:Addr),aY H H'->H l=none->H' l=some (.lst ((HoldNeutral.told (FhF.told (tabOf R C cs bs) (.range p s))).map V.int))->Q (.ref l) H'
def zv(CT:Addr):Sp:=λvs H Q _=>∃a dx aA aB aS R C cs bs s p,PM CT vs H Q a dx aA aB aS R C cs bs s p
section
variable {P:Program} {w:World} {K:PySem.W.Frag} {mg:Str->Option Value} {base:Heap}
def zE:aM ["table","place","hidden","net","least"] ["table","place","hidden"] (ax DB):=⟨rfl,rfl,rfl,by decide +kernel,rfl,by decide +kernel,by decide +kernel⟩
def Me(F:gE K "range_answer" "range_answer" DB f fd)(T:i_ K mg CT)(TN:jz K mg CN)(TC:rQ mg)(GI:ay P w K mg base bu 2 fI x9 ["table","numbers"] (kD CT))(bI:Binds K x9 ["table","numbers"] [])(Nv:mg "is_set"=some (.ref fI))(kI:PySem.W.keepIn K (.ref fI)=true)(GH:ay P w K mg base bu 1 fH wB ["self","place"] (wG CT))(bH:Binds K wB ["self","place"] [])(mH:cU K CT "has_place" fH)(GN:ay P w K mg base bu 5 fN B7 ["self","hidden"] (pA CT CN))(bN:Binds K B7 ["self","hidden"] [])(mN:cU K CT "make_net" fN)(GD:ay P w K mg base bu 4 fD Uz ["self","place","way"] (pF CN))(bD:Binds K Uz ["self","place","way"] [])(mD:cU K CN "drive" fD):ay P w K mg base bu 6 f fd ["table","place","hidden"] (zv CT):=by
 obtain⟨t1,h1⟩:=TC.wl;obtain⟨t4,h4⟩:=TC.np;obtain⟨tD,hD⟩:=TN.dn;obtain⟨tU,hU⟩:=TN.up;refine iU F zE λvs H Q E h=>?_;obtain⟨a,dx,aA,aB,aS,R,C,cs,bs,l,p,rfl,Ta,sz,hS,hl,k⟩:=h;refine⟨rfl,λ_ _ _ _ hr=>?_⟩;have Ao:eY 1 _:=hr.mono (by decide);have U9:eY 2 _:=hr.mono (by decide);refine⟨_,aj (cG (fm (dj (c_ GI U9 rfl Nv kI bI .nil aR (ag (pv 0) (ag (pv 2) ao))))) (aq (aH (bK (ag (bj (v:=.int (-1)) rfl h1 ⟨_,rfl⟩) ao)))) ba) (aj (cG (fm (dj (aV (pv 0) T.cl mH GH Ao bH .nil aR (ag (pv 1) ao)))) (aq (aH (bK (ag (bj (v:=.int (-4)) rfl h4 ⟨_,rfl⟩) ao)))) ba) (aj (bh (i:=3) zE.nd rfl (Or.inl rfl) (aV (pv 0) T.cl mN GN hr bN .nil aR (ag (pv 2) ao))) (aj (cA (aV (pv 3) TN.cl mD GD (hr.mono (by decide)) bD .nil aR (ag (pv 1) (ag (bj (v:=.int (-1)) rfl hD ⟨_,rfl⟩) ao)))) (aj (bh (i:=4) zE.nd rfl (Or.inl rfl) (bF aW (az (pv 3) rfl) (pv 1) (λ_ _=>rfl))) (aj (cG (dj (aV (pv 3) TN.cl mD GD (hr.mono (by decide)) bD .nil aR (ag (pv 1) (ag (bj (v:=.int 1) rfl hU ⟨_,rfl⟩) ao)))) (aq (aH (bK (ag aU (ag (pv 4) ao))))) ba) (aq (aH (bK (ag aU (ag (pv 4) (ag (bF aW (az (pv 3) rfl) (pv 1) (λ_ _=>rfl)) ao))))))))))),?_⟩;obtain⟨t,ht⟩:∃t,t=tabOf R C cs bs:=⟨_,rfl⟩;have hlen:((dh (tabOf R C cs bs)).length:Int)=(t.places:Int):=by rw[bJ,ht]
 have hsz:ak.ic t:=by rw[ht];exact sz.size
 rw[<-ht]at k;have keep:∀(H1:Hp)(y:Addr)(o:HO),H1 y=none->aY H1 (upd H1 y o):=λH1 y o h b u e=>by rw[ah (aa e h)];exact e
 have low:∀{H1:Hp}{y:Addr},aY H H1->H1 y=none->H y=none:=λs1 e=>s1.free e;refine⟨_,rfl,_,rfl,a,dx,aA,aB,aS,R,C,cs,bs,l,rfl,Ta,hS,?_⟩;rw[<-ht];by_cases cS:FhF.isSet t l=true
 .rw[cS];refine⟨_,rfl,gM ?_⟩;refine⟨_,rfl,a,dx,_,rfl,Ta.ins,yW,_,rfl,a,dx,aA,aB,R,C,_,(p:Int),rfl,Ta.ins,Ta.hA,_,rfl,?_⟩;rw[hlen];by_cases cp:p<t.places
  .rw[bq (by omega:(p:Int)<(t.places:Int))];refine gM ?_;have iF:=iL cS;refine⟨_,rfl,a,dx,_,rfl,Ta.ins,Di,_,rfl,a,dx,aA,aB,aS,R,C,cs,bs,l,rfl,Ta,hS,sz.r,sz.c,hl,(by rw[<-ht];exact iF),?_⟩;intro H1 r lo hi s1 N1 nn na nb nc _;have I:=pI nn;have F1:=vg nn;rw[<-ht]at I F1 N1 nn;have hm:r.tl.length=t.places:=by rw[nn.tl,d_,bJ]
   have j_:p<r.tl.length:=by rw[hm];exact cp
   have hpM:p<(PN t l).m:=cp;refine⟨_,rfl,r.a,r.dx,_,rfl,N1.ins,mj,_,rfl,r,_,lo,hi,p,false,rfl,N1,j_,nn.wi,F1,?_⟩;intro H2 gk k2 N2 F2;refine⟨λp9=>?_,λe=>by cases e⟩;have mn:=nZ.S_ I hpM (Lq F2 j_ p9);have eL:fl gk p=(t.least l p:Int):=mn.uniq (ak.pT hsz l cp);have s2:aY H H2:=λy o e=>k2 y o (s1 y o e) (λq=>by rw[q,na]at e;cases e);refine⟨_,rfl,r.a,CN,r.dx,_,_,rfl,N2.ins,TN.cl,TN.nA,cP,_,rfl,r.la,_,_,_,rfl,rfl,bp.of N2.hA,cj (eO (by rw[N2.kf];exact j_)),?_⟩;have eL':gk.getD p 0=(t.least l p:Int):=eL;rw[eL'];have told:∀z,t.greatest l p=z->FhF.told t (.range p l)=match z with|some g=>⟨0,[t.least l p,g],[]⟩|none=>⟨1,[t.least l p],[]⟩:=by intro z hz;show(if FhF.isSet t l=false then _ else if t.places<=p then _ else match t.greatest l p with|some g=>_|none=>_)=_;rw[au (by rw[cS];simp),au (by omega),hz]
   have gr:=ak.mT hsz l cp;refine⟨_,rfl,r.a,r.dx,_,rfl,N2.ins,mj,_,rfl,r,_,lo,hi,p,true,rfl,N2,j_,nn.wi,F2,?_⟩;intro H3 Iu k3 N3 F3;have s3:aY H H3:=λy o e=>k3 y o (s2 y o e) (λq=>by rw[q,na]at e;cases e);refine⟨λp9=>?_,λ_ Rc=>?_⟩;.refine⟨_,rfl,gM ?_⟩;have mx:=nZ.Tb I hpM (Tp F3 j_ p9);cases q:t.greatest l p with|none=>rw[q]at gr;exact(mx.o8 gr).elim|some g=>rw[q]at gr;have eG:fl Iu p=(g:Int):=mx.uniq gr;have eG':Iu.getD p 0=(g:Int):=eG;refine⟨_,rfl,_,rfl,r.a,CN,r.dx,_,_,rfl,N3.ins,TN.cl,TN.nA,cP,_,rfl,r.la,_,_,_,rfl,rfl,bp.of N3.hA,cj (eO (by rw[N3.kf];exact j_)),(by show 3<=sizeLine;decide),λy hy=>?_⟩;refine k _ y (s3.trans (keep H3 y _ hy)) (low s3 hy) ?_;rw[ai,told _ q,eG'];rfl
   refine⟨_,rfl,eV ?_⟩;have en:=nZ.kK I Rc;cases q:t.greatest l p with|some g=>rw[q]at gr;exact(gr.o8 en).elim|none=>refine⟨_,rfl,(by show 2<=sizeLine;decide),λy hy=>?_⟩;refine k _ y (s3.trans (keep H3 y _ hy)) (low s3 hy) ?_;rw[ai,told _ q];rfl
  rw[cM (by omega:¬(p:Int)<(t.places:Int))];refine eV ⟨(by show 1<=sizeLine;decide),λy hy=>?_⟩;refine k _ y (keep H y _ hy) hy ?_;rw[ai];have:FhF.told t (.range p l)=FhF.says (-4):=by show(if FhF.isSet t l=false then _ else if t.places<=p then _ else _)=_;rw[au (by rw[cS];simp),aw (by omega)]
  rw[this];rfl
 have cS:FhF.isSet t l=false:=by simpa using cS
 rw[cS];refine⟨_,rfl,eV ⟨(by show 1<=sizeLine;decide),λy hy=>?_⟩⟩;refine k _ y (keep H y _ hy) hy ?_;rw[ai];have:FhF.told t (.range p l)=FhF.says (-1):=by show(if FhF.isSet t l=false then _ else _)=_;rw[aw cS]
 rw[this];rfl
end
end Wh
end
section
namespace Wh
open PySem PySem.Spec PyProof.Rows L2
open FhHold (Tab)
open ak(dk PN aJ cI pr pc cX gX je eg)
open Flow(a_ nZ dN et gj kG)
def PX(CT:Addr)(vs:List V)(H:Hp)(Q:VK)(a dx aA aB aS:Addr)(R C:Nat)(cs bs s:List Nat)(p le mo:Nat):Prop:=vs=[.ref a,nV p,nV le,nV mo,.ref aS]/\TabAt CT H a R C cs bs dx aA aB/\Sz R C cs bs/\H aS=some (.lst (s.map nV))/\s.length<=300/\∀(H':Hp)(l:Addr),aY H H'->H l=none->H' l=some (.lst ((HoldNeutral.told (FhF.told (tabOf R C cs bs) (.other p le mo s))).map V.int))->Q (.ref l) H'
def zz(CT:Addr):Sp:=λvs H Q _=>∃a dx aA aB aS R C cs bs s p le mo,PX CT vs H Q a dx aA aB aS R C cs bs s p le mo
section
variable {P:Program} {w:World} {K:PySem.W.Frag} {mg:Str->Option Value} {base:Heap}
def m7:aM ["table","place","least","most","hidden","net","cells","cell"] ["table","place","least","most","hidden"] (ax DC):=⟨rfl,rfl,rfl,by decide +kernel,rfl,by decide +kernel,by decide +kernel⟩
def vf{la lb lc ld le lf:Addr}:(iz la lb lc ld le lf).lookup ("bring_within":Str)=none:=by rfl
def Hr{la lb lc ld le lf:Addr}:(iz la lb lc ld le lf).lookup ("settle_lowest":Str)=none:=by rfl
def Mh{f fI fH fN fB fS fC CT CN:Addr}{fd x9 wB B7 Av p_ IJ:FuncData}(F:gE K "other_answer" "other_answer" DC f fd)(T:i_ K mg CT)(TN:jz K mg CN)(TC:rQ mg)(GI:ay P w K mg base bu 2 fI x9 ["table","numbers"] (kD CT))(bI:Binds K x9 ["table","numbers"] [])(Nv:mg "is_set"=some (.ref fI))(kI:PySem.W.keepIn K (.ref fI)=true)(GH:ay P w K mg base bu 1 fH wB ["self","place"] (wG CT))(bH:Binds K wB ["self","place"] [])(mH:cU K CT "has_place" fH)(GN:ay P w K mg base bu 5 fN B7 ["self","hidden"] (pA CT CN))(bN:Binds K B7 ["self","hidden"] [])(mN:cU K CT "make_net" fN)(GB:ay P w K mg base bu 5 fB Av ["self","place","least","most"] (pG CN))(bB:Binds K Av ["self","place","least","most"] [])(mB:cU K CN "bring_within" fB)(GS:ay P w K mg base bu 5 fS p_ ["self","place"] (uO CN))(bS:Binds K p_ ["self","place"] [])(mS:cU K CN "settle_lowest" fS)(GC:ay P w K mg base bu 1 fC IJ ["self"] (sd CT))(bC:Binds K IJ ["self"] [])(mC:cU K CT "cell_places" fC):ay P w K mg base bu 6 f fd ["table","place","least","most","hidden"] (zz CT):=by
 obtain⟨t1,h1⟩:=TC.wl;obtain⟨t4,h4⟩:=TC.np;refine iU F m7 λvs H Q E h=>?_;obtain⟨a,dx,aA,aB,aS,R,C,cs,bs,l,p,le,mo,rfl,Ta,sz,hS,hl,k⟩:=h;refine⟨rfl,λ_ _ _ _ hr=>?_⟩;have Ao:eY 1 _:=hr.mono (by decide);have U9:eY 2 _:=hr.mono (by decide);have hr4:eY 4 _:=hr.mono (by decide);refine⟨_,aj (cG (fm (dj (c_ GI U9 rfl Nv kI bI .nil aR (ag (pv 0) (ag (pv 4) ao))))) (aq (aH (bK (ag (bj (v:=.int (-1)) rfl h1 ⟨_,rfl⟩) ao)))) ba) (aj (cG (fm (dj (aV (pv 0) T.cl mH GH Ao bH .nil aR (ag (pv 1) ao)))) (aq (aH (bK (ag (bj (v:=.int (-4)) rfl h4 ⟨_,rfl⟩) ao)))) ba) (aj (cG (cq (wI (pv 2) (pv 3))) (aq (aH (bK (ag aU ao)))) ba) (aj (bh (i:=5) m7.nd rfl (Or.inr rfl) (aV (pv 0) T.cl mN GN hr bN .nil aR (ag (pv 4) ao))) (aj (cG (fm (dj (aV (pv 5) TN.cl mB GB hr bB .nil aR (ag (pv 1) (ag (pv 2) (ag (pv 3) ao)))))) (aq (aH (bK (ag aU ao)))) ba) (aj (bh (i:=6) m7.nd rfl (Or.inl rfl) (gZ (pv 0) T.cl mC GC Ao bC .nil aR)) (aj (gd PassesOwn.never rfl (c9 (pv 6)) (bb (i:=7) m7.nd rfl (Or.inl rfl)) (aq (cA (aV (pv 5) TN.cl mS GS hr bS .nil aR (ag (pv 7) ao))))) (aq (aH (dv kr (bK (ag aU ao)) (jU (own:=[("cell",7)]) (g:=gg 7) (te:=Ae (Gq K) (wd K (cJ 5) "amounts") (cJ 7)) rfl m7.nd (c9 (pv 6)) (dq (by rfl)) (λ_ _ _ _ _=>bb (i:=7) m7.nd rfl (Or.inl rfl) (Or.inr rfl)) (λ_ _ _ _ _=>gi) (λ_ _ _ _ _=>bF aW (az (pv 5) rfl) (pv 7) (λ_ _=>rfl)))))))))))),?_⟩;obtain⟨t,ht⟩:∃t,t=tabOf R C cs bs:=⟨_,rfl⟩;have hlen:((dh (tabOf R C cs bs)).length:Int)=(t.places:Int):=by rw[bJ,ht]
 have hsz:ak.ic t:=by rw[ht];exact sz.size
 have Q7:t.rows=R:=by rw[ht];rfl
 have Nw:t.cols=C:=by rw[ht];rfl
 rw[<-ht]at k;have keep:∀(H1:Hp)(y:Addr)(o:HO),H1 y=none->aY H1 (upd H1 y o):=λH1 y o h b u e=>by rw[ah (aa e h)];exact e
 have low:∀{H1:Hp}{y:Addr},aY H H1->H1 y=none->H y=none:=λs1 e=>s1.free e;refine⟨_,rfl,_,rfl,a,dx,aA,aB,aS,R,C,cs,bs,l,rfl,Ta,hS,?_⟩;rw[<-ht];by_cases cS:FhF.isSet t l=true
 .rw[cS];refine⟨_,rfl,gM ?_⟩;refine⟨_,rfl,a,dx,_,rfl,Ta.ins,yW,_,rfl,a,dx,aA,aB,R,C,_,(p:Int),rfl,Ta.ins,Ta.hA,_,rfl,?_⟩;rw[hlen];by_cases cp:p<t.places
  .rw[bq (by omega:(p:Int)<(t.places:Int))];refine gM ?_;have iF:=iL cS;have told:∀z,t.other l p le mo=z->FhF.told t (.other p le mo l)=match z with|some c=>⟨1,c,[]⟩|none=>FhF.says 0:=by intro z hz;show(if FhF.isSet t l=false then _ else if t.places<=p then _ else match t.other l p le mo with|some c=>_|none=>_)=_;rw[au (by rw[cS];simp),au (by omega),hz]
   have ok:=ak.Bp hsz l cp le mo;have none_:(¬∃g,je t l p le mo g)->FhF.told t (.other p le mo l)=FhF.says 0:=by intro hn;cases q:t.other l p le mo with|none=>exact told _ q|some c=>rw[q]at ok;obtain⟨f,hf,_⟩:=ok;exact absurd ⟨f,hf.1⟩ hn
   refine⟨_,rfl,_,rfl,_,_,rfl,rfl,_,rfl,eu (λc=>?_) (λc=>?_)⟩;.have c:(mo:Int)<(le:Int):=cK c;refine⟨(by show 1<=sizeLine;decide),λy hy=>?_⟩;refine k _ y (keep H y _ hy) hy ?_;rw[ai,none_ (by rintro⟨g,_,g1,g2⟩;omega)];rfl
   have c:¬(mo:Int)<(le:Int):=λz=>c (bq z);refine⟨_,rfl,a,dx,_,rfl,Ta.ins,Di,_,rfl,a,dx,aA,aB,aS,R,C,cs,bs,l,rfl,Ta,hS,sz.r,sz.c,hl,(by rw[<-ht];exact iF),?_⟩;intro H1 r lo hi s1 N1 nn na nb nc _;have I:=pI nn;have F1:=vg nn;rw[<-ht]at I F1 N1 nn;have hm:r.tl.length=t.places:=by rw[nn.tl,d_,bJ]
   have j_:p<r.tl.length:=by rw[hm];exact cp
   have Gc:p<(dh t).length:=by rw[bJ];exact cp
   have Jq:∀{Ha Hb:Hp},aY H Ha->lB r Ha Hb->aY H Hb:=λsa kb y o e=>kb y o (sa y o e) (λq=>by rw[q,na]at e;cases e) (λq=>by rw[q,nb]at e;cases e) (λq=>by rw[q,nc]at e;cases e);have bw:∀g,(a_ (NN r lo hi) g/\(le:Int)<=g p/\g p<=(mo:Int))↔je t l p le mo g:=λg=>⟨λh=>⟨I.eX h.1,h.2.1,h.2.2⟩,λh=>⟨I.gI h.1,h.2.1,h.2.2⟩⟩;refine⟨_,rfl,r.a,r.dx,_,rfl,N1.ins,vf,_,rfl,_,rfl,_,rfl,r,_,lo,hi,p,(le:Int),(mo:Int),rfl,N1,j_,nn.wi,F1,(by omega),?_,?_,?_,?_⟩
   .intro hn;rw[nn.bd.lo p Gc];have:=nn.bd.hi p Gc;rw[hn]at this;by_cases cf:p∈gh R C bs l;.rw[aw cf];omega
    rw[au cf]at this;cases this
   .intro z hz;rw[nn.bd.lo p Gc];have:=nn.bd.hi p Gc;rw[hz]at this;by_cases cf:p∈gh R C bs l;.rw[aw cf]at this;cases this
    rw[au cf]at this⊢;exact(bZ this).symm
   .intro H2 gk Na Ez k2 N2 W2 _ _ NZ F2;refine⟨_,rfl,gM ?_⟩;have s2:=Jq s1 k2;have Ta2:=Ta.same s2;refine⟨_,rfl,a,dx,_,rfl,Ta2.ins,Bb,a,dx,aA,aB,R,C,rfl,Ta2.ins,sz.r,sz.c,?_⟩;intro H3 aL s3 NF xZ;have N3:=N2.same s3;have sH3:aY H H3:=s2.trans s3;have Gg:∀c,c∈cu R C->c<r.tl.length:=λc hc=>by obtain⟨i,j,gL,NB,rfl⟩:=Ea.mp hc;rw[hm];have:=ak.EN t (i:=i) (j:=j) (by rw[Q7];omega) (by rw[Nw];omega);rw[Nw]at this;exact this
    have Ug:aL≠r.la/\aL≠r.lb/\aL≠r.lc:=⟨(aa N2.hA NF).symm,(aa N2.hL NF).symm,(aa N2.hH NF).symm⟩;refine⟨_,rfl,aL,rfl,⟨_,bp.of xZ⟩,fJ (K:=K) (a:=aL) (xs:=(cu R C).map nV) (λi σ H'=>∃(v7:Option V)(am jC:List Int)(gL:List (Option Int)),σ=[some (.ref a),some (nV p),some (nV le),some (nV mo),some (.ref aS),some (.ref r.a),some (.ref aL),v7]/\lB r H3 H'/\cy CN H' r am jC gL/\gv r jC gL/\a_ (NN r jC gL) (fl am)/\(∀f,gj (NN r jC gL) ((cu R C).drop i) f->gj (NN r Na Ez) (cu R C) f)) ⟨none,gk,Na,Ez,rfl,λy o e _ _ _=>e,N3,W2,F2,λf h=>h⟩ ?_ ?_ ?_⟩;.rintro i σ H' _ ⟨_,_,_,_,_,k4,_⟩;exact bp.of (k4 _ _ xZ Ug.1 Ug.2.1 Ug.2.2)
    .rintro i y σ H4 hy ⟨v7,am,jC,gL,rfl,k4,N4,W4,F4,Oi⟩;obtain⟨cc,hc,rfl⟩:∃cc,(cu R C)[i]?=some cc/\y=nV cc:=by rw[cC]at hy;cases e:(cu R C)[i]? with|none=>rw[e]at hy;cases hy|some z=>rw[e]at hy;exact⟨z,rfl,(bZ hy).symm⟩
     have ND:=Gg cc (du hc);have AS:(cu R C).drop i=cc::(cu R C).drop (i+1):=by have hi:=(fh.mp hc).1;have e:=(fh.mp hc).2;rw[tJ hi,e]
     refine⟨_,rfl,r.a,r.dx,_,rfl,N4.ins,Hr,_,rfl,r,am,jC,gL,cc,rfl,N4,ND,W4,F4,?_⟩;intro H5 NK k5 N5 W5 F5 mn5;have e1:cc<jC.length:=by rw[N4.oa];exact ND
     have e2:cc<gL.length:=by rw[N4.lG];exact ND
     refine⟨_,NK,_,_,rfl,λy o e n1 n2 n3=>k5 y o (k4 y o e n1 n2 n3) n1 n2 n3,N5,W5,?_,?_⟩;.rw[pL _ _ e1 e2];exact Flow.gG F5 (by omega) (λz hz=>by cases hz;omega)
     intro f hf;apply Oi;rw[AS];rw[pL _ _ e1 e2]at hf;exact gj.cons ND mn5 hf
    rintro σ H4 ⟨v7,am,jC,gL,rfl,k4,N4,W4,F4,Oi⟩;rw[aE]at Oi;have fin:gj (NN r Na Ez) (cu R C) (fl am):=Oi _ (by rw[yD];exact gj.nil F4);have s4:aY H H4:=Jq sH3 k4;have Ws:=k4 _ _ xZ Ug.1 Ug.2.1 Ug.2.2;have FI:kG (je t l p le mo) (cu R C) (fl am):=⟨(bw _).mp ((NZ _).mp fin.1),λg hg=>fin.2 g ((NZ g).mpr ((bw g).mpr hg))⟩;obtain⟨cL,hcL,ecL⟩:∃cL,t.other l p le mo=some cL/\cL.map Int.ofNat=(cu R C).map (fl am):=by
     cases q:t.other l p le mo with
     |none=>rw[q]at ok;exact absurd ⟨_,FI.1⟩ ok
     |some cL=>
      rw[q]at ok;obtain⟨f,hf,ef⟩:=ok;refine⟨cL,rfl,?_⟩;have hcp:eg t=cu R C:=by rw[B4,Q7,Nw]
      rw[hcp]at hf ef;rw[ef];exact hf.uniq FI
    refine⟨(by show 1<=sizeLine;decide),λy1 B_=>?_⟩;have s5:=keep H4 y1 (.lst [V.int 1]) B_;refine⟨_,rfl,aL,rfl,⟨_,bp.of (s5 _ _ Ws)⟩,λD hD=>?_⟩;refine kE (K:=K) (a:=aL) (xs:=(cu R C).map nV) (λi H'=>aY (upd H4 y1 (.lst [V.int 1])) H'/\H' D=some (.lst ((((cu R C).take i).map (fl am)).map V.int))) ⟨keep _ D _ hD,ai⟩ (λi H' _⟨s6,_⟩=>bp.of (s6 _ _ (s5 _ _ Ws))) ?_ ?_
    .rintro i y H6 hy ⟨s6,Yz⟩;obtain⟨cc,hc,rfl⟩:∃cc,(cu R C)[i]?=some cc/\y=nV cc:=by rw[cC]at hy;cases e:(cu R C)[i]? with|none=>rw[e]at hy;cases hy|some z=>rw[e]at hy;exact⟨z,rfl,(bZ hy).symm⟩
     have ND:=Gg cc (du hc);have N6:=(N4.same s5).same s6;refine⟨rfl,_,rfl,r.a,CN,r.dx,_,_,rfl,N6.ins,TN.cl,TN.nA,cP,_,rfl,r.la,_,_,_,rfl,rfl,bp.of N6.hA,cj (eO (by rw[N6.kf];exact ND)),_,Yz,?_,?_,?_⟩;.rw[aE,aE,gT];refine dX (yG _ _) ?_;rw[kL];have:R*C<=16*16:=lh sz.r sz.c;exact dX this (by decide)
     .intro b u e;rw[ah (aa e hD)];exact s6 b u e
     rw[ai,take_snoc hc,cR,cR];rfl
    rintro H6 ⟨s6,Yz⟩;rw[aE,iH]at Yz;have hy6:=s6 _ _ (ai (H:=H4) (a:=y1) (o:=.lst [V.int 1]));refine⟨y1,D,_,_,rfl,rfl,hy6,Yz,?_,λy2 sR=>?_⟩;.rw[aE,aE,kL];have:R*C<=16*16:=lh sz.r sz.c;exact cB (by show 1+R*C<=300;omega) (by decide)
    have s7:aY H H6:=(s4.trans s5).trans s6;refine k _ y2 (s7.trans (keep H6 y2 _ sR)) (low s7 sR) ?_;rw[ai,told _ hcL];show some (HO.lst ([V.int 1]++((cu R C).map (fl am)).map V.int))=some (HO.lst ((HoldNeutral.told ⟨1,cL,[]⟩).map V.int));rw[<-ecL];unfold HoldNeutral.told;rw[lI,iG];rfl
   intro H2 gk Na Ez k2 _ _ _ ES;refine⟨_,rfl,eV ?_⟩;have s2:=Jq s1 k2;refine⟨(by show 1<=sizeLine;decide),λy hy=>?_⟩;refine k _ y (s2.trans (keep H2 y _ hy)) (low s2 hy) ?_;rw[ai,none_ (by rintro⟨g,hg⟩;exact ES ⟨g,(bw g).mpr hg⟩)];rfl
  rw[cM (by omega:¬(p:Int)<(t.places:Int))];refine eV ⟨(by show 1<=sizeLine;decide),λy hy=>?_⟩;refine k _ y (keep H y _ hy) hy ?_;rw[ai];have:FhF.told t (.other p le mo l)=FhF.says (-4):=by show(if FhF.isSet t l=false then _ else if t.places<=p then _ else _)=_;rw[au (by rw[cS];simp),aw (by omega)]
  rw[this];rfl
 have cS:FhF.isSet t l=false:=by simpa using cS
 rw[cS];refine⟨_,rfl,eV ⟨(by show 1<=sizeLine;decide),λy hy=>?_⟩⟩;refine k _ y (keep H y _ hy) hy ?_;rw[ai];have:FhF.told t (.other p le mo l)=FhF.says (-1):=by show(if FhF.isSet t l=false then _ else _)=_;rw[aw cS]
 rw[this];rfl
end
end Wh
end
section
namespace Wh
open PySem PySem.Spec PyProof.Rows L2
section
variable {X:Cx}
def OP:List V->Hp->VK->Prop:=λvs H Q=>∃n:Nat,vs=[.int (n:Int)]/\∀a,H a=none->Q (.ref a) (upd H a (.QW 0 (n:Int)))
def HR:ox X (.type "range") OP:=by intro pins s σ H xs us Q I r h;obtain⟨n,rfl,q⟩:=h;obtain⟨u,rfl,t,rfl⟩:=vals1 r;refine call_range_1 ?_;exact⟨.ref s.heap.objs.size,_,I.laid (o:=.QW 0 (n:Int)) (λb o e=>ed _ e) (bx _) ⟨_,_,_,gu _ rfl⟩,rfl,q _ (I.dg.fresh (bx _))⟩
def L0:List V->Hp->VK->Prop:=λvs H Q=>∃(a:Addr)(n:Nat),vs=[.ref a]/\H a=some (.QW 0 (n:Int))/\n<=1000/\∀l,H l=none->Q (.ref l) (upd H l (.lst ((List.range n).map λi=>V.int ((i:Nat):Int))))
def wo:∀{n:Nat}{us:List Value},us.length=n->(∀(i:Nat)(v:Value),us[i]?=some v->∃t,v=.int ((i:Nat):Int) t)->ck ((List.range n).map λi=>V.int ((i:Nat):Int)) us:=by
 intro n;have gen:∀(us:List Value)(k:Nat),(∀(i:Nat)(v:Value),us[i]?=some v->∃t,v=.int ((k+i:Nat):Int) t)->ck ((List.range' k us.length).map λi=>V.int ((i:Nat):Int)) us:=by
  intro us;induction us with
  |nil=>intro k _;exact .nil
  |cons u us ih=>
   intro k h;rw[dr,List.range'_succ,cV];refine .cons ?_ (ih (k+1) λi v e=>?_);.obtain⟨t,e⟩:=h 0 u rfl;exact⟨t,e⟩
   obtain⟨t,e'⟩:=h (i+1) v e;exact⟨t,by rw[e'];congr 1;omega⟩
 intro us hl h;subst hl;rw[List.range_eq_range'];exact gen us 0 λi v e=>by obtain⟨t,e'⟩:=h i v e;exact⟨t,by rw[e',ql]⟩
def B0(hc:X.calm=true):ox X (.type "list") L0:=by
 intro pins s σ H xs us Q I r h;obtain⟨a,n,rfl,ha,hn,q⟩:=h;obtain⟨u,rfl,rx⟩:=vals1 r;cases rx;obtain⟨t1,t2,t3,e⟩:=I.dg a _ ha;have hsz:Builtin.Range.rangeSize 0 (n:Int) 1=(n:Int):=by rw[rangeSize_one];split<;>omega
 refine call_list_range (I.ok.hd hc) (show IsRange s.heap a 0 (n:Int) 1 t1 t2 t3 from e) (small_one (by omega) (by omega) (by omega) (by omega)) hsz (by omega) λh' tk acc c' hk hS aba=>?_;obtain⟨a1,a2⟩:=aba;have hlen:acc.toList.length=n:=by rw[tu];exact a1
 have hv:ck ((List.range n).map λi=>V.int ((i:Nat):Int)) acc.toList:=wo hlen λi v e=>by obtain⟨t,e'⟩:=a2 i v (by simpa using e);exact⟨t,by rw[e'];congr 1;omega⟩
 refine⟨.ref s.heap.objs.size,_,I.laid (t':=tk) hk (bx _) (show eK X.prog X.w _ h' _ (.lst _)from⟨?_,acc.toList,c',hv,by simpa using hS⟩),rfl,q _ (I.dg.fresh (bx _))⟩;rw[aE,cZ];exact cB hn (by decide)
def DI(K:PySem.W.Frag):V->List V->Hp->VK->Prop:=λx xs H Q=>∃(a:Addr)(ys:List V)(y:V),x=V.ref a/\xs=[y]/\bp K H a ys/\lA y=true/\ys.all lA=true/\Q (.int ((ys.countP λz=>Cc z y:Nat):Int)) H
theorem xM:∀{xs:List V}{us:List Value},ck xs us->xs.all lA=true->us.countP (Aw x)=xs.countP λy=>Cc y x|_,_,.nil,_=>rfl|y::xs,u::us,.cons r t,f=>by rw[Cy,dA]at f;rw[yC,yC,DO r f.1,xM t f.2]
def xo:YY X "list.count" (DI X.K):=by intro pins s σ H x xs v us Q I rx rxs h;obtain⟨a,ys,y,rfl,rfl,hs,fy,fys,q⟩:=h;cases rx;cases rxs with|cons ry rt=>rename_i uy ut;cases rt;obtain⟨b_,rv,⟨⟨cls,dd,data,sl⟩,n,ho,hc,hdn,hd⟩,hlen⟩:=I.list hs;simp only at hc hd;subst hc hd;refine call_meets De ⟨_,ho,rfl⟩ PySem.F.entry_list_count (PySem.F.args_list_count_2 _ _) (SeqAt.list_countAt a b_.toArray n dd sl uy (Aw y)) ⟨ho,λu' Q6=>j4 ry fy rv fys u' (by simpa using Q6),?_⟩;refine⟨.int _,H,I.tok _,⟨_,rfl⟩,?_⟩;rw[tz,xM rv fys];exact q
end
end Wh
end
section
namespace Wh
open PySem PySem.Spec PyProof.Rows L2
open FhHold (Tab)
def ff(sz:Sz R C cs bs):(tabOf R C cs bs).places<=289:=by show(R+1)*(C+1)<=289;have:=sz.r;have:=sz.c;exact cB (lh (by omega:R+1<=17) (by omega:C+1<=17)) (by decide)
def cH(H1:Hp)(y:Addr)(o:HO)(h:H1 y=none):aY H1 (upd H1 y o):=λb u e=>by rw[ah (aa e h)];exact e
def fq{α:Type}{g:α->V}{l:List α}{i:Nat}{y:V}(hy:(l.map g)[i]?=some y):∃p,l[i]?=some p/\y=g p:=by rw[cC]at hy;cases e:l[i]? with|none=>rw[e]at hy;cases hy|some z=>rw[e]at hy;exact⟨z,rfl,(bZ hy).symm⟩
def jf:Sp:=λvs H Q _=>∃k:Nat,vs=[nV k]/\Q (.bl (FhF.boundOk k)) H
def XN(CT:Addr)(vs:List V)(H:Hp)(Q:VK)(a dx aA aB:Addr)(R C:Nat)(cs bs:List Nat):Prop:=vs=[.ref a]/\TabAt CT H a R C cs bs dx aA aB/\Sz R C cs bs/\∀(H':Hp)(l:Addr),aY H H'->H l=none->H' l=some (.lst ((List.range (tabOf R C cs bs).places).map nV))->Q (.ref l) H'
def EE(CT:Addr):Sp:=λvs H Q _=>∃a dx aA aB R C cs bs,XN CT vs H Q a dx aA aB R C cs bs
def HV(CT:Addr)(vs:List V)(H:Hp)(Q:VK)(a dx aA aB:Addr)(R C:Nat)(cs bs:List Nat)(p k:Nat):Prop:=vs=[.ref a,nV p,nV k]/\TabAt CT H a R C cs bs dx aA aB/\p<(tabOf R C cs bs).places/\Q (.bl ((tabOf R C cs bs).small k p)) H
def j6(CT:Addr):Sp:=λvs H Q _=>∃a dx aA aB R C cs bs p k,HV CT vs H Q a dx aA aB R C cs bs p k
def MQ(CT:Addr)(vs:List V)(H:Hp)(Q:VK)(a dx aA aB:Addr)(R C:Nat)(cs bs:List Nat)(k:Nat):Prop:=vs=[.ref a,nV k]/\TabAt CT H a R C cs bs dx aA aB/\Sz R C cs bs/\∀(H':Hp)(l:Addr),aY H H'->H l=none->H' l=some (.lst (((tabOf R C cs bs).smalls k).map nV))->Q (.ref l) H'
def mf(CT:Addr):Sp:=λvs H Q _=>∃a dx aA aB R C cs bs k,MQ CT vs H Q a dx aA aB R C cs bs k
def PJ(CT:Addr)(vs:List V)(H:Hp)(Q:VK)(a dx aA aB:Addr)(R C:Nat)(cs bs:List Nat)(k:Nat):Prop:=vs=[.ref a,nV k]/\TabAt CT H a R C cs bs dx aA aB/\Sz R C cs bs/\∀(H':Hp)(l:Addr),aY H H'->H l=none->H' l=some (.lst ((HoldNeutral.told (FhF.told (tabOf R C cs bs) (.small k))).map V.int))->Q (.ref l) H'
def zr(CT:Addr):Sp:=λvs H Q _=>∃a dx aA aB R C cs bs k,PJ CT vs H Q a dx aA aB R C cs bs k
section
variable {P:Program} {w:World} {K:PySem.W.Frag} {mg:Str->Option Value} {base:Heap}
def Hc:aM ["number"] ["number"] (ax uR):=⟨rfl,rfl,rfl,by decide +kernel,rfl,by decide +kernel,by decide +kernel⟩
def D8(F:gE K "is_bound" "is_bound" uR f fd)(TC:rQ mg):ay P w K mg base bu 1 f fd ["number"] jf:=by
 obtain⟨tl,hl⟩:=TC.lb;obtain⟨tm,hm⟩:=TC.mb;refine iU F Hc λvs H Q E h=>?_;obtain⟨kb,rfl,k⟩:=h;refine⟨rfl,λ_ _ _ _ hr=>?_⟩;refine⟨_,aq (aH (uY pB pB (bj (v:=.int 2) rfl hl ⟨_,rfl⟩) (pv 0) (bj (v:=.int 1000) rfl hm ⟨_,rfl⟩))),?_⟩;refine⟨_,rfl,_,_,rfl,rfl,_,rfl,eu (λc1=>?_) (λc1=>?_)⟩
 .have c1:(2:Int)<=(kb:Int):=cK c1;refine⟨_,_,rfl,rfl,?_⟩;have:FhF.boundOk kb=decide ((kb:Int)<=1000):=by
   unfold FhF.boundOk;rw[bq (by omega:2<=kb),qo];by_cases c:kb<=1000;.rw[bq c,bq (by omega)]
   rw[cM c,cM (by omega)]
  rw[this]at k;exact k
 have c1:¬(2:Int)<=(kb:Int):=λz=>c1 (bq z);have:FhF.boundOk kb=false:=by unfold FhF.boundOk;rw[cM (by omega:¬2<=kb),ud]
 rw[this]at k;exact k
def W6:aM ["self"] ["self"] (ax Rx):=⟨rfl,rfl,rfl,by decide +kernel,rfl,by decide +kernel,by decide +kernel⟩
def ok_all(F:gE K "all_places" "Table.all_places" Rx f fd)(T:i_ K mg CT):ay P w K mg base bu 1 f fd ["self"] (EE CT):=by
 refine iU F W6 λvs H Q E h=>?_;obtain⟨a,dx,aA,aB,R,C,cs,bs,rfl,Ta,sz,k⟩:=h;refine⟨rfl,λ_ _ _ _ hr=>?_⟩;refine⟨_,aq (aH (fZ (B0 rfl) (by rfl) T.list rb (ag (fZ HR (by rfl) T.range PyProof.Rows.boot_range (ag (dS dF (by rfl) T.len oh (ag (az (pv 0) rfl) ao)) ao)) ao))),?_⟩;refine⟨_,rfl,a,CT,dx,_,_,rfl,Ta.ins,T.cl,T.nA,eZ,aA,_,rfl,.inl (bp.of Ta.hA),(tabOf R C cs bs).places,?_,λg hg=>?_⟩;.rw[aE,bJ]
 have iF:=ff sz;refine⟨g,(tabOf R C cs bs).places,rfl,ai,by omega,λl hl=>?_⟩;have s1:=cH H g (.QW 0 ((tabOf R C cs bs).places:Int)) hg;exact k _ l (s1.trans (cH _ l _ hl)) (s1.free hl) ai
def G_:aM ["self","place","bound"] ["self","place","bound"] (ax uN):=⟨rfl,rfl,rfl,by decide +kernel,rfl,by decide +kernel,by decide +kernel⟩
def D7(F:gE K "is_small" "Table.is_small" uN f fd)(T:i_ K mg CT):ay P w K mg base bu 1 f fd ["self","place","bound"] (j6 CT):=by
 refine iU F G_ λvs H Q E h=>?_;obtain⟨a,dx,aA,aB,R,C,cs,bs,p,kb,rfl,Ta,hp,k⟩:=h;refine⟨rfl,λ_ _ _ _ hr=>?_⟩;refine⟨_,aq (aH (uY pB Xd aU (bF aW (az (pv 0) rfl) (pv 1) (λ_ _=>rfl)) (pv 2))),?_⟩;obtain⟨t,ht⟩:∃t,t=tabOf R C cs bs:=⟨_,rfl⟩;rw[<-ht]at k hp;have hg:=eO (xs:=dh (tabOf R C cs bs)) (p:=p) (by rw[bJ,<-ht];exact hp);rw[<-ht,fE t hp]at hg;refine⟨_,rfl,a,CT,dx,_,_,rfl,Ta.ins,T.cl,T.nA,eZ,_,rfl,aA,_,_,_,rfl,rfl,bp.of Ta.hA,cj (by rw[<-ht];exact hg),_,_,rfl,rfl,_,rfl,eu (λc1=>?_) (λc1=>?_)⟩
 .have c1:(1:Int)<=(t.own p:Int):=cK c1;refine⟨_,rfl,_,_,rfl,rfl,?_⟩;have:t.small kb p=decide ((t.own p:Int)<(kb:Int)):=by
   unfold FhHold.Tab.small;rw[bq (by omega:1<=t.own p),qo];by_cases c:t.own p<kb;.rw[bq c,bq (by omega)]
   rw[cM c,cM (by omega)]
  rw[this]at k;exact k
 have c1:¬(1:Int)<=(t.own p:Int):=λz=>c1 (bq z);have:t.small kb p=false:=by unfold FhHold.Tab.small;rw[cM (by omega:¬1<=t.own p),ud]
 rw[this]at k;exact k
def uQ:aM ["self","bound","place"] ["self","bound"] (ax zp):=⟨rfl,rfl,rfl,by decide +kernel,rfl,by decide +kernel,by decide +kernel⟩
def Hl(F:gE K "small_places" "Table.small_places" zp f fd)(T:i_ K mg CT)(GA:ay P w K mg base bu 1 fA UA ["self"] (EE CT))(bA:Binds K UA ["self"] [])(mA:cU K CT "all_places" fA)(GS:ay P w K mg base bu 1 fS p_ ["self","place","bound"] (j6 CT))(bS:Binds K p_ ["self","place","bound"] [])(mS:cU K CT "is_small" fS):ay P w K mg base bu 2 f fd ["self","bound"] (mf CT):=by
 refine iU F uQ λvs H Q E h=>?_;obtain⟨a,dx,aA,aB,R,C,cs,bs,kb,rfl,Ta,sz,k⟩:=h;refine⟨rfl,λ_ _ _ _ hr=>?_⟩;refine⟨_,aq (aH (jU (own:=[("place",2)]) (g:=gg 2) (te:=cJ 2) (tt:=EB (rf CT "is_small" (j6 CT) [] E0 (cJ 0) (fb (cJ 2) (fb (cJ 1) iW)))) rfl uQ.nd (c9 (gZ (pv 0) T.cl mA GA hr bA .nil aR)) (dq (by rfl)) (λ_ _ _ _ _=>bb (i:=2) uQ.nd rfl (Or.inl rfl) (Or.inr rfl)) (λ_ _ _ _ _=>pH (dj (aV (pv 0) T.cl mS GS hr bS .nil aR (ag (pv 2) (ag (pv 1) ao))))) (λ_ _ _ _ _=>pv 2))),?_⟩;obtain⟨t,ht⟩:∃t,t=tabOf R C cs bs:=⟨_,rfl⟩;have iF:=ff sz;refine⟨_,rfl,a,dx,_,rfl,Ta.ins,K_,a,dx,aA,aB,R,C,cs,bs,rfl,Ta,sz,?_⟩;rw[<-ht]at k iF⊢;intro H1 l1 s1 _ h1;refine⟨l1,rfl,⟨_,bp.of h1⟩,λD hD=>?_⟩;refine kE (K:=K) (a:=l1) (xs:=(List.range t.places).map nV) (λi H'=>aY H1 H'/\H' D=some (.lst (((List.range i).filter (t.small kb)).map nV))) ⟨cH _ D _ hD,ai⟩ (λi H' _⟨s2,_⟩=>bp.of (s2 _ _ h1)) ?_ ?_
 .rintro i y H2 hy ⟨s2,wA⟩;obtain⟨p,hp,rfl⟩:=fq hy;obtain⟨hi,rfl⟩:i<t.places/\i=p:=by have:=fh.mp hp;obtain⟨h3,h4⟩:=this;rw[cZ]at h3;exact⟨h3,by simpa using h4⟩
  have T2:=Ta.same (s1.trans s2);have IA:∀b,t.small kb i=b->[i].filter (t.small kb)=if b=true then [i]else []:=λb hb=>by rw[ll,hb];cases b<;>rfl
  refine⟨rfl,_,rfl,a,dx,_,rfl,T2.ins,vy,_,rfl,_,rfl,a,dx,aA,aB,R,C,cs,bs,i,kb,rfl,T2,(by rw[<-ht];exact hi),_,rfl,?_⟩;rw[<-ht];cases e:t.small kb i with
  |true=>
   refine eV ⟨_,rfl,_,wA,?_,?_,?_⟩;.rw[aE];refine dX (cB (jo _ _) ?_) (by decide:300<sizeLine);rw[cZ];omega
   .intro b u e';rw[ah (aa e' hD)];exact s2 b u e'
   rw[ai,iQ,lK,IA _ e,cR];rfl
  |false=>refine gM ⟨s2,?_⟩;rw[wA,iQ,lK,IA _ e];simp
 rintro H2 ⟨s2,wA⟩;rw[aE,cZ]at wA;exact k H2 D (s1.trans s2) (s1.free hD) wA
def OC:aM ["table","bound"] ["table","bound"] (ax DA):=⟨rfl,rfl,rfl,by decide +kernel,rfl,by decide +kernel,by decide +kernel⟩
def Mb(F:gE K "small_answer" "small_answer" DA f fd)(T:i_ K mg CT)(TC:rQ mg)(GB:ay P w K mg base bu 1 fB Av ["number"] jf)(bB:Binds K Av ["number"] [])(Q4:mg "is_bound"=some (.ref fB))(kB:PySem.W.keepIn K (.ref fB)=true)(GS:ay P w K mg base bu 2 fS p_ ["self","bound"] (mf CT))(bS:Binds K p_ ["self","bound"] [])(mS:cU K CT "small_places" fS):ay P w K mg base bu 3 f fd ["table","bound"] (zr CT):=by
 obtain⟨t2,h2⟩:=TC.ob;refine iU F OC λvs H Q E h=>?_;obtain⟨a,dx,aA,aB,R,C,cs,bs,kb,rfl,Ta,sz,k⟩:=h;refine⟨rfl,λ_ _ _ _ hr=>?_⟩;refine⟨_,aj (cG (fm (dj (c_ GB (hr.mono (by decide)) rfl Q4 kB bB .nil aR (ag (pv 1) ao)))) (aq (aH (bK (ag (bj (v:=.int (-2)) rfl h2 ⟨_,rfl⟩) ao)))) ba) (aq (aH (dv kr (bK (ag aU ao)) (aV (pv 0) T.cl mS GS hr bS .nil aR (ag (pv 1) ao))))),?_⟩;obtain⟨t,ht⟩:∃t,t=tabOf R C cs bs:=⟨_,rfl⟩;have iF:=ff sz;rw[<-ht]at k iF;refine⟨_,rfl,kb,rfl,?_⟩;cases bo:FhF.boundOk kb with
 |false=>
  refine⟨_,rfl,eV ⟨(by show 1<=sizeLine;decide),λy hy=>?_⟩⟩;refine k _ y (cH H y _ hy) hy ?_;have:FhF.told t (.small kb)=FhF.says (-2):=by show(if FhF.boundOk kb=false then _ else _)=_;rw[aw bo]
  rw[ai,this];rfl
 |true=>
  refine⟨_,rfl,gM ⟨(by show 1<=sizeLine;decide),λy1 B_=>?_⟩⟩;have s1:=cH H y1 (.lst [V.int 0]) B_;have T1:=Ta.same s1;refine⟨_,rfl,a,dx,_,rfl,T1.ins,qI,_,rfl,a,dx,aA,aB,R,C,cs,bs,kb,rfl,T1,sz,?_⟩;rw[<-ht];intro H2 D s2 _ wA;have sR:=s2 _ _ (ai (H:=H) (a:=y1) (o:=.lst [V.int 0]));refine⟨y1,D,_,_,rfl,rfl,sR,wA,?_,λy3 U7=>?_⟩;.rw[aE];unfold FhHold.Tab.smalls FhHold.Tab.all;refine cB (Kr (jo _ _) _) ?_;rw[cZ];exact cB (by show 1+t.places<=300;omega) (by decide)
  have s4:aY H H2:=s1.trans s2;refine k _ y3 (s4.trans (cH H2 y3 _ U7)) (s4.free U7) ?_;rw[ai];have:FhF.told t (.small kb)=⟨0,t.smalls kb,[]⟩:=by show(if FhF.boundOk kb=false then _ else _)=_;rw[au (by rw[bo];simp)]
  rw[this];show some (HO.lst ([V.int 0]++(t.smalls kb).map nV))=some (HO.lst ((HoldNeutral.told ⟨0,t.smalls kb,[]⟩).map V.int));unfold HoldNeutral.told;rw[lI,iG,uG];rfl
end
end Wh
end
section
namespace Wh
open PySem PySem.Spec PyProof.Rows L2
open FhHold (Tab)
abbrev DF:Stmt:=top 28
def VI(c b:Nat):Prop:=c<=1000000/\b<=1/\(b=1->c=0)
def j7:FhF.right (tabOf R C cs bs) bs=true↔cs.length=R*C/\bs.length=R*C/\∀(j c b:Nat),cs[j]?=some c->bs[j]?=some b->VI c b:=by
 unfold FhF.right;simp only[dA,i4,jR,gW];have eb:∀i,(tabOf R C cs bs).isBlank i=((bs[i]?).map λx=>x==1).getD false:=λi=>by show(bs.map λx=>x==1).getD i false=_;rw[eI,cC]
 have ec:∀i,(tabOf R C cs bs).cells.getD i 0=(cs[i]?).getD 0:=λi=>by show cs.getD i 0=_;rw[eI]
 constructor
 .rintro⟨h1,h2,h3,h4,h5⟩;have h1:cs.length=R*C:=h1;have h2:bs.length=R*C:=h2;refine⟨h1,h2,λj c b hc hb=>⟨h3 c (du hc),h4 b (du hb),λe=>?_⟩⟩;have hj:j<R*C:=by rw[<-h1];exact(fh.mp hc).1
  have:=h5 j (dM.mpr hj);rw[eb,ec,hb,hc,e]at this;simpa using this
 rintro⟨h1,h2,h3⟩;refine⟨h1,h2,?_,?_,?_⟩
 .intro c hc;obtain⟨j,hj⟩:=wD.mp hc;have hl:j<bs.length:=by rw[h2,<-h1];exact(fh.mp hj).1
  exact(h3 j c bs[j] hj (dZ hl)).1
 .intro b hb;obtain⟨j,hj⟩:=wD.mp hb;have hl:j<cs.length:=by rw[h1,<-h2];exact(fh.mp hj).1
  exact(h3 j cs[j] b (dZ hl) hj).2.1
 intro j hj;have hj:j<R*C:=dM.mp hj;have l1:j<cs.length:=by rw[h1];exact hj
 have l2:j<bs.length:=by rw[h2];exact hj
 rw[eb,ec,dZ l1,dZ l2];have:=(h3 j cs[j] bs[j] (dZ l1) (dZ l2)).2.2;show(!(bs[j]==1) || cs[j]==0)=true;by_cases e:bs[j]=1;.rw[this e];simp
 simp[e]
def RN{c A B:Prop}[Decidable c](h1:¬c->A)(h2:c->B):if (!decide c)=true then A else B:=by
 by_cases h:c;.rw[bq h];exact gM (h2 h)
 rw[cM h];exact eV (h1 h)
def sV(R C:Nat)(cs bs:List Nat):V:=if R<1\/16<R\/C<1\/16<C then .int (-2)else if FhF.right (tabOf R C cs bs) bs=false then .int (-1)else .dQ
def XM(vs:List V)(H:Hp)(Q:VK)(aC aK:Addr)(R C:Nat)(cs bs:List Nat):Prop:=vs=[nV R,nV C,.ref aC,.ref aK]/\H aC=some (.lst (cs.map nV))/\H aK=some (.lst (bs.map nV))/\∀H',aY H H'->Q (sV R C cs bs) H'
def Jn:Sp:=λvs H Q _=>∃aC aK R C cs bs,XM vs H Q aC aK R C cs bs
section
variable {P:Program} {w:World} {K:PySem.W.Frag} {mg:Str->Option Value} {base:Heap}
def zG:aM ["rows","columns","counts","blanks","count","blank"] ["rows","columns","counts","blanks"] (ax DF):=⟨rfl,rfl,rfl,by decide +kernel,rfl,by decide +kernel,by decide +kernel⟩
def Mq(F:gE K "begin_refusal" "begin_refusal" DF f fd)(TC:rQ mg)(len:mg "len"=none)(zip:mg "zip"=none):ay P w K mg base bu 1 f fd ["rows","columns","counts","blanks"] Jn:=by
 obtain⟨t1,h1⟩:=TC.wl;obtain⟨t2,h2⟩:=TC.ob;obtain⟨tl,hl⟩:=TC.ml;obtain⟨tm,hm⟩:=TC.mc;refine iU F zG λvs H Q E h=>?_;obtain⟨aC,aK,R,C,cs,bs,rfl,hC,hK,k⟩:=h;refine⟨rfl,λ_ _ _ _ hr=>?_⟩;refine⟨_,aj (cG (tM (fm (Bm pB pB aU (pv 0) (bj (v:=.int 16) (by rfl) hl ⟨_,rfl⟩))) (qy (fm (Bm pB pB aU (pv 1) (bj (v:=.int 16) (by rfl) hl ⟨_,rfl⟩))))).pt (aq (aH (bj (v:=.int (-2)) rfl h2 ⟨_,rfl⟩))) ba) (aj (cG (tM (cq (qA (dS dF (by rfl) len oh (ag (pv 2) ao)) (dv qB (pv 0) (pv 1)))) (qy (cq (qA (dS dF (by rfl) len oh (ag (pv 3) ao)) (dv qB (pv 0) (pv 1)))))).pt (aq (aH (bj (v:=.int (-1)) rfl h1 ⟨_,rfl⟩))) ba) (aj (gd PassesOwn.never rfl (Lg rfl zip (ag (pv 2) (ag (pv 3) ao))) (qz (n:=2) rfl (eP (bb (i:=4) zG.nd rfl (Or.inl rfl)) (eP (bb (i:=5) zG.nd rfl (Or.inl rfl)) m_))) (aq (cG (tM (cq (wI (pv 4) (bj (v:=.int 1000000) (by rfl) hm ⟨_,rfl⟩))) (tM (cq (wI (pv 5) aU)) (qy (zd (cq (gy (pv 5) aU)) (zI (cq (qA (pv 4) aU)))).pt))).pt (aq (aH (bj (v:=.int (-1)) rfl h1 ⟨_,rfl⟩))) ba))) (aq (aH jO)))),?_⟩;have Oj:(R<1\/16<R\/C<1\/16<C)->Q (.int (-2)) H:=λe=>by have:=k H (aY.refl H);unfold sV at this;rw[aw e]at this;exact this
 have Sj:¬(R<1\/16<R\/C<1\/16<C)->FhF.right (tabOf R C cs bs) bs=false->∀H',aY H H'->Q (.int (-1)) H':=λe e2 H' s'=>by have:=k H' s';unfold sV at this;rw[au e,aw e2]at this;exact this
 have good:¬(R<1\/16<R\/C<1\/16<C)->FhF.right (tabOf R C cs bs) bs=true->∀H',aY H H'->Q .dQ H':=λe e2 H' s'=>by have:=k H' s';unfold sV at this;rw[au e,au (by rw[e2];simp)]at this;exact this
 have rest:¬(R<1\/16<R\/C<1\/16<C)->(∀(Z:Prop),Z->Z)->True:=λ_ _=>trivial;refine⟨_,rfl,_,_,rfl,rfl,_,rfl,eu (λc1=>?_) (λc1=>?_)⟩
 .have c1:(1:Int)<=(R:Int):=cK c1;refine⟨_,_,rfl,rfl,_,rfl,?_⟩;by_cases c2:(R:Int)<=16
  .rw[bq c2];refine gM ?_;refine⟨_,rfl,_,_,rfl,rfl,_,rfl,eu (λc3=>?_) (λc3=>?_)⟩
   .have c3:(1:Int)<=(C:Int):=cK c3;refine⟨_,_,rfl,rfl,_,rfl,?_⟩;by_cases c4:(C:Int)<=16
    .rw[bq c4];refine gM ?_;have nb:¬(R<1\/16<R\/C<1\/16<C):=by omega
     have eM:(R:Int)*(C:Int)=((R*C:Nat):Int):=by rw[oJ]
     refine⟨_,rfl,aC,_,rfl,.inl (bp.of hC),_,rfl,_,rfl,_,_,rfl,rfl,.inl ⟨by omega,by omega⟩,_,_,rfl,rfl,_,rfl,RN (λd1=>?_) (λd1=>?_)⟩
     .rw[aE,eM]at d1;refine eV (Sj nb ?_ H (aY.refl H));cases q:FhF.right (tabOf R C cs bs) bs;.rfl
      exact absurd (by rw[(j7.mp q).1]) d1
     rw[aE,eM]at d1;have d1:cs.length=R*C:=by omega
     refine⟨_,rfl,aK,_,rfl,.inl (bp.of hK),_,rfl,_,rfl,_,_,rfl,rfl,.inl ⟨by omega,by omega⟩,_,_,rfl,rfl,_,rfl,RN (λd2=>?_) (λd2=>?_)⟩
     .rw[aE,eM]at d2;refine Sj nb ?_ H (aY.refl H);cases q:FhF.right (tabOf R C cs bs) bs;.rfl
      exact absurd (by rw[(j7.mp q).2.1]) d2
     rw[aE,eM]at d2;have d2:bs.length=R*C:=by omega
     refine⟨_,rfl,_,rfl,aC,aK,_,_,rfl,bp.of hC,bp.of hK,?_⟩;refine Fz (K:=K) (a:=aC) (b:=aK) (xs:=cs.map nV) (ys:=bs.map nV) (λi σ H'=>∃v4 v5:Option V,σ=[some (nV R),some (nV C),some (.ref aC),some (.ref aK),v4,v5]/\aY H H'/\∀(j c b:Nat),j<i->cs[j]?=some c->bs[j]?=some b->VI c b) ⟨none,none,rfl,aY.refl H,λj _ _ hj=>by omega⟩ ?_ ?_ ?_;.rintro i σ H' ⟨_,_,_,s',_⟩;exact⟨bp.of (s' _ _ hC),bp.of (s' _ _ hK)⟩
     .rintro i u v σ H' T' hu hv hT' ⟨v4,v5,rfl,s',ok⟩;obtain⟨c,hc,rfl⟩:∃c,cs[i]?=some c/\u=nV c:=by rw[cC]at hu;cases e:cs[i]? with|none=>rw[e]at hu;cases hu|some z=>rw[e]at hu;exact⟨z,rfl,(bZ hu).symm⟩
      obtain⟨b,hb,rfl⟩:∃b,bs[i]?=some b/\v=nV b:=by rw[cC]at hv;cases e:bs[i]? with|none=>rw[e]at hv;cases hv|some z=>rw[e]at hv;exact⟨z,rfl,(bZ hv).symm⟩
      have s2:aY H (upd H' T' (.tup [nV c,nV b])):=λy o e=>by rw[ah (aa (s' y o e) hT')];exact s' y o e
      have stop:¬VI c b->Q (.int (-1)) (upd H' T' (.tup [nV c,nV b])):=λe=>by
       refine Sj nb ?_ _ s2;cases q:FhF.right (tabOf R C cs bs) bs;.rfl
       exact absurd ((j7.mp q).2.2 i c b hc hb) e
      have next:VI c b->∀(w4 w5:Option V),∃v4 v5:Option V,[some (nV R),some (nV C),some (V.ref aC),some (V.ref aK),w4,w5]=[some (nV R),some (nV C),some (.ref aC),some (.ref aK),v4,v5]/\aY H (upd H' T' (.tup [nV c,nV b]))/\∀(j c b:Nat),j<i+1->cs[j]?=some c->bs[j]?=some b->VI c b:=λe w4 w5=>by
       refine⟨w4,w5,rfl,s2,λj c' b' hj IF hb'=>?_⟩;by_cases q:j<i;.exact ok j c' b' q IF hb'
       have:j=i:=by omega
       subst this;rw[hc]at IF;cases IF;rw[hb]at hb';cases hb';exact e
      refine⟨T',_,rfl,qb.of ai,rfl,_,_,rfl,_,_,rfl,rfl,?_⟩;refine⟨_,rfl,_,_,rfl,rfl,_,rfl,eu (λe1=>?_) (λe1=>?_)⟩;.have e1:(1000000:Int)<(c:Int):=cK e1;exact eV (stop (λz=>by have:=z.1;omega))
      have e1:¬(1000000:Int)<(c:Int):=λz=>e1 (bq z);refine⟨_,rfl,_,_,rfl,rfl,_,rfl,eu (λe2=>?_) (λe2=>?_)⟩;.have e2:(1:Int)<(b:Int):=cK e2;exact eV (stop (λz=>by have:=z.2.1;omega))
      have e2:¬(1:Int)<(b:Int):=λz=>e2 (bq z);refine⟨_,rfl,_,_,rfl,rfl,_,rfl,eu (λe3=>?_) (λe3=>?_)⟩
      .have e3:(b:Int)=1:=cK e3;refine⟨_,rfl,_,_,rfl,rfl,_,rfl,RN (λe4=>?_) (λe4=>?_)⟩;.exact stop (λz=>e4 (by have:=z.2.2 (by omega);omega))
       exact next ⟨by omega,by omega,λ_=>by omega⟩ _ _
      have e3:¬(b:Int)=1:=λz=>e3 (bq z);exact gM (next ⟨by omega,by omega,λz=>absurd (by omega) e3⟩ _ _)
     rintro i σ H' hi ⟨v4,v5,rfl,s',ok⟩;refine good nb (j7.mpr ⟨d1,d2,λj c b hc hb=>ok j c b ?_ hc hb⟩) H' s';have l1:=(fh.mp hc).1;have l2:=(fh.mp hb).1;rw[hi,aE,aE];omega
    rw[cM c4];exact eV (Oj (by omega))
   have c3:¬(1:Int)<=(C:Int):=λz=>c3 (bq z);exact⟨_,rfl,eV (Oj (by omega))⟩
  rw[cM c2];exact eV (eV (Oj (by omega)))
 have c1:¬(1:Int)<=(R:Int):=λz=>c1 (bq z);exact⟨_,rfl,eV (eV (Oj (by omega)))⟩
end
end Wh
end
section
namespace Wh
open PySem PySem.Spec PyProof.Rows L2
abbrev AY:Stmt:=top 27
abbrev Jx:Stmt:=inClass AY 0
abbrev Jv:Stmt:=inClass AY 1
abbrev RD:Stmt:=inClass AY 2
abbrev Jw:Stmt:=inClass AY 3
abbrev Jy:Stmt:=inClass AY 4
def Af(aQ:Addr)(pos:Int):List (Str×V):=[("calls",.ref aQ),("position",.int pos)]
def Zq(v:V):List (Str×V):=[("calls",v)]
section
variable {aQ:Addr} {pos:Int}
def uU:(Af aQ pos).lookup ("calls":Str)=some (.ref aQ):=by rfl
def uz:(Af aQ pos).lookup ("position":Str)=some (.int pos):=by rfl
def DH:(Af aQ pos).lookup ("read_number":Str)=none:=by rfl
def OL:(Af aQ pos).lookup ("read_list":Str)=none:=by rfl
def OM:(Af aQ pos).lookup ("read_call":Str)=none:=by rfl
def OK:(Af aQ pos).lookup ("has_more":Str)=none:=by rfl
def pr1:gc "calls" v []=Zq v:=by rfl
def pr2:gc "position" (.int pos) (Zq (.ref aQ))=Af aQ pos:=by rfl
def pr3:gc "position" (.int x) (Af aQ pos)=Af aQ x:=by rfl
end
structure Rm (K:PySem.W.Frag) (mg:Str->Option Value) (C:Addr):Prop where
  cl:B9 K C
  nC:ee K C "calls"
  nP:ee K C "position"
  len:mg "len"=none
  range:mg "range"=none
def oC(a:Addr)(H H':Hp):Prop:=∀y o,H y=some o->y≠a->H' y=some o
def oC.trans(h:oC a H H1)(k:oC a H1 H2):oC a H H2:=λy o e n=>k y o (h y o e n) n
theorem oC.upd:oC a H (upd H a o):=λy u e n=>by rw[ah n];exact e
def oC.same(h:oC a H H1)(k:aY H1 H2):oC a H H2:=λy o e n=>k y o (h y o e n)
def ux{K:PySem.W.Frag}{H H':Hp}{a q:Addr}{C dx:Addr}{fs:List (Str×V)}{xs:List V}(h:oC a H H')(ha:H a=some (.ins C dx fs))(s:bp K H q xs):bp K H' q xs:=by
 rcases s with(e|⟨o,e⟩)|e;.exact .inl (.inl (h _ _ e (aI e ha (by intro z;cases z))))
 .exact .inl (.inr ⟨o,h _ _ e (aI e ha (by intro z;cases z))⟩)
 exact .inr e
structure qf (CR:Addr) (K:PySem.W.Frag) (H:Hp) (a dx aQ:Addr) (ns:List Int) (pos:Nat):Prop where
  ins:H a=some (.ins CR dx (Af aQ (pos:Int)))
  sq:bp K H aQ (ns.map V.int)
def PR(CR:Addr)(K:PySem.W.Frag)(vs:List V)(H:Hp)(Q:VK)(a dx aQ:Addr)(ns:List Int):Prop:=vs=[.ref a,.ref aQ]/\H a=some (.ins CR dx [])/\bp K H aQ (ns.map V.int)/\∀H',oC a H H'->qf CR K H' a dx aQ ns 0->Q .dQ H'
def zx(CR:Addr)(K:PySem.W.Frag):Sp:=λvs H Q _=>∃a dx aQ ns,PR CR K vs H Q a dx aQ ns
def TQ(CR:Addr)(K:PySem.W.Frag)(vs:List V)(H:Hp)(Q:VK)(a dx aQ:Addr)(ns:List Int)(pos:Nat):Prop:=vs=[.ref a]/\qf CR K H a dx aQ ns pos/\Q (.bl (decide ((pos:Int)<(ns.length:Int)))) H
def Ds(CR:Addr)(K:PySem.W.Frag):Sp:=λvs H Q _=>∃a dx aQ ns pos,TQ CR K vs H Q a dx aQ ns pos
def XE(CR:Addr)(K:PySem.W.Frag)(vs:List V)(H:Hp)(Q:VK)(a dx aQ:Addr)(ns:List Int)(pos:Nat)(n:Int):Prop:=vs=[.ref a]/\qf CR K H a dx aQ ns pos/\ns[pos]?=some n/\∀H',oC a H H'->qf CR K H' a dx aQ ns (pos+1)->Q (.int n) H'
def AL(CR:Addr)(K:PySem.W.Frag):Sp:=λvs H Q _=>∃a dx aQ ns pos n,XE CR K vs H Q a dx aQ ns pos n
def PQ(CR:Addr)(K:PySem.W.Frag)(vs:List V)(H:Hp)(Q:VK)(a dx aQ:Addr)(ns:List Int)(pos n:Nat):Prop:=vs=[.ref a]/\qf CR K H a dx aQ ns pos/\ns[pos]?=some (n:Int)/\pos+1+n<=ns.length/\∀(H':Hp)(l:Addr),oC a H H'->H l=none->qf CR K H' a dx aQ ns (pos+1+n)->H' l=some (.lst (((ns.drop (pos+1)).take n).map V.int))->Q (.ref l) H'
def r_(CR:Addr)(K:PySem.W.Frag):Sp:=λvs H Q _=>∃a dx aQ ns pos n,PQ CR K vs H Q a dx aQ ns pos n
section
variable {P:Program} {w:World} {K:PySem.W.Frag} {mg:Str->Option Value} {base:Heap}
def OD:aM ["self","calls"] ["self","calls"] (ax Jx):=⟨rfl,rfl,rfl,by decide +kernel,rfl,by decide +kernel,by decide +kernel⟩
def Md{f CR:Addr}{fd:FuncData}(F:gE K "__init__" "CallReader.__init__" Jx f fd)(T:Rm K mg CR):ay P w K mg base bu 1 f fd ["self","calls"] (zx CR K):=by refine iU F OD λvs H Q E h=>?_;obtain⟨a,dx,aQ,ns,rfl,ha,hq,k⟩:=h;refine⟨rfl,λ_ _ _ _ hr=>?_⟩;refine⟨_,aj (eB (pv 0) (pv 1) rfl) (aq (eB (pv 0) aU rfl)),?_⟩;refine⟨_,rfl,_,rfl,a,CR,dx,[],rfl,ha,T.cl,T.nC,(by show 0<1000;decide),?_⟩;rw[pr1];refine⟨_,rfl,a,CR,dx,_,rfl,ai,T.cl,T.nP,(by show 1<1000;decide),?_⟩;rw[pr2];have b:oC a H (upd (upd H a (.ins CR dx (Zq (.ref aQ)))) a (.ins CR dx (Af aQ 0))):=oC.upd.trans oC.upd;exact k _ b ⟨ai,ux b ha hq⟩
def SI:aM ["self"] ["self"] (ax Jv):=⟨rfl,rfl,rfl,by decide +kernel,rfl,by decide +kernel,by decide +kernel⟩
def O7{f CR:Addr}{fd:FuncData}(F:gE K "has_more" "CallReader.has_more" Jv f fd)(T:Rm K mg CR):ay P w K mg base bu 1 f fd ["self"] (Ds CR K):=by refine iU F SI λvs H Q E h=>?_;obtain⟨a,dx,aQ,ns,pos,rfl,R,k⟩:=h;refine⟨rfl,λ_ _ _ _ hr=>?_⟩;refine⟨_,aq (aH (oN (EJ (az (pv 0) rfl) (dS dF (by rfl) T.len oh (ag (az (pv 0) rfl) ao))))),?_⟩;refine⟨_,rfl,a,CR,dx,_,_,rfl,R.ins,T.cl,T.nP,uz,_,rfl,a,CR,dx,_,_,rfl,R.ins,T.cl,T.nC,uU,aQ,_,rfl,.inl R.sq,_,_,rfl,rfl,?_⟩;rw[aE];exact k
def Qx:aM ["self","number"] ["self"] (ax RD):=⟨rfl,rfl,rfl,by decide +kernel,rfl,by decide +kernel,by decide +kernel⟩
def S2{f CR:Addr}{fd:FuncData}(F:gE K "read_number" "CallReader.read_number" RD f fd)(T:Rm K mg CR):ay P w K mg base bu 1 f fd ["self"] (AL CR K):=by refine iU F Qx λvs H Q E h=>?_;obtain⟨a,dx,aQ,ns,pos,n,rfl,R,hn,k⟩:=h;refine⟨rfl,λ_ _ _ _ hr=>?_⟩;refine⟨_,aj (bh (i:=1) Qx.nd rfl (Or.inl rfl) (bF aW (az (pv 0) rfl) (az (pv 0) rfl) (λ_ _=>rfl))) (aj (eB (pv 0) (dv gR (az (pv 0) rfl) aU) rfl) (aq (aH (pv 1)))),?_⟩;refine⟨_,rfl,a,CR,dx,_,_,rfl,R.ins,T.cl,T.nC,uU,_,rfl,a,CR,dx,_,_,rfl,R.ins,T.cl,T.nP,uz,aQ,_,_,_,rfl,rfl,R.sq,cj (v:=V.int n) (by rw[cC,hn];rfl),?_⟩;refine⟨_,rfl,a,CR,dx,_,_,rfl,R.ins,T.cl,T.nP,uz,_,_,rfl,rfl,_,rfl,a,CR,dx,_,rfl,R.ins,T.cl,T.nP,(by show 2<1000;decide),?_⟩;rw[pr3];refine⟨_,rfl,?_⟩;exact k _ oC.upd ⟨by rw[ai];rfl,ux oC.upd R.ins R.sq⟩
def zF:aM ["self","length","start"] ["self"] (ax Jw):=⟨rfl,rfl,rfl,by decide +kernel,rfl,by decide +kernel,by decide +kernel⟩
def Mc{f fN CR:Addr}{fd B7:FuncData}(F:gE K "read_list" "CallReader.read_list" Jw f fd)(T:Rm K mg CR)(GN:ay P w K mg base bu 1 fN B7 ["self"] (AL CR K))(bN:Binds K B7 ["self"] [])(mN:cU K CR "read_number" fN):ay P w K mg base bu 2 f fd ["self"] (r_ CR K):=by
 refine iU F zF λvs H Q E h=>?_;obtain⟨a,dx,aQ,ns,pos,n,rfl,R,hn,hl,k⟩:=h;refine⟨rfl,λ_ _ _ _ hr=>?_⟩;refine⟨_,aj (bh (i:=1) zF.nd rfl (Or.inl rfl) (gZ (pv 0) T.cl mN GN hr bN .nil aR)) (aj (bh (i:=2) zF.nd rfl (Or.inl rfl) (az (pv 0) rfl)) (aj (eB (pv 0) (dv gR (pv 2) (pv 1)) rfl) (aq (aH (uX zD (az (pv 0) rfl) (jG (pv 2)) (jG (az (pv 0) rfl))))))),?_⟩;refine⟨_,rfl,a,dx,_,rfl,R.ins,DH,a,dx,aQ,ns,pos,(n:Int),rfl,R,hn,?_⟩;intro H1 b1 R1;refine⟨_,rfl,a,CR,dx,_,_,rfl,R1.ins,T.cl,T.nP,uz,?_⟩;refine⟨_,rfl,_,rfl,_,_,rfl,rfl,_,rfl,a,CR,dx,_,rfl,R1.ins,T.cl,T.nP,(by show 2<1000;decide),?_⟩;rw[pr3];have ep:((pos+1:Nat):Int)+(n:Int)=((pos+1+n:Nat):Int):=by omega
 rw[ep];have R2:qf CR K (upd H1 a (.ins CR dx (Af aQ ((pos+1+n:Nat):Int)))) a dx aQ ns (pos+1+n):=⟨ai,ux oC.upd R1.ins R1.sq⟩;refine⟨_,rfl,a,CR,dx,_,_,rfl,R2.ins,T.cl,T.nC,uU,_,rfl,_,rfl,_,rfl,a,CR,dx,_,_,rfl,R2.ins,T.cl,T.nP,uz,_,rfl,aQ,_,rfl,R2.sq,λl sT=>?_⟩;have Sg:wm (ns.map V.int) (some ((pos+1:Nat):Int)) (some ((pos+1+n:Nat):Int))=((ns.drop (pos+1)).take n).map V.int:=by unfold wm;rw[aE,jF (by omega),jF (by omega),<-yr,<-yt];congr 2;omega
 rw[Sg];have Ym:H l=none:=by
  cases q:H l with
  |none=>rfl
  |some o=>
   by_cases n:l=a;.subst n;rw[ai]at sT;cases sT
   rw[ah n,b1 l o q n]at sT;cases sT
 have s3:aY (upd H1 a (.ins CR dx (Af aQ ((pos+1+n:Nat):Int)))) (upd (upd H1 a (.ins CR dx (Af aQ ((pos+1+n:Nat):Int)))) l (.lst (((ns.drop (pos+1)).take n).map V.int))):=λy o e=>by rw[ah (aa e sT)];exact e
 exact k _ l ((b1.trans oC.upd).same s3) Ym ⟨s3 _ _ R2.ins,s3.seq R2.sq⟩ ai
end
end Wh
end
section
namespace Wh
open PySem PySem.Spec PyProof.Rows L2
open FhHold (Tab)
open ak(dk PN aJ cI pr pc cX gX fe less)
open Flow(a_ nZ dN et)
abbrev Jc:Stmt:=top 4
abbrev JB:Stmt:=inClass Jc 0
abbrev DJ:Stmt:=inClass Jc 1
abbrev JA:Stmt:=inClass Jc 2
abbrev RF:Stmt:=inClass Jc 3
abbrev Jz:Stmt:=inClass Jc 4
def Al(rn ow:Addr)(k:Nat)(sh:Addr):List (Str×V):=[("net",.ref rn),("own",.ref ow),("bound",nV k),("shown",.ref sh)]
section
variable {rn ow sh:Addr} {k:Nat}
def gQ:(Al rn ow k sh).lookup ("net":Str)=some (.ref rn):=by rfl
def qx:(Al rn ow k sh).lookup ("own":Str)=some (.ref ow):=by rfl
def Bj:(Al rn ow k sh).lookup ("bound":Str)=some (nV k):=by rfl
def uW:(Al rn ow k sh).lookup ("shown":Str)=some (.ref sh):=by rfl
def L1:(Al rn ow k sh).lookup ("prove":Str)=none:=by rfl
def Fc:(Al rn ow k sh).lookup ("show":Str)=none:=by rfl
def SS:(Al rn ow k sh).lookup ("publish":Str)=none:=by rfl
def OR:(Al rn ow k sh).lookup ("without":Str)=none:=by rfl
def SR:gc "shown" (.ref x) (Al rn ow k sh)=Al rn ow k x:=by rfl
end
structure AH (K:PySem.W.Frag) (mg:Str->Option Value) (C:Addr):Prop where
  cl:B9 K C
  nN:ee K C "net"
  nO:ee K C "own"
  nB:ee K C "bound"
  nS:ee K C "shown"
  list:mg "list"=none
structure QR where
  a:Addr
  dx:Addr
  own:Addr
  sh:Addr
abbrev Ent:=Nat×Nat×List Int
def jV(r:NR)(y:Addr):Prop:=y=r.lb\/y=r.lc\/y=r.ld\/y=r.le\/y=r.lf\/∃q,q∈r.kn/\y=q.1
def E2(H:Hp)(z:Addr×Addr)(e:Ent):Prop:=H z.1=some (.tup [nV e.1,nV e.2.1,.ref z.2])/\H z.2=some (.lst (e.2.2.map V.int))
structure gm (CP CN:Addr) (H:Hp) (q:QR) (r:NR) (k:Nat) (ow:List Int) (ts:List (Addr×Addr)) (sh:List Ent) (am lo:List Int) (hi:List (Option Int)):Prop where
  ins:H q.a=some (.ins CP q.dx (Al r.a q.own k q.sh))
  hO:H q.own=some (.lst (ow.map V.int))
  hS:H q.sh=some (.lst (ts.map λz=>V.ref z.1))
  hE:Paired (E2 H) ts sh
  gn:cy CN H r am lo hi
  aN:∀y,jV r y->y≠q.sh/\y≠q.own/\∀z,z∈ts->y≠z.2
  aA:r.la≠q.sh
  aO:q.own≠q.sh
  aT:∀z,z∈ts->z.2≠q.sh
theorem Paired.vj{α β:Type}{R:α->β->Prop}:∀{xs:List α}{ys:List β},Paired R xs ys->∀x,x∈xs->∃y,y∈ys/\R x y
 |_,_,.nil,x,h=>by cases h
 |_,_,.cons r t,x,h=>by
  rcases bE.mp h with e|e;.subst e;exact⟨_,cF ..,r⟩
  obtain⟨y,h1,h2⟩:=Paired.vj t x e;exact⟨y,dR _ h1,h2⟩
theorem Paired.jc{α β:Type}{R S:α->β->Prop}:∀{xs:List α}{ys:List β},Paired R xs ys->(∀x y,x∈xs->R x y->S x y)->Paired S xs ys|_,_,.nil,_=>.nil|_,_,.cons r t,h=>.cons (h _ _ (cF ..) r) (Paired.jc t λx y hx=>h x y (dR _ hx))
def Paired.snoc{α β:Type}{R:α->β->Prop}{xs:List α}{ys:List β}{x:α}{y:β}(h:Paired R xs ys)(r:R x y):Paired R (xs++[x]) (ys++[y]):=by induction h with|nil=>exact .cons r .nil|cons a t ih=>exact .cons a ih
def iA(q:QR)(r:NR)(H H':Hp):Prop:=∀y o,H y=some o->y≠q.a->y≠r.a->y≠r.lb->y≠r.lc->y≠q.sh->H' y=some o
def iA.trans(h:iA q r H H1)(k:iA q r H1 H2):iA q r H H2:=λy o e n1 n2 n3 n4 n5=>k y o (h y o e n1 n2 n3 n4 n5) n1 n2 n3 n4 n5
abbrev jM(R C:Nat)(cs bs u:List Nat)(r:NR)(lo:List Int)(hi:List (Option Int)):Prop:=uJ r (dh (tabOf R C cs bs)) lo hi R C (gh R C bs u)
theorem jM.at_{R C:Nat}{cs bs u:List Nat}{lo:List Int}{hi:List (Option Int)}(h:jM R C cs bs u r lo hi)(x:Addr):jM R C cs bs u (r.at_ x) lo hi:=⟨h.tl,h.hd,h.bd,⟨h.wi.is,h.wi.all,h.wi.kn,h.wi.ends⟩⟩
def jM.m{R C:Nat}{cs bs u:List Nat}{lo:List Int}{hi:List (Option Int)}(h:jM R C cs bs u r lo hi):r.tl.length=(tabOf R C cs bs).places:=by rw[h.tl,d_,bJ]
def jM.EO{R C:Nat}{cs bs u:List Nat}{lo:List Int}{hi:List (Option Int)}(h:jM R C cs bs u r lo hi){p:Nat}(hp:p<(tabOf R C cs bs).places):lo.getD p 0=if aJ (tabOf R C cs bs) u p=true then 0 else((tabOf R C cs bs).own p:Int):=by
 rw[h.bd.lo p (by rw[bJ];exact hp),fE _ hp];by_cases c:p∈gh R C bs u;.rw[aw c,aw ((eQ hp).mp c)]
 rw[au c,au (λz=>c ((eQ hp).mpr z))]
def jM.AR{R C:Nat}{cs bs u:List Nat}{lo:List Int}{hi:List (Option Int)}(h:jM R C cs bs u r lo hi){p:Nat}(hp:p<(tabOf R C cs bs).places):hi.getD p none=if aJ (tabOf R C cs bs) u p=true then none else some ((tabOf R C cs bs).own p:Int):=by
 rw[h.bd.hi p (by rw[bJ];exact hp),fE _ hp];by_cases c:p∈gh R C bs u;.rw[aw c,aw ((eQ hp).mp c)]
 rw[au c,au (λz=>c ((eQ hp).mpr z))]
def jY{α:Type}{l:List α}{p:Nat}{d v:α}(h:l.getD p d=v):l.set p v=l:=by
 apply uo;intro i;rw[yH];by_cases q:p=i
 .subst q;rw[aw rfl];by_cases c:p<l.length;.rw[aw c,dZ c];rw[eI,dZ c]at h;have h:l[p]=v:=h;rw[h]
  rw[au c,oq (by omega)]
 rw[au q]
def gm.dz{k:Nat}{ow:List Int}{ts:List (Addr×Addr)}{sh:List Ent}{am lo dI jC:List Int}{hi gL:List (Option Int)}(A:gm CP CN H q r k ow ts sh am lo hi)(kp:∀y o,H y=some o->y≠r.a->y≠r.lb->y≠r.lc->H' y=some o)(N:cy CN H' (r.at_ x) dI jC gL)(nx:x≠q.sh):gm CP CN H' q (r.at_ x) k ow ts sh dI jC gL:=by
 have nb:=A.aN r.lb (.inl rfl);have nc:=A.aN r.lc (.inr (.inl rfl));have na:∀{y:Addr}{xs:List V},H y=some (.lst xs)->y≠r.a:=λe=>aI e A.gn.ins (by intro z;cases z);have nt:∀{y:Addr}{xs:List V},H y=some (.tup xs)->y≠r.a/\y≠r.lb/\y≠r.lc:=λe=>⟨aI e A.gn.ins (by intro z;cases z),aI e A.gn.hL (by intro z;cases z),aI e A.gn.hH (by intro z;cases z)⟩;have nq:q.a≠r.a:=by
  intro e;have h1:=A.ins;rw[e,A.gn.ins]at h1;have h2:=bZ h1;injection h2 with _ _ h3
  have h4:=congrArg List.length h3;cases h4
 refine⟨kp _ _ A.ins nq (aI A.ins A.gn.hL (by intro z;cases z)) (aI A.ins A.gn.hH (by intro z;cases z)),kp _ _ A.hO (na A.hO) nb.2.1.symm nc.2.1.symm,kp _ _ A.hS (na A.hS) nb.1.symm nc.1.symm,?_,N,A.aN,nx,A.aO,A.aT⟩;refine Paired.jc A.hE λz e hz h=>⟨?_,?_⟩;.obtain⟨t1,t2,t3⟩:=nt h.1;exact kp _ _ h.1 t1 t2 t3
 exact kp _ _ h.2 (na h.2) (nb.2.2 z hz).symm (nc.2.2 z hz).symm
def cy.off{am lo:List Int}{hi:List (Option Int)}{xs:List V}(N:cy C H r am lo hi)(hz:H z=some (.lst xs))(kp:∀y o,H y=some o->y≠z->H' y=some o)(nA:r.la≠z)(nI:∀y,jV r y->y≠z):cy C H' r am lo hi:=by refine⟨kp _ _ N.ins (aI N.ins hz (by intro z;cases z)),kp _ _ N.hA nA,kp _ _ N.hL (nI _ (.inl rfl)),kp _ _ N.hH (nI _ (.inr (.inl rfl))),kp _ _ N.hT (nI _ (.inr (.inr (.inl rfl)))),kp _ _ N.hD (nI _ (.inr (.inr (.inr (.inl rfl))))),kp _ _ N.hS (nI _ (.inr (.inr (.inr (.inr (.inl rfl)))))),λq hq=>?_,N.Nu,N.Nt,N.Ic,N.nd,N.kf,N.oa,N.lG,N.AB⟩;obtain⟨h1,h2⟩:=N.hK q hq;exact⟨kp _ _ h1 (nI _ (.inr (.inr (.inr (.inr (.inr ⟨q,hq,rfl⟩)))))),λy hy=>kp _ _ (h2 y hy) (aI (h2 y hy) hz (by intro z;cases z))⟩
def gm.add{k:Nat}{ow:List Int}{ts:List (Addr×Addr)}{sh:List Ent}{am lo dI:List Int}{hi:List (Option Int)}(A:gm CP CN H q r k ow ts sh am lo hi){p g:Nat}(hl:H l=none)(rX:upd H l (.lst (dI.map V.int)) tp=none):gm CP CN (upd (upd (upd H l (.lst (dI.map V.int))) tp (.tup [nV p,nV g,.ref l])) q.sh (.lst ((ts.map λz=>V.ref z.1)++[V.ref tp]))) q r k ow (ts++[(tp,l)]) (sh++[(p,g,dI)]) am lo hi:=by
 have Ib:l≠tp:=aa (ai (H:=H) (a:=l) (o:=.lst (dI.map V.int))) rX;have up1:∀y o,H y=some o->upd H l (.lst (dI.map V.int)) y=some o:=λy o e=>by rw[ah (aa e hl)];exact e
 have keep:∀y o,H y=some o->y≠q.sh->(upd (upd (upd H l (.lst (dI.map V.int))) tp (.tup [nV p,nV g,.ref l])) q.sh (.lst ((ts.map λz=>V.ref z.1)++[V.ref tp]))) y=some o:=λy o e n=>by rw[ah n,ah (aa (up1 y o e) rX)];exact up1 y o e
 have nls:l≠q.sh:=(aa A.hS hl).symm;have nts:tp≠q.sh:=(aa (up1 _ _ A.hS) rX).symm;refine⟨keep _ _ A.ins (aI A.ins A.hS (by intro z;cases z)),keep _ _ A.hO A.aO,?_,?_,A.gn.off A.hS keep A.aA λy hy=>(A.aN y hy).1,λy hy=>?_,A.aA,A.aO,λz hz=>?_⟩;.rw[ai,cR];rfl
 .refine Paired.snoc (Paired.jc A.hE λz e hz h=>⟨keep _ _ h.1 (aI h.1 A.hS (by intro z;cases z)),keep _ _ h.2 (A.aT z hz)⟩) ⟨?_,?_⟩;.show upd _ _ _ tp=_;rw[ah nts,ai]
  show upd _ _ _ l=_;rw[ah nls,ah Ib,ai]
 .obtain⟨h1,h2,h3⟩:=A.aN y hy;refine⟨h1,h2,λz hz=>?_⟩;rcases cO.mp hz with hz|hz;.exact h3 z hz
  have:=cW.mp hz;subst this;have ex:∃o,H y=some o:=by
   have N:=A.gn;rcases hy with rfl|rfl|rfl|rfl|rfl|⟨q,hq,rfl⟩;.exact⟨_,N.hL⟩
   .exact⟨_,N.hH⟩
   .exact⟨_,N.hT⟩
   .exact⟨_,N.hD⟩
   .exact⟨_,N.hS⟩
   exact⟨_,(N.hK q hq).1⟩
  obtain⟨o,ho⟩:=ex;exact aa ho hl
 rcases cO.mp hz with hz|hz;.exact A.aT z hz
 have:=cW.mp hz;subst this;exact nls
def PV(CP CN:Addr)(vs:List V)(H:Hp)(Q:VK)(x dx:Addr)(r:NR)(k:Nat)(am lo:List Int)(hi:List (Option Int)):Prop:=vs=[.ref x,.ref r.a,nV k]/\H x=some (.ins CP dx [])/\cy CN H r am lo hi/\∀(H':Hp)(q:QR),q.a=x->(∀y o,H y=some o->y≠x->H' y=some o)->H q.own=none->H q.sh=none->gm CP CN H' q r k am [] [] am lo hi->Q .dQ H'
def kC(CP CN:Addr):Sp:=λvs H Q _=>∃x dx r k am lo hi,PV CP CN vs H Q x dx r k am lo hi
def e1(a:V):List (Str×V):=[("net",a)]
def e2(a b:V):List (Str×V):=[("net",a),("own",b)]
def e3(a b c:V):List (Str×V):=[("net",a),("own",b),("bound",c)]
def pe1:gc "net" a []=e1 a:=by rfl
def pe2:gc "own" b (e1 a)=e2 a b:=by rfl
def pe3:gc "bound" c (e2 a b)=e3 a b c:=by rfl
def pe4:gc "shown" (.ref d) (e3 (.ref a) (.ref b) (nV k))=Al a b k d:=by rfl
def TJ(CP CN:Addr)(vs:List V)(H:Hp)(Q:VK)(q:QR)(r:NR)(k:Nat)(R C:Nat)(cs bs u:List Nat)(ts:List (Addr×Addr))(sh:List Ent)(am lo:List Int)(hi:List (Option Int))(p goal:Nat):Prop:=vs=[.ref q.a,nV p,nV goal]/\gm CP CN H q r k (dh (tabOf R C cs bs)) ts sh am lo hi/\Sz R C cs bs/\jM R C cs bs u r lo hi/\p<(tabOf R C cs bs).places/\aJ (tabOf R C cs bs) u p=true/\sh.length<=2000/\∀(H':Hp)(x:Addr)(T_:List (Addr×Addr))(dI:List Int),iA q r H H'->gm CP CN H' q (r.at_ x) k (dh (tabOf R C cs bs)) T_ (sh++[(p,goal,dI)]) dI lo hi->(a_ (PN (tabOf R C cs bs) u) (fl dI)->fl dI p=(goal:Int)->Q (.bl true) H')/\(¬fe (tabOf R C cs bs) u p goal->Q (.bl false) H')
def Dq(CP CN:Addr):Sp:=λvs H Q _=>∃q r k R C cs bs u ts sh am lo hi p goal,TJ CP CN vs H Q q r k R C cs bs u ts sh am lo hi p goal
section
variable {P:Program} {w:World} {K:PySem.W.Frag} {mg:Str->Option Value} {base:Heap}
def OF:aM ["self","net","bound"] ["self","net","bound"] (ax JB):=⟨rfl,rfl,rfl,by decide +kernel,rfl,by decide +kernel,by decide +kernel⟩
def Mg(F:gE K "__init__" "Proofs.__init__" JB f fd)(T:AH K mg CP)(TN:jz K mg CN):ay P w K mg base bu 1 f fd ["self","net","bound"] (kC CP CN):=by
 refine iU F OF λvs H Q E h=>?_;obtain⟨x,dx,r,kb,am,lo,hi,rfl,hx,N,k⟩:=h;refine⟨rfl,λ_ _ _ _ hr=>?_⟩;refine⟨_,aj (eB (pv 0) (pv 1) rfl) (aj (eB (pv 0) (fZ fv (by rfl) T.list rb (ag (az (pv 1) rfl) ao)) rfl) (aj (eB (pv 0) (pv 2) rfl) (aq (eB (pv 0) (bK ao) rfl)))),?_⟩;have nxr:r.a≠x:=by
  intro e;have h1:=N.ins;rw[e,hx]at h1;have h2:=bZ h1;injection h2 with _ _ h3
  cases h3
 refine⟨_,rfl,_,rfl,x,CP,dx,[],rfl,hx,T.cl,T.nN,(by show 0<1000;decide),?_⟩;rw[pe1];obtain⟨H1,Vx,k1,x1⟩:∃H1:Hp,H1=upd H x (.ins CP dx (e1 (.ref r.a)))/\(∀y o,H y=some o->y≠x->H1 y=some o)/\H1 x=some (.ins CP dx (e1 (.ref r.a))):=⟨_,rfl,λy o e n=>by rw[ah n];exact e,ai⟩;rw[<-Vx];have nl:∀{y:Addr}{xs:List V},H y=some (.lst xs)->y≠x:=λe=>aI e hx (by intro z;cases z);have nt:∀{y:Addr}{xs:List V},H y=some (.tup xs)->y≠x:=λe=>aI e hx (by intro z;cases z);refine⟨_,rfl,r.a,CN,r.dx,_,_,rfl,k1 _ _ N.ins nxr,TN.cl,TN.nA,cP,r.la,_,rfl,.inl (bp.of (k1 _ _ N.hA (nl N.hA))),λow how=>?_⟩;have UP:x≠ow:=aa x1 how;refine⟨_,rfl,x,CP,dx,_,rfl,(by rw[ah UP];exact x1),T.cl,T.nO,(by show 1<1000;decide),?_⟩;rw[pe2];obtain⟨H2,Nk,k2,x2,o2⟩:∃H2:Hp,H2=upd (upd H1 ow (.lst (am.map V.int))) x (.ins CP dx (e2 (.ref r.a) (.ref ow)))/\(∀y o,H1 y=some o->y≠x->H2 y=some o)/\H2 x=some (.ins CP dx (e2 (.ref r.a) (.ref ow)))/\H2 ow=some (.lst (am.map V.int)):=by
  refine⟨_,rfl,λy o e n=>?_,ai,?_⟩;.rw[ah n,ah (aa e how)];exact e
  rw[ah UP.symm,ai]
 rw[<-Nk];refine⟨_,rfl,_,rfl,x,CP,dx,_,rfl,x2,T.cl,T.nB,(by show 2<1000;decide),?_⟩;rw[pe3];obtain⟨H3,Vw,k3,x3⟩:∃H3:Hp,H3=upd H2 x (.ins CP dx (e3 (.ref r.a) (.ref ow) (nV kb)))/\(∀y o,H2 y=some o->y≠x->H3 y=some o)/\H3 x=some (.ins CP dx (e3 (.ref r.a) (.ref ow) (nV kb))):=⟨_,rfl,λy o e n=>by rw[ah n];exact e,ai⟩;rw[<-Vw];refine⟨dW _,λsh Ga=>?_⟩;have xU:x≠sh:=aa x3 Ga;have o3:=k3 _ _ o2 UP.symm;refine⟨_,rfl,x,CP,dx,_,rfl,(by rw[ah xU];exact x3),T.cl,T.nS,(by show 3<1000;decide),?_⟩;rw[pe4];have keep:∀y o,H y=some o->y≠x->(upd (upd H3 sh (.lst [])) x (.ins CP dx (Al r.a ow kb sh))) y=some o:=λy o e n=>by have e3:=k3 _ _ (k2 _ _ (k1 _ _ e n) n) n;rw[ah n,ah (aa e3 Ga)];exact e3
 have low:∀y,y≠x->(H1 y=none\/H3 y=none)->H y=none:=λy n h=>by
  cases q:H y with
  |none=>rfl
  |some o=>
   rcases h with h|h;.rw[k1 y o q n]at h;cases h
   rw[k3 _ _ (k2 _ _ (k1 _ _ q n) n) n]at h;cases h
 have fo:=low ow UP.symm (.inl how);have fs:=low sh xU.symm (.inr Ga);have N':cy CN (upd (upd H3 sh (.lst [])) x (.ins CP dx (Al r.a ow kb sh))) r am lo hi:=by refine⟨keep _ _ N.ins nxr,keep _ _ N.hA (nl N.hA),keep _ _ N.hL (nl N.hL),keep _ _ N.hH (nl N.hH),keep _ _ N.hT (nl N.hT),keep _ _ N.hD (nl N.hD),keep _ _ N.hS (nl N.hS),λq hq=>?_,N.Nu,N.Nt,N.Ic,N.nd,N.kf,N.oa,N.lG,N.AB⟩;obtain⟨h1,h2⟩:=N.hK q hq;exact⟨keep _ _ h1 (nl h1),λz hz=>keep _ _ (h2 z hz) (nt (h2 z hz))⟩
 refine k _ ⟨x,dx,ow,sh⟩ rfl keep fo fs ⟨ai,?_,?_,.nil,N',?_,?_,?_,λz hz=>by cases hz⟩;.show upd _ _ _ ow=_;rw[ah UP.symm,ah (aa o3 Ga)];exact o3
 .show upd _ _ _ sh=_;rw[ah xU.symm,ai];rfl
 .intro y hy;have ex:∃o,H y=some o:=by
   rcases hy with rfl|rfl|rfl|rfl|rfl|⟨q,hq,rfl⟩;.exact⟨_,N.hL⟩
   .exact⟨_,N.hH⟩
   .exact⟨_,N.hT⟩
   .exact⟨_,N.hD⟩
   .exact⟨_,N.hS⟩
   exact⟨_,(N.hK q hq).1⟩
  obtain⟨o,ho⟩:=ex;exact⟨aa ho fs,aa ho fo,λz hz=>by cases hz⟩
 .exact aa N.hA fs
 exact aa o3 Ga
def Ld:aM ["self","place","goal","got_there"] ["self","place","goal"] (ax JA):=⟨rfl,rfl,rfl,by decide +kernel,rfl,by decide +kernel,by decide +kernel⟩
def O5(F:gE K "show" "Proofs.show" JA f fd)(T:AH K mg CP)(TN:jz K mg CN)(GG:ay P w K mg base bu 1 fG fdG ["self","amounts"] (NP CN))(bG:Binds K fdG ["self","amounts"] [])(mG:cU K CN "go_to" fG)(GB:ay P w K mg base bu 5 fB Av ["self","place","least","most"] (pG CN))(bB:Binds K Av ["self","place","least","most"] [])(mB:cU K CN "bring_within" fB)(GR:ay P w K mg base bu 1 fR vX ["self","place"] (AK CN))(bR:Binds K vX ["self","place"] [])(mR:cU K CN "release" fR):ay P w K mg base bu 6 f fd ["self","place","goal"] (Dq CP CN):=by
 refine iU F Ld λvs H Q E h=>?_;obtain⟨q,r,kb,R,C,cs,bs,u,ts,sh,am,lo,hi,p,goal,rfl,A,sz,nu,hp,hf,Ih,k⟩:=h;refine⟨rfl,λ_ _ _ _ hr=>?_⟩;have Ao:eY 1 _:=hr.mono (by decide);refine⟨_,aj (cA (aV (az (pv 0) rfl) TN.cl mG GG Ao bG .nil aR (ag (az (pv 0) rfl) ao))) (aj (bh (i:=3) Ld.nd rfl (Or.inl rfl) (aV (az (pv 0) rfl) TN.cl mB GB hr bB .nil aR (ag (pv 1) (ag (pv 2) (ag (pv 2) ao))))) (aj (cA (aV (az (pv 0) rfl) TN.cl mR GR Ao bR .nil aR (ag (pv 1) ao))) (aj (cA (i7 i6 lL lM fg (az (pv 0) rfl) (ag (km (ag (pv 1) (ag (pv 2) (ag (fZ fv (by rfl) T.list rb (ag (az (az (pv 0) rfl) rfl) ao)) ao)))) ao))) (aq (aH (pv 3)))))),?_⟩;obtain⟨t,ht⟩:∃t,t=tabOf R C cs bs:=⟨_,rfl⟩;have iF:=ff sz;have hm:=nu.m;have wz:=nu.EO hp;have qa:=nu.AR hp;have I:=pI nu;have F0:=vg nu;rw[<-ht]at k iF hm hp hf I F0 A wz qa;rw[hf,aw rfl]at wz qa;have Z1:am.length=t.places:=by rw[A.gn.kf,hm]
 have j_:p<r.tl.length:=by rw[hm];exact hp
 refine⟨_,rfl,q.a,CP,q.dx,_,_,rfl,A.ins,T.cl,T.nN,gQ,r.a,r.dx,_,rfl,A.gn.ins,Fj,_,rfl,q.a,CP,q.dx,_,_,rfl,A.ins,T.cl,T.nO,qx,r,am,dh t,lo,hi,q.own,rfl,A.gn,A.hO,(by rw[bJ,Z1]),(by omega),?_⟩;intro H1 x xV hx N1;have xU:x≠q.sh:=(aa A.hS hx).symm;have A1:=A.dz (λy o e n _ _=>xV y o e n) N1 xU;refine⟨_,rfl,q.a,CP,q.dx,_,_,rfl,A1.ins,T.cl,T.nN,gQ,r.a,r.dx,_,rfl,N1.ins,vf,_,rfl,_,rfl,_,rfl,r.at_ x,dh t,lo,hi,p,(goal:Int),(goal:Int),rfl,N1,j_,(nu.at_ x).wi,F0,(oG _),?_,?_,?_⟩;.intro _;rw[wz];omega
 .intro z hz;rw[qa]at hz;cases hz
 have eR:∀(jC:List Int),(∀z,jC.set p z=lo.set p z)->jC.set p 0=lo:=λjC h=>by rw[h 0];exact jY wz
 have eH:∀(gL:List (Option Int)),(∀z,gL.set p z=hi.set p z)->gL.set p none=hi:=λgL h=>by rw[h none];exact jY qa
 refine⟨λH2 gk Na Ez k2 N2 W2 s1 s2 NZ F2=>?_,λH2 gk Na Ez k2 N2 s1 s2 p9=>?_⟩
 .have hg:a_ (PN t u) (fl gk)/\fl gk p=(goal:Int):=by obtain⟨h1,h2,h3⟩:=(NZ _).mp F2;exact⟨I.eX h1,by omega⟩
  have fin:∀H',(a_ (PN t u) (fl gk)->fl gk p=(goal:Int)->Q (.bl true) H')/\(¬fe t u p goal->Q (.bl false) H')->Q (.bl true) H':=λH' h=>h.1 hg.1 hg.2;have A2:=A.dz (λy o e n1 n2 n3=>k2 y o (xV y o e n1) (aa e hx) n2 n3) N2 xU;refine⟨_,rfl,q.a,CP,q.dx,_,_,rfl,A2.ins,T.cl,T.nN,gQ,r.a,r.dx,_,rfl,N2.ins,ie,_,rfl,r.at_ x,gk,Na,Ez,p,rfl,N2,j_,?_⟩;intro H3 k3 N3;rw[eR _ s1,eH _ s2]at N3;have sQ:∀y o,H y=some o->y≠r.a->y≠r.lb->y≠r.lc->H3 y=some o:=λy o e n1 n2 n3=>k3 y o (k2 y o (xV y o e n1) (aa e hx) n2 n3) n2 n3;have A3:=A.dz sQ N3 xU;refine⟨_,rfl,q.a,CP,q.dx,_,_,rfl,A3.ins,T.cl,T.nS,uW,.inl ⟨rfl,_,bp.of A3.hS⟩,_,rfl,_,rfl,_,rfl,q.a,CP,q.dx,_,_,rfl,A3.ins,T.cl,T.nN,gQ,r.a,CN,r.dx,_,_,rfl,N3.ins,TN.cl,TN.nA,cP,x,_,rfl,.inl (bp.of N3.hA),λl hl=>?_⟩;refine⟨(by show 3<=sizeLine;decide),λtp rX=>?_⟩;have up1:∀y o,H3 y=some o->upd H3 l (.lst (gk.map V.int)) y=some o:=λy o e=>by rw[ah (aa e hl)];exact e
  have hsz:ts.length<=2000:=by rw[Paired.length A.hE];exact Ih
  refine⟨q.sh,_,_,rfl,rfl,(by rw[ah (aa (up1 _ _ A3.hS) rX)];exact up1 _ _ A3.hS),(by rw[aE];exact dX hsz (by decide)),?_⟩;refine⟨_,rfl,fin _ (k _ x _ gk (λy o e n1 n2 n3 n4 n5=>?_) (A3.add hl rX))⟩;have e3:=sQ y o e n2 n3 n4;rw[ah n5,ah (aa (up1 y o e3) rX)];exact up1 y o e3
 have hg:¬fe t u p goal:=by rintro⟨g,hg,e⟩;exact p9 ⟨g,I.gI hg,by omega,by omega⟩
 have fin:∀H',(a_ (PN t u) (fl gk)->fl gk p=(goal:Int)->Q (.bl true) H')/\(¬fe t u p goal->Q (.bl false) H')->Q (.bl false) H':=λH' h=>h.2 hg;have A2:=A.dz (λy o e n1 n2 n3=>k2 y o (xV y o e n1) (aa e hx) n2 n3) N2 xU;refine⟨_,rfl,q.a,CP,q.dx,_,_,rfl,A2.ins,T.cl,T.nN,gQ,r.a,r.dx,_,rfl,N2.ins,ie,_,rfl,r.at_ x,gk,Na,Ez,p,rfl,N2,j_,?_⟩;intro H3 k3 N3;rw[eR _ s1,eH _ s2]at N3;have sQ:∀y o,H y=some o->y≠r.a->y≠r.lb->y≠r.lc->H3 y=some o:=λy o e n1 n2 n3=>k3 y o (k2 y o (xV y o e n1) (aa e hx) n2 n3) n2 n3;have A3:=A.dz sQ N3 xU;refine⟨_,rfl,q.a,CP,q.dx,_,_,rfl,A3.ins,T.cl,T.nS,uW,.inl ⟨rfl,_,bp.of A3.hS⟩,_,rfl,_,rfl,_,rfl,q.a,CP,q.dx,_,_,rfl,A3.ins,T.cl,T.nN,gQ,r.a,CN,r.dx,_,_,rfl,N3.ins,TN.cl,TN.nA,cP,x,_,rfl,.inl (bp.of N3.hA),λl hl=>?_⟩;refine⟨(by show 3<=sizeLine;decide),λtp rX=>?_⟩;have up1:∀y o,H3 y=some o->upd H3 l (.lst (gk.map V.int)) y=some o:=λy o e=>by rw[ah (aa e hl)];exact e
 have hsz:ts.length<=2000:=by rw[Paired.length A.hE];exact Ih
 refine⟨q.sh,_,_,rfl,rfl,(by rw[ah (aa (up1 _ _ A3.hS) rX)];exact up1 _ _ A3.hS),(by rw[aE];exact dX hsz (by decide)),?_⟩;refine⟨_,rfl,fin _ (k _ x _ gk (λy o e n1 n2 n3 n4 n5=>?_) (A3.add hl rX))⟩;have e3:=sQ y o e n2 n3 n4;rw[ah n5,ah (aa (up1 y o e3) rX)];exact up1 y o e3
end
end Wh
end
section
namespace Wh
open PySem PySem.Spec PyProof.Rows L2
open FhHold (Tab)
open ak(dk PN aJ cI pr pc cX gX fe less)
open Flow(a_ nZ dN et)
def PU(CP CN:Addr)(vs:List V)(H:Hp)(Q:VK)(q:QR)(r:NR)(k:Nat)(R C:Nat)(cs bs u:List Nat)(ts:List (Addr×Addr))(sh:List Ent)(am lo:List Int)(hi:List (Option Int))(p:Nat):Prop:=vs=[.ref q.a,nV p]/\gm CP CN H q r k (dh (tabOf R C cs bs)) ts sh am lo hi/\Sz R C cs bs/\jM R C cs bs u r lo hi/\p<(tabOf R C cs bs).places/\sh.length<=1000/\(∀(H':Hp)(x:Addr)(T_:List (Addr×Addr))(lF gk:List Int),iA q r H H'->gm CP CN H' q (r.at_ x) k (dh (tabOf R C cs bs)) T_ (sh++[(p,0,lF),(p,k,gk)]) gk lo hi->lF.length=(tabOf R C cs bs).places->aJ (tabOf R C cs bs) u p=true->a_ (PN (tabOf R C cs bs) u) (fl lF)->fl lF p=0->a_ (PN (tabOf R C cs bs) u) (fl gk)->fl gk p=(k:Int)->Q (.bl true) H')/\(∀(H':Hp),iA q r H H'->¬(aJ (tabOf R C cs bs) u p=true/\fe (tabOf R C cs bs) u p 0/\fe (tabOf R C cs bs) u p k)->Q (.bl false) H')
def zy(CP CN:Addr):Sp:=λvs H Q _=>∃q r k R C cs bs u ts sh am lo hi p,PU CP CN vs H Q q r k R C cs bs u ts sh am lo hi p
section
variable {P:Program} {w:World} {K:PySem.W.Frag} {mg:Str->Option Value} {base:Heap}
def OE:aM ["self","place"] ["self","place"] (ax DJ):=⟨rfl,rfl,rfl,by decide +kernel,rfl,by decide +kernel,by decide +kernel⟩
def Mf(F:gE K "prove" "Proofs.prove" DJ f fd)(T:AH K mg CP)(TN:jz K mg CN)(GI:ay P w K mg base bu 1 fI x9 ["self","place"] (pO CN))(bI:Binds K x9 ["self","place"] [])(mI:cU K CN "is_free" fI)(GS:ay P w K mg base bu 6 fS p_ ["self","place","goal"] (Dq CP CN))(bS:Binds K p_ ["self","place","goal"] [])(mS:cU K CP "show" fS):ay P w K mg base bu 7 f fd ["self","place"] (zy CP CN):=by
 refine iU F OE λvs H Q E h=>?_;obtain⟨q,r,kb,R,C,cs,bs,u,ts,sh,am,lo,hi,p,rfl,A,sz,nu,hp,Ih,k1,k2⟩:=h;refine⟨rfl,λ_ _ _ _ hr=>?_⟩;refine⟨_,aj (cG (fm (dj (aV (az (pv 0) rfl) TN.cl mI GI (hr.mono (by decide)) bI .nil aR (ag (pv 1) ao)))) (aq (aH ou)) ba) (aq (aH (SX (aV (pv 0) T.cl mS GS hr bS .nil aR (ag (pv 1) (ag aU ao))) (Lh (aV (pv 0) T.cl mS GS hr bS .nil aR (ag (pv 1) (ag (az (pv 0) rfl) ao))))))),?_⟩;obtain⟨t,ht⟩:∃t,t=tabOf R C cs bs:=⟨_,rfl⟩;have hm:=nu.m;have qa:=nu.AR hp;rw[<-ht]at k1 k2 hm hp qa A;have j_:p<r.tl.length:=by rw[hm];exact hp
 refine⟨_,rfl,q.a,CP,q.dx,_,_,rfl,A.ins,T.cl,T.nN,gQ,r.a,r.dx,_,rfl,A.gn.ins,xm,_,rfl,r,am,lo,hi,p,rfl,A.gn,j_,_,rfl,?_⟩;cases cf:aJ t u p with
 |false=>
  have hd:decide (oV (hi.getD p none)=V.dQ)=false:=by rw[qa,cf];exact cM (by intro z;cases z)
  rw[hd];refine eV (k2 H (λ_ _ e _ _ _ _ _=>e) ?_);rintro⟨z,_⟩;rw[cf]at z;cases z
 |true=>
  have hd:decide (oV (hi.getD p none)=V.dQ)=true:=by rw[qa,cf];exact bq rfl
  rw[hd];refine gM ?_;refine⟨_,rfl,q.a,q.dx,_,rfl,A.ins,Fc,_,rfl,q,r,kb,R,C,cs,bs,u,ts,sh,am,lo,hi,p,0,rfl,(by rw[<-ht];exact A),sz,nu,(by rw[<-ht];exact hp),(by rw[<-ht];exact cf),(by omega),?_⟩;rw[<-ht];intro H1 x1 ts1 lF xV A1;refine⟨λg1 g2=>?_,λhn=>?_⟩
  .refine⟨_,rfl,eV ?_⟩;have Gv:(sh++[(p,0,lF)]).length<=2000:=by rw[dC,tI];omega
   refine⟨_,rfl,q.a,q.dx,_,rfl,A1.ins,Fc,_,rfl,_,rfl,q.a,CP,q.dx,_,_,rfl,A1.ins,T.cl,T.nB,Bj,q,r.at_ x1,kb,R,C,cs,bs,u,ts1,_,lF,lo,hi,p,kb,rfl,(by rw[<-ht];exact A1),sz,nu.at_ x1,(by rw[<-ht];exact hp),(by rw[<-ht];exact cf),Gv,?_⟩;rw[<-ht];intro H2 x2 vY gk lD A2;have A2:gm CP CN H2 q (r.at_ x2) kb (dh t) vY (sh++[(p,0,lF)]++[(p,kb,gk)]) gk lo hi:=A2;rw[jS]at A2;have kp:iA q r H H2:=xV.trans lD;refine⟨λg3 g4=>k1 H2 x2 vY lF gk kp A2 (by rw[A1.gn.kf];exact hm) cf g1 g2 g3 g4,λhn=>k2 H2 kp λz=>hn z.2.2⟩
  refine⟨_,rfl,gM ?_⟩;exact k2 H1 xV λz=>hn z.2.1
end
structure eE (t:Tab) (k:Nat) (u:List Nat) (sh:List Ent):Prop where
  ok:∀e,e∈sh->e.1∈t.smalls k/\(e.2.1=0\/e.2.1=k)/\e.2.2.length=t.places/\a_ (PN t u) (fl e.2.2)/\fl e.2.2 e.1=(e.2.1:Int)
  all:∀p,p∈t.smalls k->(∃am,(p,0,am)∈sh)/\∃am,(p,k,am)∈sh
theorem eE.good(hs:ak.ic t)(h:eE t k u sh)(xY:∀p,p∈t.smalls k->p∈u):t.good k u=true:=by rw[ak.iN hs];intro p hp;obtain⟨⟨lF,h1⟩,⟨gk,h2⟩⟩:=h.all p hp;obtain⟨_,_,_,f1,v1⟩:=h.ok _ h1;obtain⟨_,_,_,f2,v2⟩:=h.ok _ h2;exact⟨xY p hp,⟨_,f1,v1⟩,⟨_,f2,v2⟩⟩
def Tz(CP CN:Addr)(vs:List V)(H:Hp)(Q:VK)(q:QR)(r:NR)(k:Nat)(R C:Nat)(cs bs u:List Nat)(ts:List (Addr×Addr))(sh:List Ent)(am lo:List Int)(hi:List (Option Int))(p sm goal:Nat)(l:Addr)(ra:List Int):Prop:=vs=[.ref q.a,nV p,nV sm,nV goal,.ref l]/\gm CP CN H q r k (dh (tabOf R C cs bs)) ts sh am lo hi/\Sz R C cs bs/\jM R C cs bs u r lo hi/\p<(tabOf R C cs bs).places/\aJ (tabOf R C cs bs) u p=true/\sm<(tabOf R C cs bs).places/\aJ (tabOf R C cs bs) u sm=true/\p≠sm/\H l=some (.lst (ra.map V.int))/\ra.length=(tabOf R C cs bs).places/\a_ (PN (tabOf R C cs bs) u) (fl ra)/\fl ra sm=(goal:Int)/\(∀(H':Hp)(x y:Addr)(dI gk:List Int),iA q r H H'->H x=none->H y=none->gm CP CN H' q (r.at_ x) k (dh (tabOf R C cs bs)) ts sh gk lo hi->H' y=some (.lst (dI.map V.int))->dI.length=(tabOf R C cs bs).places->a_ (PN (tabOf R C cs bs) u) (fl dI)->fl dI sm=(goal:Int)->fl dI p=((tabOf R C cs bs).own p:Int)->(∀z,jV r z->z≠y)->y≠q.sh->Q (.ref y) H')/\(∀(H':Hp)(x:Addr)(gk:List Int),iA q r H H'->H x=none->gm CP CN H' q (r.at_ x) k (dh (tabOf R C cs bs)) ts sh gk lo hi->¬(∃g,a_ (PN (tabOf R C cs bs) u) g/\g sm=(goal:Int)/\g p=((tabOf R C cs bs).own p:Int))->Q .dQ H')
def Dm(CP CN:Addr):Sp:=λvs H Q _=>∃q r k R C cs bs u ts sh am lo hi p sm goal l ra,Tz CP CN vs H Q q r k R C cs bs u ts sh am lo hi p sm goal l ra
section
variable {P:Program} {w:World} {K:PySem.W.Frag} {mg:Str->Option Value} {base:Heap}
def Lc:aM ["self","place","small","goal","amounts","got_there"] ["self","place","small","goal","amounts"] (ax Jz):=⟨rfl,rfl,rfl,by decide +kernel,rfl,by decide +kernel,by decide +kernel⟩
def O2(F:gE K "without" "Proofs.without" Jz f fd)(T:AH K mg CP)(TN:jz K mg CN)(GG:ay P w K mg base bu 1 fG fdG ["self","amounts"] (NP CN))(bG:Binds K fdG ["self","amounts"] [])(mG:cU K CN "go_to" fG)(GH:ay P w K mg base bu 1 fH wB ["self","place","least","most"] (oK CN))(bH:Binds K wB ["self","place","least","most"] [])(mH:cU K CN "hold" fH)(GB:ay P w K mg base bu 5 fB Av ["self","place","least","most"] (pG CN))(bB:Binds K Av ["self","place","least","most"] [])(mB:cU K CN "bring_within" fB)(GR:ay P w K mg base bu 1 fR vX ["self","place"] (AK CN))(bR:Binds K vX ["self","place"] [])(mR:cU K CN "release" fR):ay P w K mg base bu 6 f fd ["self","place","small","goal","amounts"] (Dm CP CN):=by
 refine iU F Lc λvs H Q E h=>?_;obtain⟨q,r,kb,R,C,cs,bs,u,ts,sh,am,lo,hi,p,sm,goal,l,ra,rfl,A,sz,nu,hp,hf,IA,hfs,xX,hl,hl0,F0,v0,k1,k2⟩:=h;refine⟨rfl,λ_ _ _ _ hr=>?_⟩;have Ao:eY 1 _:=hr.mono (by decide);refine⟨_,aj (cA (aV (az (pv 0) rfl) TN.cl mG GG Ao bG .nil aR (ag (pv 4) ao))) (aj (cA (aV (az (pv 0) rfl) TN.cl mH GH Ao bH .nil aR (ag (pv 2) (ag (pv 3) (ag (pv 3) ao))))) (aj (bh (i:=5) Lc.nd rfl (Or.inl rfl) (aV (az (pv 0) rfl) TN.cl mB GB hr bB .nil aR (ag (pv 1) (ag (bF aW (az (pv 0) rfl) (pv 1) (λ_ _=>rfl)) (ag (bF aW (az (pv 0) rfl) (pv 1) (λ_ _=>rfl)) ao))))) (aj (cA (aV (az (pv 0) rfl) TN.cl mR GR Ao bR .nil aR (ag (pv 2) ao))) (aj (cA (aV (az (pv 0) rfl) TN.cl mR GR Ao bR .nil aR (ag (pv 1) ao))) (aq (aH (jv (dj (pv 5)) (fZ fv (by rfl) T.list rb (ag (az (az (pv 0) rfl) rfl) ao)) jO))))))),?_⟩;obtain⟨t,ht⟩:∃t,t=tabOf R C cs bs:=⟨_,rfl⟩;have iF:=ff sz;have hm:=nu.m;have wz:=nu.EO hp;have qa:=nu.AR hp;have Oe:=nu.EO IA;have Og:=nu.AR IA;have I:=pI nu;rw[<-ht]at k1 k2 iF hm hp hf IA hfs I A wz qa Oe Og hl0 F0;rw[hf,aw rfl]at wz qa;rw[hfs,aw rfl]at Oe Og;have Z1:am.length=t.places:=by rw[A.gn.kf,hm]
 have j_:p<r.tl.length:=by rw[hm];exact hp
 have Gw:sm<r.tl.length:=by rw[hm];exact IA
 have eL:sm<lo.length:=by rw[A.gn.oa];exact Gw
 have eH:sm<hi.length:=by rw[A.gn.lG];exact Gw
 refine⟨_,rfl,q.a,CP,q.dx,_,_,rfl,A.ins,T.cl,T.nN,gQ,r.a,r.dx,_,rfl,A.gn.ins,Fj,_,rfl,r,am,ra,lo,hi,l,rfl,A.gn,hl,(by rw[hl0,Z1]),(by omega),?_⟩;intro H1 x xV hx N1;have xU:x≠q.sh:=(aa A.hS hx).symm;have A1:=A.dz (λy o e n _ _=>xV y o e n) N1 xU;refine⟨_,rfl,q.a,CP,q.dx,_,_,rfl,A1.ins,T.cl,T.nN,gQ,r.a,r.dx,_,rfl,N1.ins,sy,_,rfl,_,rfl,_,rfl,r.at_ x,ra,lo,hi,sm,(goal:Int),(goal:Int),rfl,N1,Gw,?_⟩;intro H2 kq2 N2;have lD:∀y o,H y=some o->y≠r.a->y≠r.lb->y≠r.lc->H2 y=some o:=λy o e n1 n2 n3=>kq2 y o (xV y o e n1) n2 n3;have A2:=A.dz lD N2 xU;have F1:a_ (NN r lo hi) (fl ra):=I.gI F0;have F2:a_ (NN (r.at_ x) (lo.set sm (goal:Int)) (hi.set sm (some (goal:Int)))) (fl ra):=by show a_ (NN r _ _) _;rw[pL _ _ eL eH];exact Flow.gG F1 (by rw[v0];exact oG _) (λz hz=>by cases hz;rw[v0];exact oG _)
 have W2:gv (r.at_ x) (lo.set sm (goal:Int)) (hi.set sm (some (goal:Int))):=(nu.at_ x).wi.fix _ eL eH;have aay:(lo.set sm (goal:Int)).getD p 0=0:=by rw[dU eL,au xX];exact wz
 have aa2:(hi.set sm (some (goal:Int))).getD p none=none:=by rw[dU eH,au xX];exact qa
 have Gc:=eO (xs:=dh t) (p:=p) (by rw[bJ];exact hp);rw[fE t hp]at Gc;refine⟨_,rfl,q.a,CP,q.dx,_,_,rfl,A2.ins,T.cl,T.nN,gQ,r.a,r.dx,_,rfl,N2.ins,vf,_,rfl,_,rfl,q.a,CP,q.dx,_,_,rfl,A2.ins,T.cl,T.nO,qx,_,rfl,q.own,_,_,_,rfl,rfl,bp.of A2.hO,cj Gc,_,rfl,q.a,CP,q.dx,_,_,rfl,A2.ins,T.cl,T.nO,qx,_,rfl,q.own,_,_,_,rfl,rfl,bp.of A2.hO,cj Gc,r.at_ x,ra,_,_,p,(t.own p:Int),(t.own p:Int),rfl,N2,j_,W2,F2,(oG _),?_,?_,?_⟩;.intro _;rw[aay];omega
 .intro z hz;rw[aa2]at hz;cases hz
 have eR:∀(jC:List Int),(∀z,jC.set p z=(lo.set sm (goal:Int)).set p z)->(jC.set sm 0).set p 0=lo:=λjC h=>by rw[yu _ _ (λe=>xX e.symm),h 0,yu _ _ (λe=>xX e.symm),lS,jY wz];exact jY Oe
 have eHh:∀(gL:List (Option Int)),(∀z,gL.set p z=(hi.set sm (some (goal:Int))).set p z)->(gL.set sm none).set p none=hi:=λgL h=>by rw[yu _ _ (λe=>xX e.symm),h none,yu _ _ (λe=>xX e.symm),lS,jY qa];exact jY Og
 have back:∀g,a_ (NN r (lo.set sm (goal:Int)) (hi.set sm (some (goal:Int)))) g↔a_ (PN t u) g/\g sm=(goal:Int):=λg=>by
  rw[pL _ _ eL eH];constructor;.intro h;have:=Flow.xH Gw (by show lo.getD sm 0<=_;rw[Oe];omega) (by show Flow.Under _ (hi.getD sm none);rw[Og];intro z hz;cases hz) h;exact⟨I.eX this.1,this.2⟩
  rintro⟨h,e⟩;exact Flow.gG (I.gI h) (by rw[e];exact oG _) (λz hz=>by cases hz;rw[e];exact oG _)
 refine⟨λH3 Iu ZK Z4 k3 N3 W3 s1 s2 aaD F3=>?_,λH3 Iu ZK Z4 k3 N3 s1 s2 p9=>?_⟩
 .have sQ:∀y o,H y=some o->y≠r.a->y≠r.lb->y≠r.lc->H3 y=some o:=λy o e n1 n2 n3=>k3 y o (lD y o e n1 n2 n3) (aa e hx) n2 n3;have A3:=A.dz sQ N3 xU;refine⟨_,rfl,q.a,CP,q.dx,_,_,rfl,A3.ins,T.cl,T.nN,gQ,r.a,r.dx,_,rfl,N3.ins,ie,_,rfl,r.at_ x,Iu,ZK,Z4,sm,rfl,N3,Gw,?_⟩;intro H4 k4 N4;have Iy:∀y o,H y=some o->y≠r.a->y≠r.lb->y≠r.lc->H4 y=some o:=λy o e n1 n2 n3=>k4 y o (sQ y o e n1 n2 n3) n2 n3;have A4:=A.dz Iy N4 xU;refine⟨_,rfl,q.a,CP,q.dx,_,_,rfl,A4.ins,T.cl,T.nN,gQ,r.a,r.dx,_,rfl,N4.ins,ie,_,rfl,r.at_ x,Iu,_,_,p,rfl,N4,j_,?_⟩;intro H5 k5 N5;rw[eR _ s1,eHh _ s2]at N5;have Ew:∀y o,H y=some o->y≠r.a->y≠r.lb->y≠r.lc->H5 y=some o:=λy o e n1 n2 n3=>k5 y o (Iy y o e n1 n2 n3) n2 n3;have A5:=A.dz Ew N5 xU;refine⟨_,rfl,_,rfl,eV ?_⟩;refine⟨_,rfl,q.a,CP,q.dx,_,_,rfl,A5.ins,T.cl,T.nN,gQ,r.a,CN,r.dx,_,_,rfl,N5.ins,TN.cl,TN.nA,cP,x,_,rfl,.inl (bp.of N5.hA),λy hy=>?_⟩;obtain⟨g1,g2,g3⟩:=(aaD _).mp F3;obtain⟨g4,g5⟩:=(back _).mp g1;have ZR:H y=none:=by
   cases c:H y with
   |none=>rfl
   |some o=>
    exfalso;by_cases n1:y=r.a;.rw[n1]at hy;have h5:=N5.ins;have h5:H5 r.a=_:=h5;rw[hy]at h5;cases h5
    by_cases n2:y=r.lb;.rw[n2]at hy;have h5:H5 r.lb=_:=N5.hL;rw[hy]at h5;cases h5
    by_cases n3:y=r.lc;.rw[n3]at hy;have h5:H5 r.lc=_:=N5.hH;rw[hy]at h5;cases h5
    rw[Ew y o c n1 n2 n3]at hy;cases hy
  have keep:∀z o,H5 z=some o->upd H5 y (.lst (Iu.map V.int)) z=some o:=λz o e=>by rw[ah (aa e hy)];exact e
  refine k1 _ x y Iu Iu (λz o e n1 n2 n3 n4 n5=>keep _ _ (Ew z o e n2 n3 n4)) hx ZR ?_ ai (by rw[N5.kf];exact hm) g4 g5 (by omega) ?_ (aa A.hS ZR).symm;.refine A5.dz (x:=x) (λz o e _ _ _=>keep z o e) (N5.same λz o e=>keep z o e) xU
  intro z hz;have ex:∃o,H z=some o:=by
   have N:=A.gn;rcases hz with rfl|rfl|rfl|rfl|rfl|⟨q,hq,rfl⟩;.exact⟨_,N.hL⟩
   .exact⟨_,N.hH⟩
   .exact⟨_,N.hT⟩
   .exact⟨_,N.hD⟩
   .exact⟨_,N.hS⟩
   exact⟨_,(N.hK q hq).1⟩
  obtain⟨o,ho⟩:=ex;exact aa ho ZR
 have sQ:∀y o,H y=some o->y≠r.a->y≠r.lb->y≠r.lc->H3 y=some o:=λy o e n1 n2 n3=>k3 y o (lD y o e n1 n2 n3) (aa e hx) n2 n3;have A3:=A.dz sQ N3 xU;refine⟨_,rfl,q.a,CP,q.dx,_,_,rfl,A3.ins,T.cl,T.nN,gQ,r.a,r.dx,_,rfl,N3.ins,ie,_,rfl,r.at_ x,Iu,ZK,Z4,sm,rfl,N3,Gw,?_⟩;intro H4 k4 N4;have Iy:∀y o,H y=some o->y≠r.a->y≠r.lb->y≠r.lc->H4 y=some o:=λy o e n1 n2 n3=>k4 y o (sQ y o e n1 n2 n3) n2 n3;have A4:=A.dz Iy N4 xU;refine⟨_,rfl,q.a,CP,q.dx,_,_,rfl,A4.ins,T.cl,T.nN,gQ,r.a,r.dx,_,rfl,N4.ins,ie,_,rfl,r.at_ x,Iu,_,_,p,rfl,N4,j_,?_⟩;intro H5 k5 N5;rw[eR _ s1,eHh _ s2]at N5;have Ew:∀y o,H y=some o->y≠r.a->y≠r.lb->y≠r.lc->H5 y=some o:=λy o e n1 n2 n3=>k5 y o (Iy y o e n1 n2 n3) n2 n3;have A5:=A.dz Ew N5 xU;refine⟨_,rfl,_,rfl,gM ?_⟩;refine k2 H5 x Iu (λy o e n1 n2 n3 n4 n5=>Ew y o e n2 n3 n4) hx A5 ?_;rintro⟨g,hg,e1,e2⟩;exact p9 ⟨g,(back g).mpr ⟨hg,e1⟩,by omega,by omega⟩
end
end Wh
end
section
namespace Wh
open PySem PySem.Spec PyProof.Rows L2
open FhHold (Tab)
open ak(dk PN aJ cI pr pc cX gX fe less)
open Flow(a_ nZ dN et)
theorem jV.some{am lo:List Int}{hi:List (Option Int)}(N:cy C H r am lo hi)(h:jV r y):∃o,H y=some o:=by
 rcases h with rfl|rfl|rfl|rfl|rfl|⟨q,hq,rfl⟩;.exact⟨_,N.hL⟩
 .exact⟨_,N.hH⟩
 .exact⟨_,N.hT⟩
 .exact⟨_,N.hD⟩
 .exact⟨_,N.hS⟩
 exact⟨_,(N.hK q hq).1⟩
theorem gm.off{k:Nat}{ow:List Int}{ts:List (Addr×Addr)}{sh:List Ent}{am lo:List Int}{hi:List (Option Int)}{xs:List V}(A:gm CP CN H q r k ow ts sh am lo hi)(hL:H L=some (.lst xs))(kp:∀y o,H y=some o->y≠L->H' y=some o)(n1:q.own≠L)(n2:q.sh≠L)(n3:∀z,z∈ts->z.2≠L)(n4:r.la≠L)(n5:∀y,jV r y->y≠L):gm CP CN H' q r k ow ts sh am lo hi:=by refine⟨kp _ _ A.ins (aI A.ins hL (by intro z;cases z)),kp _ _ A.hO n1,kp _ _ A.hS n2,?_,A.gn.off hL kp n4 n5,A.aN,A.aA,A.aO,A.aT⟩;exact Paired.jc A.hE λz e hz h=>⟨kp _ _ h.1 (aI h.1 hL (by intro z;cases z)),kp _ _ h.2 (n3 z hz)⟩
theorem jM.less{R C:Nat}{cs bs u:List Nat}{lo:List Int}{hi:List (Option Int)}{p:Nat}(h:jM R C cs bs u r lo hi)(hp:p<(tabOf R C cs bs).places)(eL:p<lo.length)(eH:p<hi.length):jM R C cs bs (less u p) r (lo.set p ((tabOf R C cs bs).own p:Int)) (hi.set p (some ((tabOf R C cs bs).own p:Int))):=by
 refine⟨h.tl,h.hd,⟨λe he=>?_,λe he=>?_⟩,h.wi.fix _ eL eH⟩
 .rw[bJ]at he;rw[dU eL,fE _ he];by_cases c:e=p;.subst c;rw[aw rfl,au];intro z;have:=(ak.gH.mp ((eQ (cs:=cs) he).mp z)).2;exact this rfl
  rw[au c,h.EO he];by_cases d:aJ (tabOf R C cs bs) u e=true;.rw[aw d,aw ((eQ he).mpr (ak.gH.mpr ⟨d,c⟩))]
  rw[au d,au (λz=>d (ak.gH.mp ((eQ he).mp z)).1)]
 rw[bJ]at he;rw[dU eH,fE _ he];by_cases c:e=p;.subst c;rw[aw rfl,au];intro z;have:=(ak.gH.mp ((eQ (cs:=cs) he).mp z)).2;exact this rfl
 rw[au c,h.AR he];by_cases d:aJ (tabOf R C cs bs) u e=true;.rw[aw d,aw ((eQ he).mpr (ak.gH.mpr ⟨d,c⟩))]
 rw[au d,au (λz=>d (ak.gH.mp ((eQ he).mp z)).1)]
def eE.free(h:eE t k u sh)(hp:p∈t.smalls k):aJ t u p=true:=by obtain⟨⟨am,h1⟩,_⟩:=h.all p hp;obtain⟨_,_,_,f1,v1⟩:=h.ok _ h1;obtain⟨iF,IA⟩:=ak.dP.mp hp;cases c:aJ t u p with|true=>rfl|false=>have e:=ak.ft f1 iF c;have v1:fl am p=0:=v1;have e:fl am p=(t.own p:Int):=e;have:=(ak.ir.mp IA).1;omega
structure DR (t:Tab) (k:Nat) (u:List Nat) (p:Nat) (sh Aj:List Ent):Prop where
  key:Aj.map (λe=>(e.1,e.2.1))=sh.map λe=>(e.1,e.2.1)
  ok:∀e,e∈Aj->e.2.2.length=t.places/\a_ (PN t (less u p)) (fl e.2.2)/\fl e.2.2 e.1=(e.2.1:Int)
def DR.good(M:DR t k u p sh Aj)(G:eE t k u sh):eE t k (less u p) Aj:=by
 refine⟨λe he=>?_,λq hq=>?_⟩
 .have hm:(e.1,e.2.1)∈sh.map λe=>(e.1,e.2.1):=by rw[<-M.key];exact lx (f:=λe:Ent=>(e.1,e.2.1)) he
  obtain⟨e0,h0,h1⟩:=br.mp hm;obtain⟨g1,g2,_⟩:=G.ok e0 h0;obtain⟨m1,m2,m3⟩:=M.ok e he;injection h1 with h2 h3
  rw[h2]at g1;rw[h3]at g2;exact⟨g1,g2,m1,m2,m3⟩
 obtain⟨⟨lF,h1⟩,⟨gk,h2⟩⟩:=G.all q hq;have f:∀{x:Nat}{am:List Int},(q,x,am)∈sh->∃dI,(q,x,dI)∈Aj:=fun {x am} h=>by
  have hm:(q,x)∈Aj.map λe=>(e.1,e.2.1):=by rw[M.key];exact br.mpr ⟨_,h,rfl⟩
  obtain⟨⟨a,b,dI⟩,h0,h1⟩:=br.mp hm;injection h1 with h2 h3
  have h2:a=q:=h2;have h3:b=x:=h3;subst h2 h3;exact⟨dI,h0⟩
 exact⟨f h1,f h2⟩
structure nj (q:QR) (r:NR) (ts:List (Addr×Addr)) (y:Addr):Prop where
  own:q.own≠y
  sh:q.sh≠y
  ts:∀z,z∈ts->z.2≠y
  la:r.la≠y
  gn:∀w,jV r w->w≠y
def XD(CP CN:Addr)(vs:List V)(H:Hp)(Q:VK)(q:QR)(r:NR)(k:Nat)(R C:Nat)(cs bs u:List Nat)(ts:List (Addr×Addr))(sh:List Ent)(am lo:List Int)(hi:List (Option Int))(p:Nat)(y0:Addr)(ys:List V):Prop:=vs=[.ref q.a,nV p]/\H y0=some (.lst ys)/\nj q r ts y0/\gm CP CN H q r k (dh (tabOf R C cs bs)) ts sh am lo hi/\Sz R C cs bs/\jM R C cs bs u r lo hi/\eE (tabOf R C cs bs) k u sh/\p<(tabOf R C cs bs).places/\(tabOf R C cs bs).small k p=false/\(∀z,z∈(tabOf R C cs bs).smalls k->z∈u)/\sh.length<=1000/\(∀(H':Hp)(q':QR)(x:Addr)(T_:List (Addr×Addr))(Zo:List Ent)(dI jC:List Int)(gL:List (Option Int)),iA q r H H'->q'.a=q.a->H q'.sh=none->gm CP CN H' q' (r.at_ x) k (dh (tabOf R C cs bs)) T_ Zo dI jC gL->jM R C cs bs (less u p) (r.at_ x) jC gL->eE (tabOf R C cs bs) k (less u p) Zo->Zo.length=sh.length->nj q' (r.at_ x) T_ y0->(tabOf R C cs bs).good k (less u p)=true->Q (.bl true) H')/\(∀(H':Hp)(x:Addr)(dI:List Int),iA q r H H'->gm CP CN H' q (r.at_ x) k (dh (tabOf R C cs bs)) ts sh dI lo hi->x≠y0->(tabOf R C cs bs).good k (less u p)=false->Q (.bl false) H')
def Jk(CP CN:Addr):Sp:=λvs H Q _=>∃q r k R C cs bs u ts sh am lo hi p y0 ys,XD CP CN vs H Q q r k R C cs bs u ts sh am lo hi p y0 ys
section
variable {P:Program} {w:World} {K:PySem.W.Frag} {mg:Str->Option Value} {base:Heap}
def tL:aM ["self","place","lasting","small","goal","amounts","lasts","mended"] ["self","place"] (ax RF):=⟨rfl,rfl,rfl,by decide +kernel,rfl,by decide +kernel,by decide +kernel⟩
def S1(F:gE K "publish" "Proofs.publish" RF f fd)(T:AH K mg CP)(TN:jz K mg CN)(GW:ay P w K mg base bu 6 fW YD ["self","place","small","goal","amounts"] (Dm CP CN))(bW:Binds K YD ["self","place","small","goal","amounts"] [])(mW:cU K CP "without" fW)(GH:ay P w K mg base bu 1 fH wB ["self","place","least","most"] (oK CN))(bH:Binds K wB ["self","place","least","most"] [])(mH:cU K CN "hold" fH):ay P w K mg base bu 7 f fd ["self","place"] (Jk CP CN):=by
 refine iU F tL λvs H Q E h=>?_;obtain⟨q,r,kb,R,C,cs,bs,u,ts,sh,am,lo,hi,p,y0,ys,rfl,Q5,fo,A,sz,nu,G,hp,Ap,xY,Ih,k1,k2⟩:=h;refine⟨rfl,λ_ _ _ _ hr=>?_⟩;refine⟨_,aj (bh (i:=2) tL.nd rfl (Or.inl rfl) (bK ao)) (aj (gd PassesOwn.never rfl (c9 (az (pv 0) rfl)) (qz (n:=3) rfl (eP (bb (i:=3) tL.nd rfl (Or.inl rfl)) (eP (bb (i:=4) tL.nd rfl (Or.inl rfl)) (eP (bb (i:=5) tL.nd rfl (Or.inl rfl)) m_)))) (aj (bh (i:=6) tL.nd rfl (Or.inl rfl) (oN (gy (bF aW (pv 5) (pv 1) (λ_ _=>rfl)) (bF aW (az (pv 0) rfl) (pv 1) (λ_ _=>rfl))))) (aj (bh (i:=7) tL.nd rfl (Or.inl rfl) (jv (dj (pv 6)) (pv 5) (aV (pv 0) T.cl mW GW hr bW .nil aR (ag (pv 1) (ag (pv 3) (ag (pv 4) (ag (pv 5) ao))))))) (aj (cG (cq (oO (pv 7))) (aq (aH ou)) ba) (aq (cA (i7 i6 lL lM fg (pv 2) (ag (km (ag (pv 3) (ag (pv 4) (ag (pv 7) ao)))) ao)))))))) (aj (eB (pv 0) (pv 2) rfl) (aj (cA (aV (az (pv 0) rfl) TN.cl mH GH (hr.mono (by decide)) bH .nil aR (ag (pv 1) (ag (bF aW (az (pv 0) rfl) (pv 1) (λ_ _=>rfl)) (ag (bF aW (az (pv 0) rfl) (pv 1) (λ_ _=>rfl)) ao))))) (aq (aH ou))))),?_⟩;obtain⟨t,ht⟩:∃t,t=tabOf R C cs bs:=⟨_,rfl⟩;have iF:=ff sz;have hsz:ak.ic t:=by rw[ht];exact sz.size
 have hm:=nu.m;rw[<-ht]at k1 k2 iF hm hp Ap xY G A;have j_:p<r.tl.length:=by rw[hm];exact hp
 have Gc:=eO (xs:=dh t) (p:=p) (by rw[bJ];exact hp);rw[fE t hp]at Gc;have gl:=ak.xD hsz (u:=u) hp Ap xY;refine⟨dW _,λL hL=>?_⟩;have s0:=cH H L (.lst []) hL;have nL:∀y o,H y=some o->y≠L:=λy o e=>aa e hL;have A0:gm CP CN (upd H L (.lst [])) q (r.at_ r.la) kb (dh t) ts sh am lo hi:=A.dz (x:=r.la) (λy o e _ _ _=>s0 y o e) (A.gn.same s0) A.aA;refine⟨_,rfl,q.a,CP,q.dx,_,_,rfl,A0.ins,T.cl,T.nS,uW,q.sh,rfl,⟨_,bp.of A0.hS⟩,fJ (K:=K) (a:=q.sh) (xs:=ts.map λz=>V.ref z.1) (λi σ H'=>∃(v3 v4 v5 v6 v7:Option V)(x:Addr)(dI:List Int)(vY:List (Addr×Addr))(Aj:List Ent),σ=[some (.ref q.a),some (nV p),some (.ref L),v3,v4,v5,v6,v7]/\x≠y0/\(∀z,z∈vY->z.2≠y0)/\x≠L/\iA q r H H'/\gm CP CN H' q (r.at_ x) kb (dh t) ts sh dI lo hi/\H' L=some (.lst (vY.map λz=>V.ref z.1))/\Paired (E2 H') vY Aj/\(∀z,z∈vY->(∀y,jV r y->y≠z.2)/\z.2≠q.sh/\z.2≠L)/\DR t kb u p (sh.take i) Aj) ⟨none,none,none,none,none,r.la,am,[],[],rfl,fo.la,(λz hz=>by cases hz),nL _ _ A.gn.hA,λy o e _ _ _ _ _=>s0 y o e,A0,ai,.nil,(λz hz=>by cases hz),⟨rfl,(λe he=>by cases he)⟩⟩ ?_ ?_ ?_⟩;.rintro i σ H' _ ⟨_,_,_,_,_,_,_,_,_,_,_,_,_,_,A',_⟩;exact bp.of A'.hS
 .rintro i y σ H1 hy ⟨v3,v4,v5,v6,v7,x,lF,vY,Aj,rfl,Zu,X3,X4,xV,A1,IH,Yy,qc,M1⟩;obtain⟨z,hz,rfl⟩:=fq hy;obtain⟨e,he,U5⟩:=nG A1.hE hz;obtain⟨sm,goal,ra⟩:=e;have hem:(sm,goal,ra)∈sh:=du he;obtain⟨g1,g2,g3,g4,g5⟩:=G.ok _ hem;have g2:goal=0\/goal=kb:=g2;have g3:ra.length=t.places:=g3;have Uk:z∈ts:=du hz;have Ra:i<ts.length:=(fh.mp hz).1;have abH:ts.length=sh.length:=Paired.length A.hE;have aaN:sm<t.places:=(ak.dP.mp g1).1;have xX:p≠sm:=by intro c;subst c;rw[(ak.dP.mp g1).2]at Ap;cases Ap
  have hpA:=eO (xs:=ra) (p:=p) (by rw[g3];exact hp);have UW:L≠q.sh:=(nL _ _ A.hS).symm;have nLb:L≠r.lb:=(nL _ _ A.gn.hL).symm;have nLc:L≠r.lc:=(nL _ _ A.gn.hH).symm;have Ya:q.own≠L:=nL _ _ A.hO;have Zz:∀z,z∈ts->z.2≠L:=λz hz=>by obtain⟨e,_,h⟩:=Paired.vj A.hE z hz;exact nL _ _ h.2
  have nLN:∀y,jV r y->y≠L:=λy hy=>by obtain⟨o,ho⟩:=jV.some A.gn hy;exact nL _ _ ho
  have nb:=A.aN r.lb (.inl rfl);have nc:=A.aN r.lc (.inr (.inl rfl));have hE0:=U5;refine⟨z.1,_,rfl,qb.of U5.1,rfl,_,_,rfl,_,_,rfl,_,_,rfl,rfl,?_⟩;refine⟨_,rfl,_,rfl,z.2,_,_,_,rfl,rfl,bp.of U5.2,cj hpA,_,rfl,q.a,CP,q.dx,_,_,rfl,A1.ins,T.cl,T.nO,qx,_,rfl,q.own,_,_,_,rfl,rfl,bp.of A1.hO,cj Gc,_,_,rfl,rfl,?_⟩;refine⟨_,rfl,_,rfl,eu (λc=>?_) (λc=>?_)⟩
  .have c:ra.getD p 0=(t.own p:Int):=cK c;refine⟨_,rfl,?_⟩;obtain⟨H2,Nk⟩:∃H2,H2=H1:=⟨_,rfl⟩;obtain⟨x2,ex2⟩:∃x2,x2=x:=⟨_,rfl⟩;obtain⟨y2,UB⟩:∃y2,y2=z.2:=⟨_,rfl⟩;obtain⟨dI,YL⟩:∃dI,dI=ra:=⟨_,rfl⟩;obtain⟨gk,abk⟩:∃gk,gk=lF:=⟨_,rfl⟩;rw[<-Nk,<-UB];have lD:iA q r H1 H2:=λ_ _ e _ _ _ _ _=>by rw[Nk];exact e
   have A2:gm CP CN H2 q (r.at_ x2) kb (dh t) ts sh gk lo hi:=by rw[Nk,ex2,abk];exact A1
   have UQ:x2≠L:=by rw[ex2];exact X4
   have RG:x2≠y0:=by rw[ex2];exact Zu
   have f7:y2≠y0:=by rw[UB];exact fo.ts z Uk
   have sR:H2 y2=some (.lst (dI.map V.int)):=by rw[Nk,UB,YL];exact U5.2
   have f1:dI.length=t.places:=by rw[YL];exact g3
   have f2:a_ (PN t (less u p)) (fl dI):=by rw[YL];exact(ak.nQ hp _).mpr ⟨g4,c⟩
   have f3:fl dI sm=(goal:Int):=by rw[YL];exact g5
   have f4:∀y,jV r y->y≠y2:=λy hy=>by rw[UB];exact(A.aN y hy).2.2 z Uk
   have f5:y2≠q.sh:=by rw[UB];exact A.aT z Uk
   have f6:y2≠L:=by rw[UB];exact Zz z Uk
   refine⟨_,rfl,_,rfl,eu (λd=>absurd (cK d) (by intro w;cases w)) (λ_=>?_)⟩;have Gh:H2 L=some (.lst (vY.map λz=>V.ref z.1)):=lD _ _ IH (aI IH A1.ins (by intro w;cases w)) (aI IH A1.gn.ins (by intro w;cases w)) nLb nLc UW;have NG:Paired (E2 H2) vY Aj:=Paired.jc Yy λw e hw h=>⟨lD _ _ h.1 (aI h.1 A1.ins (by intro w;cases w)) (aI h.1 A1.gn.ins (by intro w;cases w)) (aI h.1 A1.gn.hL (by intro w;cases w)) (aI h.1 A1.gn.hH (by intro w;cases w)) (aI h.1 A1.hS (by intro w;cases w)),lD _ _ h.2 (aI h.2 A1.ins (by intro w;cases w)) (aI h.2 A1.gn.ins (by intro w;cases w)) ((qc w hw).1 r.lb (.inl rfl)).symm ((qc w hw).1 r.lc (.inr (.inl rfl))).symm (qc w hw).2.1⟩;refine⟨_,rfl,.inl ⟨rfl,_,bp.of Gh⟩,_,rfl,_,rfl,_,rfl,(by show 3<=sizeLine;decide),λtp rX=>?_⟩;have up1:∀w o,H2 w=some o->upd H2 tp (.tup [nV sm,nV goal,.ref y2]) w=some o:=λw o e=>by rw[ah (aa e rX)];exact e
   have l2:vY.length<=1000:=by have h1:=congrArg List.length M1.key;rw[aE,aE,gT]at h1;rw[Paired.length NG,h1];omega
   refine⟨L,_,_,rfl,rfl,up1 _ _ Gh,(by rw[aE];exact dX l2 (by decide)),?_⟩;have keep:∀w o,H2 w=some o->w≠L->(upd (upd H2 tp (.tup [nV sm,nV goal,.ref y2])) L (.lst ((vY.map λz=>V.ref z.1)++[V.ref tp]))) w=some o:=λw o e n=>by rw[ah n];exact up1 w o e
   have Zv:tp≠L:=(aa Gh rX).symm;refine⟨_,_,_,_,_,x2,gk,vY++[(tp,y2)],Aj++[(sm,goal,dI)],rfl,RG,(λw hw=>by
    rcases cO.mp hw with hw|hw;.exact X3 w hw
    have:=cW.mp hw;subst this;exact f7),UQ,λw o e n1 n2 n3 n4 n5=>?_,?_,?_,?_,?_,?_⟩
   .exact keep _ _ (lD w o (xV w o e n1 n2 n3 n4 n5) n1 n2 n3 n4 n5) (nL _ _ e)
   .exact A2.off Gh keep Ya UW.symm Zz UQ nLN
   .rw[ai,cR];rfl
   .refine Paired.snoc (Paired.jc NG λw e hw h=>⟨keep _ _ h.1 (aI h.1 Gh (by intro w;cases w)),keep _ _ h.2 (qc w hw).2.2⟩) ⟨?_,keep _ _ sR f6⟩;show upd _ _ _ tp=_;rw[ah Zv,ai]
   .intro w hw;rcases cO.mp hw with hw|hw;.exact qc w hw
    have:=cW.mp hw;subst this;exact⟨f4,f5,f6⟩
   rw[take_snoc he];refine⟨?_,λe' Qk=>?_⟩;.rw[cR,cR,M1.key];rfl
   rcases cO.mp Qk with h|h;.exact M1.ok e' h
   have:=cW.mp h;subst this;exact⟨f1,f2,f3⟩
  have c:¬ra.getD p 0=(t.own p:Int):=λz=>c (bq z);have Ng:aJ t u p=true:=by cases d:aJ t u p with|true=>rfl|false=>exact absurd (ak.ft g4 hp d) c
  refine⟨_,rfl,q.a,q.dx,_,rfl,A1.ins,OR,_,rfl,_,rfl,_,rfl,_,rfl,q,r.at_ x,kb,R,C,cs,bs,u,ts,sh,lF,lo,hi,p,sm,goal,z.2,ra,rfl,(by rw[<-ht];exact A1),sz,nu.at_ x,(by rw[<-ht];exact hp),(by rw[<-ht];exact Ng),(by rw[<-ht];exact aaN),(by rw[<-ht];exact G.free g1),xX,U5.2,(by rw[<-ht];exact g3),(by rw[<-ht];exact g4),g5,?_⟩;rw[<-ht];refine⟨λH2 x2 y2 dI gk lD Ye hyn A2 sR f1 f2' f3 abg f4 f5=>?_,λH2 x2 gk lD Ye A2 p9=>?_⟩
  .have A2:gm CP CN H2 q (r.at_ x2) kb (dh t) ts sh gk lo hi:=A2;have lD:iA q r H1 H2:=lD;have UQ:x2≠L:=(aa IH Ye).symm;have N7:H1 y0=some (.lst ys):=xV _ _ Q5 (aI Q5 A.ins (by intro w;cases w)) (aI Q5 A.gn.ins (by intro w;cases w)) (fo.gn _ (.inl rfl)).symm (fo.gn _ (.inr (.inl rfl))).symm fo.sh.symm;have RG:x2≠y0:=(aa N7 Ye).symm;have f7:y2≠y0:=(aa N7 hyn).symm;have f2:a_ (PN t (less u p)) (fl dI):=(ak.nQ hp _).mpr ⟨f2',abg⟩;have f6:y2≠L:=(aa IH hyn).symm;refine⟨_,rfl,_,rfl,eu (λd=>absurd (cK d) (by intro w;cases w)) (λ_=>?_)⟩;have Gh:H2 L=some (.lst (vY.map λz=>V.ref z.1)):=lD _ _ IH (aI IH A1.ins (by intro w;cases w)) (aI IH A1.gn.ins (by intro w;cases w)) nLb nLc UW;have NG:Paired (E2 H2) vY Aj:=Paired.jc Yy λw e hw h=>⟨lD _ _ h.1 (aI h.1 A1.ins (by intro w;cases w)) (aI h.1 A1.gn.ins (by intro w;cases w)) (aI h.1 A1.gn.hL (by intro w;cases w)) (aI h.1 A1.gn.hH (by intro w;cases w)) (aI h.1 A1.hS (by intro w;cases w)),lD _ _ h.2 (aI h.2 A1.ins (by intro w;cases w)) (aI h.2 A1.gn.ins (by intro w;cases w)) ((qc w hw).1 r.lb (.inl rfl)).symm ((qc w hw).1 r.lc (.inr (.inl rfl))).symm (qc w hw).2.1⟩;refine⟨_,rfl,.inl ⟨rfl,_,bp.of Gh⟩,_,rfl,_,rfl,_,rfl,(by show 3<=sizeLine;decide),λtp rX=>?_⟩;have up1:∀w o,H2 w=some o->upd H2 tp (.tup [nV sm,nV goal,.ref y2]) w=some o:=λw o e=>by rw[ah (aa e rX)];exact e
   have l2:vY.length<=1000:=by have h1:=congrArg List.length M1.key;rw[aE,aE,gT]at h1;rw[Paired.length NG,h1];omega
   refine⟨L,_,_,rfl,rfl,up1 _ _ Gh,(by rw[aE];exact dX l2 (by decide)),?_⟩;have keep:∀w o,H2 w=some o->w≠L->(upd (upd H2 tp (.tup [nV sm,nV goal,.ref y2])) L (.lst ((vY.map λz=>V.ref z.1)++[V.ref tp]))) w=some o:=λw o e n=>by rw[ah n];exact up1 w o e
   have Zv:tp≠L:=(aa Gh rX).symm;refine⟨_,_,_,_,_,x2,gk,vY++[(tp,y2)],Aj++[(sm,goal,dI)],rfl,RG,(λw hw=>by
    rcases cO.mp hw with hw|hw;.exact X3 w hw
    have:=cW.mp hw;subst this;exact f7),UQ,λw o e n1 n2 n3 n4 n5=>?_,?_,?_,?_,?_,?_⟩
   .exact keep _ _ (lD w o (xV w o e n1 n2 n3 n4 n5) n1 n2 n3 n4 n5) (nL _ _ e)
   .exact A2.off Gh keep Ya UW.symm Zz UQ nLN
   .rw[ai,cR];rfl
   .refine Paired.snoc (Paired.jc NG λw e hw h=>⟨keep _ _ h.1 (aI h.1 Gh (by intro w;cases w)),keep _ _ h.2 (qc w hw).2.2⟩) ⟨?_,keep _ _ sR f6⟩;show upd _ _ _ tp=_;rw[ah Zv,ai]
   .intro w hw;rcases cO.mp hw with hw|hw;.exact qc w hw
    have:=cW.mp hw;subst this;exact⟨f4,f5,f6⟩
   rw[take_snoc he];refine⟨?_,λe' Qk=>?_⟩;.rw[cR,cR,M1.key];rfl
   rcases cO.mp Qk with h|h;.exact M1.ok e' h
   have:=cW.mp h;subst this;exact⟨f1,f2,f3⟩
  have A2:gm CP CN H2 q (r.at_ x2) kb (dh t) ts sh gk lo hi:=A2;refine⟨_,rfl,_,rfl,eu (λ_=>?_) (λd=>absurd (bq rfl) d)⟩;have N7:H1 y0=some (.lst ys):=xV _ _ Q5 (aI Q5 A.ins (by intro w;cases w)) (aI Q5 A.gn.ins (by intro w;cases w)) (fo.gn _ (.inl rfl)).symm (fo.gn _ (.inr (.inl rfl))).symm fo.sh.symm;refine k2 H2 x2 gk (xV.trans lD) A2 (aa N7 Ye).symm ?_;cases d:t.good kb (less u p)with
  |false=>rfl
  |true=>
   exfalso;obtain⟨d1,d2⟩:=gl.mp d sm g1;have d3:fe t (less u p) sm goal:=by
    rcases g2 with e|e;.rw[e];exact d1
    rw[e];exact d2
   exact p9 ((ak.oX hp).mp d3)
 rintro σ H1 ⟨v3,v4,v5,v6,v7,x,lF,vY,Aj,rfl,Zu,X3,X4,xV,A1,IH,Yy,qc,M1⟩;rw[aE,Paired.length A.hE,iH]at M1;have G2:=M1.good G;have UW:L≠q.sh:=(nL _ _ A.hS).symm;have Ya:q.own≠L:=nL _ _ A.hO;refine⟨_,rfl,_,rfl,q.a,CP,q.dx,_,rfl,A1.ins,T.cl,T.nS,(by show 4<1000;decide),?_⟩;rw[SR];have Eu:∀y o,H1 y=some o->y≠q.a->upd H1 q.a (.ins CP q.dx (Al r.a q.own kb L)) y=some o:=λy o e n=>by rw[ah n];exact e
 have M_:∀{y:Addr}{xs:List V},H1 y=some (.lst xs)->y≠q.a:=λe=>aI e A1.ins (by intro z;cases z);have X6:∀{y:Addr}{xs:List V},H1 y=some (.tup xs)->y≠q.a:=λe=>aI e A1.ins (by intro z;cases z);have nrq:r.a≠q.a:=by
  intro e;have h1:=A1.ins;have h2:H1 r.a=some (.ins CN r.dx (iz x r.lb r.lc r.ld r.le r.lf)):=A1.gn.ins;rw[e,h1]at h2;have h3:=bZ h2;injection h3 with _ _ h4
  have h5:=congrArg List.length h4;cases h5
 have N1:=A1.gn;have N2:cy CN (upd H1 q.a (.ins CP q.dx (Al r.a q.own kb L))) (r.at_ x) lF lo hi:=by refine⟨Eu _ _ N1.ins nrq,Eu _ _ N1.hA (M_ N1.hA),Eu _ _ N1.hL (M_ N1.hL),Eu _ _ N1.hH (M_ N1.hH),Eu _ _ N1.hT (M_ N1.hT),Eu _ _ N1.hD (M_ N1.hD),Eu _ _ N1.hS (M_ N1.hS),λq hq=>?_,N1.Nu,N1.Nt,N1.Ic,N1.nd,N1.kf,N1.oa,N1.lG,N1.AB⟩;obtain⟨h1,h2⟩:=N1.hK q hq;exact⟨Eu _ _ h1 (M_ h1),λz hz=>Eu _ _ (h2 z hz) (X6 (h2 z hz))⟩
 have A2:gm CP CN (upd H1 q.a (.ins CP q.dx (Al r.a q.own kb L))) ⟨q.a,q.dx,q.own,L⟩ (r.at_ x) kb (dh t) vY Aj lF lo hi:=by
  refine⟨ai,Eu _ _ A1.hO (M_ A1.hO),Eu _ _ IH (M_ IH),?_,N2,λy hy=>⟨?_,(A.aN y hy).2.1,λz hz=>(qc z hz).1 y hy⟩,X4,Ya,λz hz=>(qc z hz).2.2⟩;.exact Paired.jc Yy λz e hz h=>⟨Eu _ _ h.1 (X6 h.1),Eu _ _ h.2 (M_ h.2)⟩
  obtain⟨o,ho⟩:=jV.some A.gn hy;exact nL _ _ ho
 refine⟨_,rfl,q.a,CP,q.dx,_,_,rfl,A2.ins,T.cl,T.nN,gQ,r.a,r.dx,_,rfl,N2.ins,sy,_,rfl,_,rfl,q.a,CP,q.dx,_,_,rfl,A2.ins,T.cl,T.nO,qx,_,rfl,q.own,_,_,_,rfl,rfl,bp.of A2.hO,cj Gc,_,rfl,q.a,CP,q.dx,_,_,rfl,A2.ins,T.cl,T.nO,qx,_,rfl,q.own,_,_,_,rfl,rfl,bp.of A2.hO,cj Gc,r.at_ x,lF,lo,hi,p,(t.own p:Int),(t.own p:Int),rfl,N2,j_,?_⟩;intro H3 kq3 N3;have A3:=A2.dz (x:=x) (λy o e _ n2 n3=>kq3 y o e n2 n3) N3 X4;have nu2:=(nu.at_ x).less (p:=p) (by rw[<-ht];exact hp) (by rw[N1.oa];exact j_) (by rw[N1.lG];exact j_);rw[<-ht]at nu2;have aa1:∀z,z∈t.smalls kb->z∈less u p:=λz hz=>ak.j3.mpr ⟨xY z hz,λc=>by subst c;rw[(ak.dP.mp hz).2]at Ap;cases Ap⟩;refine k1 H3 ⟨q.a,q.dx,q.own,L⟩ x vY Aj lF _ _ (λy o e n1 n2 n3 n4 n5=>kq3 y o (Eu _ _ (xV y o e n1 n2 n3 n4 n5) n1) n3 n4) rfl hL A3 nu2 G2 ?_ ⟨fo.own,(nL _ _ Q5).symm,X3,Zu,fo.gn⟩ (G2.good hsz aa1);have:=congrArg List.length M1.key;rw[aE,aE]at this;exact this
end
end Wh
end
section
namespace Wh
open PySem PySem.Spec PyProof.Rows L2
open FhHold (Tab)
open ak(dk PN aJ cI pr pc cX gX fe less)
open Flow(a_ nZ dN et)
abbrev zH:Stmt:=top 35
abbrev Jt:Stmt:=top 36
abbrev Jr:Stmt:=top 37
structure T7 (t:Tab) (k:Nat) (u ps:List Nat) (sh:List Ent):Prop where
  ok:∀e,e∈sh->e.1∈t.smalls k/\(e.2.1=0\/e.2.1=k)/\e.2.2.length=t.places/\a_ (PN t u) (fl e.2.2)/\fl e.2.2 e.1=(e.2.1:Int)
  all:∀p,p∈ps->(∃am,(p,0,am)∈sh)/\∃am,(p,k,am)∈sh
  safe:∀p,p∈ps->t.safe k u p=true
def Ek{α:Type}{f:α->Bool}{l:List α}{i:Nat}{x:α}(hx:l[i]?=some x)(hf:f x=true)(hn:∀y,y∈l.take i->f y=false):l.find? f=some x:=by
 induction l generalizing i with
 |nil=>simp at hx
 |cons a l ih=>
  rw[oj];cases i with
  |zero=>
   have e:a=x:=by simpa using hx
   rw[e,hf]
  |succ i=>rw[hn a (by rw[Kq];exact cF ..)];exact ih (i:=i) (by simpa using hx) λy hy=>hn y (by rw[Kq];exact dR _ hy)
def Ms(hs:ak.ic t)(hp:p∈t.smalls k)(h:¬(aJ t u p=true/\fe t u p 0/\fe t u p k)):t.safe k u p=false:=by obtain⟨h1,h2⟩:=ak.dP.mp hp;cases c:t.safe k u p with|false=>rfl|true=>exfalso;have:=(ak.ir.mp h2).2;obtain⟨_,s1,s2⟩:=(ak.mh hs u h1 (by omega)).mp c;refine h ⟨?_,s1,s2⟩;cases d:aJ t u p with|true=>rfl|false=>rw[ak.Hd hs u h1 h2 d]at c;cases c
def Apart(q:QR)(r:NR)(y:Addr):Prop:=y≠q.a/\y≠r.a/\y≠r.lb/\y≠r.lc/\y≠q.sh
def MO(CT CP CN:Addr)(vs:List V)(H:Hp)(Q:VK)(a dx aA aB:Addr)(R C:Nat)(cs bs u:List Nat)(q:QR)(r:NR)(k:Nat)(am lo:List Int)(hi:List (Option Int)):Prop:=vs=[.ref a,.ref q.a]/\TabAt CT H a R C cs bs dx aA aB/\Sz R C cs bs/\gm CP CN H q r k (dh (tabOf R C cs bs)) [] [] am lo hi/\jM R C cs bs u r lo hi/\Apart q r a/\Apart q r aA/\Apart q r aB/\(∀(H':Hp)(x:Addr)(ts:List (Addr×Addr))(sh:List Ent)(dI:List Int),iA q r H H'->gm CP CN H' q (r.at_ x) k (dh (tabOf R C cs bs)) ts sh dI lo hi->eE (tabOf R C cs bs) k u sh->sh.length<=1000->(tabOf R C cs bs).bare k u=none->Q .dQ H')/\(∀(H':Hp)(p:Nat),iA q r H H'->(tabOf R C cs bs).bare k u=some p->Q (nV p) H')
def md(CT CP CN:Addr):Sp:=λvs H Q _=>∃a dx aA aB R C cs bs u q r k am lo hi,MO CT CP CN vs H Q a dx aA aB R C cs bs u q r k am lo hi
section
variable {P:Program} {w:World} {K:PySem.W.Frag} {mg:Str->Option Value} {base:Heap}
def Be:aM ["table","proofs","place"] ["table","proofs"] (ax zH):=⟨rfl,rfl,rfl,by decide +kernel,rfl,by decide +kernel,by decide +kernel⟩
def Hk(F:gE K "lowest_unsafe" "lowest_unsafe" zH f fd)(T:i_ K mg CT)(TP:AH K mg CP)(GS:ay P w K mg base bu 2 fS p_ ["self","bound"] (mf CT))(bS:Binds K p_ ["self","bound"] [])(mS:cU K CT "small_places" fS)(GP:ay P w K mg base bu 7 fP Rg ["self","place"] (zy CP CN))(bP:Binds K Rg ["self","place"] [])(mP:cU K CP "prove" fP):ay P w K mg base bu 8 f fd ["table","proofs"] (md CT CP CN):=by
 refine iU F Be λvs H Q E h=>?_;obtain⟨a,dx,aA,aB,R,C,cs,bs,u,q,r,kb,am,lo,hi,rfl,Ta,sz,A,nu,ap1,ap2,ap3,k1,k2⟩:=h;refine⟨rfl,λ_ _ _ _ hr=>?_⟩;refine⟨_,aj (gd PassesOwn.never rfl (c9 (aV (pv 0) T.cl mS GS (hr.mono (by decide)) bS .nil aR (ag (az (pv 1) rfl) ao))) (bb (i:=2) Be.nd rfl (Or.inl rfl)) (aq (cG (fm (dj (aV (pv 1) TP.cl mP GP hr bP .nil aR (ag (pv 2) ao)))) (aq (aH (pv 2))) ba))) (aq (aH jO)),?_⟩;obtain⟨t,ht⟩:∃t,t=tabOf R C cs bs:=⟨_,rfl⟩;have iF:=ff sz;have hsz:ak.ic t:=by rw[ht];exact sz.size
 have abG:(t.smalls kb).length<=t.places:=by unfold FhHold.Tab.smalls FhHold.Tab.all;refine cB (jo _ _) ?_;rw[cZ];exact bx _
 rw[<-ht]at k1 k2 iF A;refine⟨_,rfl,a,dx,_,rfl,Ta.ins,qI,_,rfl,q.a,CP,q.dx,_,_,rfl,A.ins,TP.cl,TP.nB,Bj,a,dx,aA,aB,R,C,cs,bs,kb,rfl,Ta,sz,?_⟩;rw[<-ht];intro H1 l s1 hl h1;have A1:gm CP CN H1 q (r.at_ r.la) kb (dh t) [] [] am lo hi:=A.dz (x:=r.la) (λy o e _ _ _=>s1 y o e) (A.gn.same s1) A.aA;have VE:Apart q r l:=⟨(aa A.ins hl).symm,(aa A.gn.ins hl).symm,(aa A.gn.hL hl).symm,(aa A.gn.hH hl).symm,(aa A.hS hl).symm⟩;refine⟨l,rfl,⟨_,bp.of h1⟩,fJ (K:=K) (a:=l) (xs:=(t.smalls kb).map nV) (λi σ H'=>∃(v2:Option V)(x:Addr)(dI:List Int)(ts:List (Addr×Addr))(sh:List Ent),σ=[some (.ref a),some (.ref q.a),v2]/\iA q r H1 H'/\gm CP CN H' q (r.at_ x) kb (dh t) ts sh dI lo hi/\T7 t kb u ((t.smalls kb).take i) sh/\sh.length=2*i) ⟨none,r.la,am,[],[],rfl,λ_ _ e _ _ _ _ _=>e,A1,⟨λe he=>absurd he (by simp),λp hp=>absurd hp (by simp),λp hp=>absurd hp (by simp)⟩,rfl⟩ ?_ ?_ ?_⟩;.rintro i σ H' _ ⟨_,_,_,_,_,_,kp,_⟩;exact bp.of (kp _ _ h1 VE.1 VE.2.1 VE.2.2.1 VE.2.2.2.1 VE.2.2.2.2)
 .rintro i y σ H2 hy ⟨v2,x,gk,ts,sh,rfl,lD,A2,G2,l2⟩;obtain⟨p,hp,rfl⟩:=fq hy;have j_:p∈t.smalls kb:=du hp;have Ra:i<(t.smalls kb).length:=(fh.mp hp).1;obtain⟨xW,hps⟩:=ak.dP.mp j_;refine⟨_,rfl,q.a,q.dx,_,rfl,A2.ins,L1,_,rfl,q,r.at_ x,kb,R,C,cs,bs,u,ts,sh,gk,lo,hi,p,rfl,(by rw[<-ht];exact A2),sz,nu.at_ x,(by rw[<-ht];exact xW),(by omega),?_⟩;rw[<-ht];refine⟨λH3 x3 ts3 b1 b2 sQ A3 lb1 hf g1 g2 g3 g4=>?_,λH3 sQ hn=>?_⟩
  .refine⟨_,rfl,gM ?_⟩;have Gv:b1.length=t.places/\b2.length=t.places:=by have hm:=nu.m;rw[<-ht]at hm;exact⟨lb1,by rw[A3.gn.kf];exact hm⟩
   refine⟨_,x3,b2,ts3,_,rfl,lD.trans sQ,A3,⟨λe he=>?_,λz hz=>?_,λz hz=>?_⟩,?_⟩
   .rcases cO.mp he with h|h;.exact G2.ok e h
    rcases bE.mp h with h|h;.subst h;exact⟨j_,.inl rfl,Gv.1,g1,g2⟩
    have h:=cW.mp h;subst h;exact⟨j_,.inr rfl,Gv.2,g3,g4⟩
   .rw[take_snoc hp]at hz;rcases cO.mp hz with h|h;.obtain⟨⟨m1,h1⟩,⟨m2,h2⟩⟩:=G2.all z h;exact⟨⟨m1,iS _ h1⟩,⟨m2,iS _ h2⟩⟩
    have h:=cW.mp h;subst h;exact⟨⟨b1,fi _ (by simp)⟩,⟨b2,fi _ (by simp)⟩⟩
   .rw[take_snoc hp]at hz;rcases cO.mp hz with h|h;.exact G2.safe z h
    have h:=cW.mp h;subst h;have:=(ak.ir.mp hps).2;refine(ak.mh hsz u xW (by omega)).mpr ⟨?_,⟨_,g1,g2⟩,⟨_,g3,g4⟩⟩;unfold ak.aJ at hf;rw[dA]at hf;exact fz.mp hf.1
   rw[dC,l2];show 2*i+2=_;omega
  refine⟨_,rfl,eV ?_⟩;refine⟨_,rfl,k2 H3 p (λy o e n1 n2 n3 n4 n5=>(lD.trans sQ) y o (s1 y o e) n1 n2 n3 n4 n5) ?_⟩;rw[ak.FN];refine Ek hp ?_ λz hz=>?_;.rw[Ms hsz j_ hn];rfl
  rw[G2.safe z hz];rfl
 rintro σ H2 ⟨v2,x,gk,ts,sh,rfl,lD,A2,G2,l2⟩;rw[aE,iH]at G2;rw[aE]at l2;refine k1 H2 x ts sh gk (λy o e n1 n2 n3 n4 n5=>lD y o (s1 y o e) n1 n2 n3 n4 n5) A2 ⟨G2.ok,G2.all⟩ (by omega) ?_;rw[ak.FN,C2];intro z hz;rw[G2.safe z hz];simp
def vi(hi:σ[i]?=some (some (.ref a)))(hj:σ[j]?=some (some (.ref aS)))(hm:σ[m]?=some (some (nV k)))(Ta:TabAt CT H a R C cs bs dx aA aB)(sz:Sz R C cs bs)(hS:H aS=some (.lst (s.map nV)))(hl:s.length<=300)(hp:∀p,p∈s->p<(tabOf R C cs bs).places)(h:∀(H':Hp)(q:QR)(r:NR)(lo:List Int)(hi:List (Option Int)),aY H H'->gm CP CN H' q r k (dh (tabOf R C cs bs)) [] [] (dh (tabOf R C cs bs)) lo hi->jM R C cs bs s r lo hi->(∀y o,H y=some o->Apart q r y)->Q (.ref q.a) H'):EC CP (kC CP CN) [] E0 (fb (rf CT "make_net" (pA CT CN) [] E0 (cJ i) (fb (cJ j) iW)) (fb (cJ m) iW)) σ H Q:=by
 refine⟨_,hi,a,dx,_,rfl,Ta.ins,Di,_,hj,a,dx,aA,aB,aS,R,C,cs,bs,s,rfl,Ta,hS,sz.r,sz.c,hl,hp,?_⟩;intro H1 r lo hi s1 N1 nn na nb nc nr;refine⟨_,hm,?_⟩;intro x IK hx Vk ndx;have keep:∀y o,H1 y=some o->upd (upd H1 IK (.own x)) x (.ins CP IK []) y=some o:=λy o e=>by rw[ah (aa e hx),ah (aa e Vk)];exact e
 have low:∀y,upd (upd H1 IK (.own x)) x (.ins CP IK []) y=none->H y=none:=λy e=>by cases c:H y with|none=>rfl|some o=>rw[keep y o (s1 y o c)]at e;cases e
 refine⟨x,IK,r,k,_,lo,hi,rfl,ai,N1.same keep,?_⟩;intro H2 q eq k2 ho hs A2;refine⟨rfl,?_⟩;have hxH:=s1.free hx;rw[<-eq];refine h H2 q r lo hi (λy o e=>k2 y o (keep y o (s1 y o e)) (aa (s1 y o e) hx)) A2 nn λy o e=>⟨?_,aa e nr,aa e nb,aa e nc,aa e (low _ hs)⟩;rw[eq];exact aa e hxH
def gJ(s:aY H H1)(ap:∀y o,H y=some o->Apart q r y)(k:iA q r H1 H2):aY H H2:=λy o e=>by obtain⟨h1,h2,h3,h4,h5⟩:=ap y o e;exact k y o (s y o e) h1 h2 h3 h4 h5
def TK(CT:Addr)(vs:List V)(H:Hp)(Q:VK)(a dx aA aB aS:Addr)(R C:Nat)(cs bs s:List Nat)(k:Nat):Prop:=vs=[.ref a,nV k,.ref aS]/\TabAt CT H a R C cs bs dx aA aB/\Sz R C cs bs/\H aS=some (.lst (s.map nV))/\s.length<=300/\∀(H':Hp)(l:Addr),aY H H'->H l=none->H' l=some (.lst ((HoldNeutral.told (FhF.told (tabOf R C cs bs) (.safe k s))).map V.int))->Q (.ref l) H'
def Dr(CT:Addr):Sp:=λvs H Q _=>∃a dx aA aB aS R C cs bs s k,TK CT vs H Q a dx aA aB aS R C cs bs s k
def Le:aM ["table","bound","hidden","unsafe"] ["table","bound","hidden"] (ax Jt):=⟨rfl,rfl,rfl,by decide +kernel,rfl,by decide +kernel,by decide +kernel⟩
def O6(F:gE K "safe_answer" "safe_answer" Jt f fd)(T:i_ K mg CT)(TC:rQ mg)(GI:ay P w K mg base bu 2 fI x9 ["table","numbers"] (kD CT))(bI:Binds K x9 ["table","numbers"] [])(Nv:mg "is_set"=some (.ref fI))(kI:PySem.W.keepIn K (.ref fI)=true)(GB:ay P w K mg base bu 1 fB Av ["number"] jf)(bB:Binds K Av ["number"] [])(Q4:mg "is_bound"=some (.ref fB))(kB:PySem.W.keepIn K (.ref fB)=true)(GN:ay P w K mg base bu 5 fN B7 ["self","hidden"] (pA CT CN))(bN:Binds K B7 ["self","hidden"] [])(mN:cU K CT "make_net" fN)(U0:mg "Proofs"=some (.ref CP))(MP:Mk K CP fP)(GP:ay P w K mg base bu 1 fP Rg ["self","net","bound"] (kC CP CN))(bP:Binds K Rg ["self","net","bound"] [])(GU:ay P w K mg base bu 8 fU Vs ["table","proofs"] (md CT CP CN))(bU:Binds K Vs ["table","proofs"] [])(UY:mg "lowest_unsafe"=some (.ref fU))(kU:PySem.W.keepIn K (.ref fU)=true):ay P w K mg base bu 9 f fd ["table","bound","hidden"] (Dr CT):=by
 obtain⟨t1,h1⟩:=TC.wl;obtain⟨t2,h2⟩:=TC.ob;refine iU F Le λvs H Q E h=>?_;obtain⟨a,dx,aA,aB,aS,R,C,cs,bs,l,kb,rfl,Ta,sz,hS,hl,k⟩:=h;refine⟨rfl,λ_ _ _ _ hr=>?_⟩;refine⟨_,aj (cG (fm (dj (c_ GI (hr.mono (by decide)) rfl Nv kI bI .nil aR (ag (pv 0) (ag (pv 2) ao))))) (aq (aH (bK (ag (bj (v:=.int (-1)) rfl h1 ⟨_,rfl⟩) ao)))) ba) (aj (cG (fm (dj (c_ GB (hr.mono (by decide)) rfl Q4 kB bB .nil aR (ag (pv 1) ao)))) (aq (aH (bK (ag (bj (v:=.int (-2)) rfl h2 ⟨_,rfl⟩) ao)))) ba) (aj (bh (i:=3) Le.nd rfl (Or.inl rfl) (c_ GU hr rfl UY kU bU .nil aR (ag (pv 0) (ag (ni MP GP (hr.mono (by decide)) rfl U0 bP .nil aR (ag (aV (pv 0) T.cl mN GN (hr.mono (by decide)) bN .nil aR (ag (pv 2) ao)) (ag (pv 1) ao))) ao)))) (aq (aH (jv (cq (oO (pv 3))) (bK (ag aU ao)) (bK (ag aU (ag (pv 3) ao)))))))),?_⟩;obtain⟨t,ht⟩:∃t,t=tabOf R C cs bs:=⟨_,rfl⟩;rw[<-ht]at k;refine⟨_,rfl,_,rfl,a,dx,aA,aB,aS,R,C,cs,bs,l,rfl,Ta,hS,?_⟩;rw[<-ht];cases cS:FhF.isSet t l with
 |false=>
  refine⟨_,rfl,eV ⟨(by show 1<=sizeLine;decide),λy hy=>?_⟩⟩;refine k _ y (cH H y _ hy) hy ?_;have:FhF.told t (.safe kb l)=FhF.says (-1):=by show(if FhF.isSet t l=false then _ else _)=_;rw[aw cS]
  rw[ai,this];rfl
 |true=>
  refine⟨_,rfl,gM ?_⟩;refine⟨_,rfl,kb,rfl,?_⟩;cases bo:FhF.boundOk kb with
  |false=>
   refine⟨_,rfl,eV ⟨(by show 1<=sizeLine;decide),λy hy=>?_⟩⟩;refine k _ y (cH H y _ hy) hy ?_;have:FhF.told t (.safe kb l)=FhF.says (-2):=by show(if FhF.isSet t l=false then _ else if FhF.boundOk kb=false then _ else _)=_;rw[au (by rw[cS];simp),aw bo]
   rw[ai,this];rfl
  |true=>
   refine⟨_,rfl,gM ?_⟩;have told:∀z,t.bare kb l=z->FhF.told t (.safe kb l)=match z with|some p=>⟨0,[p],[]⟩|none=>FhF.says 1:=by intro z hz;show(if FhF.isSet t l=false then _ else if FhF.boundOk kb=false then _ else match t.bare kb l with|some p=>_|none=>_)=_;rw[au (by rw[cS];simp),au (by rw[bo];simp),hz]
   have iF:=iL cS;refine⟨_,rfl,vi (CT:=CT) (CP:=CP) (CN:=CN) (i:=0) (j:=2) (m:=1) rfl rfl rfl Ta sz hS hl (by rw[<-ht];exact iF) ?_⟩;intro H1 q r lo hi s1 A1 nu ap;refine⟨a,dx,aA,aB,R,C,cs,bs,l,q,r,kb,_,lo,hi,rfl,Ta.same s1,sz,A1,nu,ap _ _ Ta.ins,ap _ _ Ta.hA,ap _ _ Ta.hB,?_⟩;rw[<-ht];refine⟨λH2 x ts sh dI kp A2 G l2 hb=>?_,λH2 p kp hb=>?_⟩;.have s2:=gJ s1 ap kp;refine⟨_,rfl,_,rfl,eu (λ_=>?_) (λd=>absurd (bq rfl) d)⟩;refine⟨(by show 1<=sizeLine;decide),λy hy=>?_⟩;refine k _ y (s2.trans (cH H2 y _ hy)) (s2.free hy) ?_;rw[ai,told _ hb];rfl
   have s2:=gJ s1 ap kp;refine⟨_,rfl,_,rfl,eu (λd=>absurd (cK d) (by intro z;cases z)) (λ_=>?_)⟩;refine⟨_,rfl,(by show 2<=sizeLine;decide),λy hy=>?_⟩;refine k _ y (s2.trans (cH H2 y _ hy)) (s2.free hy) ?_;rw[ai,told _ hb];rfl
end
end Wh
end
section
namespace Wh
open PySem PySem.Spec PyProof.Rows L2
open FhHold (Tab)
open ak(dk PN aJ cI pr pc cX gX fe less cD)
open Flow(a_ nZ dN et)
def w6(h:FhF.isSet t s=true):s.Pairwise (·<·):=by unfold FhF.isSet at h;rw[dA]at h;exact ak.mZ h.1
def TB(CT:Addr)(vs:List V)(H:Hp)(Q:VK)(a dx aA aB aS:Addr)(R C:Nat)(cs bs s:List Nat)(k:Nat):Prop:=vs=[.ref a,nV k,.ref aS]/\TabAt CT H a R C cs bs dx aA aB/\Sz R C cs bs/\H aS=some (.lst (s.map nV))/\s.length<=300/\∀(H':Hp)(l:Addr),aY H H'->H l=none->H' l=some (.lst ((HoldNeutral.told (FhF.told (tabOf R C cs bs) (.thin k s))).map V.int))->Q (.ref l) H'
def Dn(CT:Addr):Sp:=λvs H Q _=>∃a dx aA aB aS R C cs bs s k,TB CT vs H Q a dx aA aB aS R C cs bs s k
section
variable {P:Program} {w:World} {K:PySem.W.Frag} {mg:Str->Option Value} {base:Heap}
def y_:aM ["table","bound","hidden","proofs","left","place"] ["table","bound","hidden"] (ax Jr):=⟨rfl,rfl,rfl,by decide +kernel,rfl,by decide +kernel,by decide +kernel⟩
def O3(F:gE K "thin_answer" "thin_answer" Jr f fd)(T:i_ K mg CT)(TP:AH K mg CP)(TC:rQ mg)(GI:ay P w K mg base bu 2 fI x9 ["table","numbers"] (kD CT))(bI:Binds K x9 ["table","numbers"] [])(Nv:mg "is_set"=some (.ref fI))(kI:PySem.W.keepIn K (.ref fI)=true)(GB:ay P w K mg base bu 1 fB Av ["number"] jf)(bB:Binds K Av ["number"] [])(Q4:mg "is_bound"=some (.ref fB))(kB:PySem.W.keepIn K (.ref fB)=true)(GN:ay P w K mg base bu 5 fN B7 ["self","hidden"] (pA CT CN))(bN:Binds K B7 ["self","hidden"] [])(mN:cU K CT "make_net" fN)(U0:mg "Proofs"=some (.ref CP))(MP:Mk K CP fP)(GP:ay P w K mg base bu 1 fP Rg ["self","net","bound"] (kC CP CN))(bP:Binds K Rg ["self","net","bound"] [])(GU:ay P w K mg base bu 8 fU Vs ["table","proofs"] (md CT CP CN))(bU:Binds K Vs ["table","proofs"] [])(UY:mg "lowest_unsafe"=some (.ref fU))(kU:PySem.W.keepIn K (.ref fU)=true)(GS:ay P w K mg base bu 1 fS p_ ["self","place","bound"] (j6 CT))(bS:Binds K p_ ["self","place","bound"] [])(mS:cU K CT "is_small" fS)(GQ:ay P w K mg base bu 7 fQ fdQ ["self","place"] (Jk CP CN))(bQ:Binds K fdQ ["self","place"] [])(mQ:cU K CP "publish" fQ):ay P w K mg base bu 9 f fd ["table","bound","hidden"] (Dn CT):=by
 obtain⟨t1,h1⟩:=TC.wl;obtain⟨t2,h2⟩:=TC.ob;obtain⟨t5,h5⟩:=TC.ng;refine iU F y_ λvs H Q E h=>?_;obtain⟨a,dx,aA,aB,aS,R,C,cs,bs,l,kb,rfl,Ta,sz,hS,hl,k⟩:=h;refine⟨rfl,λ_ _ _ _ hr=>?_⟩;refine⟨_,aj (cG (fm (dj (c_ GI (hr.mono (by decide)) rfl Nv kI bI .nil aR (ag (pv 0) (ag (pv 2) ao))))) (aq (aH (bK (ag (bj (v:=.int (-1)) rfl h1 ⟨_,rfl⟩) ao)))) ba) (aj (cG (fm (dj (c_ GB (hr.mono (by decide)) rfl Q4 kB bB .nil aR (ag (pv 1) ao)))) (aq (aH (bK (ag (bj (v:=.int (-2)) rfl h2 ⟨_,rfl⟩) ao)))) ba) (aj (bh (i:=3) y_.nd rfl (Or.inl rfl) (ni MP GP (hr.mono (by decide)) rfl U0 bP .nil aR (ag (aV (pv 0) T.cl mN GN (hr.mono (by decide)) bN .nil aR (ag (pv 2) ao)) (ag (pv 1) ao)))) (aj (cG (cq (so (c_ GU hr rfl UY kU bU .nil aR (ag (pv 0) (ag (pv 3) ao))))) (aq (aH (bK (ag (bj (v:=.int (-5)) rfl h5 ⟨_,rfl⟩) ao)))) ba) (aj (bh (i:=4) y_.nd rfl (Or.inl rfl) (bK ao)) (aj (gd PassesOwn.never rfl (c9 (pv 2)) (bb (i:=5) y_.nd rfl (Or.inl rfl)) (aq (cG (tM (dj (aV (pv 0) T.cl mS GS (hr.mono (by decide)) bS .nil aR (ag (pv 5) (ag (pv 1) ao)))) (qy (fm (dj (aV (pv 3) TP.cl mQ GQ (hr.mono (by decide)) bQ .nil aR (ag (pv 5) ao)))))).pt (aq (cA (i7 i6 lL lM fg (pv 4) (ag (pv 5) ao)))) ba))) (aq (aH (dv kr (bK (ag aU ao)) (pv 4))))))))),?_⟩;obtain⟨t,ht⟩:∃t,t=tabOf R C cs bs:=⟨_,rfl⟩;have hsz:ak.ic t:=by rw[ht];exact sz.size
 rw[<-ht]at k;refine⟨_,rfl,_,rfl,a,dx,aA,aB,aS,R,C,cs,bs,l,rfl,Ta,hS,?_⟩;rw[<-ht];cases cS:FhF.isSet t l with
 |false=>
  refine⟨_,rfl,eV ⟨(by show 1<=sizeLine;decide),λy hy=>?_⟩⟩;refine k _ y (cH H y _ hy) hy ?_;have:FhF.told t (.thin kb l)=FhF.says (-1):=by show(if FhF.isSet t l=false then _ else _)=_;rw[aw cS]
  rw[ai,this];rfl
 |true=>
  refine⟨_,rfl,gM ?_⟩;refine⟨_,rfl,kb,rfl,?_⟩;cases bo:FhF.boundOk kb with
  |false=>
   refine⟨_,rfl,eV ⟨(by show 1<=sizeLine;decide),λy hy=>?_⟩⟩;refine k _ y (cH H y _ hy) hy ?_;have:FhF.told t (.thin kb l)=FhF.says (-2):=by show(if FhF.isSet t l=false then _ else if FhF.boundOk kb=false then _ else _)=_;rw[au (by rw[cS];simp),aw bo]
   rw[ai,this];rfl
  |true=>
   refine⟨_,rfl,gM ?_⟩;have told:FhF.told t (.thin kb l)=if t.good kb l=false then FhF.says (-5)else⟨0,t.thin kb l,[]⟩:=by show(if FhF.isSet t l=false then _ else if FhF.boundOk kb=false then _ else _)=_;rw[au (by rw[cS];simp),au (by rw[bo];simp)]
   have iF:=iL cS;have Um:=w6 cS;show IM (EC CP (kC CP CN) [] E0 (fb (rf CT "make_net" (pA CT CN) [] E0 (cJ 0) (fb (cJ 2) iW)) (fb (cJ 1) iW))) (gg 3) _ _ H;unfold IM;refine vi (σ:=[some (.ref a),some (nV kb),some (.ref aS),none,none,none]) (k:=kb) (CT:=CT) (CP:=CP) (CN:=CN) (i:=0) (j:=2) (m:=1) rfl rfl rfl Ta sz hS hl (by rw[<-ht];exact iF) ?_;intro H1 q r lo hi s1 A1 nu ap;refine⟨_,rfl,_,rfl,a,dx,aA,aB,R,C,cs,bs,l,q,r,kb,_,lo,hi,rfl,Ta.same s1,sz,A1,nu,ap _ _ Ta.ins,ap _ _ Ta.hA,ap _ _ Ta.hB,?_⟩;rw[<-ht];refine⟨λH2 x ts sh dI kp A2 G l2 hb=>?_,λH2 p kp hb=>?_⟩
   .have s2:=gJ s1 ap kp;have ET:t.good kb l=true:=by unfold FhHold.Tab.good;rw[hb];rfl
    have xY:∀z,z∈t.smalls kb->z∈l:=λz hz=>((ak.iN hsz).mp ET z hz).1;refine⟨_,rfl,eu (λd=>absurd d (by show ¬(!decide (V.dQ=V.dQ))=true;rw[bq rfl];simp)) (λ_=>?_)⟩;refine⟨dW _,λL hL=>?_⟩;have s3:=cH H2 L (.lst []) hL;have A3:gm CP CN (upd H2 L (.lst [])) q (r.at_ x) kb (dh t) ts sh dI lo hi:=A2.dz (x:=x) (λy o e _ _ _=>s3 y o e) (A2.gn.same s3) A2.aA;have nL:∀y o,H2 y=some o->y≠L:=λy o e=>aa e hL;have fo3:nj q (r.at_ x) ts L:=⟨nL _ _ A2.hO,nL _ _ A2.hS,λz hz=>by
     obtain⟨e,_,h⟩:=Paired.vj A2.hE z hz;exact nL _ _ h.2,nL _ _ A2.gn.hA,λy hy=>by
     obtain⟨o,ho⟩:=jV.some A2.gn hy;exact nL _ _ ho⟩
    refine⟨_,rfl,aS,rfl,⟨_,bp.of ((s2.trans s3) _ _ hS)⟩,fJ (K:=K) (a:=aS) (xs:=l.map nV) (λi σ H'=>∃(v5:Option V)(q':QR)(x:Addr)(ts:List (Addr×Addr))(sh:List Ent)(am lo:List Int)(hi:List (Option Int))(left:List Nat),σ=[some (.ref a),some (nV kb),some (.ref aS),some (.ref q.a),some (.ref L),v5]/\q'.a=q.a/\aY H H'/\(∀y o,H y=some o->Apart q' r y)/\gm CP CN H' q' (r.at_ x) kb (dh t) ts sh am lo hi/\jM R C cs bs (left++l.drop i) (r.at_ x) lo hi/\eE t kb (left++l.drop i) sh/\sh.length<=1000/\H' L=some (.lst (left.map nV))/\nj q' (r.at_ x) ts L/\(left++l.drop i).Pairwise (·<·)/\(l.take i).foldl (cD t kb) l=left++l.drop i/\(∀z,z∈t.smalls kb->z∈left++l.drop i)) ⟨none,q,x,ts,sh,dI,lo,hi,[],rfl,rfl,s2.trans s3,ap,A3,nu.at_ x,G,l2,ai,fo3,Um,rfl,xY⟩ ?_ ?_ ?_⟩;.rintro i σ H' _ ⟨_,_,_,_,_,_,_,_,_,_,_,s4,_⟩;exact bp.of (s4 _ _ hS)
    .rintro i y σ H4 hy ⟨v5,q4,x4,XT,XZ,am4,Yb,Yp,left,rfl,UC,s4,UH,A4,M9,G4,l4,Il,Gi,QX,fo,IY⟩;obtain⟨p,hp,rfl⟩:=fq hy;have xW:p<t.places:=iF p (du hp);have Ra:i<l.length:=(fh.mp hp).1;have AS:l.drop i=p::l.drop (i+1):=by have e:=(fh.mp hp).2;rw[tJ Ra,e]
     have T4:=Ta.same s4;have JF:left.length<=600:=by
      have h1:=(ak.iP (n:=t.places) (u:=left) (QX.sublist (List.sublist_append_left _ _)) (λz hz=>?_)).length_le;.rw[cZ]at h1;have:=ff sz;rw[<-ht]at this;omega
      have ZQ:z∈left++l.drop i:=iS _ hz;rw[<-fo]at ZQ;have sub:∀(ps:List Nat)(u:List Nat),z∈ps.foldl (cD t kb) u->z∈u:=by intro ps;induction ps with|nil=>intro u h;exact h|cons c ps ih=>intro u h;exact ak.pY (ih _ h)
      exact iF z (sub _ _ ZQ)
     rw[AS]at M9 G4 QX fo IY;have Jb:(left++[p])++l.drop (i+1)=left++p::l.drop (i+1):=by rw[jS];rfl
     have RW:(left++p::l.drop (i+1)).contains p=true:=fz.mpr (fi _ (cF ..));have QG:∀z,cD t kb (left++p::l.drop (i+1)) p=z->(l.take (i+1)).foldl (cD t kb) l=z:=λz hz=>by rw[take_snoc hp,List.foldl_append,fo];exact hz
     have n_:∀(H5:Hp)(q5:QR)(x5:Addr)(T9:List (Addr×Addr))(QV:List Ent)(NK:List Int),q5.a=q.a->aY H H5->(∀y o,H y=some o->Apart q5 r y)->gm CP CN H5 q5 (r.at_ x5) kb (dh t) T9 QV NK Yb Yp->eE t kb (left++p::l.drop (i+1)) QV->QV.length<=1000->H5 L=some (.lst (left.map nV))->nj q5 (r.at_ x5) T9 L->cD t kb (left++p::l.drop (i+1)) p=left++p::l.drop (i+1)->∃(v5:Option V)(q':QR)(x:Addr)(ts:List (Addr×Addr))(sh:List Ent)(am lo:List Int)(hi:List (Option Int))(wK:List Nat),[some (.ref a),some (nV kb),some (.ref aS),some (.ref q.a),some (.ref L),some (nV p)]=[some (.ref a),some (nV kb),some (.ref aS),some (.ref q.a),some (.ref L),v5]/\q'.a=q.a/\aY H (upd H5 L (.lst (left.map nV++[nV p])))/\(∀y o,H y=some o->Apart q' r y)/\gm CP CN (upd H5 L (.lst (left.map nV++[nV p]))) q' (r.at_ x) kb (dh t) ts sh am lo hi/\jM R C cs bs (wK++l.drop (i+1)) (r.at_ x) lo hi/\eE t kb (wK++l.drop (i+1)) sh/\sh.length<=1000/\(upd H5 L (.lst (left.map nV++[nV p]))) L=some (.lst (wK.map nV))/\nj q' (r.at_ x) ts L/\(wK++l.drop (i+1)).Pairwise (·<·)/\(l.take (i+1)).foldl (cD t kb) l=wK++l.drop (i+1)/\(∀z,z∈t.smalls kb->z∈wK++l.drop (i+1)):=by
      intro H5 q5 x5 T9 QV NK e5 s5 ap5 A5 G5 l5 Vo Qm st;have keep:∀y o,H5 y=some o->y≠L->upd H5 L (.lst (left.map nV++[nV p])) y=some o:=λy o e n=>by rw[ah n];exact e
      refine⟨_,q5,x5,T9,QV,NK,Yb,Yp,left++[p],rfl,e5,λy o e=>keep _ _ (s5 y o e) (λc=>?_),ap5,A5.off Vo keep Qm.own Qm.sh Qm.ts Qm.la Qm.gn,?_,?_,l5,?_,Qm,?_,?_,?_⟩;.rw[c,s2.free hL]at e;cases e
      .rw[Jb];exact⟨M9.tl,M9.hd,M9.bd,⟨M9.wi.is,M9.wi.all,M9.wi.kn,M9.wi.ends⟩⟩
      .rw[Jb];exact G5
      .rw[ai,cR];rfl
      .rw[Jb];exact QX
      .rw[Jb];exact QG _ st
      rw[Jb];exact IY
     refine⟨_,rfl,a,dx,_,rfl,T4.ins,vy,_,rfl,_,rfl,a,dx,aA,aB,R,C,cs,bs,p,kb,rfl,T4,(by rw[<-ht];exact xW),_,rfl,?_⟩;rw[<-ht];cases UG:t.small kb p with
     |true=>refine eV (eV ?_);refine⟨_,rfl,.inl ⟨rfl,_,bp.of Il⟩,_,rfl,L,_,_,rfl,rfl,Il,(by rw[aE];exact dX JF (by decide)),?_⟩;refine n_ H4 q4 x4 XT XZ am4 UC s4 UH A4 G4 l4 Il Gi ?_;unfold ak.cD;rw[RW,UG];rfl
     |false=>
      refine gM ?_;refine⟨_,rfl,q.a,q4.dx,_,rfl,(by rw[<-UC];exact A4.ins),SS,_,rfl,q4,r.at_ x4,kb,R,C,cs,bs,left++p::l.drop (i+1),XT,XZ,am4,Yb,Yp,p,L,left.map nV,(by rw[UC];rfl),Il,Gi,(by rw[<-ht];exact A4),sz,M9,(by rw[<-ht];exact G4),(by rw[<-ht];exact xW),(by rw[<-ht];exact UG),(by rw[<-ht];exact IY),l4,?_⟩;rw[<-ht];refine⟨λH5 q5 x5 T9 QV NK lo5 hi5 Ew e5 aaO A5 nu5 G5 l5 Qm Z6=>?_,λH5 x5 NK Ew A5 nx5 Z6=>?_⟩
      .refine⟨_,rfl,gM ?_⟩;have YH:less (left++p::l.drop (i+1)) p=left++l.drop (i+1):=ak.BA QX;rw[YH]at nu5 G5;have s5:aY H H5:=λy o e=>by obtain⟨n1,n2,n3,n4,n5⟩:=UH y o e;exact Ew y o (s4 y o e) n1 n2 n3 n4 n5
       refine⟨_,q5,x5,T9,QV,NK,lo5,hi5,left,rfl,e5.trans UC,s5,λy o e=>?_,A5,nu5,G5,(by omega),?_,Qm,?_,QG _ ?_,λz hz=>?_⟩;.obtain⟨n1,n2,n3,n4,n5⟩:=UH y o e;exact⟨by rw[e5];exact n1,n2,n3,n4,aa (s4 y o e) aaO⟩
       .exact Ew _ _ Il (aI Il A4.ins (by intro w;cases w)) (aI Il A4.gn.ins (by intro w;cases w)) (Gi.gn _ (.inl rfl)).symm (Gi.gn _ (.inr (.inl rfl))).symm Gi.sh.symm
       .rw[<-YH];exact QX.sublist lq
       .unfold ak.cD;rw[RW,UG,Z6,aw (by rfl),YH]
       have:=IY z hz;rw[<-YH];refine ak.j3.mpr ⟨this,λc=>?_⟩;subst c;rw[(ak.dP.mp hz).2]at UG;cases UG
      refine⟨_,rfl,eV ?_⟩;have s5:aY H H5:=λy o e=>by obtain⟨n1,n2,n3,n4,n5⟩:=UH y o e;exact Ew y o (s4 y o e) n1 n2 n3 n4 n5
      have Vo:H5 L=some (.lst (left.map nV)):=Ew _ _ Il (aI Il A4.ins (by intro w;cases w)) (aI Il A4.gn.ins (by intro w;cases w)) (Gi.gn _ (.inl rfl)).symm (Gi.gn _ (.inr (.inl rfl))).symm Gi.sh.symm;refine⟨_,rfl,.inl ⟨rfl,_,bp.of Vo⟩,_,rfl,L,_,_,rfl,rfl,Vo,(by rw[aE];exact dX JF (by decide)),?_⟩;refine n_ H5 q4 x5 XT XZ NK UC s5 UH A5 G4 l4 Vo ⟨Gi.own,Gi.sh,Gi.ts,nx5,Gi.gn⟩ ?_;unfold ak.cD;rw[RW,UG,Z6];rfl
    rintro σ H4 ⟨v5,q4,x4,XT,XZ,am4,Yb,Yp,left,rfl,UC,s4,UH,A4,M9,G4,l4,Il,Gi,QX,fo,IY⟩;rw[aE,iH,yD,iG]at fo;rw[aE,yD,iG]at QX;have eth:t.thin kb l=left:=by rw[ak.qH Um iF];exact fo
    have JF:left.length<=600:=by
     rw[<-eth];have h1:(t.thin kb l).length<=l.length:=by
      rw[ak.qH Um iF];have:∀(ps:List Nat)(u:List Nat),(ps.foldl (cD t kb) u).length<=u.length:=by
       intro ps;induction ps with
       |nil=>intro u;exact bx _
       |cons c ps ih=>
        intro u;refine cB (ih _) ?_;unfold ak.cD ak.less;split;.exact jo _ _
        exact bx _
      exact this l l
     omega
    refine⟨(by show 1<=sizeLine;decide),λy1 B_=>?_⟩;have s5:=cH H4 y1 (.lst [V.int 0]) B_;refine⟨_,rfl,y1,L,_,_,rfl,rfl,ai,s5 _ _ Il,?_,λy2 sR=>?_⟩;.rw[aE];exact cB (by show 1+left.length<=1000;omega) (by decide)
    have s6:=s4.trans s5;refine k _ y2 (s6.trans (cH _ y2 _ sR)) (s6.free sR) ?_;rw[ai,told,au (by rw[ET];simp),eth];show some (HO.lst ([V.int 0]++left.map nV))=some (HO.lst ((HoldNeutral.told ⟨0,left,[]⟩).map V.int));unfold HoldNeutral.told;rw[lI,iG,uG];rfl
   have s2:=gJ s1 ap kp;refine⟨_,rfl,eu (λ_=>?_) (λd=>absurd (show(!decide (nV p=V.dQ))=true by rw[cM (by intro z;cases z)];rfl) d)⟩;refine⟨(by show 1<=sizeLine;decide),λy hy=>?_⟩;refine k _ y (s2.trans (cH H2 y _ hy)) (s2.free hy) ?_;have ET:t.good kb l=false:=by unfold FhHold.Tab.good;rw[hb];rfl
   rw[ai,told,aw ET];rfl
end
end Wh
end
section
namespace r8
open PySem PyProof.Rows
section
variable {M:Model} {G:Ctx} {s1 s2:Shared} {kd:SortKind}
def Xf:Value->Pos->Shared->Prop:=λ_ _ _=>False
def Tr(M:Model)(G:Ctx)(s1 s2:Shared){α:Type}(t:Sem α):Prop:=∀(R:α->Pos->Shared->Prop)(p2:Pos),Sem.wp M G t R Xf p2 s2->∀p1,Sem.wp M G t (λa _ s'=>s'=s1/\∃p',R a p' s2) Xf p1 s1
def aX(M:Model)(G:Ctx)(s1 s2:Shared)(kd:SortKind){α:Type}(m:StateT SortSt Sem α):Prop:=∀st,kindOf st=kd->∀(R:α×SortSt->Pos->Shared->Prop)(p2:Pos),Sem.wp M G (m.run st) R Xf p2 s2->∀p1,Sem.wp M G (m.run st) (λr _ s'=>s'=s1/\kindOf r.2=kd/\∃p',R r p' s2) Xf p1 s1
variable {α β:Type}
theorem aX.pure(a:α):aX M G s1 s2 kd (Pure.pure a):=by intro st hk R p2 h p1;rw[JV]at h⊢;rw[qj]at h⊢;exact⟨rfl,hk,p2,h⟩
def aX.bind(hm:aX M G s1 s2 kd m)(hf:∀a,aX M G s1 s2 kd (f a)):aX M G s1 s2 kd (m >>= f):=by intro st hk R p2 h p1;rw[JU]at h⊢;rw[jQ]at h⊢;refine yj M G _ (λr p' s' h'=>?_) (λ_ _ _ h'=>h') p1 s1 (hm st hk _ p2 h p1);obtain⟨rfl,Q_,X2,NH⟩:=h';exact hf r.1 r.2 Q_ R X2 NH p'
theorem aX.get(hf:∀st,kindOf st=kd->aX M G s1 s2 kd (f st)):aX M G s1 s2 kd (MonadState.get >>= f):=by intro st hk R p2 h p1;rw[JU]at h⊢;have e:(MonadState.get:StateT SortSt Sem SortSt).run st=Pure.pure (st,st):=rfl;rw[e,jQ,qj]at h⊢;exact hf st hk st hk R p2 h p1
theorem aX.modify(hg:∀st,kindOf (g st)=kindOf st):aX M G s1 s2 kd (_root_.modify g):=by intro st hk R p2 h p1;have e:(_root_.modify g:StateT SortSt Sem PUnit).run st=Pure.pure (PUnit.unit,g st):=rfl;rw[e,qj]at h⊢;exact⟨rfl,(hg st).trans hk,p2,h⟩
theorem aX.set(hx:kindOf x=kd):aX M G s1 s2 kd (MonadState.set x):=by intro st hk R p2 h p1;have e:(MonadState.set x:StateT SortSt Sem PUnit).run st=Pure.pure (PUnit.unit,x):=rfl;rw[e,qj]at h⊢;exact⟨rfl,hx,p2,h⟩
def aX.aal(hx:kindOf x=kd):aX M G s1 s2 kd (MonadStateOf.set x):=aX.set hx
def aX.jT(w:String):aX M G s1 s2 kd (liftM (unsupported w:Sem α)):=by intro st hk R p2 h p1;have e:(liftM (unsupported w:Sem α):StateT SortSt Sem α).run st=Sem.unsupported w:=rfl;rw[e,Sem.wp_unsupported]at h;exact h.elim
theorem aX.rule(w:String):aX M G s1 s2 kd (liftM (rule w)):=by intro st hk R p2 h p1;have e:(liftM (PySem.rule w):StateT SortSt Sem Unit).run st=PySem.rule w >>= λa=>Pure.pure (a,st):=rfl;rw[e,jQ]at h⊢;have h:R ((),st) p2 s2:=h;exact⟨rfl,hk,p2,h⟩
theorem aX.list{x0:β}{ι:Type}{f:ι->β->StateT SortSt Sem (ForInStep β)}(hf:∀i c,aX M G s1 s2 kd (f i c)):∀(l:List ι)(c:β),aX M G s1 s2 kd (forIn l c f)|[],c=>by rw[yz];exact aX.pure c|x::l,c=>by rw[CJ];refine aX.bind (hf x c) λr=>?_;cases r with|done c'=>exact aX.pure c'|yield c'=>exact aX.list (x0:=x0) hf l c'
def aX.range{a b:Nat}{c:β}{f:Nat->β->StateT SortSt Sem (ForInStep β)}(hf:∀i c,aX M G s1 s2 kd (f i c)):aX M G s1 s2 kd (forIn [a:b] c f):=by rw[Std.Legacy.Range.forIn_eq_forIn_range'];exact aX.list (x0:=c) hf _ c
def Alike(M:Model)(G:Ctx)(s1 s2:Shared)(kd:SortKind):Prop:=∀x y,Tr M G s1 s2 ((keyLt' kd x y).attempt)
def aX.lt(ha:Alike M G s1 s2 kd)(x y:Keyed):aX M G s1 s2 kd (lt' x y):=by
 rw[lt'_eq];refine aX.get λst hk=>?_;rw[hk];refine aX.bind ?_ λr=>?_;.intro st hk R p2 h p1;have e:(liftM ((keyLt' kd x.1 y.1).attempt):StateT SortSt Sem (Except Value Bool)).run st=(keyLt' kd x.1 y.1).attempt >>= λa=>Pure.pure (a,st):=rfl;rw[e,jQ]at h⊢;refine yj M G _ (λr p' s' h'=>?_) (λ_ _ _ h'=>h') p1 s1 (ha x.1 y.1 _ p2 h p1);obtain⟨rfl,X2,NH⟩:=h';rw[qj]at NH⊢;exact⟨rfl,hk,X2,NH⟩
 cases r with|ok b=>exact aX.pure _|error e=>exact aX.bind (aX.modify λ_=>rfl) λ_=>aX.pure _
def aX.elem(arr:Array Keyed)(i:Nat):aX M G s1 s2 kd (elem' arr i):=by
 rw[elem'_eq];split;.exact aX.pure _
 exact aX.jT _
def aX.rO(ha:Alike M G s1 s2 kd)(i j:Nat):aX M G s1 s2 kd (ltAt' i j):=by rw[ltAt'_eq];exact aX.get λst _=>aX.bind (aX.elem _ _) λx=>aX.bind (aX.elem _ _) λy=>aX.lt ha x y
def aX.rev(i j:Nat):aX M G s1 s2 kd (reverseSlice' i j):=by rw[reverseSlice'_eq];exact aX.modify λ_=>rfl
def aX.down(i j:Nat):aX M G s1 s2 kd (moveDown' i j):=by rw[moveDown'_eq];exact aX.modify λ_=>rfl
def aX.Io(g:Nat):aX M G s1 s2 kd (setMinGallop' g):=by rw[setMinGallop'_eq];exact aX.modify λ_=>rfl
def aX.ite{c:Prop}[Decidable c](ht:aX M G s1 s2 kd t)(he:aX M G s1 s2 kd e):aX M G s1 s2 kd (if c then t else e):=by
 by_cases h:c;.rw[aw h];exact ht
 rw[au h];exact he
def aX.asc(ha:Alike M G s1 s2 kd)(lo a ya:Nat):aX M G s1 s2 kd (ascLoopN lo a ya):=by unfold ascLoopN;repeat' (first|with_reducible exact aX.pure _|with_reducible exact aX.rO ha _ _|with_reducible exact aX.lt ha _ _|with_reducible exact aX.elem _ _|with_reducible exact aX.rev _ _|with_reducible exact aX.down _ _|with_reducible exact aX.Io _|with_reducible exact aX.rule _|with_reducible exact aX.jT _|with_reducible exact aX.modify λ_=>rfl|with_reducible (refine aX.get λst hk=>?_)|with_reducible (refine aX.range λi c=>?_)|with_reducible (refine aX.bind ?_ λr=>?_)|with_reducible (refine aX.ite ?_ ?_)|split|(dsimp only))
def aX.tail3(ha:Alike M G s1 s2 kd)(lo n ya:Nat):aX M G s1 s2 kd (tail3N lo n ya):=by unfold tail3N;repeat' (first|with_reducible exact aX.pure _|with_reducible exact aX.rO ha _ _|with_reducible exact aX.lt ha _ _|with_reducible exact aX.elem _ _|with_reducible exact aX.rev _ _|with_reducible exact aX.down _ _|with_reducible exact aX.Io _|with_reducible exact aX.rule _|with_reducible exact aX.jT _|with_reducible exact aX.asc ha _ _ _|with_reducible exact aX.modify λ_=>rfl|with_reducible (refine aX.get λst hk=>?_)|with_reducible (refine aX.range λi c=>?_)|with_reducible (refine aX.bind ?_ λr=>?_)|with_reducible (refine aX.ite ?_ ?_)|split|(dsimp only))
def aX.Xz(ha:Alike M G s1 s2 kd)(lo n ya:Nat):aX M G s1 s2 kd (descLoopN lo n ya):=by unfold descLoopN;repeat' (first|with_reducible exact aX.pure _|with_reducible exact aX.rO ha _ _|with_reducible exact aX.lt ha _ _|with_reducible exact aX.elem _ _|with_reducible exact aX.rev _ _|with_reducible exact aX.down _ _|with_reducible exact aX.Io _|with_reducible exact aX.rule _|with_reducible exact aX.jT _|with_reducible exact aX.modify λ_=>rfl|with_reducible (refine aX.get λst hk=>?_)|with_reducible (refine aX.range λi c=>?_)|with_reducible (refine aX.bind ?_ λr=>?_)|with_reducible (refine aX.ite ?_ ?_)|split|(dsimp only))
def aX.Xy(ha:Alike M G s1 s2 kd)(lo n ya:Nat):aX M G s1 s2 kd (descPartN lo n ya):=by unfold descPartN;repeat' (first|with_reducible exact aX.pure _|with_reducible exact aX.rO ha _ _|with_reducible exact aX.lt ha _ _|with_reducible exact aX.elem _ _|with_reducible exact aX.rev _ _|with_reducible exact aX.down _ _|with_reducible exact aX.Io _|with_reducible exact aX.rule _|with_reducible exact aX.jT _|with_reducible exact aX.Xz ha _ _ _|with_reducible exact aX.tail3 ha _ _ _|with_reducible exact aX.modify λ_=>rfl|with_reducible (refine aX.get λst hk=>?_)|with_reducible (refine aX.range λi c=>?_)|with_reducible (refine aX.bind ?_ λr=>?_)|with_reducible (refine aX.ite ?_ ?_)|split|(dsimp only))
set_option maxHeartbeats 4000000 in
def aX.ML(ha:Alike M G s1 s2 kd)(lo ya:Nat):aX M G s1 s2 kd (countRun' lo ya):=by rw[countRunN_eq];repeat' (first|with_reducible exact aX.pure _|with_reducible exact aX.rO ha _ _|with_reducible exact aX.lt ha _ _|with_reducible exact aX.elem _ _|with_reducible exact aX.rev _ _|with_reducible exact aX.down _ _|with_reducible exact aX.Io _|with_reducible exact aX.rule _|with_reducible exact aX.jT _|with_reducible exact aX.asc ha _ _ _|with_reducible exact aX.Xy ha _ _ _|with_reducible exact aX.modify λ_=>rfl|with_reducible (refine aX.get λst hk=>?_)|with_reducible (refine aX.range λi c=>?_)|with_reducible (refine aX.bind ?_ λr=>?_)|with_reducible (refine aX.ite ?_ ?_)|split|(dsimp only))
set_option maxHeartbeats 4000000 in
def aX.binary(ha:Alike M G s1 s2 kd)(lo n ok:Nat):aX M G s1 s2 kd (binarySort' lo n ok):=by rw[binarySort'_eq];repeat' (first|with_reducible exact aX.pure _|with_reducible exact aX.rO ha _ _|with_reducible exact aX.lt ha _ _|with_reducible exact aX.elem _ _|with_reducible exact aX.rev _ _|with_reducible exact aX.down _ _|with_reducible exact aX.Io _|with_reducible exact aX.rule _|with_reducible exact aX.jT _|with_reducible exact aX.modify λ_=>rfl|with_reducible (refine aX.get λst hk=>?_)|with_reducible (refine aX.range λi c=>?_)|with_reducible (refine aX.bind ?_ λr=>?_)|with_reducible (refine aX.ite ?_ ?_)|split|(dsimp only))
def aX.beyond(ha:Alike M G s1 s2 kd)(left:Bool)(key:Keyed)(arr:Array Keyed)(b i:Nat):aX M G s1 s2 kd (beyond' left key arr b i):=by unfold beyond';repeat' (first|with_reducible exact aX.pure _|with_reducible exact aX.rO ha _ _|with_reducible exact aX.lt ha _ _|with_reducible exact aX.elem _ _|with_reducible exact aX.rev _ _|with_reducible exact aX.down _ _|with_reducible exact aX.Io _|with_reducible exact aX.rule _|with_reducible exact aX.jT _|with_reducible exact aX.modify λ_=>rfl|with_reducible (refine aX.get λst hk=>?_)|with_reducible (refine aX.range λi c=>?_)|with_reducible (refine aX.bind ?_ λr=>?_)|with_reducible (refine aX.ite ?_ ?_)|split|(dsimp only))
set_option maxHeartbeats 4000000 in
def aX.gallop(ha:Alike M G s1 s2 kd)(left:Bool)(key:Keyed)(arr:Array Keyed)(b n hint:Nat):aX M G s1 s2 kd (gallop' left key arr b n hint):=by rw[gallop'_eq];repeat' (first|with_reducible exact aX.pure _|with_reducible exact aX.rO ha _ _|with_reducible exact aX.lt ha _ _|with_reducible exact aX.elem _ _|with_reducible exact aX.rev _ _|with_reducible exact aX.down _ _|with_reducible exact aX.Io _|with_reducible exact aX.rule _|with_reducible exact aX.jT _|with_reducible exact aX.beyond ha _ _ _ _ _|with_reducible exact aX.modify λ_=>rfl|with_reducible (refine aX.get λst hk=>?_)|with_reducible (refine aX.range λi c=>?_)|with_reducible (refine aX.bind ?_ λr=>?_)|with_reducible (refine aX.ite ?_ ?_)|split|(dsimp only))
set_option maxHeartbeats 4000000 in
def aX.Pl(ha:Alike M G s1 s2 kd)(a b:Array Keyed):aX M G s1 s2 kd (mergeLo' a b):=by rw[mergeLo'_eq];repeat' (first|with_reducible exact aX.pure _|with_reducible exact aX.rO ha _ _|with_reducible exact aX.lt ha _ _|with_reducible exact aX.elem _ _|with_reducible exact aX.rev _ _|with_reducible exact aX.down _ _|with_reducible exact aX.Io _|with_reducible exact aX.rule _|with_reducible exact aX.jT _|with_reducible exact aX.gallop ha _ _ _ _ _ _|with_reducible exact aX.modify λ_=>rfl|with_reducible (refine aX.get λst hk=>?_)|with_reducible (refine aX.range λi c=>?_)|with_reducible (refine aX.bind ?_ λr=>?_)|with_reducible (refine aX.ite ?_ ?_)|split|(dsimp only))
set_option maxHeartbeats 4000000 in
def aX.Pn(ha:Alike M G s1 s2 kd)(a b:Array Keyed):aX M G s1 s2 kd (mergeHi' a b):=by rw[mergeHi'_eq];repeat' (first|with_reducible exact aX.pure _|with_reducible exact aX.rO ha _ _|with_reducible exact aX.lt ha _ _|with_reducible exact aX.elem _ _|with_reducible exact aX.rev _ _|with_reducible exact aX.down _ _|with_reducible exact aX.Io _|with_reducible exact aX.rule _|with_reducible exact aX.jT _|with_reducible exact aX.gallop ha _ _ _ _ _ _|with_reducible exact aX.modify λ_=>rfl|with_reducible (refine aX.get λst hk=>?_)|with_reducible (refine aX.range λi c=>?_)|with_reducible (refine aX.bind ?_ λr=>?_)|with_reducible (refine aX.ite ?_ ?_)|split|(dsimp only))
set_option maxHeartbeats 4000000 in
def aX.Po(ha:Alike M G s1 s2 kd)(i:Nat):aX M G s1 s2 kd (mergeAt' i):=by rw[mergeAt'_eq];repeat' (first|with_reducible exact aX.pure _|with_reducible exact aX.rO ha _ _|with_reducible exact aX.lt ha _ _|with_reducible exact aX.elem _ _|with_reducible exact aX.rev _ _|with_reducible exact aX.down _ _|with_reducible exact aX.Io _|with_reducible exact aX.rule _|with_reducible exact aX.jT _|with_reducible exact aX.gallop ha _ _ _ _ _ _|with_reducible exact aX.Pl ha _ _|with_reducible exact aX.Pn ha _ _|exact aX.aal hk|with_reducible exact aX.modify λ_=>rfl|with_reducible (refine aX.get λst hk=>?_)|with_reducible (refine aX.range λi c=>?_)|with_reducible (refine aX.bind ?_ λr=>?_)|with_reducible (refine aX.ite ?_ ?_)|split|(dsimp only))
set_option maxHeartbeats 4000000 in
def aX.sort(ha:Alike M G s1 s2 kd):aX M G s1 s2 kd sortRuns':=by rw[sortRuns'_eq];repeat' (first|with_reducible exact aX.pure _|with_reducible exact aX.rO ha _ _|with_reducible exact aX.lt ha _ _|with_reducible exact aX.elem _ _|with_reducible exact aX.rev _ _|with_reducible exact aX.down _ _|with_reducible exact aX.Io _|with_reducible exact aX.rule _|with_reducible exact aX.jT _|with_reducible exact aX.Po ha _|with_reducible exact aX.ML ha _ _|with_reducible exact aX.binary ha _ _ _|with_reducible exact aX.modify λ_=>rfl|with_reducible (refine aX.get λst hk=>?_)|with_reducible (refine aX.range λi c=>?_)|with_reducible (refine aX.bind ?_ λr=>?_)|with_reducible (refine aX.ite ?_ ?_)|split|(dsimp only))
end
end r8
end
section
namespace r8
open PySem PyProof.Rows PySem.W
open PySem.SeqAt
open PySem.AutoSeq1 (wpAny_loadPart')
open PySem.MeetsSeq PySem.MeetsSeq2 PySem.MeetsSeq3
def jj:List Int->List Int->Bool|[],[]=>false|[],_::_=>true|_::_,[]=>false|x::xs,y::ys=>if x=y then jj xs ys else decide (x<y)
def sF{us:List Value}{zs:List Int}(h:IntsAre us zs){i:Nat}(e:us[i]?=some v):∃z t,zs[i]?=some z/\v=.int z t:=by induction h generalizing i with|nil=>simp at e|cons z t _ ih=>cases i with|zero=>exact⟨z,t,rfl,by simpa using e.symm⟩|succ i=>exact ih (by simpa using e)
def Tc(la lb:Addr)(ua ub:Array Value)(ca cb:Nat)(da db:Option Addr)(ga gb:Array (Option Value))(za zb:List Int)(ha:IntsAre ua.toList za)(hb:IntsAre ub.toList zb)(sz:ua.size=ub.size)(k:Nat) :
    ∀i:Nat,ua.size-i=k->Meets (Builtin.«list.__eq__.loop» ⟨[.ref la,.ref lb,rawInt i,rawInt 0],[]⟩)
      (λ_ R s=>s.heap.get? la=some ⟨.type "list",da,.seq ua ca,ga⟩/\s.heap.get? lb=some ⟨.type "list",db,.seq ub cb,gb⟩/\R (.ok (.ret (.bool (jj (za.drop i) (zb.drop i))))) s):=by
  have la1:ua.size=za.length:=by rw[<-ha.length];simp
  have lb1:ub.size=zb.length:=by rw[<-hb.length];simp
  induction k with
  |zero=>
    intro i ek prog w A R s h
    obtain⟨hp,g,d,tk,os⟩:=s
    obtain⟨xa,xb,h⟩:=h
    wp_walk using wpAny_loadPart' xa,wpAny_loadPart' xb
    have q1:ua[((i:Nat):Int).toNat]?=none:=by simp;omega
    have q2:ub[((i:Nat):Int).toNat]?=none:=by simp;omega
    rw[q1,q2]
    wp_walk using wpAny_loadPart' xa,wpAny_loadPart' xb
    have e1:za.drop i=[]:=KI (by omega)
    have e2:zb.drop i=[]:=KI (by omega)
    rw[e1,e2]at h
    have e3:decide (ua.size<ub.size)=false:=cM (by omega)
    show R (.ok (.ret (.bool (decide (ua.size<ub.size))))) _
    rw[e3]
    exact h
  |succ k ih=>
    intro i ek prog w A R s h
    obtain⟨hp,g,d,tk,os⟩:=s
    obtain⟨xa,xb,h⟩:=h
    wp_walk using wpAny_loadPart' xa,wpAny_loadPart' xb
    have i1:i<ua.size:=by omega
    have i2:i<ub.size:=by omega
    obtain⟨z1,t1,y1,v1⟩:=sF ha (i:=i) (v:=ua[i]) (by simp[i1])
    obtain⟨z2,t2,y2,v2⟩:=sF hb (i:=i) (v:=ub[i]) (by simp[i2])
    have q1:ua[((i:Nat):Int).toNat]?=some (.int z1 t1):=by rw[<-v1];simp[i1]
    have q2:ub[((i:Nat):Int).toNat]?=some (.int z2 t2):=by rw[<-v2];simp[i2]
    have d1:za.drop i=z1::za.drop (i+1):=by
      obtain⟨m1,m2⟩:=fh.mp y1
      rw[tJ m1,m2]
    have d2:zb.drop i=z2::zb.drop (i+1):=by
      obtain⟨m1,m2⟩:=fh.mp y2
      rw[tJ m1,m2]
    rw[d1,d2]at h
    have h:R (.ok (.ret (.bool (if z1=z2 then jj (za.drop (i+1)) (zb.drop (i+1))else decide (z1<z2))))) ⟨hp,g,d,tk,os⟩:=h
    rw[q1,q2]
    refine aZ (CA ?_)
    by_cases c:z1=z2
    · rw[aw c]at h
      have cb:(z1==z2)=true:=by simpa using c
      have up:((i:Int)+1)=((i+1:Nat):Int):=by omega
      simp only[cb]
      wp_walk
      rw[up]
      refine⟨qk yg _,?_⟩
      refine uc entry_eq_loop ?_
      have nx:=ih (i+1) (by omega) prog w A R ⟨hp,g,d,tk,os⟩ ⟨xa,xb,h⟩
      rw[uu yg _]
      exact nx
    · rw[au c]at h
      have cb:(z1==z2)=false:=by simpa using c
      simp only[cb]
      wp_walk using wpAny_loadPart' xa,wpAny_loadPart' xb
      rw[q1,q2]
      have ri:∀(Q:Value->Shared->Prop)(E:Value->Shared->Prop)(s':Shared),Q (.bool (decide (z1<z2))) s'->wpAny (model prog w) A.in1 (richCompare .Lt (.int z1 t1) (.int z2 t2)) Q E s':=λQ E s' hq=>
        (PyProof.Rows.lt_int hq:wpAny (model prog w) A.in1 (compareOp .Lt (.int z1 t1) (.int z2 t2)) Q E s')
      wp_walk using ri
      exact h
end r8
end
section
namespace r8
open PySem PyProof.Rows PySem.W
open PySem.SeqAt
open PySem.AutoSeq1 (wpAny_loadPart')
open PySem.MeetsSeq PySem.MeetsSeq2 PySem.MeetsSeq3
section
variable {prog:Program} {w:World} {A:Around} {E:Value->Shared->Prop} {s:Shared}
def Jd(h:Heap)(b:Addr)(zs:List Int):Prop:=∃b_:List Value,h.IsList b b_.toArray/\IntsAre b_ zs
def Mz{Q:Value->Shared->Prop}(ha:Jd s.heap la za)(hb:Jd s.heap lb zb)(sz:za.length=zb.length)(hu:A.units<cLine)(h:Q (.bool (jj za zb)) s):wpAny (model prog w) A (compareOp .Lt (.ref la) (.ref lb)) Q E s:=by
 obtain⟨ia,⟨⟨c1,d1,t1,g1⟩,o1,e1,n1,f1⟩,x1⟩:=ha;obtain⟨ib,⟨⟨c2,d2,t2,g2⟩,o2,e2,n2,f2⟩,x2⟩:=hb;simp only at e1 f1 e2 f2;subst e1 f1 e2 f2;have sz2:ia.toArray.size=ib.toArray.size:=by rw[dt,dt,x1.length,x2.length,sz]
 have mt:Meets (Builtin.«list.__lt__» ⟨[.ref la,.ref lb],[]⟩) (λ_ R s=>s.heap.get? la=some ⟨.type "list",d1,.seq ia.toArray n1,g1⟩/\s.heap.get? lb=some ⟨.type "list",d2,.seq ib.toArray n2,g2⟩/\R (.ok (.ret (.bool (jj za zb)))) s):=by intro prog w A R s h;obtain⟨hp,g,d,tk,os⟩:=s;obtain⟨xa,xb,h⟩:=h;have f3:=AutoSeq1.sub_list_list;wp_walk using wpAny_loadPart' xa,wpAny_loadPart' xb;refine⟨qk yg _,?_⟩;refine uc entry_eq_loop ?_;have nx:=Tc la lb ia.toArray ib.toArray n1 n2 d1 d2 g1 g2 za zb (by simpa using x1) (by simpa using x2) sz2 _ 0 rfl prog w A R ⟨hp,g,d,tk,os⟩ ⟨xa,xb,h⟩;rw[uu yg _];exact nx
 exact richCompare_meets_room (op:=.Lt) ⟨_,o1,rfl⟩ ⟨_,o2,rfl⟩ F.slot_list_lt F.entry_list_lt (F.args_list_lt_2 _ _) mt ⟨o1,o2,(λx=>nomatch x),h⟩ hu
def MJ(ha:Jd s.heap la za)(hb:Jd s.heap lb zb)(sz:za.length=zb.length)(hu:A.units<cLine):EqAt A s (.ref la) (.ref lb) (decide (za=zb)):=by
 obtain⟨ia,l1,x1⟩:=ha;obtain⟨ib,l2,x2⟩:=hb;by_cases c:la=lb
 .subst c;have:ia=ib:=by
   obtain⟨o1,p1,_,n1,f1⟩:=l1;obtain⟨o2,p2,_,n2,f2⟩:=l2;rw[p1]at p2;cases p2;rw[f1]at f2;injection f2 with f3
   exact List.toArray_inj f3
  subst this;have e:za=zb:=by rw[<-x1.nums,<-x2.nums]
  rw[bq e];exact EqAt.same _
 have szs:ia.toArray.size=ib.toArray.size:=by rw[dt,dt,x1.length,x2.length,sz]
 have r:=RcAt.lists (A:=A) (e:=λj=>decide (za[j]?=zb[j]?)) l1 l2 szs hu λj j1 j2=>by
  obtain⟨z1,t1,y1,v1⟩:=sF x1 (i:=j) (v:=ia.toArray[j]) (by simpa using j1);obtain⟨z2,t2,y2,v2⟩:=sF x2 (i:=j) (v:=ib.toArray[j]) (by simpa using j2);rw[v1,v2,y1,y2];have:decide (some z1=some z2)=(z1==z2):=by
   by_cases q:z1=z2;.rw[bq (by rw[q])];simp[q]
   rw[cM (λh=>q (bZ h))];simp[q]
  rw[this];exact EqAt.int_int z1 t1 z2 t2
 have e:((List.range ia.toArray.size).all λj=>decide (za[j]?=zb[j]?))=decide (za=zb):=by
  rw[dt,x1.length];by_cases q:za=zb;.rw[bq q,jR];intro j _;rw[q];simp
  rw[cM q];cases t:((List.range za.length).all λj=>decide (za[j]?=zb[j]?))with
  |false=>rfl
  |true=>
   exfalso;apply q;rw[jR]at t;apply uo;intro j;by_cases jl:j<za.length;.exact cK (t j (dM.mpr jl))
   rw[oq (by omega),oq (by omega)]
 rw[e]at r;exact EqAt.of_refs c r
abbrev yf:=Int×List Int
def nX(a b:yf):Bool:=if a.1=b.1 then jj a.2 b.2 else decide (a.1<b.1)
def JJ(h:Heap)(a:Addr)(k:yf):Prop:=∃(o:Obj)(t:Tok)(b:Addr)(c:Nat),h.get? a=some o/\o.cls=.type "tuple"/\o.data=.seq #[.int k.1 t,.ref b] c/\Jd h b k.2
theorem mK:∀l,jj l l=false|[]=>rfl|x::l=>by show(if x=x then jj l l else _)=false;rw[aw rfl];exact mK l
def Ti{Q:Bool->Shared->Prop}(ha:JJ s.heap a x)(hb:JJ s.heap b y)(sz:x.2.length=y.2.length)(hu:A.units<cLine)(h:Q (nX x y) s):wpAny (model prog w) A (keyLt' (tuples' true) (.ref a) (.ref b)) Q E s:=by
 obtain⟨o1,t1,b1,c1,p1,_,q1,l1⟩:=ha;obtain⟨o2,t2,b2,c2,p2,_,q2,l2⟩:=hb;refine kat_lt p1 q1 p2 q2 ?_;refine kat_cons (CA ?_);refine kat_go (λe=>kat_yes ?_) (λe=>kat_no ?_)
 .have e:x.1=y.1:=by simpa using e
  refine kat_cons (MJ l1 l2 sz hu prog w _ _ ?_);refine kat_go (λf=>kat_yes (kat_nil ?_)) (λf=>kat_no ?_)
  .have f:x.2=y.2:=cK f;have:nX x y=false:=by unfold nX;rw[aw e,f];exact mK _
   rw[this]at h;exact h
  refine kat_one _ _ (Mz l1 l2 sz hu ?_);have:nX x y=jj x.2 y.2:=by unfold nX;rw[aw e]
  rw[this]at h;exact h
 have e:¬x.1=y.1:=by simpa using e
 have:nX x y=decide (x.1<y.1):=by unfold nX;rw[au e]
 rw[this]at h;exact oneLt_int h
end
end r8
end
section
namespace r8
open PySem PyProof.Rows PySem.W
open PySem.SeqAt
theorem vD:∀{a b c:List Int},jj a b=true->jj b c=true->jj a c=true
 |[],[],[],h,_=>Bool.noConfusion h
 |[],_::_,[],_,h=>Bool.noConfusion h
 |[],_,_::_,_,_=>rfl
 |_::_,[],_,h,_=>by cases h
 |_::_,_::_,[],_,h=>by cases h
 |x::a,y::b,z::c,h,k=>by
  have h:(if x=y then jj a b else decide (x<y))=true:=h;have k:(if y=z then jj b c else decide (y<z))=true:=k;show(if x=z then jj a c else decide (x<z))=true;by_cases e1:x=y
  .subst e1;rw[aw rfl]at h;by_cases e2:x=z;.rw[aw e2]at k⊢;exact vD h k
   rw[au e2]at k⊢;exact k
  rw[au e1]at h;have h:=cK h;by_cases e2:y=z;.subst e2;rw[au e1];exact bq h
  rw[au e2]at k;have k:=cK k;rw[au (by omega)];exact bq (by omega)
theorem Bz:∀{a b c:List Int},jj a c=true->jj a b=true\/jj b c=true
 |[],[],[],h=>by cases h
 |[],_::_,[],h=>by cases h
 |[],[],_::_,_=>.inr rfl
 |[],_::_,_::_,_=>.inl rfl
 |_::_,_,[],h=>by cases h
 |_::_,[],_::_,_=>.inr rfl
 |x::a,y::b,z::c,h=>by
  have h:(if x=z then jj a c else decide (x<z))=true:=h;show(if x=y then jj a b else decide (x<y))=true\/(if y=z then jj b c else decide (y<z))=true;by_cases e1:x=z
  .subst e1;rw[aw rfl]at h;by_cases e2:x=y;.subst e2;rw[aw rfl,aw rfl];exact Bz h
   rw[au e2,au (λe=>e2 e.symm),gW,gW];omega
  rw[au e1]at h;have h:=cK h;by_cases e2:x=y;.subst e2;rw[au e1];exact .inr (bq h)
  rw[au e2];by_cases e3:y=z;.subst e3;exact .inl (bq h)
  rw[au e3,gW,gW];omega
def Ee(a:yf):nX a a=false:=by unfold nX;rw[aw rfl];exact mK _
def Ht(h:nX a b=true)(k:nX b c=true):nX a c=true:=by
 unfold nX at h k⊢;by_cases e1:a.1=b.1
 .rw[aw e1]at h;by_cases e2:b.1=c.1;.rw[aw e2]at k;rw[aw (e1.trans e2)];exact vD h k
  rw[au e2]at k;rw[au (by rw[e1];exact e2),e1];exact k
 rw[au e1]at h;have h:=cK h;by_cases e2:b.1=c.1;.rw[au (by rw[<-e2];exact e1),<-e2];exact bq h
 rw[au e2]at k;have k:=cK k;rw[au (by omega)];exact bq (by omega)
def Pp(h:nX a c=true):nX a b=true\/nX b c=true:=by
 unfold nX at h⊢;by_cases e1:a.1=c.1
 .rw[aw e1]at h;by_cases e2:a.1=b.1;.rw[aw e2,aw (e2.symm.trans e1)];exact Bz h
  rw[au e2,au (λe=>e2 (e1.trans e.symm)),gW,gW];omega
 rw[au e1]at h;have h:=cK h;by_cases e2:a.1=b.1;.rw[au (λe=>e1 (e2.trans e))];exact .inr (bq (by omega))
 rw[au e2];by_cases e3:b.1=c.1;.exact .inl (bq (by omega))
 rw[au e3,gW,gW];omega
abbrev ye:=List (Addr×yf)
def rank(D:ye)(k:yf):Nat:=D.countP λe=>nX e.2 k
theorem mF:∀{D:ye}{a:Addr}{k:yf},D.lookup a=some k->(a,k)∈D|[],_,_,h=>by cases h|(b,x)::D,a,k,h=>by rw[lp]at h;cases c:a==b with|true=>rw[c]at h;have e1:x=k:=bZ h;have e2:a=b:=eq_of_beq c;rw[e1,e2];exact cF ..|false=>rw[c]at h;exact dR _ (mF h)
def E_(hx:D.lookup a=some x):nX x y=decide (rank D x<rank D y):=by
 have hm:=mF hx;unfold rank;cases c:nX x y with
 |true=>refine(bq ?_).symm;have up:∀l:ye,(l.countP λe=>nX e.2 x)<=(l.countP λe=>nX e.2 y):=λl=>KA λe _ h=>Ht h c;obtain⟨p,q,e⟩:=Kh hm;rw[e,Ki,Ki,yC,yC];have h1:=up p;have h2:=up q;simp only[Ee,c];simp;omega
 |false=>
  refine(cM ?_).symm;have:(D.countP λe=>nX e.2 y)<=(D.countP λe=>nX e.2 x):=KA λe _ h=>by
   rcases Pp (b:=x) h with z|z;.exact z
   rw[c]at z;cases z
  omega
def ghost(D:ye)(N:Nat):Heap:=⟨((List.range N).map λa=>match D.lookup a with|some k=>(⟨.type "tuple",none,.seq (Array.replicate (rank D k) .none) 0,#[]⟩:Obj)|none=>⟨.type "tuple",none,.plain,#[]⟩).toArray,{}⟩
def ghost_get(ha:a<N)(h:D.lookup a=some k):(ghost D N).get? a=some ⟨.type "tuple",none,.seq (Array.replicate (rank D k) .none) 0,#[]⟩:=by unfold ghost Heap.get?;simp only[C7,cC,qu ha,JT,h]
def xF(h:(ghost D N).get? a=some o)(hd:o.data=.seq xs c):a<N/\∃k,D.lookup a=some k/\xs=Array.replicate (rank D k) .none:=by
 by_cases ha:a<N
 .refine⟨ha,?_⟩;cases q:D.lookup a with
  |some k=>
   rw[ghost_get ha q]at h;have h:=bZ h;subst h;have hd:Data.seq (Array.replicate (rank D k) Value.none) 0=.seq xs c:=hd;injection hd with e
   exact⟨k,rfl,e.symm⟩
  |none=>unfold ghost Heap.get? at h;simp only[C7,cC,qu ha,JT,q]at h;have h:=bZ h;subst h;cases hd
 unfold ghost Heap.get? at h;have:((List.range N).map λa=>match D.lookup a with|some k=>(⟨.type "tuple",none,.seq (Array.replicate (rank D k) .none) 0,#[]⟩:Obj)|none=>⟨.type "tuple",none,.plain,#[]⟩)[a]?=none:=by rw[cC,oq (by rw[cZ];exact Nat.le_of_not_lt ha)];rfl
 simp only[C7,this]at h;cases h
@[reducible] def ju(D:ye)(N:Nat):KeyKind where
  α:=Nat
  blt:=λa b=>decide (a<b)
  irrefl:=λa=>cM (il a)
  trans:=λa b c h k=>bq (Cq (cK h) (cK k))
  negTrans:=λa b c h=>by
    have h:=cK h
    rw[gW,gW];omega
  total:=λa b h k=>by
    have h:=yK h
    have k:=yK k
    omega
  keyOf:=λv=>match v with
    |.ref a=>if a<N then(D.lookup a).map (rank D)else none
    |_=>none
  dflt:=0
def xr(h:(ju D N).keyOf v=some r):∃a k,v=.ref a/\a<N/\D.lookup a=some k/\r=rank D k:=by
 cases v with
 |ref a=>
  have h:(if a<N then(D.lookup a).map (rank D)else none)=some r:=h;by_cases c:a<N;.rw[aw c]at h;cases q:D.lookup a with|none=>rw[q]at h;cases h|some k=>rw[q]at h;exact⟨a,k,rfl,c,q,(bZ h).symm⟩
  rw[au c]at h;cases h
 |_=>exact absurd (show(none:Option Nat)=some r from h) (by simp)
section
variable {prog:Program} {w:World} {A:Around} {E:Value->Shared->Prop} {s:Shared}
theorem xu{Q:Bool->Shared->Prop}:∀(n i:Nat),Q fin s->KatLex prog w A true fin Q (List.replicate n (Value.none,Value.none)) i s|0,_,h=>kat_nil h|n+1,i,h=>by rw[Kp];exact kat_cons (EqAt.same _ prog w _ _ (kat_go (λ_=>kat_yes (xu n (i+1) h)) (λe=>by cases e)))
def wU(m n:Nat):(Array.replicate m Value.none).toList.zip (Array.replicate n Value.none).toList=List.replicate (min m n) (Value.none,Value.none):=by rw[KG,KG,List.zip_replicate]
def ghost_lt(s1:Shared):G.LtAt prog w {s1 with heap:=ghost D N} (ju D N) (tuples' true):=by intro A E x y r1 r2 Q h1 h2 h;obtain⟨a,k,rfl,ha,la,rfl⟩:=xr h1;obtain⟨b,l,rfl,hb,lb,rfl⟩:=xr h2;refine kat_lt (ghost_get ha la) rfl (ghost_get hb lb) rfl ?_;rw[wU,yN,yN];exact xu _ 0 h
end
end r8
end
section
namespace r8
open PySem PyProof.Rows PySem.W
open PySem.SeqAt
section
variable {M:Model} {G:Ctx} {s:Shared}
def xC{Q:Array Value->Pos->Shared->Prop}{E:Value->Pos->Shared->Prop}(h:Sem.wp M G (Builtin.List.listItems v) Q E p s):∃a o xs c,v=.ref a/\s.heap.get? a=some o/\o.data=.seq xs c/\Q xs p s:=by
 cases v with
 |ref a=>unfold Builtin.List.listItems seqItems? at h;rw[jQ,jQ]at h;obtain⟨o,ho,h⟩:=h;obtain⟨cl,di,da,sl⟩:=o;cases da with|seq xs c=>exact⟨a,_,xs,c,rfl,ho,rfl,h⟩|_=>exact False.elim h
 |builtin id=>
  unfold Builtin.List.listItems seqItems? at h;rw[jQ,jQ]at h;unfold notAStandIn at h;dsimp only at h;by_cases c:(withoutEnding? id "#opaque").isSome=true;.rw[aw c]at h;exact False.elim h
  rw[au c]at h;exact False.elim h
 |_=>exact False.elim h
theorem xB{E:Value->Pos->Shared->Prop}(hb:∀(i:Nat)(Q:ForInStep (Option Bool×Unit)->Pos->Shared->Prop)(p:Pos),Sem.wp M G (body ((.none,.none),i) (none,())) Q E p s->Q (.yield (none,())) p s):∀(n i:Nat)(Q:Option Bool×Unit->Pos->Shared->Prop)(p:Pos),Sem.wp M G (forIn ((List.replicate n (Value.none,Value.none)).zipIdx i) (none,()) body) Q E p s->Q (none,()) p s|0,i,Q,p,h=>by rw[List.replicate_zero,List.zipIdx_nil,yz,qj]at h;exact h|n+1,i,Q,p,h=>by rw[Kp,List.zipIdx_cons,CJ,jQ]at h;exact xB hb n (i+1) Q p (hb i _ p h)
def MB{Q:Bool->Pos->Shared->Prop}{E:Value->Pos->Shared->Prop}(h:Sem.wp M G (eqBool .none .none) Q E p s):Q true p s:=by unfold eqBool at h;rw[Sem.wp_holding,aw (by rfl)]at h;exact h
end
section
variable {prog:Program} {w:World} {A:Around} {E:Value->Shared->Prop} {s1:Shared} {D:ye}
structure Sr (s1:Shared) (D:ye) (m:Nat):Prop where
  at_:∀a k,D.lookup a=some k->JJ s1.heap a k
  len:∀a k,D.lookup a=some k->k.2.length=m
def alike(K:Sr s1 D m)(hu:A.units<cLine)(hG:G.In A):Alike (model prog w) G s1 {s1 with heap:=ghost D s1.heap.objs.size} (tuples' true):=by
 intro x y R p2 h p1;rw[Sem.wp_attempt]at h⊢;have k0:=h;rw[kat_lt_eq,jQ]at h;obtain⟨a,o1,xs,c1,rfl,g1,e1,h⟩:=xC h;rw[jQ]at h;obtain⟨b,o2,ys,c2,rfl,g2,e2,h⟩:=xC h;obtain⟨_,k,la,rfl⟩:=xF g1 e1;obtain⟨_,l,lb,rfl⟩:=xF g2 e2;rw[wU]at h;have fin:R (.ok (decide ((Array.replicate (rank D k) Value.none).size<(Array.replicate (rank D l) Value.none).size))) p2 {s1 with heap:=ghost D s1.heap.objs.size}:=by rw[jQ]at h;have h2:=xB (M:=model prog w) (G:=G) (s:={s1 with heap:=ghost D s1.heap.objs.size}) (λi Q p q=>by dsimp only at q;rw[jQ]at q;have q:=MB q;exact q) _ 0 _ p2 h;exact h2
 rw[yN,yN,<-E_ la]at fin;have f:=Ti (prog:=prog) (w:=w) (A:=A) (s:=s1) (E:=λ_ _=>False) (Q:=λc s'=>s'=s1/\c=nX k l) (K.at_ a k la) (K.at_ b l lb) ((K.len a k la).trans (K.len b l lb).symm) hu ⟨rfl,rfl⟩ G p1 hG;refine yj _ _ _ (λc p' s' hc=>?_) (λ_ _ _ hc=>hc.elim) p1 s1 f;obtain⟨rfl,rfl⟩:=hc;exact⟨rfl,p2,fin⟩
def AN(D:ye)(xs:Array Keyed)(i:Nat):yf:=match xs[i]? with|some (.ref a,_)=>(D.lookup a).getD (0,[])|_=>(0,[])
def WW{m:Nat}(K:Sr s1 D m)(hu:A.units<cLine){st:SortSt}{a0:Array Keyed}{Q:Unit->SortSt->Prop}(h0:∀p,p∈a0.toList->∃a k,p.1=.ref a/\D.lookup a=some k)(hk:kindOf st=tuples' true)(ha:arrOf st=a0)(hp:pendingOf st=#[])(hf:failedOf st=none)(h2:2<=a0.size)(h:∀jB,(arrOf jB).Perm a0->failedOf jB=none->(∀i j,i<=j->j<a0.size->nX (AN D (arrOf jB) j) (AN D (arrOf jB) i)=false)->Q () jB):wpS (model prog w) A E s1 sortRuns' Q st:=by
 have lt:∀{a:Addr}{k:yf},D.lookup a=some k->a<s1.heap.objs.size:=fun {a k} e=>by obtain⟨o,_,_,_,g,_⟩:=K.at_ a k e;exact cY g
 have kk:∀p,p∈a0.toList->∃a k,p.1=.ref a/\D.lookup a=some k/\(ju D s1.heap.objs.size).keyOf p.1=some (rank D k):=λp hp=>by obtain⟨a,k,e,l⟩:=h0 p hp;refine⟨a,k,e,l,?_⟩;rw[e];show(if a<s1.heap.objs.size then(D.lookup a).map (rank D)else none)=_;rw[aw (lt l),l];rfl
 have W:=G.wpS_sortRunsSt (prog:=prog) (w:=w) (A:=A) (E:=λ_ _=>False) (s:={s1 with heap:=ghost D s1.heap.objs.size}) (κ:=ju D s1.heap.objs.size) (kd:=tuples' true) (a₀:=a0) (st:=st) (Q:=λ_ jB=>(arrOf jB).Perm a0/\failedOf jB=none/\SortedToK (ju D s1.heap.objs.size) (arrOf jB) a0.size) (ghost_lt s1) (λp hp=>by obtain⟨a,k,_,_,e⟩:=kk p hp;exact⟨_,e⟩) ⟨by rw[ha],hk,hf⟩ hp (by rw[ha];exact Stable.refl _) h2 (λjB a1 a2 a3 _=>⟨a1,a2,a3⟩);intro G p hG;have T:=aX.sort (M:=model prog w) (G:=G) (s1:=s1) (alike (prog:=prog) (w:=w) K hu hG) st hk _ p (W G p hG) p;refine yj _ _ _ (λr p' s' hr=>?_) (λ_ _ _ hr=>hr.elim) p s1 T;obtain⟨rfl,_,X2,_,a1,a2,a3⟩:=hr;refine⟨rfl,h r.2 a1 a2 λi j Vg hj=>?_⟩;have get:∀n,n<a0.size->∃a k q,(arrOf r.2)[n]?=some (.ref a,q)/\D.lookup a=some k/\KK (ju D s'.heap.objs.size) (arrOf r.2) n=rank D k:=λn hn=>by
  have Nb:n<(arrOf r.2).size:=by rw[a1.size_eq];exact hn
  have hm:(arrOf r.2)[n]∈a0.toList:=a1.toList.mem_iff.mp (by simp);obtain⟨a,k,e,l,ko⟩:=kk _ hm;refine⟨a,k,((arrOf r.2)[n]).2,?_,l,?_⟩;.rw[Dh Nb,<-e]
  unfold KK;rw[Dh Nb];show((ju D s'.heap.objs.size).keyOf ((arrOf r.2)[n]).1).getD _=_;rw[ko];rfl
 obtain⟨a,k,q,e1,l1,r1⟩:=get i (dX Vg hj);obtain⟨b,l,q',e2,l2,r2⟩:=get j hj;have le:=a3 i j Vg hj;rw[r1,r2]at le;have le:decide (rank D l<rank D k)=false:=le;rw[<-E_ l2]at le;unfold AN;rw[e1,e2];show nX ((D.lookup b).getD (0,[])) ((D.lookup a).getD (0,[]))=false;rw[l1,l2];exact le
end
end r8
end
section
namespace Wh
open PySem PySem.Spec PyProof.Rows L2
def ER(P:Program)(w:World)(K:PySem.W.Frag)(mg:Str->Option Value)(base:Heap)(N:List Str)(qual:Str)(scope:Scope)(f:Addr)(cd:Value)(cl:List (Str×Addr))(A:Around)(outer:List Env)(s:Shared)(H:Hp):Cx where
  prog:=P
  w:=w
  K:=K
  mg:=mg
  base:=base
  A:=A.deeper (PySem.W.envX qual scope s.heap.objs.size f cd cl)
  N:=N
  sP:=s
  Qs:=H
  env:=PySem.W.envX qual scope s.heap.objs.size f cd cl
  outer:=outer
  stack:=PySem.W.envX qual scope s.heap.objs.size f cd cl::outer
  ex:=[]
  calm:=true
  fn:=λ_=>false
  pn:=[]
  xe:=λ_ _=>False
section
variable {P:Program} {w:World} {K:PySem.W.Frag} {mg:Str->Option Value} {base:Heap}
structure vv (scope:Scope) (x y:Str):Prop where
  kind:scope.kind=.function
  co:scope.isCoroutine=false
  gen:scope.isGenerator=false
  par:scope.names.lookup x=some .local
  fr:scope.names.lookup y=some .free
  nc:∀z∈scope.names,z.2≠.cell
  one:∀z,scope.names.lookup z=some .free->z=y
def Pu(S:vv scope x y)(hd:A.handled=none)(e0:rS P w K mg base A outer s H)(hc:s.heap.IsCell cT (some uT))(hcH:H cT=none)(rT:RelV tv uT)(rv:RelV v u)(Ap:h1.Ns s.heap.objs.size (λz=>[(x,u)].reverse.lookup z))(hk:∀b o,s.heap.get? b=some o->h1.get? b=some o)(hN:∀(i:Nat)(z:Str)(o:V),N[i]?=some z->([some v,some tv]++List.replicate (N.length-2) none)[i]?=some (some o)->(z=x/\o=v)\/(z=y/\o=tv))(hl:2<=N.length):Inv (ER P w K mg base N qual scope f cd [(y,cT)] A outer s H) [] ([some v,some tv]++List.replicate (N.length-2) none) H {s with heap:=h1,toks:=tk}:=by
 have look:∀{z:Str}{c:Addr},([(y,cT)]:List (Str×Addr)).lookup z=some c->z=y/\c=cT:=fun {z c} h=>by rw[lp]at h;cases q:z==y with|true=>rw[q]at h;exact⟨eq_of_beq q,(bZ h).symm⟩|false=>rw[q]at h;cases h
 have self:([(y,cT)]:List (Str×Addr)).lookup y=some cT:=by rw[lp,um]
 have Q0:∀b:Addr,b∉(ER P w K mg base N qual scope f cd [(y,cT)] A outer s H).ex:=λb z=>absurd (show b∈([]:List Addr)from z) (by simp);refine⟨⟨e0.mod,S.kind,rfl,rfl,bx _,λa b c p q=>(look p).1.trans (look q).1.symm,λz hz=>?_,λz c q=>(by cases q),λ_=>hd,JK e0.frames,.inr ⟨rfl,rfl⟩,λb z=>absurd z (Q0 b),e0.bs,e0.Ir,λb _ _=>Q0 b,λb z=>absurd z (Q0 b),e0.pf,e0.NI⟩,rfl,e0.bare,Un.kept hk,⟨_,Ap,λi z o q1 q2 q3=>?_⟩,λz c q=>?_,e0.dg.fresh (bx _),λz c q=>?_,λp hp=>absurd (show p∈([]:List (Addr×Obj))from hp) (by simp),e0.dg.kept hk,?_⟩
 .rcases hz with hz|hz;.have hz:scope.names.lookup z=some .cell:=hz;exact absurd rfl (S.nc _ (iR hz))
  have hz:scope.names.lookup z=some .free:=hz;rw[S.one z hz];exact⟨cT,self⟩
 .rcases hN i z o q1 q2 with⟨rfl,rfl⟩|⟨rfl,rfl⟩;.refine⟨u,rv,.inl ⟨S.par,?_⟩⟩;show [(z,u)].lookup z=some u;rw[lp,um]
  obtain⟨oc,g,d⟩:=hc;exact⟨uT,rT,.inr ⟨.inr S.fr,cT,self,oc,hk _ _ g,d⟩⟩
 .obtain⟨_,rfl⟩:=look q;obtain⟨oc,g,d⟩:=hc;exact⟨_,oc,hk _ _ g,d⟩
 .obtain⟨_,rfl⟩:=look q;exact hcH
 rw[dC,KC];show 2+(N.length-2)=N.length;omega
def Pr(S:vv scope x y)(hr:eY k A)(e0:rS P w K mg base A outer s H)(ho:s.heap.get? f=some (PySem.W.kla_obj nm qual params body scope [(y,cT)] pm c' B8))(As:s.heap.CodeRec (.ref c') qual)(hc:s.heap.IsCell cT (some uT))(hcH:H cT=none)(rT:RelV tv uT)(rv:RelV v u)(hb:bindArgs (PySem.W.kla_fn nm qual params body scope [(y,cT)] pm (.ref c') B8) ⟨[u],[]⟩=pure [(x,u)])(hN:∀(i:Nat)(z:Str)(o:V),N[i]?=some z->([some v,some tv]++List.replicate (N.length-2) none)[i]?=some (some o)->(z=x/\o=v)\/(z=y/\o=tv))(hl:2<=N.length)(pD:PE (ER P w K mg base N qual scope f (.ref c') [(y,cT)] A outer s H) body te)(hq:te ([some v,some tv]++List.replicate (N.length-2) none) H Q):codeAny (model P w) A (.call (.ref f) ⟨[u],[]⟩) (CR bu outer P w H s Q E0) s:=by
 refine PySem.W.kla_callFunE (by have:=hr.dp;omega) ho rfl S.co S.gen rfl As ?_;rw[hb];have lim:s.heap.NoLimit:=e0.mod.nolimit.keeps λb o e=>(e0.bs b o e).1;refine bz (wpAny_newFunctionEnv S.nc (λz hz=>?_) (λh1 Ap hsb=>?_) S.kind);.have:z=(x,u):=cW.mp hz;rw[this];exact S.par
 have hk:∀b o,s.heap.get? b=some o->h1.get? b=some o:=λb o e=>hsb.extBut b o (fw (cY e)) (ed _ e);refine⟨lim.keeps hk,PySem.W.kla_codeExpr ?_⟩;have I:=Pu (N:=N) (f:=f) (qual:=qual) (cd:=.ref c') (tk:=s.toks+[(x,u)].length) S hr.hd e0 hc hcH rT rv Ap hk hN hl;refine iZ (pD [] _ _ H Q I hq) (λb s' hs=>?_) λ_ _ z=>z.elim;obtain⟨o,H',J,r,q⟩:=hs;exact⟨o,H',J.os,J.bare,J.base,J.dg,r,q⟩
end
end Wh
end
section
namespace Wh
open PySem PySem.Spec PyProof.Rows L2
def EY(q:Str)(c:Addr):HO:=.ext λh=>h.CodeRec (.ref c) q
def gY(H:Hp)(Pt:Addr)(pos:Pos)(q:Str):Prop:=H Pt=some (.vW #[])\/∃c':Addr,H Pt=some (.vW #[rawInt pos.line,rawInt pos.col,.ref c'])/\H c'=some (EY q c')
def Ro(mg:Str->Option Value)(base:Heap):Prop:=∃(bm:Addr)(ob:Obj),mg "__builtins__"=some (.ref bm)/\bm≠builtinsNs/\base.get? bm=some ob/\ob.cls=.type "module"/\ob.dict=some builtinsNs/\ob.data=.plain
def H_(pos:Pos)(c:Value):codeAmong pos [rawInt pos.line,rawInt pos.col,c]=some c:=by show(if ((pos.line:Int)==(pos.line:Int)&&(pos.col:Int)==(pos.col:Int))=true then some c else _)=some c;rw[aw (by simp)]
section
variable {X:Cx} {pins:List (Addr×Obj)} {σ:L2.St} {H:Hp} {s:Shared}
def S9{Q:Value->Shared->Prop}(I:Inv X pins σ H s)(R0:defaultsOf params X.env=([],[]))(xZ:closureFor scope X.env=pure [(y,cT)])(rh:X.env.code=.ref c)(Ar:PySem.W.codeHdIn X.K c Pt=true)(Vn:Ro X.mg X.base)(ht:gY H Pt jP (X.env.qual++("<lambda>":Str)))(h:∀(f c':Addr)(pm B8:Value)(H':Hp)(s':Shared),Inv X pins σ H' s'->s'.heap.get? f=some (PySem.W.kla_obj "<lambda>" (X.env.qual++("<lambda>":Str)) params body scope [(y,cT)] pm c' B8)->H' f=none->f≠X.env.locals->f∉X.fs->gY H' Pt jP (X.env.qual++("<lambda>":Str))->H' c'=some (EY (X.env.qual++("<lambda>":Str)) c')->(∀b o,H b=some o->b≠Pt->H' b=some o)->Q (.ref f) s'):wpAny (model X.prog X.w) X.A (eval (.Lambda params body scope jP) X.env) Q X.xe s:=by
 refine PySem.W.kla_eval R0 ?_;have hg:=I.mod.glob.keeps I.bk;have C:PySem.W.CodeHd s.heap c Pt:=(PySem.W.codeHd_of_K I.mod.Uh Ar).keeps I.bk;have ij:=I.lt;have bat:H Pt≠none->s.heap.BuiltinsAt X.mg Pt:=λhn=>by
  obtain⟨bm,ob,b1,b2,b3,b4,b5,b6⟩:=Vn;refine⟨bm,ob,b1,b2,λq=>?_,λq=>?_,I.bk _ _ b3,b4,b5,b6⟩;.obtain⟨o,es,ep,e,hd,_⟩:=I.mod.glob;rw[q,e]at b3;cases b3;rw[hd]at b6;cases b6
  exact hn (q▸(I.bs _ _ b3).2)
 have V7:∀{a:Addr},s.heap.objs.size<=a->a≠X.env.locals:=λha e=>by rw[e]at ha;exact il _ (gq ij ha)
 rcases ht with hP|⟨c',hP,IF⟩
 .have gP:s.heap.get? Pt=some (PySem.W.tabObj #[]):=I.dg Pt _ hP;have hgP:mainGlobals≠Pt:=λq=>by obtain⟨o,es,ep,e,hd,_⟩:=hg;rw[q,gP]at e;cases e;cases hd
  refine PySem.W.kla_makeFunction (mg:=X.mg) xZ I.ok.glob hg rh C gP trivial rfl hgP (bat (by rw[hP];simp)) λc' B8 h' tk hx Rb Nc Oa Yh=>?_;have fc:H c'=none:=I.dg.fresh Rb;have ncP:c'≠Pt:=(aa hP fc).symm;have sz:s.heap.objs.size<=h'.objs.size:=cB Rb (tY Nc);have fF:H h'.objs.size=none:=I.dg.fresh sz;have Yh:h'.get? Pt=some (PySem.W.tabObj #[rawInt jP.line,rawInt jP.col,.ref c']):=Yh;have kp:∀b o,s.heap.get? b=some o->b≠Pt->(h'.push (PySem.W.kla_obj "<lambda>" (X.env.qual++("<lambda>":Str)) params body scope [(y,cT)] ((X.mg "__name__").getD .none) c' B8)).get? b=some o:=λb o e n=>ed _ (hx b o n e);have nP:∀{b:Addr},H b=none->b≠Pt:=λn e=>by rw[e,hP]at n;cases n
  have nc:∀{b:Addr}{o:HO},H b=some o->b≠c':=λe=>aa e fc;have dg:lE X.prog X.w (upd (upd H Pt (.vW #[rawInt jP.line,rawInt jP.col,.ref c'])) c' (EY (X.env.qual++("<lambda>":Str)) c')) (h'.push (PySem.W.kla_obj "<lambda>" (X.env.qual++("<lambda>":Str)) params body scope [(y,cT)] ((X.mg "__name__").getD .none) c' B8)):=by
   intro b u e;by_cases b1:b=c';.subst b1;rw[ai]at e;cases e;refine⟨Oa.push _,?_,λh1 h2 q1 q2=>q1.at q2⟩;obtain⟨c2,o,vs,t,e2,g,_⟩:=Oa.push (PySem.W.kla_obj "<lambda>" (X.env.qual++("<lambda>":Str)) params body scope [(y,cT)] ((X.mg "__name__").getD .none) b B8);cases e2;exact⟨o,g⟩
   rw[ah b1]at e;by_cases b2:b=Pt;.subst b2;rw[ai]at e;cases e;exact ed _ Yh
   rw[ah b2]at e;refine(I.dg b u e).n_ (λz o hz q=>kp z o q ?_) (λz q=>?_) (λz xs q=>?_)
   .rcases hz with rfl|hz;.exact b2
    exact aI hz hP (by intro w;cases w)
   .rw[ah (nc q),ah (aI q hP (by intro w;cases w))];exact q
   rw[ah (nc q),ah (aI q hP (by intro w;cases w))];exact q
  have un:Un X.fs [] H (upd (upd H Pt (.vW #[rawInt jP.line,rawInt jP.col,.ref c'])) c' (EY (X.env.qual++("<lambda>":Str)) c')) s.heap (h'.push (PySem.W.kla_obj "<lambda>" (X.env.qual++("<lambda>":Str)) params body scope [(y,cT)] ((X.mg "__name__").getD .none) c' B8)):=by
   refine⟨λb o e n _ _=>kp b o e (nP n),λb o e n _ _=>⟨o.slots,kp b o e (nP n)⟩,λb o e n _=>?_,λb o e _=>?_,λb xs e=>?_,λb o u e=>?_,λb qs e=>?_⟩
   .rw[ah (λz=>?_),ah (nP n)];.exact n
    rw[z]at e;exact il _ (gq (cY e) Rb)
   .by_cases b2:b=Pt;.subst b2;exact⟨_,ed _ Yh⟩
    exact⟨o,kp b o e b2⟩
   .rw[ah (nc e),ah (aI e hP (by intro w;cases w))];exact e
   .rw[ah (nc e),ah (aI e hP (by intro w;cases w))];exact e
   by_cases b2:b=Pt;.subst b2;rw[hP]at e;cases e;exact⟨#[rawInt jP.line,rawInt jP.col,.ref c'],by rw[ah ncP.symm,ai];simp⟩
   exact⟨#[],by rw[ah (nc e),ah b2,e];simp⟩
  refine h h'.objs.size c' _ B8 _ _ (I.un un dg) (gu _ rfl) ?_ (V7 sz) (I.NV sz) (.inr ⟨c',?_,ai⟩) ai λb o e n=>?_;.rw[ah (Cr Nc),ah (nP fF)];exact fF
  .rw[ah ncP.symm,ai]
  rw[ah (nc e),ah n];exact e
 have gP:s.heap.get? Pt=some (PySem.W.tabObj #[rawInt jP.line,rawInt jP.col,.ref c']):=I.dg Pt _ hP;refine PySem.W.kla_makeFunctionHit (mg:=X.mg) (cv:=.ref c') xZ I.ok.glob hg rh C gP trivial (H_ jP _) (bat (by rw[hP];simp)) λB8 h' tk hk sz=>?_;have fF:H h'.objs.size=none:=I.dg.fresh sz;exact h h'.objs.size c' _ B8 H _ (I.kept λb o e=>ed _ (hk b o e)) (gu _ rfl) fF (V7 sz) (I.NV sz) (.inr ⟨c',hP,IF⟩) IF λb o e _=>e
end
end Wh
end
section
namespace Wh
open PySem PySem.Spec PyProof.Rows L2
abbrev Itm:=Addr×List Nat
def gS(n:Itm->Int)(c:Itm):r8.yf:=(n c,c.2.map Int.ofNat)
def DZ{α β:Type}(g:α->β):∀{l m:List β},l.Perm m->∀zs:List α,m=zs.map g->∃rW:List α,rW.Perm zs/\l=rW.map g:=by
 intro l m h;induction h with
 |nil=>intro zs e;have:zs=[]:=Ko.mp e.symm;subst this;exact⟨[],JN _,rfl⟩
 |cons x _ ih=>
  intro zs e;cases zs with
  |nil=>cases e
  |cons z zs=>
   rw[cV]at e;injection e with e1 e2
   obtain⟨ys,p,q⟩:=ih zs e2;exact⟨z::ys,p.cons z,by rw[cV,e1,q]⟩
 |swap x y l=>
  intro zs e;cases zs with
  |nil=>cases e
  |cons z zs=>
   cases zs with
   |nil=>cases e
   |cons z2 zs=>
    rw[cV,cV]at e;injection e with e1 e2
    injection e2 with e2 e3
    exact⟨z2::z::zs,List.Perm.swap ..,by rw[cV,cV,e1,e2,e3]⟩
 |trans _ _ ZP ZO=>intro zs e;obtain⟨ys,p,q⟩:=ZO zs e;obtain⟨ws,p',q'⟩:=ZP ys q;exact⟨ws,p'.trans p,q'⟩
theorem qG:∀{as:List Addr}{us:List Value},ck (as.map V.ref) us->us=as.map Value.ref|[],_,h=>by cases h;rfl|a::as,_,h=>by cases h with|cons r t=>cases r;rw[cV,qG t]
theorem xc:∀(as:List Addr),ck (as.map V.ref) (as.map Value.ref)|[]=>.nil|a::as=>.cons rfl (xc as)
theorem Bv{α:Type}:∀{zs:List (Addr×α)}{z:Addr×α},(zs.map (·.1)).Nodup->z∈zs->zs.lookup z.1=some z.2
 |[],_,_,h=>by cases h
 |w::zs,z,hn,h=>by
  rw[cV,lj]at hn;rw[lp];rcases bE.mp h with e|e;.subst e;rw[um]
  have:(z.1==w.1)=false:=by cases q:z.1==w.1 with|false=>rfl|true=>have:=eq_of_beq q;exact absurd (by rw[<-this];exact lx (f:=λx:Addr×α=>x.1) e) hn.1
  rw[this];exact Bv hn.2 e
section
variable {X:Cx} {pins:List (Addr×Obj)} {σ:L2.St} {H:Hp} {s:Shared}
structure oS (H:Hp) (n:Itm->Int) (zs:List (Addr×Itm)):Prop where
  nd:(zs.map (·.1)).Nodup
  at_:∀z,z∈zs->H z.1=some (.tup [.int (n z.2),.ref z.2.1])/\H z.2.1=some (.lst (z.2.2.map nV))
def Qp(n:Itm->Int)(zs:List (Addr×Itm)):r8.ye:=zs.map λz=>(z.1,gS n z.2)
def Bw(hn:(zs.map (·.1)).Nodup)(hz:z∈zs):(Qp n zs).lookup z.1=some (gS n z.2):=by
 have h1:((Qp n zs).map (·.1)).Nodup:=by unfold Qp;rw[cQ];exact hn
 exact Bv (zs:=Qp n zs) (z:=(z.1,gS n z.2)) h1 (br.mpr ⟨z,hz,rfl⟩)
def BM(h:(Qp n zs).lookup a=some k):∃z,z∈zs/\z.1=a/\k=gS n z.2:=by
 obtain⟨z,hz,e⟩:=br.mp (r8.mF h);injection e with e1 e2
 exact⟨z,hz,e1,e2.symm⟩
theorem Fu:∀{l:List Nat}{us:List Value},ck (l.map nV) us->IntsAre us (l.map Int.ofNat)|[],_,h=>by cases h;exact .nil|x::l,_,h=>by cases h with|cons r t=>obtain⟨tk,rfl⟩:=r;exact .cons _ tk (Fu t)
def oS.keys(I:Inv X pins σ H s)(k:oS H n zs)(hm:∀z,z∈zs->z.2.2.length=m):r8.Sr s (Qp n zs) m:=by
 refine⟨λa q h=>?_,λa q h=>?_⟩;.obtain⟨z,hz,rfl,rfl⟩:=BM h;obtain⟨h1,h2⟩:=k.at_ z hz;obtain⟨_,b_,rv,o,g,c,e,d⟩:=I.dg _ _ h1;obtain⟨_,is2,c2,Uc,g2⟩:=I.dg _ _ h2;cases rv with|cons r1 t1=>cases t1 with|cons r2 t2=>cases t2;obtain⟨tk,rfl⟩:=r1;cases r2;exact⟨o,tk,z.2.1,e,g,c,d,is2,⟨_,g2,rfl,c2,rfl⟩,Fu Uc⟩
 obtain⟨z,hz,rfl,rfl⟩:=BM h;show(z.2.2.map Int.ofNat).length=m;rw[aE];exact hm z hz
theorem oS.oE{n:Itm->Int}:∀{zs:List (Addr×Itm)},Inv X pins σ H s->(∀z,z∈zs->H z.1=some (.tup [.int (n z.2),.ref z.2.1])/\H z.2.1=some (.lst (z.2.2.map nV)))->∃fs:List Value,PySem.W.KatTups s.heap (zs.map λz=>Value.ref z.1) fs/\fs.length=zs.length/\∀v∈fs,∃i t,v=.int i t
 |[],_,_=>⟨[],trivial,rfl,λv h=>by cases h⟩
 |z::zs,I,k=>by
  obtain⟨h1,_⟩:=k z (cF ..);obtain⟨fs,f1,f2,f3⟩:=oS.oE (zs:=zs) I λy hy=>k y (dR _ hy);obtain⟨_,b_,rv,o,g,c,e,d⟩:=I.dg _ _ h1;cases rv with
  |cons r1 t1=>
   obtain⟨tk,rfl⟩:=r1;refine⟨.int (n z.2) tk::fs,PySem.W.KatTups.cons g c d rfl f1,by rw[dr,dr,f2],λv hv=>?_⟩;rcases bE.mp hv with rfl|hv;.exact⟨_,_,rfl⟩
   exact f3 v hv
end
end Wh
end
section
namespace Wh
open PySem PySem.Spec PyProof.Rows L2
section
variable {X:Cx} {pins:List (Addr×Obj)} {σ:L2.St} {H:Hp} {s:Shared}
def Inv.take(I:Inv X pins σ H s)(ha:X.sP.heap.objs.size<=a)(hL:a≠X.env.locals)(hc:∀x c,X.env.cells.lookup x=some c->c≠a)(hp:∀p∈X.pn++pins,p.1≠a)(hn:H a=none)(hs:Heap.SameBut a s.heap h')(new:eK X.prog X.w (upd H a o) h' a o):Inv X pins σ (upd H a o) {s with heap:=h',toks:=t'}:=by
 have ne:∀{b:Addr}{u:HO},H b=some u->b≠a:=λe=>aa e hn;have kp:∀b u,b≠a->s.heap.get? b=some u->h'.get? b=some u:=λb u n e=>(hs.2 b n).trans e;refine I.step (g':=s.gens) (d':=s.drawn) (ch:=[a]) (λb hb=>?_) (λb u _ _ hx e _=>kp b u (λz=>hx (by simp[z])) e) (λb u _ _ hx e _=>⟨u.slots,kp b u (λz=>hx (by simp[z])) e⟩) (λb u hx e n=>?_) (λb u hx e=>⟨u,kp b u (λz=>hx (by simp[z])) e⟩) (λb xs e=>by rw[ah (ne e)];exact e) (λb ob u e=>by rw[ah (ne e)];exact e) (λb ps e=>⟨#[],by rw[ah (ne e),e];simp⟩) (λm hm=>?_) (λb u e=>?_) I.bare
 .have e:b=a:=by simpa using hb
  subst e;exact⟨.inr ha,hL,hc,hp⟩
 .rw[ah (λz=>hx (by simp[z]))];exact n
 .obtain⟨ob,es,ep,g,r⟩:=hm;exact⟨ob,es,ep,kp _ ob (λz=>hL z.symm) g,r⟩
 by_cases b1:b=a;.subst b1;rw[ai]at e;cases e;exact new
 rw[ah b1]at e;refine(I.dg b u e).n_ (λz v hz q=>kp z v ?_ q) (λz q=>by rw[ah (ne q)];exact q) λz xs q=>by rw[ah (ne q)];exact q
 rcases hz with rfl|hz;.exact b1
 exact ne hz
def Ll(hl:xs.length<=sizeLine)(rv:ck xs b_)(g:h.get? a=some (seqObj "list" b_.toArray cc)):eK p w H h a (.lst xs):=⟨hl,b_,cc,rv,g⟩
def wu(a:Addr)(items:Array Value)(before:Nat)(kS:Value)(keys:Array Value):ksk_end a false items before kS keys=(do
    let kind <-if items.size<2 then pure general' else keyKind' keys
    let r <-(if items.size<2 then pure ()else sortRuns':StateT SortSt Sem Unit).run (SortSt.mk' kind (keys.zip items) #[] 7 none)
    ksk_tail a false before kS r.2):=rfl
def DX{Q:Value->Shared->Prop}(I:Inv X pins σ H s)(hun:X.A.units+50<cLine)(Ur:bp X.K H lv (cs.map λc=>V.ref c.1))(IE:∀c,c∈cs->H c.1=some (.lst (c.2.map nV))/\c.2.length=m)(hsz:cs.length<=10000)(turn:∀(c:Itm)(H1:Hp)(s1:Shared)(pl:List (Addr×Obj)),c∈cs->Inv X (pins++pl) σ H1 s1->aY H H1->wpAny (model X.prog X.w) X.A.in1.in1 (call (.ref f) [.ref c.1]) (λu s2=>∃(t:Addr)(H2:Hp),u=.ref t/\Inv X (pins++pl) σ H2 s2/\aY H1 H2/\H1 t=none/\H2 t=some (.tup [.int (n c),.ref c.1])) (λ_ _=>False) s1)(h:∀(D:Addr)(H':Hp)(s':Shared)(pd:List Itm),Inv X pins σ H' s'->aY H H'->H D=none->H' D=some (.lst (pd.map λc=>V.ref c.1))->pd.Perm cs->pd.Pairwise (λc d=>r8.nX (gS n d) (gS n c)=false)->Q (.ref D) s'):wpAny (model X.prog X.w) X.A (call (.builtin "sorted") [.ref lv] [("key",.ref f)]) Q X.xe s:=by
 have sl:20000<=sizeLine:=by decide
 obtain⟨b_,rv,pl0,hz0⟩:=I.list Ur;have Sf:b_=cs.map λc=>Value.ref c.1:=by
  have rv':ck ((cs.map (·.1)).map V.ref) b_:=by rw[cQ];exact rv
  have:=qG rv';rw[this,cQ];rfl
 have lits:b_.length=cs.length:=by rw[Sf,aE]
 refine call_function_entry_kw kind_sorted plain_sorted entry_sorted (ksk_s1 _ _) ?_;unfold Builtin.«sorted»;refine aZ (m:=checkCount "sorted" 1 1 _) (bz ?_);refine aZ (collect_list pl0.isList ?_ (by omega));refine aZ (wpAny_newList ?_ (by omega));obtain⟨N,hN⟩:∃N:Nat,s.heap.objs.size=N:=⟨_,rfl⟩;rw[hN];have z1:((s.heap.push (seqObj "list" #[] 0)).update N (Obj.mapSeq (·++b_.toArray))).objs.size=N+1:=by rw[Cw,size_push',hN]
 obtain⟨a,hA⟩:∃a:Nat,N+1=a:=⟨_,rfl⟩;rw[hA]at z1;obtain⟨h1,YJ⟩:∃h1:Heap,h1=((s.heap.push (seqObj "list" #[] 0)).update N (Obj.mapSeq (·++b_.toArray))).push (seqObj "list" b_.toArray 0):=⟨_,rfl⟩;have ga:h1.get? a=some (seqObj "list" b_.toArray 0):=by rw[YJ,<-z1];exact gu _ rfl
 have s1:h1.objs.size=a+1:=by rw[YJ,size_push',z1]
 have k1:∀b o,s.heap.get? b=some o->h1.get? b=some o:=λb o e=>by
  have lt:b<N:=by rw[<-hN];exact cY e
  have l2:Nat.lt b a:=hA▸qr lt;rw[YJ,CB _ _ _ (by rw[z1];exact fw l2),uq _ _ _ _ (fw lt),CB _ _ _ (by rw[hN];exact fw lt)];exact e
 show wpAny _ _ _ _ _ {s with heap:=((s.heap.push (seqObj "list" #[] 0)).update N (Obj.mapSeq (·++b_.toArray))).push (seqObj "list" b_.toArray 0)};rw[z1,<-YJ];refine aZ (lT (wpAny_call_entry_kw slot_list_sort ⟨_,ga,rfl⟩ entry_list_sort ?_ (ksk_l1 _ _)));rw[ksk_t1];unfold ksk_tree;refine aZ (listItems_at ga rfl ?_);refine aZ (yi ga rfl ?_ (by rw[dt];omega) (dW _));obtain⟨e1,ga1⟩:∃e1,(h1.update a (Obj.mapSeq λ_=>(#[]:Array Value))).get? a=some (seqObj "list" #[] e1):=⟨_,yl ga λ_=>#[]⟩;refine aZ (seqEpoch_at ga1 rfl ?_);refine aZ (wpAny_newTuple ?_ (by rw[tz];omega));obtain⟨h2,YI⟩:∃h2:Heap,h2=(h1.update a (Obj.mapSeq λ_=>(#[]:Array Value))).push (seqObj "tuple" b_.toArray.toList.toArray 0):=⟨_,rfl⟩;have s2:h2.objs.size=a+2:=by rw[YI,size_push',Cw,s1]
 have ga2:h2.get? a=some (seqObj "list" #[] e1):=by rw[YI];exact ed _ ga1
 have k2:∀b o,s.heap.get? b=some o->h2.get? b=some o:=λb o e=>by
  have lt:b<N:=by rw[<-hN];exact cY e
  have l2:Nat.lt b a:=hA▸qr lt;rw[YI,CB _ _ _ (by rw[Cw,s1];exact fw (qr l2)),uq _ _ _ _ (fw l2)];exact k1 b o e
 show wpAny _ _ _ _ _ {s with heap:=(h1.update a (Obj.mapSeq λ_=>(#[]:Array Value))).push (seqObj "tuple" b_.toArray.toList.toArray 0)};rw[<-YI];have I2:Inv X pins σ H {s with heap:=h2,toks:=s.toks}:=I.kept k2;refine aZ (wpAny_newList ?_ (dW _));refine lT ?_;have fa:H a=none:=I.dg.fresh (by rw[hN];omega);have Ib:¬Nat.lt a N:=by rw[<-hA];exact Nat.not_lt.mpr (tV N)
 have aL:a≠X.env.locals:=λe=>by have:=I.lt;rw[hN,<-e]at this;exact Ib this
 have aS:X.sP.heap.objs.size<=a:=by have:=I.sz;rw[hN]at this;omega
 have aC:∀x c,X.env.cells.lookup x=some c->c≠a:=λx c e q=>by obtain⟨v,o,g,_⟩:=I.cell x c e;have:=cY g;rw[q,hN]at this;exact Ib this
 have aP:∀p∈X.pn++pins,p.1≠a:=λp hp q=>by have:=cY (I.pin p hp).1;rw[q,hN]at this;exact Ib this
 have aF:a∉X.fs:=I.NV (by rw[hN];omega);obtain⟨kS,Vu⟩:∃kS,kS=h2.objs.size:=⟨_,rfl⟩;have fk:H kS=none:=I.dg.fresh (by rw[hN,Vu,s2];omega);have nka:kS≠a:=by rw[Vu,s2];omega
 have I3:Inv X pins σ (upd H kS (.lst [])) {s with heap:=h2.push (seqObj "list" #[] 0),toks:=s.toks}:=by refine I2.laid (λb o e=>ed _ e) (by rw[Vu];exact bx _) ?_;refine⟨dW _,[],0,.nil,?_⟩;rw[Vu];exact gu _ rfl
 have I4:Inv X (pins++[(a,seqObj "list" #[] e1)]) σ (upd H kS (.lst [])) {s with heap:=h2.push (seqObj "list" #[] 0),toks:=s.toks}:=I3.sk λp hp=>by
  rcases cO.mp hp with hp|hp;.exact I3.pin p (fi _ hp)
  have:=cW.mp hp;subst this;refine⟨ed _ ga2,?_,aL,aF,λv z=>by cases z⟩;show upd H kS (.lst []) a=none;rw[ah nka.symm];exact fa
 show wpAny _ _ (ksk_rest a (.ref f) false b_.toArray e1 (.ref h2.objs.size)) _ _ {s with heap:=h2.push (seqObj "list" #[] 0),toks:=s.toks};rw[<-Vu];unfold ksk_rest;refine aZ (wpAny_rule ?_);rw[<-Array.forIn_toList,tz];refine aZ (ksk_fold (λi s'=>∃(H':Hp)(zs:List (Addr×Itm)),Inv X (pins++[(a,seqObj "list" #[] e1)]) σ H' s'/\aY H H'/\H' kS=some (.lst (zs.map λz=>V.ref z.1))/\oS H' n zs/\zs.map (·.2)=cs.take i) b_ 0 _ ⟨_,[],I4,To fk,ai,⟨CD,λz hz=>by cases hz⟩,rfl⟩ (λj x s' hx hJ=>?_) (λs' hJ=>?_))
 .obtain⟨H',zs,J,sH,hk,KR,ez⟩:=hJ;rw[ql]at ez⊢;obtain⟨c,hc,rfl⟩:∃c,cs[j]?=some c/\x=.ref c.1:=by rw[Sf,cC]at hx;cases q:cs[j]? with|none=>rw[q]at hx;cases hx|some c=>rw[q]at hx;exact⟨c,rfl,(bZ hx).symm⟩
  have Gg:=du hc;refine aZ (Cn (iZ (turn c H' s' _ Gg J sH) (λu s2' hu=>?_) λ_ _ z=>z.elim));obtain⟨t,H2,rfl,J2,X0,ht,Ny⟩:=hu;have Vf:=X0 _ _ hk;obtain⟨_,AF,kc,Yc,kg⟩:=J2.dg _ _ Vf;have Wc:AF.length=zs.length:=by rw[<-Yc.length,aE]
  have abz:zs.length<=10000:=by have:=congrArg List.length ez;rw[aE,gT]at this;omega
  try dsimp only
  refine aZ (yi kg rfl ?_ (by rw[dt,Wc];omega) (by rw[Array.size_push,dt,Wc];omega));have gk2:=yl kg (·.push (.ref t));refine bz ⟨rfl,upd H2 kS (.lst ((zs++[(t,c)]).map λz=>V.ref z.1)),zs++[(t,c)],?_,λb o e=>?_,ai,⟨?_,λz hz=>?_⟩,?_⟩
  .refine J2.write (t':=s2'.toks) (by rw[Vf];trivial) (.inl rfl) (λb u nb e=>(uq _ _ _ _ nb).trans e) ⟨_,gk2⟩ ?_;have e:(AF++[Value.ref t]).toArray=AF.toArray.push (.ref t):=by simp
   rw[<-e]at gk2;refine Ll (by rw[aE,dC];show zs.length+1<=_;omega) ?_ gk2;rw[cR];exact Yc.append (.cons rfl .nil)
  .rw[ah (aa e fk)];exact X0 _ _ (sH _ _ e)
  .rw[cR,yI];refine⟨KR.nd,by simp,λx hx y hy e=>?_⟩;obtain⟨z,hz,rfl⟩:=br.mp hx;have hy:y=t:=by simpa using hy
   subst hy;have:=(KR.at_ z hz).1;rw[e,ht]at this;cases this
  .have old:∀{b:Addr}{o:HO},H2 b=some o->(∀xs,o≠.lst xs)->upd H2 kS (.lst ((zs++[(t,c)]).map λz=>V.ref z.1)) b=some o:=λe no=>by rw[ah (aI e Vf (no _))];exact e
   have lst:∀d,d∈cs->upd H2 kS (.lst ((zs++[(t,c)]).map λz=>V.ref z.1)) d.1=some (.lst (d.2.map nV)):=λd hd=>by have:=(IE d hd).1;rw[ah (aa this fk)];exact X0 _ _ (sH _ _ this)
   rcases cO.mp hz with hz|hz
   .have hm:z.2∈cs:=by have:z.2∈zs.map (·.2):=lx (f:=λx:Addr×Itm=>x.2) hz;rw[ez]at this;exact List.mem_of_mem_take this
    exact⟨old (X0 _ _ (KR.at_ z hz).1) (by intro xs w;cases w),lst _ hm⟩
   have:=cW.mp hz;subst this;exact⟨old Ny (by intro xs w;cases w),lst _ Gg⟩
  rw[cR,ez,lJ,hc];rfl
 obtain⟨H',zs,J,sH,hk,KR,ez⟩:=hJ;rw[ql,lits,iH]at ez;obtain⟨_,AF,kc,Yc,kg⟩:=J.dg _ _ hk;have EU:AF=zs.map λz=>Value.ref z.1:=by
  have r':ck ((zs.map (·.1)).map V.ref) AF:=by rw[cQ];exact Yc
  rw[qG r',cQ];rfl
 have Xw:b_=zs.map λz=>Value.ref z.2.1:=by rw[Sf,<-ez,cQ];rfl
 have zl:zs.length=cs.length:=by rw[<-ez,aE]
 refine aZ (listItems_at kg rfl ?_);have ga5:s'.heap.get? a=some (seqObj "list" #[] e1):=(J.pin (a,seqObj "list" #[] e1) (fi _ (fi _ (cW.mpr rfl)))).1;have ep:AF.toArray.zip b_.toArray=(zs.map λz=>(Value.ref z.1,Value.ref z.2.1)).toArray:=by rw[EU,Xw];apply JZ.mp;rw[ksk_zip];exact VO zs
 have fin:∀jB:SortSt,failedOf jB=none->(∃rW:List (Addr×Itm),rW.Perm zs/\(arrOf jB).toList=rW.map (λz=>(Value.ref z.1,Value.ref z.2.1))/\rW.Pairwise (λc d=>r8.nX (gS n d.2) (gS n c.2)=false))->wpAny (model X.prog X.w) X.A.in1.in1 (ksk_tail a false e1 (.ref kS) jB) (λfin s'=>∃v,fin=.done (.ret v)/\wpAny (model X.prog X.w) X.A.in1 (ret (.ref a)) (λfin s'=>∃v,fin=.done (.ret v)/\Q v s') X.xe s') X.xe s':=by
  intro jB hf ⟨rW,pz,ea,ord⟩;have lz:rW.length=cs.length:=by rw[pz.length_eq,zl]
  unfold ksk_tail;try dsimp only
  refine aZ (yi kg rfl ?_ (by rw[dt,EU,aE];omega) (dW _));refine aZ (tS ?_);have ga6:(s'.heap.update kS (Obj.mapSeq λ_=>(#[]:Array Value))).get? a=some (seqObj "list" #[] e1):=(uq _ _ _ _ nka.symm).trans ga5;refine aZ (seqEpoch_at ga6 rfl ?_);have asz:((arrOf jB).map (·.2)).size<=sizeLine+1:=by rw[Array.size_map,<-tu,ea,aE];omega
  simp only[ur,jN];refine aZ (yi ga6 rfl ?_ (dW _) asz);rw[hf];simp only[bne_self_eq_false,ur,jN];have gk6:=yl kg λ_=>(#[]:Array Value);have J6:Inv X (pins++[(a,seqObj "list" #[] e1)]) σ (upd H' kS (.lst [])) {s' with heap:=s'.heap.update kS (Obj.mapSeq λ_=>(#[]:Array Value)),toks:=s'.toks}:=by refine J.write (by rw[hk];trivial) (.inl rfl) (λb u nb e=>(uq _ _ _ _ nb).trans e) ⟨_,gk6⟩ ?_;exact⟨dW _,[],_,.nil,gk6⟩
  have faJ:upd H' kS (.lst []) a=none:=(J6.pin (a,seqObj "list" #[] e1) (fi _ (fi _ (cW.mpr rfl)))).2.1;have J7:Inv X pins σ (upd H' kS (.lst [])) {s' with heap:=s'.heap.update kS (Obj.mapSeq λ_=>(#[]:Array Value)),toks:=s'.toks}:=J6.jX;have ga7:=yl ga6 λ_=>(arrOf jB).map (·.2);have J8:=Inv.take (a:=a) (o:=.lst (rW.map λz=>V.ref z.2.1)) (t':=s'.toks) J7 aS aL aC aP faJ (Heap.SameBut.update _ a (Obj.mapSeq λ_=>(arrOf jB).map (·.2))) (by
   have e:(rW.map λz=>Value.ref z.2.1).toArray=(arrOf jB).map (·.2):=by apply JZ.mp;rw[Array.toList_map,ea,cQ];rfl
   rw[<-e]at ga7⊢;refine Ll (by rw[aE];omega) ?_ ga7;have:=xc (rW.map λz=>z.2.1);rw[cQ,cQ]at this;exact this)
  refine bz ⟨_,rfl,bz ⟨_,rfl,?_⟩⟩;refine h a _ _ (rW.map (·.2)) J8 (λb o e=>?_) fa ?_ ?_ ?_;.rw[ah (aa e fa),ah (aa e fk)];exact sH _ _ e
  .rw[ai,cQ];rfl
  .rw[<-ez];exact pz.map _
  rw[CZ];exact ord
 rw[wu];by_cases c2:b_.toArray.size<2
 .rw[aw c2,aw c2];refine aZ (bz ?_);dsimp only;rw[JV];refine aZ (bz ?_);refine fin _ rfl ⟨zs,JN _,?_,?_⟩;.show(AF.toArray.zip b_.toArray).toList=_;rw[ep]
  rw[dt,lits,<-zl]at c2;match zs,c2 with|[],_=>exact List.Pairwise.nil|[z],_=>exact Dd _ _|_::_::_,c2=>simp at c2;omega
 rw[au c2,au c2];obtain⟨fs,f1,f2,f3⟩:=oS.oE J KR.at_;rw[dt,lits,<-zl]at c2;have e:(Value.type "int" !=Value.type "tuple")=true:=by decide
 rw[EU];refine aZ (PySem.W.kat_kind (T:=Value.type "int") f1 (by omega) (λv hv=>?_) rfl ?_);.obtain⟨i,t,rfl⟩:=f3 v hv;exact PySem.W.Looks.of_pure rfl
 rw[e,<-EU,ep];dsimp only;have hm:∀z,z∈zs->z.2.2.length=m:=λz hz=>by
  have:z.2∈cs:=by rw[<-ez];exact lx (f:=λx:Addr×Itm=>x.2) hz
  exact(IE _ this).2
 suffices W:wpS (model X.prog X.w) X.A.in1.in1 X.xe s' sortRuns' (λ_ jB=>failedOf jB=none/\∃rW:List (Addr×Itm),rW.Perm zs/\(arrOf jB).toList=rW.map (λz=>(Value.ref z.1,Value.ref z.2.1))/\rW.Pairwise (λc d=>r8.nX (gS n d.2) (gS n c.2)=false)) (SortSt.mk' (tuples' true) (zs.map λz=>(Value.ref z.1,Value.ref z.2.1)).toArray #[] 7 none)by unfold wpS at W;refine aZ (iZ W (λr sx hr=>?_) λ_ _ z=>z);obtain⟨rfl,q1,q2⟩:=hr;exact fin _ q1 q2
 refine r8.WW (oS.keys J KR hm) (by show X.A.units+1+1<_;omega) (a0:=(zs.map λz=>(Value.ref z.1,Value.ref z.2.1)).toArray) ?_ rfl rfl rfl rfl (by rw[dt,aE];omega) ?_;.intro p hp;rw[tz]at hp;obtain⟨z,hz,rfl⟩:=br.mp hp;exact⟨z.1,_,rfl,Bw KR.nd hz⟩
 intro jB a1 a2 a3;refine⟨a2,?_⟩;obtain⟨rW,pz,ea⟩:=DZ (λz:Addr×Itm=>(Value.ref z.1,Value.ref z.2.1)) (l:=(arrOf jB).toList) (m:=zs.map λz=>(Value.ref z.1,Value.ref z.2.1)) (by have:=a1.toList;rw[tz]at this;exact this) zs rfl;refine⟨rW,pz,ea,?_⟩;rw[KZ];intro i j hi hj Vg;have sz:(zs.map λz=>(Value.ref z.1,Value.ref z.2.1)).toArray.size=rW.length:=by rw[dt,aE,pz.length_eq]
 have q:=a3 i j (tY Vg) (by rw[sz];exact hj);have at_:∀(k:Nat)(hk:k<rW.length),r8.AN (Qp n zs) (arrOf jB) k=gS n (rW[k]).2:=λk hk=>by
  unfold r8.AN;have e:(arrOf jB)[k]?=some (Value.ref (rW[k]).1,Value.ref (rW[k]).2.1):=by rw[<-Array.getElem?_toList,ea,cC,dZ hk];rfl
  rw[e];show((Qp n zs).lookup (rW[k]).1).getD (0,[])=_;rw[Bw KR.nd (pz.mem_iff.mp (List.getElem_mem hk))];rfl
 rw[at_ i hi,at_ j hj]at q;exact q
where
  VO {α:Type} {f g:α->Value}:∀l:List α,(l.map f).zip (l.map g)=l.map λz=>(f z,g z)
    |[]=>rfl
    |x::l=>by rw[cV,cV,List.zip_cons_cons,VO l];rfl
  To {H:Hp} {a:Addr} {o:HO} (h:H a=none):aY H (upd H a o):=λb u e=>by rw[ah (aa e h)];exact e
end
end Wh
end
section
namespace Wh
open PySem PySem.Spec PyProof.Rows L2
def jA(Pt:Addr)(H H':Hp):Prop:=∀b o,H b=some o->b≠Pt->H' b=some o
def jA.trans(a:jA Pt H H')(b:jA Pt H' YZ):jA Pt H YZ:=λx o e n=>b x o (a x o e n) n
def aY.rP(a:aY H H'):jA Pt H H':=λx o e _=>a x o e
theorem gY.some(h:gY H Pt pos q):∃ps,H Pt=some (.vW ps):=by
 rcases h with h|⟨c,h,_⟩;.exact⟨_,h⟩
 exact⟨_,h⟩
def gY.same(h:gY H Pt pos q)(s:aY H H'):gY H' Pt pos q:=by
 rcases h with h|⟨c,h,k⟩;.exact .inl (s _ _ h)
 exact .inr ⟨c,s _ _ h,s _ _ k⟩
section
variable {X:Cx} {p pos AE jP:Pos} {e:Expr} {te tb:TE}
def Sx(te tb:TE)(Pt:Addr)(jP:Pos)(q:Str)(i m:Nat):TE:=fun σ H Q=>fb te iW σ H λvs H1=>∃(lv:Addr)(cs:List Itm)(l:Nat)(tv:V)(n:Itm->Int),vs=[.ref lv]/\σ[i]?=some (some tv)/\H1 lv=some (.lst (cs.map λc=>V.ref c.1))/\(∀c,c∈cs->H1 c.1=some (.lst (c.2.map nV))/\c.2.length=l)/\cs.length<=10000/\gY H1 Pt jP q/\(∀(c:Itm)(H2:Hp),c∈cs->jA Pt H1 H2->tb ([some (.ref c.1),some tv]++List.replicate m none) H2 λv H3=>∃t,v=.ref t/\aY H2 H3/\H2 t=none/\H3 t=some (.tup [.int (n c),.ref c.1]))/\∀(D:Addr)(H':Hp)(pd:List Itm),jA Pt H1 H'->gY H' Pt jP q->H1 D=none->H' D=some (.lst (pd.map λc=>V.ref c.1))->pd.Perm cs->pd.Pairwise (λc d=>r8.nX (gS n d) (gS n c)=false)->Q (.ref D) H'
def L5(hg:Gl X "sorted")(hm:X.mg "sorted"=none)(he:PE X e te)(hxe:X.xe=λ_ _=>False)(hr:eY 4 X.A)(R0:defaultsOf params X.env=([],[]))(xZ:closureFor scope X.env=pure [(y,cT)])(hcy:X.env.cells.lookup y=some cT)(hky:X.env.kindOf y=some .cell)(hNy:X.N[i]?=some y)(hvy:UI X.env.scope y)(rh:X.env.code=.ref c)(Ar:PySem.W.codeHdIn X.K c Pt=true)(Vn:Ro X.mg X.base)(S:vv scope x y)(hb:∀(cv pm B8 u:Value),bindArgs (PySem.W.kla_fn "<lambda>" (X.env.qual++("<lambda>":Str)) params body scope [(y,cT)] pm cv B8) ⟨[u],[]⟩=pure [(x,u)])(hl:2<=N.length)(hN:∀(i:Nat)(z:Str)(v tv o:V),N[i]?=some z->([some v,some tv]++List.replicate (N.length-2) none)[i]?=some (some o)->(z=x/\o=v)\/(z=y/\o=tv))(pD:∀(f c':Addr)(A:Around)(outer:List Env)(s:Shared)(H:Hp),PE (ER X.prog X.w X.K X.mg X.base N (X.env.qual++("<lambda>":Str)) scope f (.ref c') [(y,cT)] A outer s H) body tb)(hs:starEach [e] X.env=[(false,eval e X.env)]:=by rfl):PE X (.Call (.Name "sorted" p) [e] [⟨some "key",.Lambda params body scope jP,AE⟩] pos) (Sx te tb Pt jP (X.env.qual++("<lambda>":Str)) i (N.length-2)):=by
 intro pins s σ H Q I h;refine tj (oQ I hg hm KW ?_);refine KY (dH (ag he ao hs pos pins s σ H _ I h) λus s1⟨vs,H1,I1,r1,q1⟩=>?_) (by rw[hs];rfl) (by rw[hs];rfl);obtain⟨lv,cs,l,tv,n,rfl,hσ,Ur,IE,hsz,ht,aaQ,q1⟩:=q1;rw[ck.NT r1];show wpAny _ _ (evalAll ((do let v <-eval (.Lambda params body scope jP) X.env;standAt pos;pure v)::(backToKw pos (keywordEach [] X.env)).map (·.2))) _ _ s1;refine wpAny_evalAll_cons (aZ (S9 I1 R0 xZ rh Ar Vn ht λf c' pm B8 H2 s2 I2 gf hf fL fF Ny IF kp=>aZ (tW (bz ?_))));refine wpAny_evalAll_nil ?_;obtain⟨tb0,Cb⟩:=ht.some;have Zy:∀{b:Addr}{xs:List V},H1 b=some (.lst xs)->b≠Pt:=λe=>aI e Cb (by intro w;cases w);have lv2:H2 lv=some (.lst (cs.map λc=>V.ref c.1)):=kp _ _ Ur (Zy Ur);have aa8:∀c,c∈cs->H2 c.1=some (.lst (c.2.map nV))/\c.2.length=l:=λc hc=>⟨kp _ _ (IE c hc).1 (Zy (IE c hc).1),(IE c hc).2⟩;have I3:Inv X (pins++[(f,PySem.W.kla_obj "<lambda>" (X.env.qual++("<lambda>":Str)) params body scope [(y,cT)] pm c' B8)]) σ H2 s2:=I2.sk λp hp=>by
  rcases cO.mp hp with hp|hp;.exact I2.pin p (fi _ hp)
  have:=cW.mp hp;subst this;exact⟨gf,hf,fL,fF,λv z=>by cases z⟩
 refine DX (m:=l) (n:=n) I3 (by have:=hr.un;omega) (bp.of lv2) aa8 hsz (λc H4 s4 pl hc J sa=>?_) λD H' s' pd J sa fD hD pm' ord=>?_
 .have gf4:=(J.pin (f,PySem.W.kla_obj "<lambda>" (X.env.qual++("<lambda>":Str)) params body scope [(y,cT)] pm c' B8) (fi _ (iS _ (fi _ (cW.mpr rfl))))).1;obtain⟨uT,rT,hcT⟩:∃uT,RelV tv uT/\s4.heap.IsCell cT (some uT):=by
   obtain⟨mm,_,h2⟩:=J.loc;obtain⟨u,ru,hu⟩:=h2 i y tv hNy hσ hvy;rcases hu with⟨k1,_⟩|⟨_,cc,e1,e2⟩;.rw[hky]at k1;cases k1
   rw[hcy]at e1;cases e1;exact⟨u,ru,e2⟩
  have hcr:s4.heap.CodeRec (.ref c') (X.env.qual++("<lambda>":Str)):=by have:=J.dg _ _ (sa _ _ IF);exact this.1
  refine yh (tT (Pr (N:=N) (v:=.ref c.1) (tv:=tv) (te:=tb) (k:=2) (Q:=λv H3=>∃t,v=.ref t/\aY H4 H3/\H4 t=none/\H3 t=some (.tup [.int (n c),.ref c.1])) S hr.in1.in1 J.Se.in1.in1 gf4 hcr hcT (J.jE _ _ hcy) rT rfl (hb _ _ _ _) (λi z o a b=>hN i z _ _ o a b) hl (pD _ _ _ _ _ _) ?_) λr s5 hq=>?_);.exact aaQ c H4 hc (λb o e nn=>sa _ _ (kp b o e nn))
  match r,hq with|.ok (.ret u),hq=>obtain⟨v,H5,J5,r5,t,rfl,a1,a2,a3⟩:=J.after hq;cases r5;exact⟨t,H5,rfl,J5,a1,a2,a3⟩
 refine⟨.ref D,H',J.jX,rfl,q1 D H' pd (λb o e nn=>sa _ _ (kp b o e nn)) (Ny.same sa) ?_ hD pm' ord⟩;cases q:H1 D with
 |none=>rfl
 |some o=>
  exfalso;by_cases e:D=Pt;.subst e;obtain⟨t2,h2⟩:=Ny.some;rw[h2]at fD;cases fD
  rw[kp _ _ q e]at fD;cases fD
end
end Wh
end
section
namespace Wh
open PySem PySem.Spec PyProof.Rows L2
open FhHold (Tab)
open ak(dk PN aJ cI pr pc cX gX fe less cD Cj)
open Flow(a_ nZ dN et)
abbrev Ju:Stmt:=top 38
abbrev Rz:Stmt:=top 39
abbrev EF:Stmt:=top 40
abbrev DE:Stmt:=top 41
def qC{K:PySem.W.Frag}{a:Addr}{xs:List V}{g:TG}{tt:TT}{te:TE}{vs:List Nat}{σ:L2.St}{H1:Hp}{D:Addr}{Qd:Hp->Prop}(f:V->V)(hl:xs.length<=10000)(ha:H1 a=some (.lst xs))(hD:H1 D=none)(hs:∀(x:V)(H':Hp)(Z:VK)(W:Hp->Prop),x∈xs->aY H1 H'->(∀H4,aY H' H4->Z (f x) H4)->g x (wipe σ vs) H' fun σ2 H2=>wipe σ2 vs=wipe σ vs/\tt σ2 H2 λb H3=>if b=true then te σ2 H3 Z else W H3)(hd:∀H',aY H1 H'->H' D=some (.lst (xs.map f))->Qd H'):∃W:Nat->Nat->Hp->Prop,(∃m,W 0 m (upd H1 D (.lst [])))/\∀i m H,W i m H->((EA K a).stop i H/\Qd H)\/((EA K a).go i H/\∃Nx:Hp->Prop,(∀H',Nx H'->∃m',m'<m/\W (i+1) m' H')/\∀x H',(EA K a).Es i H x H'->g x (wipe σ vs) H' fun σ2 H2=>wipe σ2 vs=wipe σ vs/\tt σ2 H2 λb H3=>if b=true then te σ2 H3 λy H4=>∃acc,H4 D=some (.lst acc)/\acc.length<sizeLine/\Nx (upd H4 D (.lst (acc++[y])))else Nx H3):=by
 refine kE (xs:=xs) (λi H'=>aY H1 H'/\H' D=some (.lst ((xs.take i).map f))) ⟨cH _ _ _ hD,ai⟩ (λi H _⟨s,_⟩=>bp.of (s _ _ ha)) (λi x H hx⟨s,h⟩=>?_) (λH⟨s,h⟩=>hd H s (by rw[iH]at h;exact h));refine hs x H _ _ (du hx) s λH4 s4=>⟨_,s4 _ _ h,?_,?_,?_⟩;.rw[aE,gT];exact dX (cB (yG _ _) hl) (by decide)
 .intro b o e;rw[ah (aa e hD)];exact s4 _ _ (s _ _ e)
 rw[ai,lJ,hx,cR];rfl
def once(l:List Nat):Bool:=l.any λx=>l.countP (·==x)==1
def tO(t:Tab)(u:List Nat):Bool:=once (u.map (pr t)) || once (u.map (pc t))
def pQ{u:List Nat}(hu:u.Nodup)(f:Nat->Nat):once (u.map f)=true↔∃p,p∈u/\∀q,q∈u->f q=f p->q=p:=by
 unfold once;rw[CQ];constructor
 .rintro⟨x,hx,h⟩;obtain⟨p,hp,rfl⟩:=br.mp hx;refine⟨p,hp,λq hq e=>?_⟩;have h:(u.map f).countP (·==f p)=1:=eq_of_beq h;rw[CI]at h;apply ly;intro ne;have:2<=u.countP ((λx=>x==f p)∘f):=by rw[List.countP_eq_length_filter];have h1:p∈u.filter ((λx=>x==f p)∘f):=gU.mpr ⟨hp,by simp⟩;have h2:q∈u.filter ((λx=>x==f p)∘f):=gU.mpr ⟨hq,by simp[e]⟩;match hm:u.filter ((λx=>x==f p)∘f),h1,h2 with|[],h1,_=>cases h1|[z],h1,h2=>have a:=cW.mp h1;have b:=cW.mp h2;exact absurd (b.trans a.symm) ne|_::_::_,_,_=>simp
  omega
 rintro⟨p,hp,h⟩;refine⟨f p,lx hp,?_⟩;rw[CI];have:u.countP ((λx=>x==f p)∘f)=u.countP (·==p):=by refine Ke λq hq=>?_;simp only[Function.comp,i4];exact⟨λe=>h q hq e,λe=>by rw[e]⟩
 rw[this];have:u.count p=1:=by rw[List.nodup_iff_count]at hu;have:=hu p;have:=List.count_pos_iff.mpr hp;omega
 exact i4.mpr this
def Hv{t:Tab}{u:List Nat}(hu:u.Pairwise (·<·)):tO t u=false↔∀p,p∈u->¬Cj t u p:=by
 have nd:u.Nodup:=hu.imp λh=>fw h;unfold tO;rw[Ku];constructor
 .rintro⟨h1,h2⟩ p hp (h|h);.rw[(pQ nd (pr t)).mpr ⟨p,hp,h⟩]at h1;cases h1
  rw[(pQ nd (pc t)).mpr ⟨p,hp,h⟩]at h2;cases h2
 intro h;constructor;.cases e:once (u.map (pr t))with|false=>rfl|true=>obtain⟨p,hp,q⟩:=(pQ nd (pr t)).mp e;exact absurd (.inl q) (h p hp)
 cases e:once (u.map (pc t))with|false=>rfl|true=>obtain⟨p,hp,q⟩:=(pQ nd (pc t)).mp e;exact absurd (.inr q) (h p hp)
def zQ(l:List Nat):(l.map nV).all lA=true:=by rw[jR];intro x hx;obtain⟨p,_,rfl⟩:=br.mp hx;rfl
def MK(l:List Nat)(p:Nat):((l.map nV).countP λz=>Cc z (nV p))=l.countP (·==p):=by rw[CI];refine Ke λq _=>?_;show((q:Int)==(p:Int))=true↔(q==p)=true;rw[i4,i4];omega
def Xj(p:Nat)(l:List Nat):Uj (nV p) (l.map nV)=l.contains p:=by unfold Uj;rw[Cp,List.contains_eq_any_beq];congr 1;funext q;show((q:Int)==(p:Int))=(p==q);cases e:p==q with|true=>rw[i4]at e⊢;omega|false=>have:=JW e;exact tE.mpr (by omega)
def Fg(l:List Nat):Uj (V.int 1) ((l.map nV).map λx=>V.int (((l.map nV).countP λz=>Cc z x:Nat):Int))=once l:=by unfold Uj once;rw[Cp,Cp];congr 1;funext p;show((((l.map nV).countP λz=>Cc z (nV p):Nat):Int)==1)=(l.countP (·==p)==1);rw[MK];cases e:l.countP (·==p)==1 with|true=>rw[i4]at e⊢;omega|false=>have:=JW e;exact tE.mpr (by omega)
def TU(CT:Addr)(vs:List V)(H:Hp)(Q:VK)(a dx aA aB aS:Addr)(R C:Nat)(cs bs s:List Nat):Prop:=vs=[.ref a,.ref aS]/\TabAt CT H a R C cs bs dx aA aB/\C<=16/\H aS=some (.lst (s.map nV))/\s.length<=300/\∀H':Hp,aY H H'->Q (.bl (tO (tabOf R C cs bs) s)) H'
def Dt(CT:Addr):Sp:=λvs H Q _=>∃a dx aA aB aS R C cs bs s,TU CT vs H Q a dx aA aB aS R C cs bs s
section
variable {P:Program} {w:World} {K:PySem.W.Frag} {mg:Str->Option Value} {base:Heap}
def js:aM ["self","hidden","rows","columns","place","row","column"] ["self","hidden"] (ax Jf):=⟨rfl,rfl,rfl,by decide +kernel,rfl,by decide +kernel,by decide +kernel⟩
def O8{f CT:Addr}{fd:FuncData}(F:gE K "has_lone_place" "Table.has_lone_place" Jf f fd)(T:i_ K mg CT):ay P w K mg base bu 1 f fd ["self","hidden"] (Dt CT):=by
 refine iU F js λvs H Q E h=>?_;obtain⟨a,dx,aA,aB,aS,R,C,cs,bs,l,rfl,Ta,hC,hS,hl,k⟩:=h;refine⟨rfl,λ_ _ _ _ hr=>?_⟩;refine⟨_,aj (bh (i:=2) js.nd rfl (Or.inr rfl) (jU (own:=[("place",4)]) (g:=gg 4) (te:=Ae (rI WM λi j=>.int (i/j)) (cJ 4) (Ae (FW λi j=>.int (i+j)) (wd K (cJ 0) "columns") (tC (.int 1)))) rfl js.nd (c9 (pv 1)) (dq (by rfl)) (λ_ _ _ _ _=>bb (i:=4) js.nd rfl (Or.inl rfl) (Or.inr rfl)) (λ_ _ _ _ _=>gi) (λ_ _ _ _ _=>dv O1 (pv 4) (dv gR (az (pv 0) rfl) aU)))) (aj (bh (i:=3) js.nd rfl (Or.inr rfl) (jU (own:=[("place",4)]) (g:=gg 4) (te:=Ae (rI (λ_ j=>0<j) λi j=>.int (i%j)) (cJ 4) (Ae (FW λi j=>.int (i+j)) (wd K (cJ 0) "columns") (tC (.int 1)))) rfl js.nd (c9 (pv 1)) (dq (by rfl)) (λ_ _ _ _ _=>bb (i:=4) js.nd rfl (Or.inl rfl) (Or.inr rfl)) (λ_ _ _ _ _=>gi) (λ_ _ _ _ _=>dv Lk (pv 4) (dv gR (az (pv 0) rfl) aU)))) (aq (aH (Xb (zK xg aU (jU (own:=[("row",5)]) (g:=gg 5) (te:=XW K "list" (DI K) (cJ 2) (fb (cJ 5) iW)) rfl js.nd (c9 (pv 2)) (dq (by rfl)) (λ_ _ _ _ _=>bb (i:=5) js.nd rfl (Or.inl rfl) (Or.inr rfl)) (λ_ _ _ _ _=>gi) (λ_ _ _ _ _=>i7 i6 De KQ xo (pv 2) (ag (pv 5) ao))) rfl) (Lh (zK xg aU (jU (own:=[("column",6)]) (g:=gg 6) (te:=XW K "list" (DI K) (cJ 3) (fb (cJ 6) iW)) rfl js.nd (c9 (pv 3)) (dq (by rfl)) (λ_ _ _ _ _=>bb (i:=6) js.nd rfl (Or.inl rfl) (Or.inr rfl)) (λ_ _ _ _ _=>gi) (λ_ _ _ _ _=>i7 i6 De KQ xo (pv 3) (ag (pv 6) ao))) rfl)))))),?_⟩;have rY:(l.map nV).length<=10000:=by rw[aE];omega
 refine⟨_,rfl,aS,rfl,⟨_,bp.of hS⟩,λD hD=>?_⟩;refine qC (K:=K) (a:=aS) (xs:=l.map nV) (λx=>match x with|.int i=>.int (i/((C:Int)+1))|y=>y) rY hS hD ?_ ?_;.intro x H' Z W hx s1 hz;obtain⟨p,hp,rfl⟩:=br.mp hx;have T1:=Ta.same s1;refine⟨rfl,_,rfl,_,rfl,a,CT,dx,_,_,rfl,T1.ins,T.cl,T.nC,iK,_,_,rfl,rfl,?_⟩;exact⟨_,_,rfl,rfl,⟨by omega,by omega⟩,hz _ λ_ _ e=>e⟩
 intro H1 s1 qZ;have eR:(l.map nV).map (λx=>match x with|.int i=>V.int (i/((C:Int)+1))|y=>y)=(l.map (pr (tabOf R C cs bs))).map nV:=by rw[cQ,cQ];refine jm λp _=>?_;show V.int ((p:Int)/((C:Int)+1))=V.int ((p/(C+1):Nat):Int);congr 1
 rw[eR]at qZ;have hS1:=s1 _ _ hS;have T1:=Ta.same s1;refine⟨_,rfl,aS,rfl,⟨_,bp.of hS1⟩,λD2 wA=>?_⟩;refine qC (K:=K) (a:=aS) (xs:=l.map nV) (λx=>match x with|.int i=>.int (i%((C:Int)+1))|y=>y) rY hS1 wA ?_ ?_;.intro x H' Z W hx s2 hz;obtain⟨p,hp,rfl⟩:=br.mp hx;have T2:=T1.same s2;refine⟨rfl,_,rfl,_,rfl,a,CT,dx,_,_,rfl,T2.ins,T.cl,T.nC,iK,_,_,rfl,rfl,?_⟩;exact⟨_,_,rfl,rfl,by show(0:Int)<(C:Int)+1;omega,hz _ λ_ _ e=>e⟩
 intro H2 s2 NG;have eC:(l.map nV).map (λx=>match x with|.int i=>V.int (i%((C:Int)+1))|y=>y)=(l.map (pc (tabOf R C cs bs))).map nV:=by rw[cQ,cQ];refine jm λp _=>?_;show V.int ((p:Int)%((C:Int)+1))=V.int ((p%(C+1):Nat):Int);congr 1
 rw[eC]at NG;have qe:=s2 _ _ qZ;obtain⟨lr,elr⟩:∃lr,lr=l.map (pr (tabOf R C cs bs)):=⟨_,rfl⟩;obtain⟨lc,elc⟩:∃lc,lc=l.map (pc (tabOf R C cs bs)):=⟨_,rfl⟩;have kk:∀b H',aY H H'->(once lr || once lc)=b->Q (.bl b) H':=λb H' ss e=>by have:=k H' ss;unfold tO at this;rw[<-elr,<-elc,e]at this;exact this
 rw[<-elr]at qe;rw[<-elc]at NG;have l1:(lr.map nV).length<=10000:=by rw[elr,aE,aE];omega
 have l2:(lc.map nV).length<=10000:=by rw[elc,aE,aE];omega
 refine⟨_,rfl,D,rfl,⟨_,bp.of qe⟩,λD3 Au=>?_⟩;refine qC (K:=K) (a:=D) (xs:=lr.map nV) (λx=>V.int (((lr.map nV).countP λz=>Cc z x:Nat):Int)) l1 qe Au ?_ ?_;.intro x H' Z W hx s3 hz;obtain⟨p,hp,rfl⟩:=br.mp hx;exact⟨rfl,_,rfl,.inl ⟨rfl,_,bp.of (s3 _ _ qe)⟩,_,rfl,D,_,_,rfl,rfl,bp.of (s3 _ _ qe),rfl,zQ _,hz _ λ_ _ e=>e⟩
 intro H3 s3 abc;refine⟨_,_,rfl,.inl (bp.of abc),rfl,?_,?_⟩;.rw[jR];intro x hx;obtain⟨y,_,rfl⟩:=br.mp hx;rfl
 refine⟨_,rfl,?_⟩;rw[au (by simp:¬false=true),Fg];have UN:=(s1.trans s2).trans s3;cases o1:once lr with
 |true=>exact eV (kk true H3 UN (by rw[o1];rfl))
 |false=>
  refine gM ?_;have Yx:=s3 _ _ NG;refine⟨_,rfl,D2,rfl,⟨_,bp.of Yx⟩,λD4 Ux=>?_⟩;refine qC (K:=K) (a:=D2) (xs:=lc.map nV) (λx=>V.int (((lc.map nV).countP λz=>Cc z x:Nat):Int)) l2 Yx Ux ?_ ?_;.intro x H' Z W hx s4 hz;obtain⟨p,hp,rfl⟩:=br.mp hx;exact⟨rfl,_,rfl,.inl ⟨rfl,_,bp.of (s4 _ _ Yx)⟩,_,rfl,D2,_,_,rfl,rfl,bp.of (s4 _ _ Yx),rfl,zQ _,hz _ λ_ _ e=>e⟩
  intro H4 s4 abb;refine⟨_,_,rfl,.inl (bp.of abb),rfl,?_,?_⟩;.rw[jR];intro x hx;obtain⟨y,_,rfl⟩:=br.mp hx;rfl
  rw[au (by simp:¬false=true),Fg];exact kk _ H4 (UN.trans s4) (by rw[o1];rfl)
end
end Wh
end
section
namespace Wh
open PySem PySem.Spec PyProof.Rows L2
open FhHold (Tab)
open ak(dk PN aJ cI pr pc cX gX fe less cD Cj extend oneMore cE)
open Flow(a_ nZ dN et)
def XH(CT:Addr)(vs:List V)(H:Hp)(Q:VK)(a dx aA aB aS:Addr)(R C:Nat)(cs bs s:List Nat)(k:Nat):Prop:=vs=[.ref a,nV k,.ref aS]/\TabAt CT H a R C cs bs dx aA aB/\Sz R C cs bs/\H aS=some (.lst (s.map nV))/\s.length<=300/\(∀p,p∈s->p<(tabOf R C cs bs).places)/\∀(H':Hp),aY H H'->Q (.bl (!tO (tabOf R C cs bs) s&&(tabOf R C cs bs).good k s)) H'
def Jl(CT:Addr):Sp:=λvs H Q _=>∃a dx aA aB aS R C cs bs s k,XH CT vs H Q a dx aA aB aS R C cs bs s k
def l_(H:Hp)(a:Addr)(cs:List Itm):Prop:=H a=some (.lst (cs.map λc=>V.ref c.1))/\∀c,c∈cs->H c.1=some (.lst (c.2.map nV))
def HU(vs:List V)(H:Hp)(Q:VK)(aS aP:Addr)(cs:List Itm)(l:List Nat):Prop:=vs=[.ref aS,.ref aP]/\l_ H aS cs/\H aP=some (.lst (l.map nV))/\cs.length<=10000/\l.length<=300/\(∀c,c∈cs->c.2.length<=300)/\∀(H':Hp)(L:Addr)(ds:List Itm),aY H H'->H L=none->l_ H' L ds->ds.map (·.2)=oneMore (cs.map (·.2)) l->Q (.ref L) H'
def qL:Sp:=λvs H Q _=>∃aS aP cs l,HU vs H Q aS aP cs l
section
variable {P:Program} {w:World} {K:PySem.W.Frag} {mg:Str->Option Value} {base:Heap}
def WZ:aM ["table","bound","hidden"] ["table","bound","hidden"] (ax Rz):=⟨rfl,rfl,rfl,by decide +kernel,rfl,by decide +kernel,by decide +kernel⟩
def S5(F:gE K "may_be_best" "may_be_best" Rz f fd)(T:i_ K mg CT)(GL:ay P w K mg base bu 1 fL Rh ["self","hidden"] (Dt CT))(bL:Binds K Rh ["self","hidden"] [])(mL:cU K CT "has_lone_place" fL)(GN:ay P w K mg base bu 5 fN B7 ["self","hidden"] (pA CT CN))(bN:Binds K B7 ["self","hidden"] [])(mN:cU K CT "make_net" fN)(U0:mg "Proofs"=some (.ref CP))(MP:Mk K CP fP)(GP:ay P w K mg base bu 1 fP Rg ["self","net","bound"] (kC CP CN))(bP:Binds K Rg ["self","net","bound"] [])(GU:ay P w K mg base bu 8 fU Vs ["table","proofs"] (md CT CP CN))(bU:Binds K Vs ["table","proofs"] [])(UY:mg "lowest_unsafe"=some (.ref fU))(kU:PySem.W.keepIn K (.ref fU)=true):ay P w K mg base bu 9 f fd ["table","bound","hidden"] (Jl CT):=by
 refine iU F WZ λvs H Q E h=>?_;obtain⟨a,dx,aA,aB,aS,R,C,cs,bs,l,kb,rfl,Ta,sz,hS,hl,iF,k⟩:=h;refine⟨rfl,λ_ _ _ _ hr=>?_⟩;refine⟨_,aj (cG (dj (aV (pv 0) T.cl mL GL (hr.mono (by decide)) bL .nil aR (ag (pv 2) ao))) (aq (aH ou)) ba) (aq (aH (oN (oO (c_ GU hr rfl UY kU bU .nil aR (ag (pv 0) (ag (ni MP GP (hr.mono (by decide)) rfl U0 bP .nil aR (ag (aV (pv 0) T.cl mN GN (hr.mono (by decide)) bN .nil aR (ag (pv 2) ao)) (ag (pv 1) ao))) ao))))))),?_⟩;obtain⟨t,ht⟩:∃t,t=tabOf R C cs bs:=⟨_,rfl⟩;rw[<-ht]at k;refine⟨_,rfl,a,dx,_,rfl,Ta.ins,Ou,_,rfl,a,dx,aA,aB,aS,R,C,cs,bs,l,rfl,Ta,sz.c,hS,hl,λH1 s1=>?_⟩;rw[<-ht];refine⟨_,rfl,?_⟩;cases lo:tO t l with
 |true=>refine eV ?_;have:=k H1 s1;rw[lo]at this;exact this
 |false=>
  refine gM ?_;refine⟨_,rfl,vi (CT:=CT) (CP:=CP) (CN:=CN) (i:=0) (j:=2) (m:=1) rfl rfl rfl (Ta.same s1) sz (s1 _ _ hS) hl iF ?_⟩;intro H2 q r Na hi s2 A1 nu ap;have T2:=(Ta.same s1).same s2;refine⟨a,dx,aA,aB,R,C,cs,bs,l,q,r,kb,_,Na,hi,rfl,T2,sz,A1,nu,ap _ _ (Ta.same s1).ins,ap _ _ (Ta.same s1).hA,ap _ _ (Ta.same s1).hB,?_⟩;rw[<-ht];refine⟨λH3 x ts sh dI kp A2 G l2 hb=>?_,λH3 p kp hb=>?_⟩
  .have s3:=gJ s2 ap kp;have hg:t.good kb l=true:=by unfold FhHold.Tab.good;rw[hb];rfl
   have:=k H3 (s1.trans s3);rw[lo,hg]at this;exact this
  have s3:=gJ s2 ap kp;have hg:t.good kb l=false:=by unfold FhHold.Tab.good;rw[hb];rfl
  have:=k H3 (s1.trans s3);rw[lo,hg]at this;exact this
def rK{c l:List Nat}{j p:Nat}(h:l[j]?=some p):extend c (l.take (j+1))=extend c (l.take j)++if cE c p=true then [c++[p]]else []:=by unfold ak.extend;rw[lJ,h,lK,cR];congr 1;show(List.filter (cE c) [p]).map (λp=>c++[p])=_;rw[ll];cases cE c p<;>rfl
def zZ{ls:List (List Nat)}{l c:List Nat}{i:Nat}(h:ls[i]?=some c):oneMore (ls.take (i+1)) l=oneMore (ls.take i) l++extend c l:=by unfold ak.oneMore;rw[lJ,h,tw];congr 1;show [c].flatMap (λc=>extend c l)=_;simp
def vG(c l:List Nat):(extend c l).length<=l.length:=by unfold ak.extend;rw[aE];exact jo _ _
theorem rC(l:List Nat):∀ls:List (List Nat),(oneMore ls l).length<=ls.length*l.length|[]=>by simp[ak.oneMore]|c::ls=>by have h1:=rC l ls;have h2:=vG c l;unfold ak.oneMore at h1⊢;rw[s_,dC,dr,i5];omega
def ON{ds:List Itm}{d:Itm}{l:List Nat}(hd:d∈ds)(h:(ds.map λc=>V.ref c.1)=l.map nV):False:=by
 cases ds with
 |nil=>cases hd
 |cons e ds=>
  cases l with
  |nil=>cases h
  |cons x l=>
   rw[cV,cV]at h;injection h with h1 _
   cases h1
def nE:aM ["sets","places","longer","chosen","place"] ["sets","places"] (ax Ju):=⟨rfl,rfl,rfl,by decide +kernel,rfl,by decide +kernel,by decide +kernel⟩
def D6(F:gE K "with_one_more" "with_one_more" Ju f fd)(T:i_ K mg CT):ay P w K mg base bu 1 f fd ["sets","places"] qL:=by
 refine iU F nE λvs H Q E h=>?_;obtain⟨aS,aP,cs,l,rfl,⟨hS,hc⟩,hP,hn,hl,xZ,k⟩:=h;refine⟨rfl,λ_ _ _ _ hr=>?_⟩;refine⟨_,aj (bh (i:=2) nE.nd rfl (Or.inl rfl) (bK ao)) (aj (gd PassesOwn.never rfl (c9 (pv 0)) (bb (i:=3) nE.nd rfl (Or.inl rfl)) (aq (gd PassesOwn.never rfl (c9 (pv 1)) (bb (i:=4) nE.nd rfl (Or.inl rfl)) (aq (cG (tM (cq (gy (dS dF (by rfl) T.len oh (ag (pv 3) ao)) aU)) (qy (cq (wI (pv 4) (bF aW (pv 3) (Qz K7 aU) (λ_ _=>rfl)))))).pt (aq (cA (i7 i6 lL lM fg (pv 2) (ag (dv kr (pv 3) (bK (ag (pv 4) ao))) ao)))) ba))))) (aq (aH (pv 2)))),?_⟩;refine⟨dW _,λL hL=>?_⟩;have s1:=cH H L (.lst []) hL;refine⟨_,rfl,aS,rfl,⟨_,bp.of (s1 _ _ hS)⟩,fJ (K:=K) (a:=aS) (xs:=cs.map λc=>V.ref c.1) (λi σ H'=>∃(v3 v4:Option V)(ds:List Itm),σ=[some (.ref aS),some (.ref aP),some (.ref L),v3,v4]/\aY H H'/\l_ H' L ds/\ds.map (·.2)=oneMore ((cs.map (·.2)).take i) l) ⟨none,none,[],rfl,s1,⟨ai,λc h=>by cases h⟩,rfl⟩ ?_ ?_ ?_⟩;.rintro i σ H' _ ⟨_,_,_,_,s2,_⟩;exact bp.of (s2 _ _ hS)
 .rintro i y σ H2 hy ⟨v3,v4,ds,rfl,s2,⟨Gh,hd2⟩,e2⟩;obtain⟨c,Rf,rfl⟩:=fq hy;have Gg:=du Rf;have Ra:i<cs.length:=(fh.mp Rf).1;have aa_:(cs.map (·.2))[i]?=some c.2:=by rw[cC,Rf];rfl
  refine⟨_,rfl,aP,rfl,⟨_,bp.of (s2 _ _ hP)⟩,fJ (K:=K) (a:=aP) (xs:=l.map nV) (λj σ H'=>∃(v4:Option V)(ds:List Itm),σ=[some (.ref aS),some (.ref aP),some (.ref L),some (.ref c.1),v4]/\aY H H'/\l_ H' L ds/\ds.map (·.2)=oneMore ((cs.map (·.2)).take i) l++extend c.2 (l.take j)) ⟨v4,ds,rfl,s2,⟨Gh,hd2⟩,by rw[e2];simp[ak.extend]⟩ ?_ ?_ ?_⟩;.rintro j σ H' _ ⟨_,_,_,s3,_⟩;exact bp.of (s3 _ _ hP)
  .rintro j y σ H3 hy ⟨v4,Qo,rfl,s3,⟨NF,Yr⟩,e3⟩;obtain⟨p,hp,rfl⟩:=fq hy;have hc3:=s3 _ _ (hc c Gg);have dl:Qo.length<=4000000:=by have:=congrArg List.length e3;rw[aE,dC]at this;have h1:=rC l ((cs.map (·.2)).take i);have h2:=vG c.2 (l.take j);rw[gT,aE]at h1;rw[gT]at h2;have h3:min i cs.length*l.length<=10000*300:=lh (by omega) hl;omega
   have app:cE c.2 p=true->∀y1,H3 y1=none->∀y2,upd H3 y1 (.lst [nV p]) y2=none->∃(v4:Option V)(ds:List Itm),[some (.ref aS),some (.ref aP),some (.ref L),some (.ref c.1),some (nV p)]=[some (.ref aS),some (.ref aP),some (.ref L),some (.ref c.1),v4]/\aY H (upd (upd (upd H3 y1 (.lst [nV p])) y2 (.lst (c.2.map nV++[nV p]))) L (.lst ((Qo.map λc=>V.ref c.1)++[.ref y2])))/\l_ (upd (upd (upd H3 y1 (.lst [nV p])) y2 (.lst (c.2.map nV++[nV p]))) L (.lst ((Qo.map λc=>V.ref c.1)++[.ref y2]))) L ds/\ds.map (·.2)=oneMore ((cs.map (·.2)).take i) l++extend c.2 (l.take (j+1)):=by
    intro lu y1 B_ y2 sR;have k1:=cH H3 y1 (.lst [nV p]) B_;have k2:=cH _ y2 (.lst (c.2.map nV++[nV p])) sR;have n2:y2≠L:=λz=>by rw[z,k1 _ _ NF]at sR;cases sR
    have keep:∀b o,H3 b=some o->b≠L->upd (upd (upd H3 y1 (.lst [nV p])) y2 (.lst (c.2.map nV++[nV p]))) L (.lst ((Qo.map λc=>V.ref c.1)++[.ref y2])) b=some o:=λb o e n=>by rw[ah n];exact k2 _ _ (k1 _ _ e)
    refine⟨_,Qo++[(y2,c.2++[p])],rfl,λb o e=>keep b o (s3 _ _ e) (aa e hL),⟨?_,λd hd=>?_⟩,?_⟩;.rw[ai,cR];rfl
    .rcases cO.mp hd with hd|hd
     .have:=Yr d hd;by_cases q:d.1=L;.exfalso;rw[q,NF]at this;exact ON hd (by injection this with this;injection this)
      exact keep _ _ this q
     have:=cW.mp hd;subst this;rw[ah n2,ai,cR];rfl
    rw[cR,e3,jS,rK hp,aw lu];rfl
   have skip:cE c.2 p=false->∃(v4:Option V)(ds:List Itm),[some (.ref aS),some (.ref aP),some (.ref L),some (.ref c.1),some (nV p)]=[some (.ref aS),some (.ref aP),some (.ref L),some (.ref c.1),v4]/\aY H H3/\l_ H3 L ds/\ds.map (·.2)=oneMore ((cs.map (·.2)).take i) l++extend c.2 (l.take (j+1)):=λlu=>⟨_,Qo,rfl,s3,⟨NF,Yr⟩,by rw[e3,rK hp,lu];simp⟩;have body:∀(lu:cE c.2 p=true),Jh (XW K "list" Fb (cJ 2) (fb (Ae V1 (cJ 3) (VU (fb (cJ 4) iW))) iW)) {nx:=fun σ H'=>∃(v4:Option V)(ds:List Itm),σ=[some (.ref aS),some (.ref aP),some (.ref L),some (.ref c.1),v4]/\aY H H'/\l_ H' L ds/\ds.map (·.2)=oneMore ((cs.map (·.2)).take i) l++extend c.2 (l.take (j+1)),ct:=λ_ _=>True,bk:=λ_ _=>True,rt:=Q} [some (.ref aS),some (.ref aP),some (.ref L),some (.ref c.1),some (nV p)] H3:=λlu=>by
    refine⟨_,rfl,.inl ⟨rfl,_,bp.of NF⟩,_,rfl,_,rfl,(by show 1<=sizeLine;decide),λy1 B_=>⟨c.1,y1,_,_,rfl,rfl,(cH H3 y1 (.lst [nV p]) B_) _ _ hc3,ai,?_,λy2 sR=>⟨L,_,_,rfl,rfl,(cH _ y2 _ sR) _ _ ((cH H3 y1 (.lst [nV p]) B_) _ _ NF),?_,app lu y1 B_ y2 sR⟩⟩⟩;.rw[aE];exact cB (Nat.add_le_add_right (xZ c Gg) _) (by show 300+1<=sizeLine;decide)
    rw[aE];exact dX dl (by decide)
   refine⟨_,rfl,c.1,_,rfl,.inl (bp.of hc3),_,_,rfl,rfl,_,rfl,eu (λz=>eV ?_) (λz=>?_)⟩;.have z:(((c.2.map nV).length:Nat):Int)=0:=cK z;rw[aE]at z;have z:c.2=[]:=Dc.mp (by omega);exact body (by rw[z];rfl)
   have z:¬(((c.2.map nV).length:Nat):Int)=0:=λq=>z (bq q);rw[aE]at z;obtain⟨c0,x,Ys⟩:∃c0 x,c.2=c0++[x]:=by
    rcases List.eq_nil_or_concat c.2 with h|⟨c0,x,h⟩;.rw[h]at z;exact absurd rfl z
    exact⟨c0,x,by rw[h,List.concat_eq_append]⟩
   have lu:cE c.2 p=decide (x<p):=by unfold ak.cE;rw[Ys,List.getLast?_append];rfl
   refine⟨_,rfl,_,rfl,_,rfl,c.1,_,_,_,rfl,rfl,bp.of hc3,(by rw[Ys,cR];exact MY _ _),_,_,rfl,rfl,_,rfl,eu (λd=>?_) (λd=>?_)⟩;.have d:(p:Int)>(x:Int):=cK d;exact body (by rw[lu];exact bq (by omega))
   have d:¬(p:Int)>(x:Int):=λq=>d (bq q);exact skip (by rw[lu];exact cM (by omega))
  rintro σ H3 ⟨v4,Qo,rfl,s3,sa,e3⟩;rw[aE,iH]at e3;exact⟨_,v4,Qo,rfl,s3,sa,by rw[e3,zZ aa_]⟩
 rintro σ H2 ⟨v3,v4,ds,rfl,s2,sa,e2⟩;rw[aE]at e2;have:(cs.map (·.2)).take cs.length=cs.map (·.2):=by have:=iH (l:=cs.map (·.2));rw[aE]at this;exact this
 rw[this]at e2;exact⟨_,rfl,k _ L ds s2 hL sa e2⟩
end
end Wh
end
section
namespace Wh
open PySem PySem.Spec PyProof.Rows L2
open FhHold (Tab)
open ak(dk PN aJ cI pr pc cX gX fe less cD Cj extend oneMore cE gO merge fj Iv)
open Flow(a_ nZ dN et)
def jt:Pos:=match (h_ EF)[3]? with|some (Stmt.While _ b _ _)=>(match b[0]? with|some (Stmt.For _ (Expr.Call _ _ [⟨_,Expr.Lambda _ _ _ p,_⟩] _) _ _ _)=>p|_=>⟨0,0,0,0⟩)|_=>⟨0,0,0,0⟩
abbrev iC:Str:=("best_set":Str)++".<locals>."++("<lambda>":Str)
def T5(CT Pt:Addr)(vs:List V)(H:Hp)(Q:VK)(a dx aA aB:Addr)(R C:Nat)(cs bs:List Nat)(k:Nat):Prop:=vs=[.ref a,nV k]/\TabAt CT H a R C cs bs dx aA aB/\Sz R C cs bs/\ak.qE (tabOf R C cs bs)/\(tabOf R C cs bs).places<=12/\gY H Pt jt iC/\∀(H':Hp)(l:Addr),jA Pt H H'->gY H' Pt jt iC->H l=none->((tabOf R C cs bs).best k).length<=24->H' l=some (.lst (((tabOf R C cs bs).best k).map nV))->Q (.ref l) H'
def Dy(CT Pt:Addr):Sp:=λvs H Q _=>∃a dx aA aB R C cs bs k,T5 CT Pt vs H Q a dx aA aB R C cs bs k
section
variable {P:Program} {w:World} {K:PySem.W.Frag} {mg:Str->Option Value} {base:Heap}
def okC{x qual:Str}{st:Stmt}{f:Addr}{fd:FuncData}{N ps:List Str}{k:Nat}{sp:Sp}(F:gE K x qual st f fd)(S:aM N ps (ax st))(len:∀vs H Q E,sp vs H Q E->vs.length=ps.length)(pD:∀(A:Around)(outer:List Env)(s:Shared)(H:Hp)(vs:List V)(Q:VK)(E:XK),eY k (A.deeper (envOfC qual (ax st) s.heap.objs.size f fd.code))->sp vs H Q E->∃t,Cd (AG bu P w K mg base N qual (ax st) f fd.code A outer s H E).QZ (h_ st) t/\t {nx:=λ_ H'=>Q .dQ H',rt:=Q} (start N vs) H):ay P w K mg base bu (k+1) f fd ps sp:=by obtain⟨oc,od,kV,doc,pm,an,k_,ct,FX,rfl,lk,As⟩:=F.ex;refine QH lk As S len λA outer s H vs Q E hr F_=>?_;obtain⟨t,h,q⟩:=pD A outer s H vs Q E hr F_;exact⟨t,h.QZ,q⟩
def lW:aM ["table","bound","needed","spare","level","added","hidden","place"] ["table","bound"] (ax EF):=⟨rfl,rfl,rfl,by decide +kernel,rfl,by decide +kernel,by decide +kernel⟩
def NY:List Str:=["places","table","place"]
def VW(K:PySem.W.Frag):TE:=VR (fb (Ua (RC K) (fb (UL (QC K (cJ 0)) (gg 2) VQ (Ae (Gq K) (wd K (cJ 1) "amounts") (cJ 2)) [2]) iW)) (fb (cJ 0) iW))
def Lo:NY.Nodup:=by decide +kernel
theorem sum_ints:∀l:List Nat,(l.map λx:Nat=>(x:Int)).sum=((FhHold.sum l:Nat):Int)|[]=>rfl|x::l=>by rw[cV,List.sum_cons,sum_ints l];show(x:Int)+_=((x+FhHold.sum l:Nat):Int);omega
def HB{R C:Nat}{cs bs:List Nat}{c:Itm}(T:i_ K mg CT)(Ta:TabAt CT H a R C cs bs dx aA aB)(hc:H c.1=some (.lst (c.2.map nV)))(hp:∀p,p∈c.2->p<(tabOf R C cs bs).places)(hl:c.2.length<=300):VW K ([some (.ref c.1),some (.ref a)]++List.replicate 1 none) H λv H3=>∃t,v=.ref t/\aY H H3/\H t=none/\H3 t=some (.tup [.int (((tabOf R C cs bs).weight c.2:Nat):Int),.ref c.1]):=by
 obtain⟨t,ht⟩:∃t,t=tabOf R C cs bs:=⟨_,rfl⟩;refine⟨_,rfl,c.1,rfl,⟨_,bp.of hc⟩,λD hD=>?_⟩;refine qC (K:=K) (a:=c.1) (xs:=c.2.map nV) (λx=>match x with|.int i=>.int ((t.own i.toNat:Nat):Int)|y=>y) (by rw[aE];omega) hc hD ?_ ?_;.intro x H' Z W hx s1 hz;obtain⟨p,hp',rfl⟩:=br.mp hx;have T1:=Ta.same s1;have xW:=hp p hp';have hg:=eO (xs:=dh (tabOf R C cs bs)) (p:=p) (by rw[bJ];exact xW);rw[<-ht]at xW;rw[<-ht,fE t xW]at hg;refine⟨rfl,_,rfl,a,CT,dx,_,_,rfl,T1.ins,T.cl,T.nA,eZ,_,rfl,aA,_,_,_,rfl,rfl,bp.of T1.hA,cj (by rw[<-ht];exact hg),?_⟩;exact hz _ λ_ _ e=>e
 intro H1 s1 h1;have e1:(c.2.map nV).map (λx=>match x with|.int i=>V.int ((t.own i.toNat:Nat):Int)|y=>y)=((c.2.map t.own).map λx:Nat=>(x:Int)).map V.int:=by rw[cQ,cQ,cQ];refine jm λp _=>?_;show V.int ((t.own ((p:Int).toNat):Nat):Int)=_;rw[om];rfl
 rw[e1]at h1;refine⟨D,_,rfl,bp.of h1,_,rfl,(by show 2<=sizeLine;decide),λy hy=>?_⟩;refine⟨y,rfl,s1.trans (cH H1 y _ hy),s1.free hy,?_⟩;rw[ai,sum_ints,<-ht];rfl
theorem Lm:∀a b:List Nat,r8.jj (a.map Int.ofNat) (b.map Int.ofNat)=ak.AA a b
 |[],[]=>rfl
 |[],_::_=>rfl
 |_::_,[]=>rfl
 |x::a,y::b=>by
  show(if Int.ofNat x=Int.ofNat y then r8.jj (a.map Int.ofNat) (b.map Int.ofNat)else decide (Int.ofNat x<Int.ofNat y))=(decide (x<y) || (decide (x=y)&&ak.AA a b));rw[Lm a b];by_cases e:x=y;.subst e;rw[aw rfl,cM (il x),bq rfl];simp
  rw[au (λz=>e (Int.ofNat.inj z)),cM e];simp
def HY(h:r8.nX (gS (λc=>((t.weight c.2:Nat):Int)) d) (gS (λc=>((t.weight c.2:Nat):Int)) c)=false):ak.xk t c.2 d.2:=by
 unfold r8.nX gS at h;dsimp only at h;by_cases e:t.weight d.2=t.weight c.2;.rw[aw (by rw[e]),Lm]at h;exact .inr ⟨e.symm,h⟩
 rw[au (by omega)]at h;have:=yK h;exact .inl (by omega)
def zW(h:fj t k c)(hp:ns.Perm (((t.smalls k)++c).map λx:Nat=>(x:Int)))(hs:ns.Pairwise (·<=·)):ns=(merge t k c).map λx:Nat=>(x:Int):=by refine List.Perm.eq_of_pairwise (le:=(·<=·)) (λa b _ _ h1 h2=>Int.le_antisymm h1 h2) hs ?_ (hp.trans (h.perm.symm.map _));rw[CZ];exact(ak.jx t k c).imp λz=>by omega
def Fn:(!tO t (merge t k c)&&t.good k (merge t k c))=true↔Iv t k c:=by rw[dA,CW,Hv (ak.jx t k c)];exact⟨λ⟨h1,h2⟩=>⟨h1,h2⟩,λh=>⟨h.RL,h.good⟩⟩
def Pq{K:PySem.W.Frag}{a:Addr}{l:List Nat}{g:TG}{tt:TT}{te:TE}{vs:List Nat}{σ:L2.St}{H1:Hp}{D:Addr}{Qd:Hp->Prop}(q:Nat->Bool)(hl:l.length<=10000)(ha:H1 a=some (.lst (l.map nV)))(hD:H1 D=none)(hs:∀(x:Nat)(H':Hp)(Z:VK)(W:Hp->Prop),x∈l->aY H1 H'->(q x=true->Z (nV x) H')->(q x=false->W H')->g (nV x) (wipe σ vs) H' fun σ2 H2=>wipe σ2 vs=wipe σ vs/\tt σ2 H2 λb H3=>if b=true then te σ2 H3 Z else W H3)(hd:∀H',aY H1 H'->H' D=some (.lst ((l.filter q).map nV))->Qd H'):∃W:Nat->Nat->Hp->Prop,(∃m,W 0 m (upd H1 D (.lst [])))/\∀i m H,W i m H->((EA K a).stop i H/\Qd H)\/((EA K a).go i H/\∃Nx:Hp->Prop,(∀H',Nx H'->∃m',m'<m/\W (i+1) m' H')/\∀x H',(EA K a).Es i H x H'->g x (wipe σ vs) H' fun σ2 H2=>wipe σ2 vs=wipe σ vs/\tt σ2 H2 λb H3=>if b=true then te σ2 H3 λy H4=>∃acc,H4 D=some (.lst acc)/\acc.length<sizeLine/\Nx (upd H4 D (.lst (acc++[y])))else Nx H3):=by
 refine kE (xs:=l.map nV) (λi H'=>aY H1 H'/\H' D=some (.lst (((l.take i).filter q).map nV))) ⟨cH _ _ _ hD,ai⟩ (λi H _⟨s,_⟩=>bp.of (s _ _ ha)) (λi y H hy⟨s,h⟩=>?_) (λH⟨s,h⟩=>hd H s (by rw[aE,iH]at h;exact h));obtain⟨x,hx,rfl⟩:=fq hy;refine hs x H _ _ (du hx) s (λhq=>⟨_,h,?_,?_,?_⟩) (λhq=>⟨s,?_⟩);.rw[aE];refine dX (cB (jo _ _) ?_) (by decide:10000<sizeLine);rw[gT];omega
 .intro b o e;rw[ah (aa e hD)];exact s _ _ e
 .rw[ai,lJ,hx,lK,cR];show some (HO.lst (_++[nV x]))=some (HO.lst (_++([x].filter q).map nV));rw[ll,aw hq];rfl
 rw[h,lJ,hx,lK];show _=some (HO.lst ((_++[x].filter q).map nV));rw[ll,au (by rw[hq];simp)];simp
def LS:(gh R C bs (List.range (tabOf R C cs bs).places)).filter (λp=>!((tabOf R C cs bs).smalls k).contains p)=gO (tabOf R C cs bs) k:=by unfold gh ak.gO FhHold.Tab.all;rw[List.filter_filter];refine CY λp hp=>?_;have:=qR (cs:=cs) (dM.mp hp);rw[Bool.and_comm];congr 1;cases e:cI (tabOf R C cs bs) p with|true=>rw[cM];rfl;intro z;exact z (this.mpr e)|false=>rw[bq];rfl;intro z;rw[this.mp z]at e;cases e
def jA.free(b:jA Pt H H')(h:gY H' Pt pos q)(e:H' y=none):H y=none:=by
 cases c:H y with
 |none=>rfl
 |some o=>
  exfalso;by_cases z:y=Pt;.obtain⟨ps,hp⟩:=h.some;rw[z,hp]at e;cases e
  rw[b y o c z]at e;cases e
def TabAt.rP(T:TabAt CT H a R C cs bs dx aA aB)(b:jA Pt H H')(hp:H Pt=some (.vW ps)):TabAt CT H' a R C cs bs dx aA aB:=⟨b _ _ T.ins (aI T.ins hp (by intro w;cases w)),b _ _ T.hA (aI T.hA hp (by intro w;cases w)),b _ _ T.hB (aI T.hB hp (by intro w;cases w))⟩
theorem rH:∀l,ak.AA l l=false | []=>rfl | x::l=>by show(decide (x<x) || (decide (x=x)&&ak.AA l l))=false;rw[rH l];simp
def L_{l:List (Str×NameKind)}{y:Str}(h:∀p∈l,p.2=.free->p.1=y):∀z,l.lookup z=some .free->z=y:=λz hz=>h (z,.free) (iR hz) rfl
def Te(i:Nat)(z:Str)(v tv o:V)(h1:NY[i]?=some z)(h2:([some v,some tv]++List.replicate (NY.length-2) none)[i]?=some (some o)):(z="places"/\o=v)\/(z="table"/\o=tv):=by match i,h1,h2 with|0,h1,h2=>exact .inl ⟨(bZ h1).symm,(bZ (bZ h2)).symm⟩|1,h1,h2=>exact .inr ⟨(bZ h1).symm,(bZ (bZ h2)).symm⟩|2,h1,h2=>cases h2|n+3,h1,h2=>cases h1
def Pc(F:gE K "best_set" "best_set" EF f fd)(T:i_ K mg CT)(hso:mg "sorted"=none)(rh:fd.code=.ref c)(Ar:PySem.W.codeHdIn K c Pt=true)(Vn:Ro mg base)(GS:ay P w K mg base bu 2 fS p_ ["self","bound"] (mf CT))(bS:Binds K p_ ["self","bound"] [])(mS:cU K CT "small_places" fS)(GA:ay P w K mg base bu 1 fA UA ["self"] (EE CT))(bA:Binds K UA ["self"] [])(mA:cU K CT "all_places" fA)(GM:ay P w K mg base bu 1 fM Ip ["self","places"] (ED CT))(bM:Binds K Ip ["self","places"] [])(mM:cU K CT "movable" fM)(GY:ay P w K mg base bu 9 fY fdY ["table","bound","hidden"] (Jl CT))(bY:Binds K fdY ["table","bound","hidden"] [])(mgY:mg "may_be_best"=some (.ref fY))(kY:PySem.W.keepIn K (.ref fY)=true)(GO:ay P w K mg base bu 1 fO YF ["sets","places"] qL)(bO:Binds K YF ["sets","places"] [])(ZJ:mg "with_one_more"=some (.ref fO))(kO:PySem.W.keepIn K (.ref fO)=true):ay P w K mg base bu 10 f fd ["table","bound"] (Dy CT Pt):=by
 refine okC F lW (λvs H Q E h=>?_) (λA outer s H vs Q E hr h=>?_);.obtain⟨a,dx,aA,aB,R,C,cs,bs,k,rfl,_⟩:=h;rfl
 obtain⟨a,dx,aA,aB,R,C,cs,bs,kb,rfl,Ta,sz,bl,p12,tok,k⟩:=h;refine⟨_,aj (bh (i:=2) lW.nd rfl (Or.inr rfl) (aV (pv 0) T.cl mS GS (hr.mono (by decide)) bS .nil aR (ag (pv 1) ao))) (aj (jZ (i:=3) (own:=[("place",7)]) (g:=gg 7) (te:=cJ 7) (tt:=EB (Ae (Zr K true) (cJ 7) (cJ 2))) rfl lW.nd rfl rfl (m6 rfl rfl rfl rfl) (c9 (aV (pv 0) T.cl mM GM (hr.mono (by decide)) bM .nil aR (ag (gZ (pv 0) T.cl mA GA (hr.mono (by decide)) bA .nil aR) ao))) (dq (by rfl)) (λ_ _ _ _ _=>bb (i:=7) lW.nd rfl (Or.inl rfl) (Or.inr rfl)) (λ_ _ _ _ _=>pH (zJ zY (pv 7) (pv 2) rfl)) (λ_ _ _ _ _=>pv 7)) (aj (bh (i:=4) lW.nd rfl (Or.inl rfl) (bK (ag (bK ao) ao))) (aq (mi PassesOwn.never (dj ou) (aj (gd PassesOwn.never rfl (c9 (L5 (tb:=VW K) (N:=NY) (x:="places") (y:="table") (cT:=s.heap.objs.size+1) (c:=c) (Pt:=Pt) (i:=0) rfl hso (pv 4) rfl (hr.mono (by decide)) rfl rfl rfl rfl rfl (Or.inr (Or.inl rfl)) rh Ar Vn ⟨rfl,rfl,rfl,rfl,rfl,by decide +kernel,L_ (by decide +kernel)⟩ (λ_ _ _ _=>rfl) (by decide) Te (λf c' A outer s H=>km (ag (dS (zk rfl) (by rfl) T.sum yQ (ag (jU (own:=[("place",2)]) (g:=gg 2) (te:=Ae (Gq K) (wd K (cJ 1) "amounts") (cJ 2)) rfl Lo (c9 (pv 0)) (dq (by rfl)) (λ_ _ _ _ _=>bb (i:=2) Lo rfl (Or.inl rfl) (Or.inr rfl)) (λ_ _ _ _ _=>gi) (λ_ _ _ _ _=>bF aW (az (pv 1) rfl) (pv 2) (λ_ _=>rfl))) ao)) (ag (pv 0) ao))))) (bb (i:=5) lW.nd rfl (Or.inl rfl)) (aj (bh (i:=6) lW.nd rfl (Or.inl rfl) (dS HQ (by rfl) hso KW (ag (dv kr (pv 2) (pv 5)) ao))) (aq (cG (dj (c_ GY hr rfl mgY kY bY .nil aR (ag (pv 0) (ag (pv 1) (ag (pv 6) ao))))) (aq (aH (pv 6))) ba)))) (aq (bh (i:=4) lW.nd rfl (Or.inl rfl) (c_ GO (hr.mono (by decide)) rfl ZJ kO bO .nil aR (ag (pv 4) (ag (pv 3) ao)))))))))),?_⟩;obtain⟨t,ht⟩:∃t,t=tabOf R C cs bs:=⟨_,rfl⟩;have hsz:ak.ic t:=by rw[ht];exact sz.size
 have iF:=ff sz;have bl':ak.qE t:=by rw[ht];exact bl
 have V3:t.places<=12:=by rw[ht];exact p12
 obtain⟨tb0,Cb⟩:=tok.some;refine⟨_,rfl,a,dx,_,rfl,Ta.ins,qI,_,rfl,a,dx,aA,aB,R,C,cs,bs,kb,rfl,Ta,sz,?_⟩;intro H1 nd s1 hnd h1;have T1:=Ta.same s1;refine⟨_,rfl,a,dx,_,rfl,T1.ins,K9,_,rfl,a,dx,_,rfl,T1.ins,K_,a,dx,aA,aB,R,C,cs,bs,rfl,T1,sz,λH2 l2 s2 sT h2=>?_⟩;have T2:=T1.same s2;refine⟨a,dx,aA,aB,l2,R,C,cs,bs,_,rfl,T2,h2,(by rw[cZ];omega),λH3 l3 s3 Q9 h3=>?_⟩;have RU:=s3 _ _ (s2 _ _ h1);refine⟨l3,rfl,⟨_,bp.of h3⟩,λD hD=>?_⟩;have frl:(gh R C bs (List.range (tabOf R C cs bs).places)).length<=300:=by unfold gh;refine cB (jo _ _) ?_;rw[cZ];omega
 refine Pq (K:=K) (a:=l3) (l:=gh R C bs (List.range (tabOf R C cs bs).places)) (λp=>!((tabOf R C cs bs).smalls kb).contains p) (by omega) h3 hD ?_ ?_;.intro x H' Z W hx s4 hz hw;refine⟨rfl,_,rfl,_,rfl,nd,_,rfl,.inl (bp.of (s4 _ _ RU)),rfl,zQ _,_,rfl,?_⟩;rw[aw rfl,Xj];cases e:((tabOf R C cs bs).smalls kb).contains x with|true=>exact gM (hw (by show(!((tabOf R C cs bs).smalls kb).contains x)=false;rw[e];rfl))|false=>exact eV ⟨_,rfl,hz (by show(!((tabOf R C cs bs).smalls kb).contains x)=true;rw[e];rfl)⟩
 intro H4 s4 F_;rw[LS,<-ht]at F_;rw[<-ht]at RU k;have aaW:=s4 _ _ RU;have s04:aY H H4:=((s1.trans s2).trans s3).trans s4;refine⟨dW _,λy1 B_=>⟨(by show 1<=sizeLine;decide),λlv Ur=>?_⟩⟩;have s5:=cH H4 y1 (.lst []) B_;have s6:=cH _ lv (.lst [.ref y1]) Ur;obtain⟨c0,sp0,aaw⟩:=ak.LU hsz bl' kb;have Zy:∀{b:Addr}{o:HO},H b=some o->(∀ps,o≠.vW ps)->b≠Pt:=λe n=>aI e Cb (n _);have abC:nd≠Pt:=λz=>by rw[z,Cb]at hnd;cases hnd
 refine⟨λm σ H'=>∃(v5 v6 v7:Option V)(lv:Addr)(n:Nat)(ds:List Itm),m=c0.length+1-n/\n<=c0.length/\σ=[some (.ref a),some (nV kb),some (.ref nd),some (.ref D),some (.ref lv),v5,v6,v7]/\jA Pt H H'/\gY H' Pt jt iC/\H' nd=some (.lst ((t.smalls kb).map nV))/\H' D=some (.lst ((gO t kb).map nV))/\l_ H' lv ds/\ds.map (·.2)=FhHold.sets n (gO t kb)/\(∀c,fj t kb c->c.length<n->¬Iv t kb c),⟨_,none,none,none,lv,0,[(y1,[])],rfl,dW _,rfl,aY.rP (s04.trans (s5.trans s6)),tok.same (s04.trans (s5.trans s6)),s6 _ _ (s5 _ _ aaW),s6 _ _ (s5 _ _ F_),⟨ai,λc hc=>?_⟩,?_,λc _ h=>absurd h (JS _)⟩,?_⟩;.have:=cW.mp hc;subst this;exact s6 _ _ ai
 .rw[ak.jg];rfl
 rintro m σ H7 ⟨v5,v6,v7,lv,n,ds,rfl,hn,rfl,Qq,Gm,Wl,Wg,⟨Wn,Oh⟩,Vv,low⟩;refine⟨_,rfl,eV ?_⟩;refine⟨_,fun σ' H' h=>h,?_⟩;have Wz:ds.length<=10000:=by
  have h1:=congrArg List.length Vv;rw[aE]at h1;have h2:=ak.mz n (gO t kb);have h3:(gO t kb).length<=12:=by unfold ak.gO FhHold.Tab.all;refine cB (jo _ _) ?_;rw[cZ];exact V3
  have h4:2^(gO t kb).length<=2^12:=Kx (by decide) h3;omega
 have Vy:∀c,c∈ds->fj t kb c.2/\c.2.length=n:=λc hc=>by have:c.2∈ds.map (·.2):=lx (f:=λx:Itm=>x.2) hc;rw[Vv]at this;exact ak.oU.mp this
 have Sh:∀c,c∈ds->c.2.length<=12:=λc hc=>by have h1:=(ak.iP (Vy c hc).1.rise λp hp=>(Vy c hc).1.place hp).length_le;rw[cZ]at h1;omega
 refine⟨_,rfl,lv,ds,n,.ref a,λc=>((t.weight c.2:Nat):Int),rfl,rfl,Wn,λc hc=>⟨Oh c hc,(Vy c hc).2⟩,Wz,Gm,λc H8 hc Nm=>?_,λD2 H8 pd Nm Gk wA h8 pm ord=>?_⟩;.have T8:=Ta.rP (Qq.trans Nm) Cb;have hc8:H8 c.1=some (.lst (c.2.map nV)):=Nm _ _ (Oh c hc) (by obtain⟨ps,hp⟩:=Gm.some;exact aI (Oh c hc) hp (by intro w;cases w));have:=HB (K:=K) (c:=c) T T8 hc8 (λp hp=>by rw[<-ht];exact(Vy c hc).1.place hp) (by have:=Sh c hc;omega);rw[<-ht]at this;exact this
 obtain⟨ps7,R6⟩:=Gm.some;have Gu:∀{b:Addr}{xs:List V},H7 b=some (.lst xs)->H8 b=some (.lst xs):=λe=>Nm _ _ e (aI e R6 (by intro w;cases w));have T8:=Ta.rP (Qq.trans Nm) Cb;have Wq:∀c,c∈ds->H8 c.1=some (.lst (c.2.map nV)):=λc hc=>Gu (Oh c hc);have mem:∀c,c∈pd->c∈ds:=λc hc=>pm.mem_iff.mp hc;refine⟨D2,rfl,⟨_,bp.of h8⟩,fJ (K:=K) (a:=D2) (xs:=pd.map λc=>V.ref c.1) (λi σ H'=>∃(v5 v6:Option V),σ=[some (.ref a),some (nV kb),some (.ref nd),some (.ref D),some (.ref lv),v5,v6,v7]/\aY H8 H'/\∀c,c∈pd.take i->¬Iv t kb c.2) ⟨v5,v6,rfl,λ_ _ e=>e,λc hc=>absurd hc (by simp)⟩ ?_ ?_ ?_⟩;.rintro i σ H' _ ⟨_,_,_,s9,_⟩;exact bp.of (s9 _ _ h8)
 .rintro i y σ H9 hy ⟨v5,v6,rfl,s9,no⟩;obtain⟨c,hc,rfl⟩:=fq hy;have As:=mem c (du hc);obtain⟨hS,hSl⟩:=Vy c As;have xZ:=Sh c As;have sml:(t.smalls kb).length<=12:=by unfold FhHold.Tab.smalls FhHold.Tab.all;refine cB (jo _ _) ?_;rw[cZ];exact V3
  refine⟨_,rfl,_,rfl,nd,c.1,_,_,rfl,rfl,s9 _ _ (Gu Wl),s9 _ _ (Wq c As),?_,λy hy=>?_⟩;.rw[aE,aE];exact cB (by show _<=100;omega) (by decide)
  have UM:=cH H9 y (.lst ((t.smalls kb).map nV++c.2.map nV)) hy;refine⟨y,((t.smalls kb)++c.2).map (λx:Nat=>(x:Int)),rfl,?_,?_,λns Gd Xo Pw Wp=>?_⟩;.refine bp.of ?_;rw[ai,cR,cR,cQ,cQ];rfl
  .rw[aE,dC];omega
  have ens:=zW hS Xo Pw;subst ens;have s11:=cH _ Gd (.lst (((merge t kb c.2).map λx:Nat=>(x:Int)).map V.int)) Wp;have NQ:=s9.trans (UM.trans s11);have Lr:upd (upd H9 y (.lst ((t.smalls kb).map nV++c.2.map nV))) Gd (.lst (((merge t kb c.2).map λx:Nat=>(x:Int)).map V.int)) Gd=some (.lst ((merge t kb c.2).map nV)):=by rw[ai,cQ];rfl
  refine⟨_,rfl,_,rfl,_,rfl,a,dx,aA,aB,Gd,R,C,cs,bs,merge t kb c.2,kb,rfl,T8.same NQ,sz,Lr,?_,?_,λH12 X1=>?_⟩;.rw[hS.length];omega
  .intro p hp;rw[<-ht];exact dM.mp (gU.mp hp).1
  rw[<-ht];refine⟨_,rfl,eu (λz=>?_) (λz=>?_)⟩
  .have aaX:=Fn.mp z;have eb:t.best kb=merge t kb c.2:=by
    refine ak.Er hsz hS hSl aaX low λd hd dl dm=>?_;obtain⟨e,he,rfl⟩:∃e,e∈ds/\e.2=d:=by
     have:d∈ds.map (·.2):=by rw[Vv];exact ak.oU.mpr ⟨hd,dl⟩
     exact br.mp this
    have Qk:e∈pd:=pm.mem_iff.mpr he;have Ra:i<pd.length:=(fh.mp hc).1;have split:pd=pd.take i++c::pd.drop (i+1):=by have e1:=(fh.mp hc).2;rw[<-e1,<-tJ Ra,List.take_append_drop]
    rw[split]at Qk ord;rcases cO.mp Qk with h|h;.exact absurd dm (no e h)
    rcases bE.mp h with h|h;.subst h;exact .inr ⟨rfl,rH _⟩
    have:=List.rel_of_pairwise_cons (yO.mp ord).2.1 h;exact HY this
   refine⟨_,rfl,k H12 Gd ((Qq.trans Nm).trans (aY.rP (NQ.trans X1))) (Gk.same (NQ.trans X1)) ?_ ?_ ?_⟩;.refine(Qq.trans Nm).free Gk ?_;exact(s9.trans UM).free Wp
   .rw[eb,hS.length];omega
   rw[X1 _ _ Lr,eb]
  refine⟨_,_,rfl,NQ.trans X1,λd hd=>?_⟩;rw[lJ,hc]at hd;rcases cO.mp hd with h|h;.exact no d h
  have h:d=c:=by simpa using h
  subst h;intro q;exact z (Fn.mpr q)
 rintro σ H9 ⟨v5,v6,rfl,s9,no⟩;rw[aE,iH]at no;have Wa:∀c,fj t kb c->c.length<n+1->¬Iv t kb c:=λc hc hl=>by
  by_cases e:c.length=n
  .obtain⟨d,hd,rfl⟩:∃e,e∈ds/\e.2=c:=by
    have:c∈ds.map (·.2):=by rw[Vv];exact ak.oU.mpr ⟨hc,e⟩
    exact br.mp this
   exact no d (pm.mem_iff.mpr hd)
  exact low c hc (by omega)
 have Nb:n+1<=c0.length:=by apply ly;intro q;exact Wa c0 sp0 (by omega) aaw
 refine⟨_,rfl,_,rfl,lv,D,ds,gO t kb,rfl,⟨s9 _ _ (Gu Wn),λc hc=>s9 _ _ (Wq c hc)⟩,s9 _ _ (Gu Wg),Wz,?_,λc hc=>by have:=Sh c hc;omega,λH10 L ds' UM hL sa e10=>?_⟩;.unfold ak.gO FhHold.Tab.all;refine cB (jo _ _) ?_;rw[cZ];omega
 have NS:=s9.trans UM;refine⟨c0.length+1-(n+1),by omega,v5,v6,v7,L,n+1,ds',rfl,Nb,rfl,(Qq.trans Nm).trans (aY.rP NS),Gk.same NS,NS _ _ (Gu Wl),NS _ _ (Gu Wg),sa,?_,Wa⟩;rw[e10,Vv,ak.kQ (ak.oW t kb)]
end
end Wh
end
section
namespace Wh
open PySem PySem.Spec PyProof.Rows L2
open FhHold (Tab)
def P7(CT Pt:Addr)(vs:List V)(H:Hp)(Q:VK)(a dx aA aB:Addr)(R C:Nat)(cs bs:List Nat)(k:Nat):Prop:=vs=[.ref a,nV k]/\TabAt CT H a R C cs bs dx aA aB/\Sz R C cs bs/\ak.qE (tabOf R C cs bs)/\gY H Pt jt iC/\∀(H':Hp)(l:Addr),jA Pt H H'->gY H' Pt jt iC->H l=none->H' l=some (.lst ((HoldNeutral.told (FhF.told (tabOf R C cs bs) (.best k))).map V.int))->Q (.ref l) H'
def zC(CT Pt:Addr):Sp:=λvs H Q _=>∃a dx aA aB R C cs bs k,P7 CT Pt vs H Q a dx aA aB R C cs bs k
section
variable {P:Program} {w:World} {K:PySem.W.Frag} {mg:Str->Option Value} {base:Heap}
def OI:aM ["table","bound"] ["table","bound"] (ax DE):=⟨rfl,rfl,rfl,by decide +kernel,rfl,by decide +kernel,by decide +kernel⟩
def Mp(F:gE K "best_answer" "best_answer" DE f fd)(T:i_ K mg CT)(TC:rQ mg)(GB:ay P w K mg base bu 1 fB Av ["number"] jf)(bB:Binds K Av ["number"] [])(Q4:mg "is_bound"=some (.ref fB))(kB:PySem.W.keepIn K (.ref fB)=true)(GS:ay P w K mg base bu 10 fS p_ ["table","bound"] (Dy CT Pt))(bS:Binds K p_ ["table","bound"] [])(ZI:mg "best_set"=some (.ref fS))(kS:PySem.W.keepIn K (.ref fS)=true):ay P w K mg base bu 11 f fd ["table","bound"] (zC CT Pt):=by
 obtain⟨t2,h2⟩:=TC.ob;obtain⟨t6,h6⟩:=TC.tm;obtain⟨t7,h7⟩:=TC.mp;refine iU F OI λvs H Q E h=>?_;obtain⟨a,dx,aA,aB,R,C,cs,bs,kb,rfl,Ta,sz,bl,tok,k⟩:=h;refine⟨rfl,λ_ _ _ _ hr=>?_⟩;refine⟨_,aj (cG (fm (dj (c_ GB (hr.mono (by decide)) rfl Q4 kB bB .nil aR (ag (pv 1) ao)))) (aq (aH (bK (ag (bj (v:=.int (-2)) rfl h2 ⟨_,rfl⟩) ao)))) ba) (aj (cG (cq (wI (dS dF (by rfl) T.len oh (ag (az (pv 0) rfl) ao)) (bj (v:=.int 12) rfl h7 ⟨_,rfl⟩))) (aq (aH (bK (ag (bj (v:=.int (-6)) rfl h6 ⟨_,rfl⟩) ao)))) ba) (aq (aH (dv kr (bK (ag aU ao)) (c_ GS hr rfl ZI kS bS .nil aR (ag (pv 0) (ag (pv 1) ao))))))),?_⟩;obtain⟨t,ht⟩:∃t,t=tabOf R C cs bs:=⟨_,rfl⟩;rw[<-ht]at k;refine⟨_,rfl,kb,rfl,?_⟩;have new:∀(y:Addr)(o:HO),H y=none->jA Pt H (upd H y o)/\gY (upd H y o) Pt jt iC:=λy o hy=>⟨aY.rP (cH H y o hy),tok.same (cH H y o hy)⟩;cases bo:FhF.boundOk kb with
 |false=>
  refine⟨_,rfl,eV ⟨(by show 1<=sizeLine;decide),λy hy=>?_⟩⟩;refine k _ y (new y _ hy).1 (new y _ hy).2 hy ?_;have:FhF.told t (.best kb)=FhF.says (-2):=by show(if FhF.boundOk kb=false then _ else _)=_;rw[aw bo]
  rw[ai,this];rfl
 |true=>
  refine⟨_,rfl,gM ?_⟩;refine⟨_,rfl,a,CT,dx,_,_,rfl,Ta.ins,T.cl,T.nA,eZ,aA,_,rfl,.inl (bp.of Ta.hA),_,_,rfl,rfl,_,rfl,eu (λz=>?_) (λz=>?_)⟩
  .have z:(((dh (tabOf R C cs bs)).map V.int).length:Int)>12:=cK z;rw[aE,bJ,<-ht]at z;refine⟨(by show 1<=sizeLine;decide),λy hy=>?_⟩;refine k _ y (new y _ hy).1 (new y _ hy).2 hy ?_;have:FhF.told t (.best kb)=FhF.says (-6):=by show(if FhF.boundOk kb=false then _ else if FhF.MOST<t.places then _ else _)=_;rw[au (by rw[bo];simp),aw (by show 12<t.places;omega)]
   rw[ai,this];rfl
  have z:¬(((dh (tabOf R C cs bs)).map V.int).length:Int)>12:=λq=>z (bq q);rw[aE,bJ,<-ht]at z;refine⟨(by show 1<=sizeLine;decide),λy hy=>?_⟩;have s1:=cH H y (.lst [V.int 0]) hy;refine⟨_,rfl,_,rfl,a,dx,aA,aB,R,C,cs,bs,kb,rfl,Ta.same s1,sz,bl,(by rw[<-ht];omega),tok.same s1,λH2 l bt2 VP hl abm h2=>?_⟩;rw[<-ht]at h2 abm;obtain⟨ps,hp⟩:=tok.some;have sR:H2 y=some (.lst [V.int 0]):=bt2 _ _ ai (λq=>by rw[q,hp]at hy;cases hy);refine⟨y,l,_,_,rfl,rfl,sR,h2,?_,λy2 U7=>?_⟩;.rw[aE];exact cB (by show 1+(t.best kb).length<=1000;omega) (by decide)
  have bt:jA Pt H H2:=(aY.rP s1).trans bt2;have s3:=cH H2 y2 (.lst ([V.int 0]++(t.best kb).map nV)) U7;refine k _ y2 (bt.trans (aY.rP s3)) (VP.same s3) (bt.free VP U7) ?_;have:FhF.told t (.best kb)=⟨0,t.best kb,[]⟩:=by show(if FhF.boundOk kb=false then _ else if FhF.MOST<t.places then _ else _)=_;rw[au (by rw[bo];simp),au (by show ¬12<t.places;omega)]
  rw[ai,this];show some (HO.lst ([V.int 0]++(t.best kb).map nV))=some (HO.lst ((HoldNeutral.told ⟨0,t.best kb,[]⟩).map V.int));unfold HoldNeutral.told;rw[lI,iG,uG];rfl
end
end Wh
end
section
namespace Wh
open PySem PySem.Spec PyProof.Rows L2
open FhHold (Tab)
open ak(cI pr pc)
open TL(tl iq ja qw sW sr nJ pR jD join_eq iY)
abbrev Js:Stmt:=top 42
def xK(h:n<10):(UInt8.ofNat (48+n)).toNat=48+n:=by rw[UInt8.toNat_ofNat'];omega
theorem digits_eq:∀(f n:Nat),n<f->(FhHold.digitsOf f n).map UInt8.toNat=sW n
 |0,n,h=>absurd h (JS _)
 |f+1,n,h=>by
  show(if n<10 then [UInt8.ofNat (48+n)]else FhHold.digitsOf f (n/10)++[UInt8.ofNat (48+n%10)]).map UInt8.toNat=_;by_cases c:n<10;.rw[aw c,sr c,cV,lI,xK c]
  rw[au c,nJ (by omega),cR,digits_eq f (n/10) (by omega),cV,lI,xK (by omega)]
def Eo(n:Nat):(FhHold.decimal n).map UInt8.toNat=sW n:=digits_eq (n+1) n (by omega)
theorem xw:∀ws:List FhHold.Bytes,ws≠[]->(FhHold.joined ws).map UInt8.toNat=jD [32] (ws.map λw=>w.map UInt8.toNat)++[10]|[],h=>absurd rfl h|[w],_=>by show(w++[10]).map UInt8.toNat=_;rw[cR];rfl|w::v::r,_=>by show(w++(32::FhHold.joined (v::r))).map UInt8.toNat=_;rw[cR,cV,xw (v::r) (by simp)];show _=(w.map UInt8.toNat++([32]++jD [32] ((v::r).map λw=>w.map UInt8.toNat)))++[10];rw[jS,jS];rfl
theorem xx:∀ws:List (List Nat),jD [] ws=ws.flatMap id|[]=>rfl|[w]=>by simp[jD]|w::v::r=>by show w++([]++jD [] (v::r))=_;rw[xx (v::r)];simp
theorem BH{α β:Type}{f g:α->List β}:∀{l:List α},(∀x,x∈l->f x=g x)->l.flatMap f=l.flatMap g|[],_=>rfl|x::l,h=>by rw[s_,s_,h x (cF ..),BH λy hy=>h y (dR _ hy)]
def vU(t:Tab)(A B:List Nat)(p:Nat):Str:=if p∈B then "-" else if p∈A then "." else Str.ofString (toString ((t.own p:Nat):Int))
def Om(hi:i<R+1)(hj:j<C+1):((tabOf R C cs bs).word s i j).map UInt8.toNat=tl (vU (tabOf R C cs bs) s (fK R C (bs.map Int.ofNat)) (i*(C+1)+j)):=by
 have hp:i*(C+1)+j<(tabOf R C cs bs).places:=ak.dk hi hj;have e1:pr (tabOf R C cs bs) (i*(C+1)+j)=i:=by show(i*(C+1)+j)/(C+1)=i;rw[ik,uf (by omega),uj hj];omega
 have e2:pc (tabOf R C cs bs) (i*(C+1)+j)=j:=by show(i*(C+1)+j)%(C+1)=j;rw[ik,ug,uk hj]
 have hb:=qR (cs:=cs) (bs:=bs) hp;unfold ak.cI at hb;rw[e1,e2,dA,dA,gW,gW]at hb;unfold FhHold.Tab.word vU;by_cases c1:i<(tabOf R C cs bs).rows/\j<(tabOf R C cs bs).cols/\(tabOf R C cs bs).isBlank (i*(tabOf R C cs bs).cols+j)=true;.rw[aw c1,aw (hb.mpr c1)];rfl
 rw[au c1,au (λz=>c1 (hb.mp z))];by_cases c2:(i*(C+1)+j)∈s;.rw[aw (show List.contains s (i*((tabOf R C cs bs).cols+1)+j)=true from fz.mpr c2),aw c2];rfl
 rw[au (show ¬List.contains s (i*((tabOf R C cs bs).cols+1)+j)=true from λz=>c2 (fz.mp z)),au c2,qw,Eo];have:=uE (tabOf R C cs bs) (i:=i) (j:=j) (show j<=C by omega);rw[show(i*(C+1)+j)=i*((tabOf R C cs bs).cols+1)+j from rfl,this]
def iI(t:Tab)(A B:List Nat)(i:Nat):Str:=Str.join " " ((List.range (t.cols+1)).map λj=>vU t A B (i*(t.cols+1)+j))++"\n"
def E4{R C:Nat}{cs bs s:List Nat}:((tabOf R C cs bs).text s).map UInt8.toNat=tl (Str.join "" ((List.range (R+1)).map (iI (tabOf R C cs bs) s (fK R C (bs.map Int.ofNat))))):=by rw[ja];show _=jD [] _;rw[xx];unfold FhHold.Tab.text;rw[CV,cQ,J3];show List.flatMap _ (List.range (R+1))=List.flatMap _ (List.range (R+1));refine BH λi hi=>?_;have hi:=dM.mp hi;show(FhHold.joined ((List.range (C+1)).map λj=>(tabOf R C cs bs).word s i j)).map UInt8.toNat=tl (iI (tabOf R C cs bs) s (fK R C (bs.map Int.ofNat)) i);rw[xw _ (by simp)];unfold iI;rw[iq,ja,cQ,cQ];congr 2;refine jm λj hj=>?_;exact Om hi (dM.mp hj)
def set_range{α:Type}(f:Nat->α){n p:Nat}(v:α):((List.range n).map f).set p v=(List.range n).map λq=>if q=p then v else f q:=by
 refine CS (by simp) λi h1 h2=>?_;rw[List.getElem_set,J4,J4,List.getElem_range];by_cases c:p=i;.subst c;simp
 rw[au c,au (λz=>c z.symm)]
end Wh
end
section
namespace Wh
open PySem PySem.Spec PyProof.Rows L2
open FhHold (Tab)
open ak(cI pr pc)
open TL(tl iq ja qw sW sr nJ pR jD join_eq iY)
def Ln{J:It}{n:Nat}{g:TG}{tt:TT}{te:TE}{vs:List Nat}{σ:L2.St}{H1:Hp}{D:Addr}{Qd:Hp->Prop}(xi ys:Nat->V)(hn:n<=100000)(Z5:∀i H,i<n->J.go i H)(sS:∀i H,n<=i->J.stop i H)(hy:∀i H x H',i<n->J.Es i H x H'->H'=H/\x=xi i)(hD:H1 D=none)(hs:∀(i:Nat)(H':Hp)(Z:VK)(W:Hp->Prop),i<n->aY H1 H'->(∀H4,aY H' H4->Z (ys i) H4)->g (xi i) (wipe σ vs) H' fun σ2 H2=>wipe σ2 vs=wipe σ vs/\tt σ2 H2 λb H3=>if b=true then te σ2 H3 Z else W H3)(hd:∀H',aY H1 H'->H' D=some (.lst ((List.range n).map ys))->Qd H'):∃W:Nat->Nat->Hp->Prop,(∃m,W 0 m (upd H1 D (.lst [])))/\∀i m H,W i m H->(J.stop i H/\Qd H)\/(J.go i H/\∃Nx:Hp->Prop,(∀H',Nx H'->∃m',m'<m/\W (i+1) m' H')/\∀x H',J.Es i H x H'->g x (wipe σ vs) H' fun σ2 H2=>wipe σ2 vs=wipe σ vs/\tt σ2 H2 λb H3=>if b=true then te σ2 H3 λy H4=>∃acc,H4 D=some (.lst acc)/\acc.length<sizeLine/\Nx (upd H4 D (.lst (acc++[y])))else Nx H3):=by
 refine⟨λi m H'=>m=n-i/\i<=n/\aY H1 H'/\H' D=some (.lst ((List.range i).map ys)),⟨_,rfl,dW _,cH _ _ _ hD,ai⟩,?_⟩;rintro i m H ⟨rfl,hi,s,h⟩;by_cases c:i<n
 .refine .inr ⟨Z5 i H c,λH'=>i+1<=n/\aY H1 H'/\H' D=some (.lst ((List.range (i+1)).map ys)),λH'⟨a,b,d⟩=>⟨n-(i+1),by omega,rfl,a,b,d⟩,λx H' y=>?_⟩;obtain⟨rfl,rfl⟩:=hy i H x H' c y;refine hs i H' _ _ c s λH4 s4=>⟨_,s4 _ _ h,?_,c,?_,?_⟩;.rw[aE,cZ];exact dX (cB hi hn) (by decide)
  .intro b o e;rw[ah (aa e hD)];exact s4 _ _ (s _ _ e)
  rw[ai,iQ,cR];rfl
 have:i=n:=by omega
 subst this;exact .inl ⟨sS i H (bx _),hd H s h⟩
def Py{J:It}{n:Nat}{g:TG}{tb:TS}{D:Ends}{σ:L2.St}{H:Hp}(xi:Nat->V)(Pv:Nat->L2.St->Hp->Prop)(h0:Pv 0 σ H)(Z5:∀i σ H,Pv i σ H->i<n->J.go i H)(sS:∀i σ H,Pv i σ H->n<=i->J.stop i H)(hy:∀i H x H',i<n->J.Es i H x H'->H'=H/\x=xi i)(hs:∀i σ H,i<n->Pv i σ H->g (xi i) σ H fun σ2 H2=>tb {D with nx:=Pv (i+1),ct:=Pv (i+1),bk:=D.nx} σ2 H2)(hd:∀σ H,Pv n σ H->D.nx σ H):∃W:Nat->Nat->L2.St->Hp->Prop,(∃m,W 0 m σ H)/\∀i m σ H,W i m σ H->(J.stop i H/\D.nx σ H)\/(J.go i H/\∃N:L2.St->Hp->Prop,(∀σ' H',N σ' H'->∃m',m'<m/\W (i+1) m' σ' H')/\∀x H',J.Es i H x H'->g x σ H' fun σ2 H2=>tb {D with nx:=N,ct:=N,bk:=D.nx} σ2 H2):=by
 refine⟨λi m σ H=>m=n-i/\i<=n/\Pv i σ H,⟨_,rfl,dW _,h0⟩,?_⟩;rintro i m σ H ⟨rfl,hi,p⟩;by_cases c:i<n;.refine .inr ⟨Z5 i σ H p c,Pv (i+1),fun σ' H' p'=>⟨n-(i+1),by omega,rfl,c,p'⟩,λx H' y=>?_⟩;obtain⟨rfl,rfl⟩:=hy i H x H' c y;exact hs i σ H' c p
 have:i=n:=by omega
 subst this;exact .inl ⟨sS i σ H p (bx _),hd σ H p⟩
structure tR (R C:Nat) (cs bs:List Nat):Prop where
  sz:Sz R C cs bs
  bl:ak.qE (tabOf R C cs bs)
  lt:∀p,(tabOf R C cs bs).own p<10 ^ 9
theorem uw:∀{l:List Nat},(∀x,x∈l->x<=M)->l.sum<=l.length*M|[],_=>by simp|x::l,h=>by have h1:=h x (cF ..);have h2:=uw λy hy=>h y (dR _ hy);rw[List.sum_cons,dr,i5];omega
theorem nM(S:List Nat):∀ws:List (List Nat),(jD S ws).length<=(ws.map List.length).sum+ws.length*S.length|[]=>dW _|[w]=>by show w.length<=(w.length+0)+_;omega|w::v::r=>by have:=nM S (v::r);show(w++(S++jD S (v::r))).length<=(w.length+((v::r).map List.length).sum)+((v::r).length+1)*S.length;rw[dC,dC,i5];omega
def K5(h:tR R C cs bs):(vU (tabOf R C cs bs) A B p).length<=9:=by
 rw[iY];unfold vU;by_cases c1:p∈B;.rw[aw c1];decide +kernel
 rw[au c1];by_cases c2:p∈A;.rw[aw c2];decide +kernel
 rw[au c2,qw];exact pR (by decide) (h.lt p)
def vo(h:tR R C cs bs):(iI (tabOf R C cs bs) A B i).length<=200:=by
 rw[iY];unfold iI;rw[iq,ja,dC];have h1:=nM (tl " ") (((List.range ((tabOf R C cs bs).cols+1)).map λj=>vU (tabOf R C cs bs) A B (i*((tabOf R C cs bs).cols+1)+j)).map tl);have h2:=uw (M:=9) (l:=(((List.range ((tabOf R C cs bs).cols+1)).map λj=>vU (tabOf R C cs bs) A B (i*((tabOf R C cs bs).cols+1)+j)).map tl).map List.length) λx hx=>by obtain⟨y,hy,rfl⟩:=br.mp hx;obtain⟨z,hz,rfl⟩:=br.mp hy;obtain⟨j,_,rfl⟩:=br.mp hz;rw[<-iY];exact K5 h
 simp only[aE,cZ]at h1 h2;have h3:(tl "\n").length=1:=by decide +kernel
 have h4:(tl " ").length=1:=by decide +kernel
 have h5:(tabOf R C cs bs).cols<=16:=h.sz.c;rw[h4,Nat.mul_one]at h1;omega
def SN:∀r c:Fin 17,Builtin.Range.small 0 (((r.val+1)*(c.val+1):Nat):Int) ((c.val:Int)+1)=true/\Builtin.Range.rangeSize 0 (((r.val+1)*(c.val+1):Nat):Int) ((c.val:Int)+1)=((r.val+1:Nat):Int):=by decide +kernel
def SO(hR:R<=16)(hC:C<=16):RgC 0 (((R+1)*(C+1):Nat):Int) ((C:Int)+1) (R+1):=by obtain⟨h1,h2⟩:=SN ⟨R,by omega⟩ ⟨C,by omega⟩;exact⟨by omega,by omega,h1,h2⟩
def aab(t:Tab)(A:List Nat)(p q:Nat):vU t (A++[p]) [] q=if q=p then(".":Str)else vU t A [] q:=by
 have n:q∉([]:List Nat):=by simp
 unfold vU;rw[au n,au n];by_cases c:q=p
 .have d:q∈A++[p]:=by simp[c]
  rw[aw c,aw d]
 rw[au c];by_cases d:q∈A
 .have e:q∈A++[p]:=by simp[d]
  rw[aw d,aw e]
 have e:q∉A++[p]:=by simp[d,c]
 rw[au d,au e]
def aaa(t:Tab)(A B:List Nat)(p q:Nat):vU t A (B++[p]) q=if q=p then("-":Str)else vU t A B q:=by
 unfold vU;by_cases c:q=p
 .have d:q∈B++[p]:=by simp[c]
  rw[aw c,aw d]
 rw[au c];by_cases d:q∈B
 .have e:q∈B++[p]:=by simp[d]
  rw[aw d,aw e]
 have e:q∉B++[p]:=by simp[d,c]
 rw[au d,au e]
def Hw(h:n<10^9):n.log2<1920:=by
 by_cases c:n=0;.subst c;decide
 rw[Nat.log2_lt c];exact gq h (cB (by decide:10^9<=2^30) (Kx (by decide) (by decide)))
def PB(h:i*w+w<=n):wm (((List.range n).map f).map V.str) (some ((i*w:Nat):Int)) (some ((i*w+w:Nat):Int))=((List.range w).map λj=>f (i*w+j)).map V.str:=by unfold wm;rw[aE,aE,cZ,jF (n:=n) (d:=0) (i:=i*w) (by omega),jF (n:=n) (d:=n) (i:=i*w+w) h,ot,<-yr,<-yt,<-yr,<-yt];congr 1;refine CS (by simp;omega) λj h1 h2=>?_;simp
def Oq(x:Str):((List.range x.cps.size).map λi=>V.int ((x.cps.getD i 0:Nat):Int))=((tl x).map λc:Nat=>(c:Int)).map V.int:=by refine CS (by simp) λi h1 h2=>?_;simp at h1 h2;simp[Array.getD,h1]
def TF(CT:Addr)(vs:List V)(H:Hp)(Q:VK)(a dx aA aB aS:Addr)(R C:Nat)(cs bs s:List Nat):Prop:=vs=[.ref a,.ref aS]/\TabAt CT H a R C cs bs dx aA aB/\tR R C cs bs/\H aS=some (.lst (s.map nV))/\s.length<=300/\∀(H':Hp)(l:Addr),aY H H'->H l=none->H' l=some (.lst ((HoldNeutral.told (FhF.told (tabOf R C cs bs) (.text s))).map V.int))->Q (.ref l) H'
def Dp(CT:Addr):Sp:=λvs H Q _=>∃a dx aA aB aS R C cs bs s,TF CT vs H Q a dx aA aB aS R C cs bs s
def W8:List V->Hp->VK->Prop:=λxs H Q=>∃i,xs=[.int i]/\i.natAbs.log2<1920/\Q (.str (toString i)) H
def aap:List V->Hp->VK->Prop:=λxs H Q=>∃x,xs=[.str x]/\x.length=1/\Q (.int (x.cps.getD 0 0:Nat)) H
def SQ(K:PySem.W.Frag):V->List V->Hp->VK->Prop:=λx xs H Q=>∃a p,∃ys:List Str,x=.str a/\xs=[.ref p]/\(bp K H p (ys.map V.str)\/qb K H p (ys.map V.str))/\(ys.map (·.length)).sum+ys.length*a.length<=16777216/\Q (.str (Txt.join a ys)) H
def W_:R2:=λx y H Q=>∃i j,x=.str i/\y=.str j/\i.length+j.length<=sizeLine/\Q (.str (i++j)) H
section
variable {P:Program} {w:World} {K:PySem.W.Frag} {mg:Str->Option Value} {base:Heap}
def jr:aM ["table","hidden","words","place","width","lines","amount","start","sign"] ["table","hidden"] (ax Js):=⟨rfl,rfl,rfl,by decide +kernel,rfl,by decide +kernel,by decide +kernel⟩
def O4(F:gE K "text_answer" "text_answer" Js f fd)(T:i_ K mg CT)(TC:rQ mg)(aaM:mg "str"=none)(aaT:mg "ord"=none)(GI:ay P w K mg base bu 2 fI x9 ["table","numbers"] (kD CT))(bI:Binds K x9 ["table","numbers"] [])(Nv:mg "is_set"=some (.ref fI))(kI:PySem.W.keepIn K (.ref fI)=true):ay P w K mg base bu 3 f fd ["table","hidden"] (Dp CT):=by
 obtain⟨t1,h1⟩:=TC.wl;refine iU F jr λvs H Q E h=>?_;obtain⟨a,dx,aA,aB,aS,R,C,cs,bs,l,rfl,Ta,bg,hS,hl,k⟩:=h;refine⟨rfl,λ_ _ _ _ hr=>?_⟩;refine⟨_,aj (cG (fm (dj (c_ GI hr rfl Nv kI bI .nil aR (ag (pv 0) (ag (pv 1) ao))))) (aq (aH (bK (ag (bj (v:=.int (-1)) rfl h1 ⟨_,rfl⟩) ao)))) ba) (aj (bh (i:=2) jr.nd rfl (Or.inr rfl) (jU (own:=[("amount",6)]) (g:=gg 6) (te:=Ua W8 (fb (cJ 6) iW)) rfl jr.nd (c9 (az (pv 0) rfl)) (dq (by rfl)) (λ_ _ _ _ _=>bb (i:=6) jr.nd rfl (Or.inl rfl) (Or.inr rfl)) (λ_ _ _ _ _=>gi) (λ_ _ _ _ _=>fZ Ad (by rfl) aaM PyProof.Rows.boot_str (ag (pv 6) ao)))) (aj (gd PassesOwn.never rfl (c9 (pv 1)) (bb (i:=3) jr.nd rfl (Or.inl rfl)) (aq (kj uC (kl (pv 2) (pv 3) set_list)))) (aj (OS (gd PassesOwn.never rfl (OW (az (pv 0) rfl)) (bb (i:=3) jr.nd rfl (Or.inl rfl)) (aq (kj uC (kl (pv 2) (pv 3) set_list))))) (aj (bh (i:=4) jr.nd rfl (Or.inr rfl) (dv gR (az (pv 0) rfl) aU)) (aj (jZ (i:=5) (own:=[("start",7)]) (g:=gg 7) (te:=Ae W_ (Zm (SQ K) (tC (.str " ")) (tSl (V0 K) (cJ 2) (AJ (cJ 7)) (AJ (Ae (FW λi j=>.int (i+j)) (cJ 7) (cJ 4))))) (tC (.str "\n"))) rfl jr.nd rfl rfl (m6 rfl rfl rfl rfl) (Hg rfl T.range (ag aU (ag (dS dF (by rfl) T.len oh (ag (pv 2) ao)) (ag (pv 4) ao)))) (dq (by rfl)) (λ_ _ _ _ _=>bb (i:=7) jr.nd rfl (Or.inl rfl) (Or.inr rfl)) (λ_ _ _ _ _=>gi) (λ_ _ _ _ _=>dv D1 (Fe uC (uX zD (pv 2) (jG (pv 7)) (jG (dv gR (pv 7) (pv 4))))) uC)) (aq (aH (dv kr (bK (ag aU ao)) (jU (own:=[("sign",8)]) (g:=gg 8) (te:=Ua aap (fb (cJ 8) iW)) rfl jr.nd (SV (Fe uC (pv 5))) (dq (by rfl)) (λ_ _ _ _ _=>bb (i:=8) jr.nd rfl (Or.inl rfl) (Or.inr rfl)) (λ_ _ _ _ _=>gi) (λ_ _ _ _ _=>dS MM (by rfl) aaT PyProof.Rows.boot_ord (ag (pv 8) ao))))))))))),?_⟩;obtain⟨t,ht⟩:∃t,t=tabOf R C cs bs:=⟨_,rfl⟩;have sz:=bg.sz;have iF:=ff sz;have hR:=sz.r;have hC:=sz.c;have ep:t.places=(R+1)*(C+1):=by rw[ht];rfl
 rw[<-ht]at k iF;refine⟨_,rfl,_,rfl,a,dx,aA,aB,aS,R,C,cs,bs,l,rfl,Ta,hS,?_⟩;rw[<-ht];cases cS:FhF.isSet t l with
 |false=>
  refine⟨_,rfl,eV ⟨(by show 1<=sizeLine;decide),λy hy=>?_⟩⟩;refine k _ y (cH H y _ hy) hy ?_;have:FhF.told t (.text l)=FhF.says (-1):=by show(if FhF.isSet t l=false then _ else _)=_;rw[aw cS]
  rw[ai,this];rfl
 |true=>
  refine⟨_,rfl,gM ?_⟩;have told:FhF.told t (.text l)=⟨0,[],t.text l⟩:=by show(if FhF.isSet t l=false then _ else _)=_;rw[au (by rw[cS];simp)]
  have hlp:=iL cS;refine⟨_,rfl,a,CT,dx,_,_,rfl,Ta.ins,T.cl,T.nA,eZ,aA,rfl,⟨_,bp.of Ta.hA⟩,λD hD=>?_⟩;refine qC (K:=K) (a:=aA) (xs:=(dh (tabOf R C cs bs)).map V.int) (λx=>match x with|.int i=>.str (toString i)|y=>y) (by rw[aE,bJ,<-ht];omega) Ta.hA hD ?_ ?_;.intro x H' Z W hx s1 hz;obtain⟨n,hn,rfl⟩:=br.mp hx;obtain⟨p,hp,rfl⟩:=br.mp hn;exact⟨rfl,_,rfl,_,rfl,Hw (bg.lt p),hz _ λ_ _ e=>e⟩
  intro H1 s1 qZ;have e1:((dh (tabOf R C cs bs)).map V.int).map (λx=>match x with|.int i=>V.str (toString i)|y=>y)=((List.range t.places).map (vU t (l.take 0) [])).map V.str:=by unfold dh;rw[cQ,cQ,cQ,<-ht];refine jm λp hp=>?_;show V.str _=V.str (vU t [] [] p);unfold vU;rw[au (by simp),au (by simp)]
  rw[e1]at qZ;refine⟨_,rfl,aS,rfl,⟨_,bp.of (s1 _ _ hS)⟩,fJ (K:=K) (a:=aS) (xs:=l.map nV) (λi σ H'=>∃v3:Option V,σ=[some (.ref a),some (.ref aS),some (.ref D),v3,none,none,none,none,none]/\aY H H'/\H' D=some (.lst (((List.range t.places).map (vU t (l.take i) [])).map V.str))) ⟨none,rfl,s1,qZ⟩ ?_ ?_ ?_⟩;.rintro i σ H' _ ⟨_,_,s2,_⟩;exact bp.of (s2 _ _ hS)
  .rintro i y σ H2 hy ⟨v3,rfl,s2,wA⟩;obtain⟨p,hp,rfl⟩:=fq hy;have xW:=hlp p (du hp);refine⟨_,rfl,_,rfl,D,_,_,p,rfl,rfl,wA,(by rw[aE,aE,cZ];exact jd xW),?_⟩;refine⟨_,rfl,λb o e=>?_,?_⟩;.rw[ah (aa e hD)];exact s2 _ _ e
   have q:l.take (i+1)=l.take i++[p]:=by rw[lJ,hp];rfl
   rw[ai,q,map_set,set_range];congr 3;refine jm λz _=>?_;rw[aab]
  rintro σ H2 ⟨v3,rfl,s2,wA⟩;rw[aE,iH]at wA;have T2:=Ta.same s2;obtain⟨B,hB⟩:∃B,B=fK R C (bs.map Int.ofNat):=⟨_,rfl⟩;have T2B:H2 aB=some (.dK (gA B)):=by rw[hB];exact T2.hB
  have ZD:D≠aB:=(aa Ta.hB hD).symm;refine⟨aB,_,T2B,trivial,λod=>?_⟩;have UX:a≠aB:=aI T2.ins T2.hB (by intro z;cases z);refine⟨_,rfl,a,CT,dx,_,_,rfl,(by rw[ah UX];exact T2.ins),T.cl,T.nB,uM,aB,od,rfl,.inl ⟨_,ai,?_⟩⟩;refine Py (n:=B.length) (λi=>nV (B.getD i 0)) (λi σ H'=>∃v3:Option V,σ=[some (.ref a),some (.ref aS),some (.ref D),v3,none,none,none,none,none]/\H' aB=some (.ke od (.dK (gA B)))/\(∀b o,H b=some o->b≠aB->H' b=some o)/\H' D=some (.lst (((List.range t.places).map (vU t l (B.take i))).map V.str))) ⟨v3,rfl,ai,λb o e n=>by rw[ah n];exact s2 _ _ e,by rw[ah ZD];exact wA⟩ ?_ ?_ ?_ ?_ ?_;.rintro i σ H' ⟨_,_,h,_⟩ hi;exact⟨h,by unfold gA;rw[aE];exact hi⟩
  .rintro i σ H' ⟨_,_,h,_⟩ hi;exact⟨h,by unfold gA;rw[aE];exact hi⟩
  .rintro i H' x YZ hi ⟨e,kk,v,ID,rfl⟩;refine⟨e,?_⟩;unfold gA at ID;rw[cC,dZ hi]at ID;have ID:=bZ ID;injection ID with hk _
   rw[<-hk,eI,dZ hi];rfl
  .rintro i σ H3 hi ⟨v3,rfl,hf,keep,Au⟩;have Cg:B[i]?=some (B.getD i 0):=by rw[eI,dZ hi];rfl
   have xW:B.getD i 0<t.places:=by have hm:B.getD i 0∈B:=du Cg;rw[hB]at hm;obtain⟨i',j',h1,h2,e,_⟩:=p4.mp hm;rw[hB,e,ep];exact ak.dk (by omega) (by omega)
   refine⟨_,rfl,_,rfl,D,_,_,B.getD i 0,rfl,rfl,Au,(by rw[aE,aE,cZ];exact jd xW),?_⟩;refine⟨_,rfl,by rw[ah ZD.symm];exact hf,λb o e n=>?_,?_⟩;.rw[ah (aa e hD)];exact keep _ _ e n
   have q:B.take (i+1)=B.take i++[B.getD i 0]:=by rw[lJ,Cg];rfl
   rw[ai,q,map_set,set_range];congr 3;refine jm λz _=>?_;rw[aaa]
  rintro σ H3 ⟨v3,rfl,hf,keep,Au⟩;rw[iH]at Au;refine⟨hf,?_⟩;obtain⟨H4,UD⟩:∃H4,H4=upd H3 aB (.dK (gA B)):=⟨_,rfl⟩;have s4:aY H H4:=λb o e=>by
   rw[UD];by_cases q:b=aB;.subst q;rw[Ta.hB,<-hB]at e;rw[ai];exact e
   rw[ah q];exact keep b o e q
  have Ux:H4 D=some (.lst (((List.range t.places).map (vU t l B)).map V.str)):=by rw[UD,ah ZD];exact Au
  rw[<-UD];clear UD hf keep Au H3;have T4:=Ta.same s4;refine⟨_,rfl,a,CT,dx,_,_,rfl,T4.ins,T.cl,T.nC,iK,_,_,rfl,rfl,?_⟩;refine⟨_,rfl,D,_,rfl,.inl (bp.of Ux),_,rfl,_,_,_,R+1,rfl,?_,λD2 qe=>?_⟩;.rw[aE,aE,cZ,ep];exact SO hR hC
  refine Ln (λi=>.int ((0:Int)+(i:Int)*((C:Int)+1))) (λi=>.str (iI t l B i)) (by omega) (λi H' h=>h) (λi H' h=>h) (λi H' x YZ _ y=>y) qe ?_ ?_
  .intro i H5 Z W hi s5 hz;have YA:=s5 _ _ Ux;have oF:i*(C+1)+(C+1)<=t.places:=by rw[ep,<-i5];exact tG _ (by omega)
   have ec:t.cols=C:=by rw[ht];rfl
   have eL:iI t l B i=Str.join " " ((List.range (C+1)).map λj=>vU t l B (i*(C+1)+j))++"\n":=by unfold iI;rw[ec]
   have e1:(0:Int)+(i:Int)*((C:Int)+1)=((i*(C+1):Nat):Int):=by rw[Int.zero_add];push_cast;rfl
   have e2:((i*(C+1):Nat):Int)+((C:Int)+1)=((i*(C+1)+(C+1):Nat):Int):=by push_cast;rfl
   refine⟨rfl,⟨_,rfl⟩,_,rfl,_,rfl,_,rfl,_,rfl,_,rfl,_,_,rfl,rfl,_,rfl,D,_,rfl,bp.of YA,λp hp=>?_⟩;rw[e1,e2,PB oF];refine⟨_,p,_,rfl,rfl,.inl (bp.of ai),?_,_,_,rfl,rfl,?_,?_⟩
   .have h2:=uw (M:=9) (l:=((List.range (C+1)).map λj=>vU t l B (i*(C+1)+j)).map (·.length)) λx hx=>by obtain⟨y,hy,rfl⟩:=br.mp hx;obtain⟨j,_,rfl⟩:=br.mp hy;rw[ht];exact K5 bg
    simp only[aE,cZ]at h2⊢;have h4:(" ":Str).length=1:=by decide +kernel
    rw[h4];omega
   .have:=vo (A:=l) (B:=B) (i:=i) bg;rw[<-ht,eL,iY,iq,dC,<-iY,<-iY]at this;rw[join_eq];exact cB this (by decide)
   have:=hz _ (cH H5 p (.lst (((List.range (C+1)).map λj=>vU t l B (i*(C+1)+j)).map V.str)) hp);rw[eL]at this;rw[join_eq];exact this
  intro H5 s5 YA;refine⟨(by show 1<=sizeLine;decide),λy1 B_=>?_⟩;have s6:=cH H5 y1 (.lst [V.int 0]) B_;have Tv:(List.range (R+1)).map (λi=>V.str (iI t l B i))=((List.range (R+1)).map (iI t l B)).map V.str:=by rw[cQ];rfl
  rw[Tv]at YA;have lsum:=uw (M:=200) (l:=((List.range (R+1)).map (iI t l B)).map (·.length)) λx hx=>by obtain⟨y,hy,rfl⟩:=br.mp hx;obtain⟨j,_,rfl⟩:=br.mp hy;rw[ht];exact vo bg
  have h0:("":Str).length=0:=by decide +kernel
  refine⟨⟨_,rfl⟩,_,rfl,_,D2,(List.range (R+1)).map (iI t l B),rfl,rfl,.inl (bp.of (s6 _ _ YA)),?_,_,rfl,λD3 Au=>?_⟩;.simp only[aE,cZ]at lsum⊢;rw[h0];omega
  obtain⟨x,ex⟩:∃x,x=Txt.join "" ((List.range (R+1)).map (iI t l B)):=⟨_,rfl⟩;rw[<-ex];have Ig:tl x=(t.text l).map UInt8.toNat:=by rw[ex,join_eq,ht,E4,hB]
  have abA:x.cps.size<=5000:=by
   have h1:=nM [] (((List.range (R+1)).map (iI t l B)).map tl);have h2:(tl x).length=x.cps.size:=by simp[TL.tl]
   rw[ex,join_eq,ja]at h2;have h3:(((List.range (R+1)).map (iI t l B)).map tl).map List.length=((List.range (R+1)).map (iI t l B)).map (·.length):=by rw[cQ];refine jm λy _=>?_;exact(iY y).symm
   rw[h3]at h1;simp only[aE,cZ]at lsum h1;rw[ex,join_eq,<-h2];have h4:tl ("":Str)=[]:=by decide +kernel
   rw[h4];simp only[CK,yq,Nat.add_zero]at h1;omega
  refine Ln (n:=x.cps.size) (λi=>.str ⟨#[x.cps.getD i 0]⟩) (λi=>.int ((x.cps.getD i 0:Nat):Int)) (by omega) (λi H' h=>h) (λi H' h=>h) (λi H' y YZ hi yy=>?_) Au ?_ ?_
  .obtain⟨e,c,hc,rfl⟩:=yy;refine⟨e,?_⟩;have:x.cps.getD i 0=c:=by rw[Array.getD_eq_getD_getElem?,hc];rfl
   rw[this]
  .intro i H7 Z W hi s7 hz;exact⟨rfl,_,rfl,_,rfl,rfl,hz _ λ_ _ e=>e⟩
  intro H7 s7 hD7;rw[Oq,Ig]at hD7;have s07:aY H H7:=((s4.trans s5).trans s6).trans s7;refine⟨y1,D3,_,_,rfl,rfl,s7 _ _ ai,hD7,?_,λy2 sR=>?_⟩
  .have h2:(tl x).length=x.cps.size:=by simp[TL.tl]
   rw[Ig,aE]at h2;rw[aE,aE,aE,h2];exact cB (by show 1+x.cps.size<=6000;omega) (by decide)
  refine k _ y2 (s07.trans (cH _ y2 _ sR)) (s07.free sR) ?_;rw[ai,told];show some (HO.lst ([V.int 0]++_))=some (HO.lst ((HoldNeutral.told ⟨0,[],t.text l⟩).map V.int));have e:(HoldNeutral.told ⟨0,[],t.text l⟩).map V.int=V.int 0::((t.text l).map λc:UInt8=>(c.toNat:Int)).map V.int:=rfl;rw[e,cQ,cQ,cQ];rfl
end
end Wh
end
section
namespace Wh
open PySem PySem.Spec PyProof.Rows L2
open FhHold (Tab)
structure Sm (K:PySem.W.Frag) (mg:Str->Option Value) (aD:Addr):Prop where
  gl:mg "SHAPES"=some (.ref aD)
  sh:∃es,E1 K aD es/\∀(p:Int) (n k:Nat),PyWqaneo.shape p=some (n,k)->∃at_,findBy lN es (Sum.inl p)=some (.ref at_)/\∀H,qb K H at_ [.int (n:Int),.int (k:Int)]
def FV(H:Hp)(a:Addr)(qs:List (Addr×List Int)):Prop:=H a=some (.lst (qs.map λq=>V.ref q.1))/\∀q,q∈qs->H q.1=some (.lst (q.2.map V.int))
def LV(h:PyWqaneo.shape p=some (n,k)):n<=3/\k<=2:=by
 unfold PyWqaneo.shape at h;repeat' split at h
 all_goals first|(cases h;decide)|cases h
def T3(CR:Addr)(K:PySem.W.Frag)(vs:List V)(H:Hp)(Q:VK)(a dx aQ:Addr)(ns:List Int)(pos:Nat)(p:Int)(r t:List Int)(n k:Nat)(xs:List (List Int)):Prop:=vs=[.ref a]/\qf CR K H a dx aQ ns pos/\ns.drop pos=p::r/\PyWqaneo.shape p=some (n,k)/\n<=r.length/\PyFlat.rows k (r.drop n)=some (xs,t)/\∀(H':Hp)(tp l1 l2:Addr)(qs:List (Addr×List Int))(pos':Nat),oC a H H'->H tp=none->qf CR K H' a dx aQ ns pos'->ns.drop pos'=t->H' tp=some (.tup [.int p,.ref l1,.ref l2])->H' l1=some (.lst ((r.take n).map V.int))->FV H' l2 qs->qs.map (·.2)=xs->(∀q,q∈qs->H q.1=none)->Q (.ref tp) H'
def Dx(CR:Addr)(K:PySem.W.Frag):Sp:=λvs H Q _=>∃a dx aQ ns pos p r t n k xs,T3 CR K vs H Q a dx aQ ns pos p r t n k xs
def drop_cons{ns:List Int}{pos:Nat}{p:Int}{r:List Int}(h:ns.drop pos=p::r):ns[pos]?=some p/\ns.drop (pos+1)=r:=by
 have h1:(ns.drop pos)[0]?=some p:=by rw[h];rfl
 have h2:(ns.drop pos).drop 1=r:=by rw[h];rfl
 rw[C3]at h1;rw[CC]at h2;exact⟨h1,h2⟩
theorem oC.none(b:oC a H H')(ha:H' a=some o)(h:H' y=none):H y=none:=by
 cases q:H y with
 |none=>rfl
 |some u=>
  by_cases n:y=a;.subst n;rw[ha]at h;cases h
  rw[b y u q n]at h;cases h
section
variable {P:Program} {w:World} {K:PySem.W.Frag} {mg:Str->Option Value} {base:Heap}
def oM:aM ["self","call","shape","numbers","lists","nth"] ["self"] (ax Jy):=⟨rfl,rfl,rfl,by decide +kernel,rfl,by decide +kernel,by decide +kernel⟩
def Pb{f fN fL CR aD:Addr}{fd B7 Rh:FuncData}(F:gE K "read_call" "CallReader.read_call" Jy f fd)(T:Rm K mg CR)(TS:Sm K mg aD)(GN:ay P w K mg base bu 1 fN B7 ["self"] (AL CR K))(bN:Binds K B7 ["self"] [])(mN:cU K CR "read_number" fN)(GL:ay P w K mg base bu 2 fL Rh ["self"] (r_ CR K))(bL:Binds K Rh ["self"] [])(mL:cU K CR "read_list" fL):ay P w K mg base bu 3 f fd ["self"] (Dx CR K):=by
 refine iU F oM λvs H Q E h=>?_;obtain⟨a,dx,aQ,ns,pos,p,r,t,n,k,xs,rfl,R,hd,Ga,hn,wM,kk⟩:=h;refine⟨rfl,λ_ _ _ _ hr=>?_⟩;refine⟨_,aj (bh (i:=1) oM.nd rfl (Or.inl rfl) (gZ (pv 0) T.cl mN GN (hr.mono (by decide)) bN .nil aR)) (aj (bh (i:=2) oM.nd rfl (Or.inl rfl) (L8 (bj (v:=.ref aD) rfl TS.gl rfl) (pv 1) (λ_ _=>rfl))) (aj (jZ (i:=3) (own:=[("nth",5)]) (g:=gg 5) (te:=rf CR "read_number" (AL CR K) [] E0 (cJ 0) iW) rfl oM.nd rfl rfl (m6 rfl rfl rfl rfl) (iu rfl T.range (ag (bF lZ (pv 2) aU (λ_ _=>rfl)) ao)) (dq (by rfl)) (λ_ _ _ _ _=>bb (i:=5) oM.nd rfl (Or.inl rfl) (Or.inr rfl)) (λ_ _ _ _ _=>gi) (λ_ _ _ _ _=>gZ (pv 0) T.cl mN GN (hr.mono (by decide)) bN .nil aR)) (aj (jZ (i:=4) (own:=[("nth",5)]) (g:=gg 5) (te:=rf CR "read_list" (r_ CR K) [] E0 (cJ 0) iW) rfl oM.nd rfl rfl (m6 rfl rfl rfl rfl) (iu rfl T.range (ag (bF lZ (pv 2) aU (λ_ _=>rfl)) ao)) (dq (by rfl)) (λ_ _ _ _ _=>bb (i:=5) oM.nd rfl (Or.inl rfl) (Or.inr rfl)) (λ_ _ _ _ _=>gi) (λ_ _ _ _ _=>gZ (pv 0) T.cl mL GL hr bL .nil aR)) (aq (aH (km (ag (pv 1) (ag (pv 3) (ag (pv 4) ao))))))))),?_⟩;have hn3:=LV Ga;obtain⟨hp0,Ge⟩:=drop_cons hd;obtain⟨es,KD,hes⟩:=TS.sh;obtain⟨at_,hat,hsq⟩:=hes p n k Ga;refine⟨_,rfl,a,dx,_,rfl,R.ins,DH,a,dx,aQ,ns,pos,p,rfl,R,hp0,?_⟩;intro H1 b1 R1;refine⟨_,rfl,aD,es,p,.ref at_,_,rfl,rfl,KD,hat,rfl,?_⟩;refine⟨_,rfl,at_,_,_,_,rfl,rfl,hsq H1,(show Nn [V.int (n:Int),V.int (k:Int)] 0=some (V.int (n:Int))from rfl),_,rfl,by omega,by omega,λD hD=>?_⟩;rw[om];have ZC:D≠a:=λz=>by rw[z,R1.ins]at hD;cases hD
 refine mq (n:=n) (λi H'=>oC a H1 H'/\qf CR K H' a dx aQ ns (pos+1+i)/\H' D=some (.lst ((r.take i).map V.int))) ?_ ?_ ?_;.have s:=cH H1 D (.lst []) hD;exact⟨λy o e _=>s y o e,⟨s _ _ R1.ins,s.seq R1.sq⟩,ai⟩
 .rintro i H2 hi ⟨b2,R2,wA⟩;have Um:i<r.length:=by omega
  have Cg:ns[pos+1+i]?=some r[i]:=by rw[<-C3,Ge,dZ Um]
  refine⟨rfl,_,rfl,a,dx,_,rfl,R2.ins,DH,a,dx,aQ,ns,pos+1+i,r[i],rfl,R2,Cg,λH3 b3 R3=>?_⟩;have Au:=b3 _ _ wA ZC;refine⟨_,Au,?_,?_,?_,?_⟩;.rw[aE,gT];exact dX (by show _<=10;omega) (by decide)
  .intro y o e ny;by_cases q:y=D;.rw[q,hD]at e;cases e
   rw[ah q];exact b3 _ _ (b2 _ _ e ny) ny
  .have b:oC a H1 (upd H3 D (.lst ((r.take i).map V.int++[V.int r[i]]))):=λy o e ny=>by
    by_cases q:y=D;.rw[q,hD]at e;cases e
    rw[ah q];exact b3 _ _ (b2 _ _ e ny) ny
   exact⟨by rw[ah ZC.symm];exact R3.ins,ux b R1.ins R1.sq⟩
  rw[ai,lJ,dZ Um,cR];rfl
 rintro H2 ⟨b2,R2,wA⟩;refine⟨_,rfl,at_,_,_,_,rfl,rfl,hsq H2,(show Nn [V.int (n:Int),V.int (k:Int)] 1=some (V.int (k:Int))from rfl),_,rfl,by omega,by omega,λD2 qe=>?_⟩;rw[om];have V9:D2≠a:=λz=>by rw[z,R2.ins]at qe;cases qe
 have nDD:D≠D2:=aa wA qe;have VD:=b1.trans b2;refine mq (n:=k) (λi H'=>∃(qs:List (Addr×List Int))(rest:List (List Int))(we:Nat),oC a H2 H'/\qf CR K H' a dx aQ ns we/\PyFlat.rows (k-i) (ns.drop we)=some (rest,t)/\qs.map (·.2)++rest=xs/\qs.length=i/\FV H' D2 qs/\∀q,q∈qs->H q.1=none) ?_ ?_ ?_;.have s:=cH H2 D2 (.lst []) qe;refine⟨[],xs,pos+1+n,λy o e _=>s y o e,⟨s _ _ R2.ins,s.seq R2.sq⟩,?_,rfl,rfl,⟨ai,λq h=>by cases h⟩,λq h=>by cases h⟩;rw[Nat.sub_zero,<-CC,Ge];exact wM
 .rintro i H3 hi ⟨qs,rest,we,b3,R3,Ah,Yd,Q9,⟨Au,hq3⟩,Z8⟩;obtain⟨m,hm⟩:∃m,k-i=m+1:=⟨k-i-1,by omega⟩;rw[hm]at Ah;unfold PyFlat.rows at Ah;cases oF:PyFlat.row (ns.drop we)with
  |none=>rw[oF]at Ah;cases Ah
  |some xs'=>
   obtain⟨x,s'⟩:=xs';rw[oF]at Ah;dsimp only at Ah;cases ZX:PyFlat.rows m s' with
   |none=>rw[ZX]at Ah;cases Ah
   |some ys=>
    obtain⟨ys,t'⟩:=ys;rw[ZX]at Ah;dsimp only at Ah;injection Ah with Ah
    injection Ah with RR RQ
    subst RR RQ;cases Z9:ns.drop we with
    |nil=>rw[Z9]at oF;cases oF
    |cons c r'=>
     rw[Z9]at oF;have oF:(if 0<=c/\c.toNat<=r'.length then some (r'.take c.toNat,r'.drop c.toNat)else none)=some (x,s'):=oF;by_cases cc:0<=c/\c.toNat<=r'.length
     .rw[aw cc]at oF;injection oF with oF
      injection oF with hx hs
      obtain⟨g1,g2⟩:=drop_cons Z9;have hlen:we+1+c.toNat<=ns.length:=by have:=congrArg List.length g2;rw[J9]at this;have h5:=(fh.mp g1).1;omega
      refine⟨rfl,_,rfl,a,dx,_,rfl,R3.ins,OL,a,dx,aQ,ns,we,c.toNat,rfl,R3,(by rw[g1,Km cc.1]),hlen,λH4 l b4 Vd R4 hl=>?_⟩;rw[g2,hx]at hl;have Ux:=b4 _ _ Au V9;have nlD:l≠D2:=λz=>by rw[z,Au]at Vd;cases Vd
      have X8:l≠a:=λz=>by rw[z,R3.ins]at Vd;cases Vd
      have keep:∀y o,H4 y=some o->y≠D2->upd H4 D2 (.lst ((qs.map λq=>V.ref q.1)++[.ref l])) y=some o:=λy o e ny=>by rw[ah ny];exact e
      have b5:oC a H2 (upd H4 D2 (.lst ((qs.map λq=>V.ref q.1)++[.ref l]))):=λy o e ny=>keep _ _ (b4 _ _ (b3 _ _ e ny) ny) (aa e qe);refine⟨_,Ux,?_,qs++[(l,x)],ys,we+1+c.toNat,b5,⟨keep _ _ R4.ins V9.symm,ux b5 R2.ins R2.sq⟩,?_,?_,?_,⟨?_,λq hq=>?_⟩,λq hq=>?_⟩;.rw[aE,Q9];exact dX (by show _<=10;omega) (by decide)
      .have:k-(i+1)=m:=by omega
       rw[this,<-CC,g2,hs];exact ZX
      .rw[cR,jS];exact Yd
      .rw[dC,Q9];rfl
      .rw[ai,cR];rfl
      .rcases cO.mp hq with h|h
       .have U_:=hq3 q h;have nqa:q.1≠a:=λz=>by rw[z,R3.ins]at U_;cases U_
        have nqD:q.1≠D2:=λz=>by
         rw[z,Au]at U_;have:(qs.map λq=>V.ref q.1)=q.2.map V.int:=by injection U_ with e;injection e
         cases qs with
         |nil=>cases h
         |cons q0 qs=>
          cases hh:q.2 with
          |nil=>rw[hh]at this;cases this
          |cons z zs=>
           rw[hh,cV,cV]at this;injection this with e1 _
           cases e1
        exact keep _ _ (b4 _ _ U_ nqa) nqD
       have:=cW.mp h;subst this;exact keep _ _ hl nlD
      rcases cO.mp hq with h|h;.exact Z8 q h
      have:=cW.mp h;subst this;have h2:H2 l=none:=b3.none R3.ins Vd;exact VD.none R2.ins h2
     rw[au cc]at oF;cases oF
 rintro H3 ⟨qs,rest,we,b3,R3,Ah,Yd,Q9,la,Z8⟩;rw[Nat.sub_self]at Ah;injection Ah with Ah
 injection Ah with RR RQ
 subst RR;rw[iG]at Yd;have Au:=b3 _ _ wA ZC;refine⟨_,rfl,_,rfl,_,rfl,(by show 3<=sizeLine;decide),λtp rX=>?_⟩;have s:=cH H3 tp (.tup [.int p,.ref D,.ref D2]) rX;refine kk _ tp D D2 qs we ((VD.trans b3).same s) ((VD.trans b3).none R3.ins rX) ⟨s _ _ R3.ins,s.seq R3.sq⟩ RQ ai (s _ _ Au) ⟨s _ _ la.1,λq hq=>s _ _ (la.2 q hq)⟩ Yd Z8
end
end Wh
end
section
namespace Wh
open PySem PySem.Spec PyProof.Rows L2
open FhHold (Tab)
theorem Fy:∀{l:List Nat},(∀x,x∈l->x<=M)->FhHold.sum l<=l.length*M|[],_=>by simp[FhHold.sum]|x::l,h=>by have h1:=h x (cF ..);have h2:=Fy λy hy=>h y (dR _ hy);show x+FhHold.sum l<=_;rw[dr,i5];omega
theorem Lv{α β:Type}{f:α->List β}{n:Nat}:∀{l:List α},(∀x,x∈l->(f x).length<=n)->(l.flatMap f).length<=l.length*n|[],_=>by simp|x::l,h=>by have h1:=h x (cF ..);have h2:=Lv λy hy=>h y (dR _ hy);rw[s_,dC,dr,i5];omega
def MX{R C:Nat}{cs bs:List Nat}(h0:¬(R<1\/16<R\/C<1\/16<C))(h:FhF.right (tabOf R C cs bs) bs=true):tR R C cs bs:=by
 obtain⟨l1,l2,ok⟩:=j7.mp h;have cell:∀i,cs.getD i 0<=1000000:=λi=>by
  rw[eI];cases e:cs[i]? with
  |none=>simp
  |some c=>
   have hi:=(fh.mp e).1;have hb:i<bs.length:=by omega
   exact(ok i c bs[i] e (dZ hb)).1
 refine⟨⟨by omega,by omega,by omega,by omega,l1,l2⟩,λp hp Yu=>?_,λp=>?_⟩
 .unfold ak.cI at Yu;rw[dA,dA,gW,gW]at Yu;obtain⟨b1,b2,b3⟩:=Yu;have b1:p/(C+1)<R:=b1;have b2:p%(C+1)<C:=b2;have b3:(bs.map λx=>x==1).getD (p/(C+1)*C+p%(C+1)) false=true:=b3;rw[eI,cC]at b3;cases e:bs[p/(C+1)*C+p%(C+1)]? with
  |none=>rw[e]at b3;cases b3
  |some b=>
   rw[e]at b3;have hb1:b=1:=eq_of_beq b3;have hi:=(fh.mp e).1;have hc:p/(C+1)*C+p%(C+1)<cs.length:=by omega
   have hz:=(ok _ _ b (dZ hc) e).2.2 hb1;have e2:p=p/(C+1)*(C+1)+p%(C+1):=by rw[ik];exact(ue p (C+1)).symm
   have e3:(tabOf R C cs bs).own p=(tabOf R C cs bs).at_ cs (p/(C+1)) (p%(C+1)):=rfl;have q:=ak.sJ (tabOf R C cs bs) cs (i:=p/(C+1)) (j:=p%(C+1)) b1 b2;have q2:(tabOf R C cs bs).cell cs (p/(C+1)) (p%(C+1))=0:=by show cs.getD (p/(C+1)*C+p%(C+1)) 0=0;rw[eI,dZ hc];exact hz
   rw[e3];omega
 show FhHold.sum _<_;have hb:∀x,x∈((List.range R).flatMap λ(k:Nat)=>if p/(C+1)=k\/p/(C+1)=R then(List.range C).map λ(l:Nat)=>if p%(C+1)=l\/p%(C+1)=C then(tabOf R C cs bs).cell cs k l else 0 else [])->x<=1000000:=λx hx=>by
  obtain⟨k,_,hk⟩:=ui.mp hx;split at hk
  .obtain⟨l,_,rfl⟩:=br.mp hk;split;.exact cell _
   exact dW _
  cases hk
 have h1:=Fy hb;have h2:((List.range R).flatMap λ(k:Nat)=>if p/(C+1)=k\/p/(C+1)=R then(List.range C).map λ(l:Nat)=>if p%(C+1)=l\/p%(C+1)=C then(tabOf R C cs bs).cell cs k l else 0 else []).length<=(List.range R).length*C:=Lv λk _=>by
  split;.simp
  exact dW _
 rw[cZ]at h2;have h3:R*C<=16*16:=lh (by omega) (by omega);have h4:=tG 1000000 (cB h2 h3);refine dX h1 (dX h4 (by decide))
abbrev JI:Stmt:=top 43
abbrev JG:Stmt:=inClass JI 0
abbrev DN:Stmt:=inClass JI 1
abbrev R9:Stmt:=inClass JI 2
def lO(v:V):List (Str×V):=[("table",v)]
def g_:(lO v).lookup ("table":Str)=some v:=by rfl
def MD:(lO v).lookup ("begin":Str)=none:=by rfl
def HG:(lO v).lookup ("answer":Str)=none:=by rfl
def ph0:gc "table" v []=lO v:=by rfl
def ph1:gc "table" v (lO u)=lO v:=by rfl
structure VF (K:PySem.W.Frag) (C:Addr):Prop where
  cl:B9 K C
  nT:ee K C "table"
def iX(S:Addr->Prop)(CH CT:Addr)(H:Hp)(h dx:Addr)(o:Option Tab):Prop:=(o=none/\H h=some (.ins CH dx (lO .dQ)))\/∃(R C:Nat)(cs bs:List Nat)(a r6 aA aB:Addr),o=some (tabOf R C cs bs)/\tR R C cs bs/\S aA/\H h=some (.ins CH dx (lO (.ref a)))/\TabAt CT H a R C cs bs r6 aA aB
theorem iX.ins{S:Addr->Prop}(A:iX S CH CT H h dx o):∃v,H h=some (.ins CH dx (lO v)):=by
 rcases A with⟨_,e⟩|⟨R,C,cs,bs,a,r6,aA,aB,_,_,_,e,_⟩;.exact⟨_,e⟩
 exact⟨_,e⟩
def iX.kept{S:Addr->Prop}(A:iX S CH CT H h dx o)(s:∀b u,H b=some u->(∀ps,u≠.vW ps)->H' b=some u):iX S CH CT H' h dx o:=by
 rcases A with⟨e0,e⟩|⟨R,C,cs,bs,a,r6,aA,aB,e0,bg,sA,e,T⟩;.exact .inl ⟨e0,s _ _ e (by intro _ z;cases z)⟩
 exact .inr ⟨R,C,cs,bs,a,r6,aA,aB,e0,bg,sA,s _ _ e (by intro _ z;cases z),s _ _ T.ins (by intro _ z;cases z),s _ _ T.hA (by intro _ z;cases z),s _ _ T.hB (by intro _ z;cases z)⟩
def iX.same{S:Addr->Prop}(A:iX S CH CT H h dx o)(s:aY H H'):iX S CH CT H' h dx o:=A.kept λb u e _=>s b u e
def iX.rP{S:Addr->Prop}(A:iX S CH CT H h dx o)(s:jA Pt H H')(hp:H Pt=some (.vW ps)):iX S CH CT H' h dx o:=A.kept λb u e n=>s b u e (aI e hp (n _))
def PZ(CH CT:Addr)(vs:List V)(H:Hp)(Q:VK)(h dx:Addr):Prop:=vs=[.ref h]/\H h=some (.ins CH dx [])/\∀H',oC h H H'->(∀S,iX S CH CT H' h dx none)->Q .dQ H'
def zA(CH CT:Addr):Sp:=λvs H Q _=>∃h dx,PZ CH CT vs H Q h dx
def MV(CH CT:Addr)(vs:List V)(H:Hp)(Q:VK)(S:Addr->Prop)(h dx aC aK:Addr)(o:Option Tab)(R C:Nat)(cs bs:List Nat):Prop:=vs=[.ref h,nV R,nV C,.ref aC,.ref aK]/\(∀y,H y=none->S y)/\iX S CH CT H h dx o/\H aC=some (.lst (cs.map nV))/\H aK=some (.lst (bs.map nV))/\∀(H':Hp)(l:Addr),oC h H H'->H l=none->iX S CH CT H' h dx (FhF.step ⟨o⟩ (.begin_ R C cs bs)).1.tab->H' l=some (.lst ((HoldNeutral.told (FhF.step ⟨o⟩ (.begin_ R C cs bs)).2).map V.int))->Q (.ref l) H'
def uP(CH CT:Addr):Sp:=λvs H Q _=>∃S h dx aC aK o R C cs bs,MV CH CT vs H Q S h dx aC aK o R C cs bs
section
variable {P:Program} {w:World} {K:PySem.W.Frag} {mg:Str->Option Value} {base:Heap}
def OG:aM ["self"] ["self"] (ax JG):=⟨rfl,rfl,rfl,by decide +kernel,rfl,by decide +kernel,by decide +kernel⟩
def Ml(F:gE K "__init__" "Holder.__init__" JG f fd)(T:VF K CH):ay P w K mg base bu 1 f fd ["self"] (zA CH CT):=by refine iU F OG λvs H Q E h=>?_;obtain⟨h,dx,rfl,hh,k⟩:=h;refine⟨rfl,λ_ _ _ _ hr=>?_⟩;refine⟨_,aq (eB (pv 0) jO rfl),?_⟩;refine⟨_,rfl,h,CH,dx,[],rfl,hh,T.cl,T.nT,(by show 0<1000;decide),?_⟩;rw[ph0];exact k _ oC.upd λS=>.inl ⟨rfl,ai⟩
def Bf:aM ["self","rows","columns","counts","blanks","refusal"] ["self","rows","columns","counts","blanks"] (ax DN):=⟨rfl,rfl,rfl,by decide +kernel,rfl,by decide +kernel,by decide +kernel⟩
def Ho(F:gE K "begin" "Holder.begin" DN f fd)(T:VF K CH)(GR:ay P w K mg base bu 1 fR vX ["rows","columns","counts","blanks"] Jn)(bR:Binds K vX ["rows","columns","counts","blanks"] [])(UZ:mg "begin_refusal"=some (.ref fR))(kR:PySem.W.keepIn K (.ref fR)=true)(ZH:mg "Table"=some (.ref CT))(MT:Mk K CT fT)(GT:ay P w K mg base bu 2 fT YE ["self","rows","columns","counts","blanks"] (qK CT))(bT:Binds K YE ["self","rows","columns","counts","blanks"] []):ay P w K mg base bu 4 f fd ["self","rows","columns","counts","blanks"] (uP CH CT):=by
 refine iU F Bf λvs H Q E h=>?_;obtain⟨S,h,dx,aC,aK,o,R,C,cs,bs,rfl,hSf,hA,hC,hK,k⟩:=h;refine⟨rfl,λ_ _ _ _ hr=>?_⟩;refine⟨_,aj (bh (i:=5) Bf.nd rfl (Or.inl rfl) (c_ GR (hr.mono (by decide)) rfl UZ kR bR .nil aR (ag (pv 1) (ag (pv 2) (ag (pv 3) (ag (pv 4) ao)))))) (aj (cG (cq (so (pv 5))) (aq (aH (bK (ag (pv 5) ao)))) ba) (aj (eB (pv 0) (ni MT GT hr rfl ZH bT .nil aR (ag (pv 1) (ag (pv 2) (ag (pv 3) (ag (pv 4) ao))))) rfl) (aq (aH (bK (ag aU ao)))))),?_⟩;refine⟨_,rfl,_,rfl,_,rfl,_,rfl,aC,aK,R,C,cs,bs,rfl,hC,hK,λH1 s1=>?_⟩;have bad:∀z:Int,sV R C cs bs=.int z->FhF.step ⟨o⟩ (.begin_ R C cs bs)=(⟨o⟩,FhF.says z)->∀y,H1 y=none->Q (.ref y) (upd H1 y (.lst [V.int z])):=λz e1 e2 y hy=>by
  have s2:=cH H1 y (.lst [V.int z]) hy;refine k _ y (λb u e _=>s2 _ _ (s1 _ _ e)) (s1.free hy) ?_ ?_;.rw[e2];exact hA.same (s1.trans s2)
  rw[e2,ai];rfl
 by_cases c1:R<1\/16<R\/C<1\/16<C
 .have er:sV R C cs bs=.int (-2):=by unfold sV;rw[aw c1]
  rw[er];refine⟨_,rfl,_,rfl,eu (λ_=>?_) (λd=>absurd (show(!decide (V.int (-2)=V.dQ))=true by rw[cM (by intro z;cases z)];rfl) d)⟩;refine⟨_,rfl,(by show 1<=sizeLine;decide),λy hy=>bad (-2) er ?_ y hy⟩;show(if R<1\/16<R\/C<1\/16<C then _ else _)=_;rw[aw c1]
 cases c2:FhF.right (tabOf R C cs bs) bs with
 |false=>
  have er:sV R C cs bs=.int (-1):=by unfold sV;rw[au c1,aw c2]
  rw[er];refine⟨_,rfl,_,rfl,eu (λ_=>?_) (λd=>absurd (show(!decide (V.int (-1)=V.dQ))=true by rw[cM (by intro z;cases z)];rfl) d)⟩;refine⟨_,rfl,(by show 1<=sizeLine;decide),λy hy=>bad (-1) er ?_ y hy⟩;show(if R<1\/16<R\/C<1\/16<C then _ else if FhF.right (tabOf R C cs bs) bs=false then _ else _)=_;rw[au c1,aw c2]
 |true=>
  have er:sV R C cs bs=.dQ:=by unfold sV;rw[au c1,au (by rw[c2];simp)]
  have Qn:FhF.step ⟨o⟩ (.begin_ R C cs bs)=(⟨some (tabOf R C cs bs)⟩,FhF.says 0):=by show(if R<1\/16<R\/C<1\/16<C then _ else if FhF.right (tabOf R C cs bs) bs=false then _ else _)=_;rw[au c1,au (by rw[c2];simp)];rfl
  have bg:=MX c1 c2;rw[er];refine⟨_,rfl,_,rfl,eu (λd=>absurd d (by show ¬(!decide (V.dQ=V.dQ))=true;rw[bq rfl];simp)) (λ_=>?_)⟩;refine⟨_,rfl,_,rfl,_,rfl,_,rfl,λx r6 hx Vk ndx=>?_⟩;have keep:∀y u,H1 y=some u->upd (upd H1 r6 (.own x)) x (.ins CT r6 []) y=some u:=λy u e=>by rw[ah (aa e hx),ah (aa e Vk)];exact e
  refine⟨x,r6,aC,aK,R,C,cs,bs,rfl,ai,keep _ _ (s1 _ _ hC),keep _ _ (s1 _ _ hK),bg.sz.r1,bg.sz.r,bg.sz.c1,bg.sz.c,bg.sz.lc,bg.sz.lb,λH2 aA aB k2 YC T2=>?_⟩;refine⟨rfl,?_⟩;have hAH:H aA=none:=by cases q:H aA with|none=>rfl|some u=>rw[keep _ _ (s1 _ _ q)]at YC;cases YC
  have s2:aY H H2:=λy u e=>k2 y u (keep y u (s1 _ _ e)) (aa (s1 _ _ e) hx);obtain⟨v0,Yg⟩:=(hA.same s2).ins;refine⟨_,rfl,h,CH,dx,_,rfl,Yg,T.cl,T.nT,(by show 1<1000;decide),?_⟩;rw[ph1];refine⟨(by show 1<=sizeLine;decide),λy hy=>?_⟩;have nh:∀{b:Addr}{u:HO},H2 b=some u->(∀fs,u≠.ins CH dx fs)->b≠h:=λe n=>aI e Yg (n _);have s3:=cH (upd H2 h (.ins CH dx (lO (.ref x)))) y (.lst [V.int 0]) hy;have nxh:x≠h:=λz=>by obtain⟨v1,hv1⟩:=(hA.same s1).ins;rw[z,hv1]at hx;cases hx
  refine k _ y (λb u e nb=>s3 _ _ (by rw[ah nb];exact s2 _ _ e)) ?_ ?_ ?_
  .cases q:H y with
   |none=>rfl
   |some u=>
    by_cases e:y=h;.rw[e,ai]at hy;cases hy
    rw[ah e,s2 _ _ q]at hy;cases hy
  .rw[Qn];refine .inr ⟨R,C,cs,bs,x,r6,aA,aB,rfl,bg,hSf _ hAH,s3 _ _ ai,s3 _ _ (by rw[ah nxh];exact T2.ins),s3 _ _ (by rw[ah (aI T2.hA Yg (by intro z;cases z))];exact T2.hA),s3 _ _ (by rw[ah (aI T2.hB Yg (by intro z;cases z))];exact T2.hB)⟩
  rw[Qn,ai];rfl
end
end Wh
end
section
namespace Wh
open PySem PySem.Spec PyProof.Rows L2
open FhHold (Tab)
inductive iB:Int->List Nat->List (Addr×List Nat)->FhF.Call->Prop
  |begin_ (r c:Nat) (a b:Addr) (x y:List Nat):iB 0 [r,c] [(a,x),(b,y)] (.begin_ r c x y)
  |value (p:Nat):iB 1 [p] [] (.value p)
  |small (k:Nat):iB 2 [k] [] (.small k)
  |range (p:Nat) (a:Addr) (s:List Nat):iB 3 [p] [(a,s)] (.range p s)
  |other (p x y:Nat) (a:Addr) (s:List Nat):iB 4 [p,x,y] [(a,s)] (.other p x y s)
  |safe (k:Nat) (a:Addr) (s:List Nat):iB 5 [k] [(a,s)] (.safe k s)
  |thin (k:Nat) (a:Addr) (s:List Nat):iB 6 [k] [(a,s)] (.thin k s)
  |best (k:Nat):iB 7 [k] [] (.best k)
  |text (a:Addr) (s:List Nat):iB 8 [] [(a,s)] (.text s)
structure WJ (mg:Str->Option Value):Prop where
  o0:∃t,mg "BEGIN"=some (.int 0 t)
  o1:∃t,mg "VALUE"=some (.int 1 t)
  o2:∃t,mg "SMALL"=some (.int 2 t)
  o3:∃t,mg "RANGE"=some (.int 3 t)
  o4:∃t,mg "OTHER"=some (.int 4 t)
  o5:∃t,mg "SAFE"=some (.int 5 t)
  o6:∃t,mg "THIN"=some (.int 6 t)
  o7:∃t,mg "BEST"=some (.int 7 t)
def eJ{k j:Int}{t rest:TS}{D:Ends}{σ:L2.St}{H:Hp}(hσ:σ[1]?=some (some (.int k)))(h:k≠j)(q:rest D σ H):Rp (Ru (tB (Rw (cJ 1) (tC (.int j)))) t Je) rest D σ H:=⟨_,hσ,k,j,rfl,rfl,_,rfl,eu (λd=>absurd (cK d) h) (λ_=>q)⟩
def l0{k:Int}{t rest:TS}{D:Ends}{σ:L2.St}{H:Hp}(hσ:σ[1]?=some (some (.int k)))(q:t {D with nx:=rest D} σ H):Rp (Ru (tB (Rw (cJ 1) (tC (.int k)))) t Je) rest D σ H:=⟨_,hσ,k,k,rfl,rfl,_,rfl,eu (λ_=>q) (λd=>absurd (bq rfl) d)⟩
def abr(h Pt:Addr)(H H':Hp):Prop:=∀b u,H b=some u->b≠h->b≠Pt->H' b=some u
def TY(CH CT Pt:Addr)(vs:List V)(H:Hp)(Q:VK)(S:Addr->Prop)(h dx l1 l2:Addr)(o:Option Tab)(p:Int)(ms:List Nat)(qs:List (Addr×List Nat))(c:FhF.Call):Prop:=vs=[.ref h,.int p,.ref l1,.ref l2]/\(∀y,H y=none->S y)/\iX S CH CT H h dx o/\gY H Pt jt iC/\H l1=some (.lst (ms.map nV))/\H l2=some (.lst (qs.map λq=>V.ref q.1))/\(∀q,q∈qs->H q.1=some (.lst (q.2.map nV))/\q.2.length<=300)/\iB p ms qs c/\∀(H':Hp)(l:Addr),abr h Pt H H'->gY H' Pt jt iC->H l=none->iX S CH CT H' h dx (FhF.step ⟨o⟩ c).1.tab->H' l=some (.lst ((HoldNeutral.told (FhF.step ⟨o⟩ c).2).map V.int))->Q (.ref l) H'
def Dv(CH CT Pt:Addr):Sp:=λvs H Q _=>∃S h dx l1 l2 o p ms qs c,TY CH CT Pt vs H Q S h dx l1 l2 o p ms qs c
section
variable {P:Program} {w:World} {K:PySem.W.Frag} {mg:Str->Option Value} {base:Heap}
def SK:aM ["self","call","numbers","lists"] ["self","call","numbers","lists"] (ax R9):=⟨rfl,rfl,rfl,by decide +kernel,rfl,by decide +kernel,by decide +kernel⟩
def Pa{f fB fV fM fR fO fS fT fX fW CH CT Pt:Addr}{fd Av fdV Ip vX YF p_ YE fdX YD:FuncData}(F:gE K "answer" "Holder.answer" R9 f fd)(T:VF K CH)(TO:WJ mg)(TC:rQ mg)(GB:ay P w K mg base bu 4 fB Av ["self","rows","columns","counts","blanks"] (uP CH CT))(bB:Binds K Av ["self","rows","columns","counts","blanks"] [])(mB:cU K CH "begin" fB)(GV:ay P w K mg base bu 2 fV fdV ["table","place"] (zq CT))(bV:Binds K fdV ["table","place"] [])(mgV:mg "value_answer"=some (.ref fV))(kV:PySem.W.keepIn K (.ref fV)=true)(GM:ay P w K mg base bu 3 fM Ip ["table","bound"] (zr CT))(bM:Binds K Ip ["table","bound"] [])(mgM:mg "small_answer"=some (.ref fM))(kM:PySem.W.keepIn K (.ref fM)=true)(GR:ay P w K mg base bu 6 fR vX ["table","place","hidden"] (zv CT))(bR:Binds K vX ["table","place","hidden"] [])(UZ:mg "range_answer"=some (.ref fR))(kR:PySem.W.keepIn K (.ref fR)=true)(GO:ay P w K mg base bu 6 fO YF ["table","place","least","most","hidden"] (zz CT))(bO:Binds K YF ["table","place","least","most","hidden"] [])(ZJ:mg "other_answer"=some (.ref fO))(kO:PySem.W.keepIn K (.ref fO)=true)(GS:ay P w K mg base bu 9 fS p_ ["table","bound","hidden"] (Dr CT))(bS:Binds K p_ ["table","bound","hidden"] [])(ZI:mg "safe_answer"=some (.ref fS))(kS:PySem.W.keepIn K (.ref fS)=true)(GT:ay P w K mg base bu 9 fT YE ["table","bound","hidden"] (Dn CT))(bT:Binds K YE ["table","bound","hidden"] [])(ZH:mg "thin_answer"=some (.ref fT))(kT:PySem.W.keepIn K (.ref fT)=true)(GX:ay P w K mg base bu 11 fX fdX ["table","bound"] (zC CT Pt))(bX:Binds K fdX ["table","bound"] [])(mgX:mg "best_answer"=some (.ref fX))(kX:PySem.W.keepIn K (.ref fX)=true)(GW:ay P w K mg base bu 3 fW YD ["table","hidden"] (Dp CT))(bW:Binds K YD ["table","hidden"] [])(mgW:mg "text_answer"=some (.ref fW))(kW:PySem.W.keepIn K (.ref fW)=true):ay P w K mg base bu 12 f fd ["self","call","numbers","lists"] (Dv CH CT Pt):=by
 obtain⟨t0,h0⟩:=TO.o0;obtain⟨t1,h1⟩:=TO.o1;obtain⟨t2,h2⟩:=TO.o2;obtain⟨t3,h3⟩:=TO.o3;obtain⟨t4,h4⟩:=TO.o4;obtain⟨t5,h5⟩:=TO.o5;obtain⟨t6,h6⟩:=TO.o6;obtain⟨t7,h7⟩:=TO.o7;obtain⟨t9,h9⟩:=TC.nt;refine iU F SK λvs H Q E h=>?_;obtain⟨S,h,dx,l1,l2,o,p,ms,qs,c,rfl,hSf,hA,tok,Aq,sT,Ii,hc,k⟩:=h;refine⟨rfl,λ_ _ _ _ hr=>?_⟩;refine⟨_,aj (cG (cq (gy (pv 1) (bj (v:=.int 0) rfl h0 ⟨_,rfl⟩))) (aq (aH (aV (pv 0) T.cl mB GB (hr.mono (by decide)) bB .nil aR (ag (bF aW (pv 2) aU (λ_ _=>rfl)) (ag (bF aW (pv 2) aU (λ_ _=>rfl)) (ag (bF aW (pv 3) aU (λ_ _=>rfl)) (ag (bF aW (pv 3) aU (λ_ _=>rfl)) ao))))))) ba) (aj (cG (cq (oO (az (pv 0) rfl))) (aq (aH (bK (ag (bj (v:=.int (-9)) rfl h9 ⟨_,rfl⟩) ao)))) ba) (aj (cG (cq (gy (pv 1) (bj (v:=.int 1) rfl h1 ⟨_,rfl⟩))) (aq (aH (c_ GV (hr.mono (by decide)) rfl mgV kV bV .nil aR (ag (az (pv 0) rfl) (ag (bF aW (pv 2) aU (λ_ _=>rfl)) ao))))) ba) (aj (cG (cq (gy (pv 1) (bj (v:=.int 2) rfl h2 ⟨_,rfl⟩))) (aq (aH (c_ GM (hr.mono (by decide)) rfl mgM kM bM .nil aR (ag (az (pv 0) rfl) (ag (bF aW (pv 2) aU (λ_ _=>rfl)) ao))))) ba) (aj (cG (cq (gy (pv 1) (bj (v:=.int 3) rfl h3 ⟨_,rfl⟩))) (aq (aH (c_ GR (hr.mono (by decide)) rfl UZ kR bR .nil aR (ag (az (pv 0) rfl) (ag (bF aW (pv 2) aU (λ_ _=>rfl)) (ag (bF aW (pv 3) aU (λ_ _=>rfl)) ao)))))) ba) (aj (cG (cq (gy (pv 1) (bj (v:=.int 4) rfl h4 ⟨_,rfl⟩))) (aq (aH (c_ GO (hr.mono (by decide)) rfl ZJ kO bO .nil aR (ag (az (pv 0) rfl) (ag (bF aW (pv 2) aU (λ_ _=>rfl)) (ag (bF aW (pv 2) aU (λ_ _=>rfl)) (ag (bF aW (pv 2) aU (λ_ _=>rfl)) (ag (bF aW (pv 3) aU (λ_ _=>rfl)) ao)))))))) ba) (aj (cG (cq (gy (pv 1) (bj (v:=.int 5) rfl h5 ⟨_,rfl⟩))) (aq (aH (c_ GS (hr.mono (by decide)) rfl ZI kS bS .nil aR (ag (az (pv 0) rfl) (ag (bF aW (pv 2) aU (λ_ _=>rfl)) (ag (bF aW (pv 3) aU (λ_ _=>rfl)) ao)))))) ba) (aj (cG (cq (gy (pv 1) (bj (v:=.int 6) rfl h6 ⟨_,rfl⟩))) (aq (aH (c_ GT (hr.mono (by decide)) rfl ZH kT bT .nil aR (ag (az (pv 0) rfl) (ag (bF aW (pv 2) aU (λ_ _=>rfl)) (ag (bF aW (pv 3) aU (λ_ _=>rfl)) ao)))))) ba) (aj (cG (cq (gy (pv 1) (bj (v:=.int 7) rfl h7 ⟨_,rfl⟩))) (aq (aH (c_ GX hr rfl mgX kX bX .nil aR (ag (az (pv 0) rfl) (ag (bF aW (pv 2) aU (λ_ _=>rfl)) ao))))) ba) (aq (aH (c_ GW (hr.mono (by decide)) rfl mgW kW bW .nil aR (ag (az (pv 0) rfl) (ag (bF aW (pv 3) aU (λ_ _=>rfl)) ao))))))))))))),?_⟩;by_cases cb:p=0
 .cases hc with
  |begin_ r cc a b x y=>
   have hx:=(Ii (a,x) (by simp)).1;have hy:=(Ii (b,y) (by simp)).1;obtain⟨v,hv⟩:=hA.ins;refine l0 rfl ⟨_,rfl,h,dx,_,rfl,hv,MD,_,rfl,l1,_,_,_,rfl,rfl,bp.of Aq,rfl,_,rfl,l1,_,_,_,rfl,rfl,bp.of Aq,rfl,_,rfl,l2,_,_,_,rfl,rfl,bp.of sT,rfl,_,rfl,l2,_,_,_,rfl,rfl,bp.of sT,rfl,S,h,dx,a,b,o,r,cc,x,y,rfl,hSf,hA,hx,hy,?_⟩;intro H' l b1 hl hA' rY;obtain⟨ps,hp⟩:=tok.some;have nPh:Pt≠h:=aI hp hv (by intro z;cases z);refine k H' l (λb u e n1 _=>b1 b u e n1) ?_ hl hA' rY;rcases tok with e|⟨c',e,e2⟩;.exact .inl (b1 _ _ e nPh)
   exact .inr ⟨c',b1 _ _ e nPh,b1 _ _ e2 (aI e2 hv (by intro z;cases z))⟩
  |_=>exact absurd cb (by decide)
 refine eJ rfl cb ?_;rcases hA with⟨rfl,hh⟩|⟨R,C,cs,bs,a,r6,aA,aB,rfl,bg,sA,hh,Ta⟩
 .refine⟨_,rfl,h,CH,dx,_,_,rfl,hh,T.cl,T.nT,g_,_,rfl,eu (λ_=>?_) (λd=>absurd (bq rfl) d)⟩;refine⟨(by show 1<=sizeLine;decide),λy hy=>?_⟩;have s:=cH H y (.lst [V.int (-9)]) hy;have Qn:FhF.step ⟨none⟩ c=(⟨none⟩,FhF.says (-9)):=by cases hc<;>first|rfl|exact absurd rfl cb
  refine k _ y (λb u e _ _=>s _ _ e) (tok.same s) hy ?_ ?_;.rw[Qn];exact .inl ⟨rfl,s _ _ hh⟩
  rw[Qn,ai];rfl
 refine⟨_,rfl,h,CH,dx,_,_,rfl,hh,T.cl,T.nT,g_,_,rfl,eu (λd=>absurd (cK d) (by intro z;cases z)) (λ_=>?_)⟩;have hA:iX S CH CT H h dx (some (tabOf R C cs bs)):=.inr ⟨R,C,cs,bs,a,r6,aA,aB,rfl,bg,sA,hh,Ta⟩;have fin:∀(H':Hp)(l:Addr),FhF.step ⟨some (tabOf R C cs bs)⟩ c=(⟨some (tabOf R C cs bs)⟩,FhF.told (tabOf R C cs bs) c)->aY H H'->H l=none->H' l=some (.lst ((HoldNeutral.told (FhF.told (tabOf R C cs bs) c)).map V.int))->Q (.ref l) H':=λH' l e s hl rY=>k H' l (λb u e _ _=>s _ _ e) (tok.same s) hl (by rw[e];exact hA.same s) (by rw[e];exact rY);cases hc with|begin_ r cc a b x y=>exact absurd rfl cb|value p=>exact l0 rfl ⟨_,rfl,h,CH,dx,_,_,rfl,hh,T.cl,T.nT,g_,_,rfl,l1,_,_,_,rfl,rfl,bp.of Aq,rfl,a,r6,aA,aB,R,C,cs,bs,p,rfl,Ta,λH' l s hl rY=>fin H' l rfl s hl rY⟩|small kb=>exact(eJ rfl (by decide) (l0 rfl ⟨_,rfl,h,CH,dx,_,_,rfl,hh,T.cl,T.nT,g_,_,rfl,l1,_,_,_,rfl,rfl,bp.of Aq,rfl,a,r6,aA,aB,R,C,cs,bs,kb,rfl,Ta,bg.sz,λH' l s hl rY=>fin H' l rfl s hl rY⟩))|range p b l=>exact(eJ rfl (by decide) (eJ rfl (by decide) (l0 rfl ⟨_,rfl,h,CH,dx,_,_,rfl,hh,T.cl,T.nT,g_,_,rfl,l1,_,_,_,rfl,rfl,bp.of Aq,rfl,_,rfl,l2,_,_,_,rfl,rfl,bp.of sT,rfl,a,r6,aA,aB,b,R,C,cs,bs,l,p,rfl,Ta,bg.sz,(Ii (b,l) (by simp)).1,(Ii (b,l) (by simp)).2,λH' l s hl rY=>fin H' l rfl s hl rY⟩)))|other p le mo b l=>exact(eJ rfl (by decide) (eJ rfl (by decide) (eJ rfl (by decide) (l0 rfl ⟨_,rfl,h,CH,dx,_,_,rfl,hh,T.cl,T.nT,g_,_,rfl,l1,_,_,_,rfl,rfl,bp.of Aq,rfl,_,rfl,l1,_,_,_,rfl,rfl,bp.of Aq,rfl,_,rfl,l1,_,_,_,rfl,rfl,bp.of Aq,rfl,_,rfl,l2,_,_,_,rfl,rfl,bp.of sT,rfl,a,r6,aA,aB,b,R,C,cs,bs,l,p,le,mo,rfl,Ta,bg.sz,(Ii (b,l) (by simp)).1,(Ii (b,l) (by simp)).2,λH' l s hl rY=>fin H' l rfl s hl rY⟩))))|safe kb b l=>exact(eJ rfl (by decide) (eJ rfl (by decide) (eJ rfl (by decide) (eJ rfl (by decide) (l0 rfl ⟨_,rfl,h,CH,dx,_,_,rfl,hh,T.cl,T.nT,g_,_,rfl,l1,_,_,_,rfl,rfl,bp.of Aq,rfl,_,rfl,l2,_,_,_,rfl,rfl,bp.of sT,rfl,a,r6,aA,aB,b,R,C,cs,bs,l,kb,rfl,Ta,bg.sz,(Ii (b,l) (by simp)).1,(Ii (b,l) (by simp)).2,λH' l s hl rY=>fin H' l rfl s hl rY⟩)))))|thin kb b l=>exact(eJ rfl (by decide) (eJ rfl (by decide) (eJ rfl (by decide) (eJ rfl (by decide) (eJ rfl (by decide) (l0 rfl ⟨_,rfl,h,CH,dx,_,_,rfl,hh,T.cl,T.nT,g_,_,rfl,l1,_,_,_,rfl,rfl,bp.of Aq,rfl,_,rfl,l2,_,_,_,rfl,rfl,bp.of sT,rfl,a,r6,aA,aB,b,R,C,cs,bs,l,kb,rfl,Ta,bg.sz,(Ii (b,l) (by simp)).1,(Ii (b,l) (by simp)).2,λH' l s hl rY=>fin H' l rfl s hl rY⟩))))))|best kb=>exact(eJ rfl (by decide) (eJ rfl (by decide) (eJ rfl (by decide) (eJ rfl (by decide) (eJ rfl (by decide) (eJ rfl (by decide) (l0 rfl ⟨_,rfl,h,CH,dx,_,_,rfl,hh,T.cl,T.nT,g_,_,rfl,l1,_,_,_,rfl,rfl,bp.of Aq,rfl,a,r6,aA,aB,R,C,cs,bs,kb,rfl,Ta,bg.sz,bg.bl,tok,λH' l b1 aae hl rY=>k H' l (λb u e _ n=>b1 b u e n) aae hl (hA.rP b1 (tok.some.choose_spec)) rY⟩)))))))|text b l=>exact(eJ rfl (by decide) (eJ rfl (by decide) (eJ rfl (by decide) (eJ rfl (by decide) (eJ rfl (by decide) (eJ rfl (by decide) (eJ rfl (by decide) ⟨_,rfl,h,CH,dx,_,_,rfl,hh,T.cl,T.nT,g_,_,rfl,l2,_,_,_,rfl,rfl,bp.of sT,rfl,a,r6,aA,aB,b,R,C,cs,bs,l,rfl,Ta,bg,(Ii (b,l) (by simp)).1,(Ii (b,l) (by simp)).2,λH' l s hl rY=>fin H' l rfl s hl rY⟩)))))))
end
end Wh
end
section
namespace Wh
open PySem PySem.Spec PyProof.Rows L2
open FhHold (Tab)
open TL(tl iq ja qw sW sr nJ pR jD join_eq iY)
theorem gK{t:Tab}{y:FhHold.Places}:∀{l:List FhHold.Places},t.lightest l=some y->y∈l
 |[],h=>by cases h
 |u::r,h=>by
  unfold FhHold.Tab.lightest at h;cases e:t.lightest r with
  |none=>rw[e]at h;have:u=y:=bZ h;rw[this];exact cF ..
  |some v=>
   rw[e]at h;dsimp only at h;have:=gK e;split at h;.have:v=y:=bZ h;subst this;exact dR _ (gK e)
   have:u=y:=bZ h;rw[this];exact cF ..
def MW(t:Tab)(k:Nat):(t.best k).length<=t.places:=by unfold FhHold.Tab.best;cases e:(List.range (t.places+1)).findSome? λ(n:Nat)=>t.lightest ((FhHold.sets n t.all).filter λ(u:FhHold.Places)=>(t.smalls k).all u.contains&&t.good k u)with|none=>show t.all.length<=_;unfold FhHold.Tab.all;rw[cZ];exact bx _|some y=>obtain⟨n,hn,hy⟩:=List.exists_of_findSome?_eq_some e;have h1:=(gU.mp (gK hy)).1;have h2:=(ak.gB.mp h1).2;have:=dM.mp hn;show y.length<=_;omega
def LM(hs:FhF.isSet t s=true):(t.thin k s).length<=s.length:=by
 rw[ak.qH (w6 hs) (iL hs)];have:∀(ps:List Nat)(u:List Nat),(ps.foldl (ak.cD t k) u).length<=u.length:=by
  intro ps;induction ps with
  |nil=>intro u;exact bx _
  |cons c ps ih=>
   intro u;refine cB (ih _) ?_;unfold ak.cD ak.less;split;.exact jo _ _
   exact bx _
 exact this s s
def PD{q:Prop}[Decidable q]{n:Nat}{l:List FhHold.Edge}{c:List Nat}(h:(if q then none else some ((l.take n).map λ(e:FhHold.Edge)=>e.flow))=some c):c.length<=n:=by
 by_cases d:q;.rw[aw d]at h;cases h
 rw[au d]at h;have h:=bZ h;rw[<-h,aE,gT];exact Nat.min_le_left _ _
def Hj{t:Tab}{s:List Nat}{p lo hi:Nat}{c:List Nat}(h:t.other s p lo hi=some c):c.length<=t.rows*t.cols:=PD h
def text_len(bg:tR R C cs bs):((tabOf R C cs bs).text s).length<=5000:=by
 have h0:=congrArg List.length (E4 (R:=R) (C:=C) (cs:=cs) (bs:=bs) (s:=s));rw[aE,ja]at h0;have h1:=nM (tl ("":Str)) (((List.range (R+1)).map (iI (tabOf R C cs bs) s (fK R C (bs.map Int.ofNat)))).map tl);have h2:=uw (M:=200) (l:=((((List.range (R+1)).map (iI (tabOf R C cs bs) s (fK R C (bs.map Int.ofNat)))).map tl).map List.length)) λx hx=>by obtain⟨y,hy,rfl⟩:=br.mp hx;obtain⟨z,hz,rfl⟩:=br.mp hy;obtain⟨j,_,rfl⟩:=br.mp hz;rw[<-iY];exact vo bg
 have h4:(tl ("":Str)).length=0:=by decide +kernel
 rw[h4,yq,Nat.add_zero]at h1;simp only[aE,cZ]at h2;have:=bg.sz.r;omega
def Ba(a:FhF.Answer):(HoldNeutral.told a).length=1+a.nums.length+a.out.length:=by unfold HoldNeutral.told;rw[dC,dr,aE,aE];omega
def Qa{R C:Nat}{cs bs:List Nat}(bg:tR R C cs bs){p:Int}{ms:List Nat}{qs:List (Addr×List Nat)}{c:FhF.Call}(hc:iB p ms qs c)(hq:∀q,q∈qs->q.2.length<=300):(HoldNeutral.told (FhF.told (tabOf R C cs bs) c)).length<=6000:=by
 have hp:=ff bg.sz;rw[Ba];obtain⟨t,ht⟩:∃t,t=tabOf R C cs bs:=⟨_,rfl⟩;have IA:∀k,(t.smalls k).length<=t.places:=λk=>by unfold FhHold.Tab.smalls FhHold.Tab.all;refine cB (jo _ _) ?_;rw[cZ];exact bx _
 have s0:∀z,1+(FhF.says z).nums.length+(FhF.says z).out.length<=6000:=λz=>by show 1+0+0<=6000;omega
 have hrc:t.rows*t.cols<=256:=by rw[ht];exact lh bg.sz.r bg.sz.c
 rw[<-ht]at hp⊢;cases hc with
 |begin_=>exact s0 0
 |value p=>
  unfold FhF.told;dsimp only;split;.exact s0 _
  show 1+1+0<=6000;omega
 |small k=>
  unfold FhF.told;dsimp only;split;.exact s0 _
  have:=IA k;show 1+(t.smalls k).length+0<=6000;omega
 |range p a s=>
  unfold FhF.told;dsimp only;split;.exact s0 _
  split;.exact s0 _
  split;.show 1+2+0<=6000;omega
  show 1+1+0<=6000;omega
 |other p x y a s=>
  unfold FhF.told;dsimp only;split;.exact s0 _
  split;.exact s0 _
  split;.rename_i c hc;have:=Hj hc;show 1+c.length+0<=6000;omega
  exact s0 _
 |safe k a s=>
  unfold FhF.told;dsimp only;split;.exact s0 _
  split;.exact s0 _
  split;.show 1+1+0<=6000;omega
  exact s0 _
 |thin k a s=>
  have hl:=hq (a,s) (by simp);have hl:s.length<=300:=hl;unfold FhF.told;dsimp only;split;.exact s0 _
  rename_i aaP;split;.exact s0 _
  split;.exact s0 _
  have:=LM (t:=t) (k:=k) (s:=s) (by cases e:FhF.isSet t s with|true=>rfl|false=>exact absurd e aaP);show 1+(t.thin k s).length+0<=6000;omega
 |best k=>
  unfold FhF.told;dsimp only;split;.exact s0 _
  split;.exact s0 _
  have:=MW t k;show 1+(t.best k).length+0<=6000;omega
 |text a s=>
  unfold FhF.told;dsimp only;split;.exact s0 _
  have:=text_len (s:=s) bg;rw[<-ht]at this;show 1+0+(t.text s).length<=6000;omega
end Wh
end
section
namespace Wh
open PySem PySem.Spec PyProof.Rows L2
open FhHold (Tab)
abbrev RA:Stmt:=top 44
def Fm(h:∀n,n∈x->0<=n):x.map V.int=(HoldNeutral.nats x).map nV:=by unfold HoldNeutral.nats;rw[cQ];refine jm λn hn=>?_;show V.int n=V.int ((n.toNat:Nat):Int);rw[Km (h n hn)]
def NW(qs:List (Addr×List Int)):List (Addr×List Nat):=qs.map λq=>(q.1,HoldNeutral.nats q.2)
def IT{qs:List (Addr×List Int)}{x:List Int}(h:qs.map (·.2)=[x]):∃a,qs=[(a,x)]:=by
 match qs,h with
 |[q],h=>
  have:q.2=x:=by simpa using h
  exact⟨q.1,by rw[<-this]⟩
def aax{qs:List (Addr×List Int)}{x y:List Int}(h:qs.map (·.2)=[x,y]):∃a b,qs=[(a,x),(b,y)]:=by
 match qs,h with
 |[q,r],h=>
  have:q.2=x/\r.2=y:=by simpa using h
  exact⟨q.1,r.1,by rw[<-this.1,<-this.2]⟩
def RK{qs:List (Addr×List Int)}(h:qs.map (·.2)=[]):qs=[]:=Ko.mp h
def oB{α:Type}{us:List α}(h:us.length=1):∃a,us=[a]:=match us,h with|[a],_=>⟨_,rfl⟩
def ln2{α:Type}{us:List α}(h:us.length=2):∃a b,us=[a,b]:=match us,h with|[a,b],_=>⟨_,_,rfl⟩
def FZ{α:Type}{us:List α}(h:us.length=3):∃a b c,us=[a,b,c]:=match us,h with|[a,b,c],_=>⟨_,_,_,rfl⟩
def U2{α:Type}{us:List α}(h:us.length=4):∃a b c d,us=[a,b,c,d]:=match us,h with|[a,b,c,d],_=>⟨_,_,_,_,rfl⟩
def U1{α:Type}{us:List α}(h:us.length=5):∃a b c d e,us=[a,b,c,d,e]:=match us,h with|[a,b,c,d,e],_=>⟨_,_,_,_,_,rfl⟩
def VX(h:PyWqaneo.shape p=some (n,k)):(p=0/\n=2/\k=2)\/(p=1/\n=1/\k=0)\/(p=2/\n=1/\k=0)\/(p=3/\n=1/\k=1)\/(p=4/\n=3/\k=1)\/(p=5/\n=1/\k=1)\/(p=6/\n=1/\k=1)\/(p=7/\n=1/\k=0)\/(p=8/\n=0/\k=1):=by
 unfold PyWqaneo.shape at h;repeat' split at h
 all_goals first|(cases h;done)|skip
 all_goals rename_i e;cases h;simp[e]
def PF{p:Int}{n k:Nat}{ns:List Int}{xs:List (List Int)}(hs:PyWqaneo.shape p=some (n,k))(hn:ns.length=n)(hk:xs.length=k){qs:List (Addr×List Int)}{c:FhF.Call}(h:HoldNeutral.callOf ((p::ns)::xs)=some c)(hq:qs.map (·.2)=xs):iB p (HoldNeutral.nats ns) (NW qs) c:=by
 rcases VX hs with⟨rfl,rfl,rfl⟩|⟨rfl,rfl,rfl⟩|⟨rfl,rfl,rfl⟩|⟨rfl,rfl,rfl⟩|⟨rfl,rfl,rfl⟩|⟨rfl,rfl,rfl⟩|⟨rfl,rfl,rfl⟩|⟨rfl,rfl,rfl⟩|⟨rfl,rfl,rfl⟩;.obtain⟨_,_,rfl⟩:=ln2 hn;obtain⟨_,_,rfl⟩:=ln2 hk;obtain⟨_,_,rfl⟩:=aax hq;cases h;exact .begin_ _ _ _ _ _ _
 .obtain⟨_,rfl⟩:=oB hn;obtain rfl:=List.eq_nil_of_length_eq_zero hk;obtain rfl:=RK hq;cases h;exact .value _
 .obtain⟨_,rfl⟩:=oB hn;obtain rfl:=List.eq_nil_of_length_eq_zero hk;obtain rfl:=RK hq;cases h;exact .small _
 .obtain⟨_,rfl⟩:=oB hn;obtain⟨_,rfl⟩:=oB hk;obtain⟨_,rfl⟩:=IT hq;cases h;exact .range _ _ _
 .obtain⟨_,_,_,rfl⟩:=FZ hn;obtain⟨_,rfl⟩:=oB hk;obtain⟨_,rfl⟩:=IT hq;cases h;exact .other _ _ _ _ _
 .obtain⟨_,rfl⟩:=oB hn;obtain⟨_,rfl⟩:=oB hk;obtain⟨_,rfl⟩:=IT hq;cases h;exact .safe _ _ _
 .obtain⟨_,rfl⟩:=oB hn;obtain⟨_,rfl⟩:=oB hk;obtain⟨_,rfl⟩:=IT hq;cases h;exact .thin _ _ _
 .obtain⟨_,rfl⟩:=oB hn;obtain rfl:=List.eq_nil_of_length_eq_zero hk;obtain rfl:=RK hq;cases h;exact .best _
 obtain rfl:=List.eq_nil_of_length_eq_zero hn;obtain⟨_,rfl⟩:=oB hk;obtain⟨_,rfl⟩:=IT hq;cases h;exact .text _ _
def LI{p:Int}{n k:Nat}{ns:List Int}{xs:List (List Int)}(hs:PyWqaneo.shape p=some (n,k))(hn:ns.length=n)(hk:xs.length=k):PyWqaneo.whole ((p::ns)::xs)=(p::ns)::xs:=by
 rcases VX hs with⟨rfl,rfl,rfl⟩|⟨rfl,rfl,rfl⟩|⟨rfl,rfl,rfl⟩|⟨rfl,rfl,rfl⟩|⟨rfl,rfl,rfl⟩|⟨rfl,rfl,rfl⟩|⟨rfl,rfl,rfl⟩|⟨rfl,rfl,rfl⟩|⟨rfl,rfl,rfl⟩;.obtain⟨_,_,rfl⟩:=ln2 hn;obtain⟨_,_,rfl⟩:=ln2 hk;rfl
 .obtain⟨_,rfl⟩:=oB hn;obtain rfl:=List.eq_nil_of_length_eq_zero hk;rfl
 .obtain⟨_,rfl⟩:=oB hn;obtain rfl:=List.eq_nil_of_length_eq_zero hk;rfl
 .obtain⟨_,rfl⟩:=oB hn;obtain⟨_,rfl⟩:=oB hk;rfl
 .obtain⟨_,_,_,rfl⟩:=FZ hn;obtain⟨_,rfl⟩:=oB hk;rfl
 .obtain⟨_,rfl⟩:=oB hn;obtain⟨_,rfl⟩:=oB hk;rfl
 .obtain⟨_,rfl⟩:=oB hn;obtain⟨_,rfl⟩:=oB hk;rfl
 .obtain⟨_,rfl⟩:=oB hn;obtain rfl:=List.eq_nil_of_length_eq_zero hk;rfl
 obtain rfl:=List.eq_nil_of_length_eq_zero hn;obtain⟨_,rfl⟩:=oB hk;rfl
theorem uS:∀{k:Nat}{r t:List Int}{xs:List (List Int)},PyFlat.rows k r=some (xs,t)->xs.length=k|0,r,t,xs,h=>by cases h;rfl|k+1,r,t,xs,h=>by have h:(match PyFlat.row r with|none=>none|some (x,s)=>match PyFlat.rows k s with|none=>none|some (xs,t)=>some (x::xs,t))=some (xs,t):=h;cases e:PyFlat.row r with|none=>rw[e]at h;cases h|some xs0=>obtain⟨x,s⟩:=xs0;rw[e]at h;dsimp only at h;cases e2:PyFlat.rows k s with|none=>rw[e2]at h;cases h|some y=>obtain⟨ys,t'⟩:=y;rw[e2]at h;cases h;rw[dr,uS e2]
def oR(h:FhF.few l=true):l.length<=300:=by unfold FhF.few at h;rw[dA]at h;exact cK h.1
def MZ(hc:iB p ms qs c)(h:FhF.asked c=true):∀q,q∈qs->q.2.length<=300:=by
 intro q hq;cases hc<;>simp only[FhF.asked,dA]at h<;>simp only[bE,J_,or_false]at hq
 .rcases hq with rfl|rfl;.exact oR h.2.2.1
  exact oR h.2.2.2
 .subst hq;exact oR h.2
 .subst hq;exact oR h.2.2.2
 .subst hq;exact oR h.2
 .subst hq;exact oR h.2
 subst hq;exact oR h
def LR{S:Addr->Prop}(A:iX S CH CT H h dx o)(hc:iB p ms qs c)(hq:∀q,q∈qs->q.2.length<=300):(HoldNeutral.told (FhF.step ⟨o⟩ c).2).length<=6000:=by
 have s0:∀z,(HoldNeutral.told (FhF.says z)).length<=6000:=λz=>by rw[Ba];show 1+0+0<=6000;omega
 rcases A with⟨rfl,_⟩|⟨R,C,cs,bs,a,r6,aA,aB,rfl,bg,_,_,_⟩
 .cases hc with
  |begin_ r c a b x y=>
   show(HoldNeutral.told (if _ then _ else _:FhF.State×FhF.Answer).2).length<=6000;split;.exact s0 _
   split;.exact s0 _
   exact s0 _
  |_=>exact s0 _
 have:=Qa bg hc hq;cases hc with
 |begin_ r c a b x y=>
  show(HoldNeutral.told (if _ then _ else _:FhF.State×FhF.Answer).2).length<=6000;split;.exact s0 _
  split;.exact s0 _
  exact s0 _
 |_=>exact this
def vK(h:PyFlat.calls PyWqaneo.shape f (p::r)=some cs):∃f' n k xs t pd,PyWqaneo.shape p=some (n,k)/\n<=r.length/\PyFlat.rows k (r.drop n)=some (xs,t)/\PyFlat.calls PyWqaneo.shape f' t=some pd/\cs=((p::r.take n)::xs)::pd:=by
 cases f with
 |zero=>cases h
 |succ f=>
  have h:(match PyFlat.call PyWqaneo.shape (p::r)with|none=>none|some (c,t)=>match PyFlat.calls PyWqaneo.shape f t with|none=>none|some cs=>some (c::cs))=some cs:=h;cases e:PyFlat.call PyWqaneo.shape (p::r)with
  |none=>rw[e]at h;cases h
  |some ct=>
   obtain⟨c,t⟩:=ct;rw[e]at h;dsimp only at h;cases e2:PyFlat.calls PyWqaneo.shape f t with
   |none=>rw[e2]at h;cases h
   |some pd=>
    rw[e2]at h;have h:=bZ h;have e:(match PyWqaneo.shape p with|none=>none|some (n,k)=>if r.length<n then none else match PyFlat.rows k (r.drop n)with|none=>none|some (xs,t)=>some ((p::r.take n)::xs,t))=some (c,t):=e;cases e3:PyWqaneo.shape p with
    |none=>rw[e3]at e;cases e
    |some nk=>
     obtain⟨n,k⟩:=nk;rw[e3]at e;dsimp only at e;by_cases c1:r.length<n;.rw[aw c1]at e;cases e
     rw[au c1]at e;cases e4:PyFlat.rows k (r.drop n)with
     |none=>rw[e4]at e;cases e
     |some xt=>
      obtain⟨xs,t'⟩:=xt;rw[e4]at e;have e:=bZ e;injection e with ea eb
      subst ea eb;exact⟨f,n,k,xs,t',pd,rfl,by omega,e4,e2,h.symm⟩
def xN(h:PyFlat.calls PyWqaneo.shape f []=some cs):cs=[]:=by cases f<;>(cases h;rfl)
theorem rL:∀{cs:List (List (List Int))}{f:Nat}{l:List Int},PyFlat.calls PyWqaneo.shape f l=some cs->cs.map PyWqaneo.whole=cs
 |[],_,_,_=>rfl
 |c::cs,f,l,h=>by
  cases l with
  |nil=>cases xN h
  |cons p r=>
   obtain⟨f',n,k,xs,t,pd,Ga,hn,wM,R5,e⟩:=vK h;injection e with e1 e2
   subst e1 e2;rw[cV,rL R5,LI Ga (by rw[gT];omega) (uS wM)]
end Wh
end
section
namespace Wh
open PySem PySem.Spec PyProof.Rows L2
open FhHold (Tab)
def HW(K:PySem.W.Frag)(Pt:Addr)(vs:List V)(H:Hp)(Q:VK)(aQ:Addr)(ns:List Int):Prop:=vs=[.ref aQ]/\bp K H aQ (ns.map V.int)/\PyWqaneo.answers_asked ns=true/\gY H Pt jt iC/\∀(H':Hp)(l:Addr),jA Pt H H'->H l=none->H' l=some (.lst ((PyWqaneo.answers ns).map V.int))->Q (.ref l) H'
def nv(K:PySem.W.Frag)(Pt:Addr):Sp:=λvs H Q _=>∃aQ ns,HW K Pt vs H Q aQ ns
def uV{CR CH dx dy aQ:Addr}{pos:Int}{v:V}:HO.ins CH dy (lO v)≠HO.ins CR dx (Af aQ pos):=λz=>by
 injection z with _ _ z
 have:=congrArg List.length z;exact absurd this (by show ¬(1=2);decide)
def He{CR CT dx dy aQ aA aB:Addr}{pos:Int}{R C:Nat}:HO.ins CT dy (ji R C aA aB)≠HO.ins CR dx (Af aQ pos):=λz=>by
 injection z with _ _ z
 have:=congrArg List.length z;exact absurd this (by show ¬(4=2);decide)
def iX.rd{S:Addr->Prop}{CH CT CR h dx a Iq aQ:Addr}{pos:Int}{H H':Hp}{o:Option Tab}(A:iX S CH CT H h dx o)(b:oC a H H')(hr:H a=some (.ins CR Iq (Af aQ pos))):iX S CH CT H' h dx o:=by
 rcases A with⟨e0,e⟩|⟨R,C,cs,bs,t,r6,aA,aB,e0,bg,sA,e,T⟩;.exact .inl ⟨e0,b _ _ e (aI e hr uV)⟩
 exact .inr ⟨R,C,cs,bs,t,r6,aA,aB,e0,bg,sA,b _ _ e (aI e hr uV),b _ _ T.ins (aI T.ins hr He),b _ _ T.hA (aI T.hA hr (by intro z;cases z)),b _ _ T.hB (aI T.hB hr (by intro z;cases z))⟩
def iX.off(A:iX (·≠tl) CH CT H h dx o)(ht:H tl=some (.lst xs)):iX (·≠tl) CH CT (upd H tl (.lst ys)) h dx o:=by
 rcases A with⟨e0,e⟩|⟨R,C,cs,bs,t,r6,aA,aB,e0,bg,sA,e,T⟩;.exact .inl ⟨e0,by rw[ah (aI e ht (by intro z;cases z))];exact e⟩
 exact .inr ⟨R,C,cs,bs,t,r6,aA,aB,e0,bg,sA,by rw[ah (aI e ht (by intro z;cases z))];exact e,by rw[ah (aI T.ins ht (by intro z;cases z))];exact T.ins,by rw[ah sA];exact T.hA,by rw[ah (aI T.hB ht (by intro z;cases z))];exact T.hB⟩
def Ox{K:PySem.W.Frag}{H H':Hp}{Pt q:Addr}{ps:Array Value}{xs:List V}(h:jA Pt H H')(ha:H Pt=some (.vW ps))(s:bp K H q xs):bp K H' q xs:=by
 rcases s with(e|⟨o,e⟩)|e;.exact .inl (.inl (h _ _ e (aI e ha (by intro z;cases z))))
 .exact .inl (.inr ⟨o,h _ _ e (aI e ha (by intro z;cases z))⟩)
 exact .inr e
def wX(outs:List (List Int))(a:List Int):PyFlat.told (outs++[a])=PyFlat.told outs++((a.length:Int)::a):=by unfold PyFlat.told;rw[tw];simp
section
variable {P:Program} {w:World} {K:PySem.W.Frag} {mg:Str->Option Value} {base:Heap}
def wH:aM ["calls","reader","holder","told","call","answer"] ["calls"] (ax RA):=⟨rfl,rfl,rfl,by decide +kernel,rfl,by decide +kernel,by decide +kernel⟩
def D9{f fI fM fC fH fA CR CH CT Pt:Addr}{fd x9 Ip IJ wB UA:FuncData}(F:gE K "answers" "answers" RA f fd)(TR:Rm K mg CR)(TH:VF K CH)(UZ:mg "CallReader"=some (.ref CR))(MR:Mk K CR fI)(GI:ay P w K mg base bu 1 fI x9 ["self","calls"] (zx CR K))(bI:Binds K x9 ["self","calls"] [])(mgH:mg "Holder"=some (.ref CH))(MH:Mk K CH fH)(GH:ay P w K mg base bu 1 fH wB ["self"] (zA CH CT))(bH:Binds K wB ["self"] [])(GM:ay P w K mg base bu 1 fM Ip ["self"] (Ds CR K))(bM:Binds K Ip ["self"] [])(mM:cU K CR "has_more" fM)(GC:ay P w K mg base bu 3 fC IJ ["self"] (Dx CR K))(bC:Binds K IJ ["self"] [])(mC:cU K CR "read_call" fC)(GA:ay P w K mg base bu 12 fA UA ["self","call","numbers","lists"] (Dv CH CT Pt))(bA:Binds K UA ["self","call","numbers","lists"] [])(mA:cU K CH "answer" fA):ay P w K mg base bu 13 f fd ["calls"] (nv K Pt):=by
 refine iU F wH λvs H Q E h=>?_;obtain⟨aQ,ns,rfl,hQ,qd,tok,k⟩:=h;refine⟨rfl,λ_ _ _ _ hr=>?_⟩;refine⟨_,aj (bh (i:=1) wH.nd rfl (Or.inl rfl) (ni MR GI (hr.mono (by decide)) rfl UZ bI .nil aR (ag (pv 0) ao))) (aj (bh (i:=2) wH.nd rfl (Or.inl rfl) (L6 MH GH (hr.mono (by decide)) rfl mgH bH .nil aR)) (aj (bh (i:=3) wH.nd rfl (Or.inl rfl) (bK ao)) (aj (mi PassesOwn.never (dj (gZ (pv 1) TR.cl mM GM (hr.mono (by decide)) bM .nil aR)) (aj (bh (i:=4) wH.nd rfl (Or.inl rfl) (gZ (pv 1) TR.cl mC GC (hr.mono (by decide)) bC .nil aR)) (aj (bh (i:=5) wH.nd rfl (Or.inl rfl) (aV (pv 2) TH.cl mA GA hr bA .nil aR (ag (bF lZ (pv 4) aU (λ_ _=>rfl)) (ag (bF lZ (pv 4) aU (λ_ _=>rfl)) (ag (bF lZ (pv 4) aU (λ_ _=>rfl)) ao))))) (aj (cA (i7 i6 lL lM fg (pv 3) (ag (dS dF (by rfl) TR.len oh (ag (pv 5) ao)) ao))) (aq (cA (i7 i6 Df Dg qP (pv 3) (ag (pv 5) ao)))))))) (aq (aH (pv 3)))))),?_⟩;unfold PyWqaneo.answers_asked at qd;cases Ja:PyFlat.calls PyWqaneo.shape ns.length ns with|none=>rw[Ja]at qd;cases qd|some raw=>
 rw[Ja]at qd;dsimp only at qd;rw[dA,dA]at qd;obtain⟨⟨q1,_⟩,q2⟩:=qd;have Wm:raw.map PyWqaneo.whole=raw:=rL Ja;rw[Wm]at q2;have abD:raw.length<=300:=cK q1;unfold HoldNeutral.asked at q2;rw[dA,jR]at q2;have lH:=q2.2;have abj:PyWqaneo.answers ns=PyFlat.told (PyFlat.played HoldNeutral.step HoldNeutral.start raw):=by unfold PyWqaneo.answers PyWqaneo.calls;rw[Ja];dsimp only;rw[Wm]
 rw[abj]at k;obtain⟨ps,Cb⟩:=tok.some;refine⟨_,rfl,λrd Iq Uo aa6 ndR=>?_⟩;have kR:∀y u,H y=some u->upd (upd H Iq (.own rd)) rd (.ins CR Iq []) y=some u:=λy u e=>by rw[ah (aa e Uo),ah (aa e aa6)];exact e
 refine⟨rd,Iq,aQ,ns,rfl,ai,?_,λH1 b1 R1=>⟨rfl,?_⟩⟩;.exact(show aY H _ from kR).seq hQ
 have s1:aY H H1:=λy u e=>b1 _ _ (kR y u e) (aa e Uo);refine λhd UE Ar aa7 ndH=>?_;have kH:∀y u,H1 y=some u->upd (upd H1 UE (.own hd)) hd (.ins CH UE []) y=some u:=λy u e=>by rw[ah (aa e Ar),ah (aa e aa7)];exact e
 refine⟨hd,UE,rfl,ai,λH2 b2 A2=>⟨rfl,?_⟩⟩;have s2:aY H1 H2:=λy u e=>b2 _ _ (kH y u e) (aa e Ar);refine⟨dW _,λtl Ig=>?_⟩;have s3:=cH H2 tl (.lst []) Ig;have UN:aY H (upd H2 tl (.lst [])):=(s1.trans s2).trans s3;have R3:qf CR K (upd H2 tl (.lst [])) rd Iq aQ ns 0:=⟨s3 _ _ (s2 _ _ R1.ins),(s2.trans s3).seq R1.sq⟩;have fT:H tl=none:=(s1.trans s2).free Ig;have fH:H hd=none:=s1.free Ar;refine⟨λm σ H'=>∃(v4 v5:Option V)(pos f:Nat)(st:FhF.State)(cs:List (List (List Int)))(outs:List (List Int)),m=cs.length/\σ=[some (.ref aQ),some (.ref rd),some (.ref hd),some (.ref tl),v4,v5]/\jA Pt H H'/\gY H' Pt jt iC/\qf CR K H' rd Iq aQ ns pos/\iX (·≠tl) CH CT H' hd UE st.tab/\H' tl=some (.lst ((PyFlat.told outs).map V.int))/\PyFlat.calls PyWqaneo.shape f (ns.drop pos)=some cs/\(∀c,c∈cs->HoldNeutral.isAsked c=true)/\outs++PyFlat.played HoldNeutral.step st cs=PyFlat.played HoldNeutral.step HoldNeutral.start raw/\(PyFlat.told outs).length+6001*cs.length<=6001*300,⟨_,none,none,0,ns.length,HoldNeutral.start,raw,[],rfl,rfl,aY.rP UN,tok.same UN,R3,(A2 _).same s3,ai,Ja,lH,rfl,by show 0+6001*raw.length<=_;omega⟩,?_⟩;rintro m σ H7 ⟨v4,v5,pos,f,st,cs,outs,rfl,rfl,Qq,Gm,R7,A7,RP,IE,QF,Ob,hlen⟩;refine⟨_,rfl,rd,Iq,_,rfl,R7.ins,OK,rd,Iq,aQ,ns,pos,rfl,R7,_,rfl,eu (λc=>?_) (λc=>?_)⟩
 .have c:(pos:Int)<(ns.length:Int):=cK c;have hp:pos<ns.length:=by omega
  refine⟨_,fun σ' H' h=>h,?_⟩;obtain⟨p,r,hdr⟩:∃p r,ns.drop pos=p::r:=⟨ns[pos],ns.drop (pos+1),tJ hp⟩;rw[hdr]at IE;obtain⟨f',n,kk,xs,t,pd,Ga,hn,wM,R5,rfl⟩:=vK IE;refine⟨_,rfl,rd,Iq,_,rfl,R7.ins,OM,rd,Iq,aQ,ns,pos,p,r,t,n,kk,xs,rfl,R7,hdr,Ga,hn,wM,λH8 tp l1 l2 qs pos' b8 rX R8 hd8 RO Aq hls Nz hqf=>?_⟩;have qd:=QF _ (cF ..);unfold HoldNeutral.isAsked at qd;rw[dA,dA]at qd;obtain⟨Wk,_,wO⟩:=qd;cases EV:HoldNeutral.callOf ((p::r.take n)::xs)with|none=>rw[EV]at wO;cases wO|some c=>
  rw[EV]at wO;have wO:FhF.asked c=true:=wO;have Rf:=PF Ga (by rw[gT];omega) (uS wM) EV Nz;have hle:=MZ Rf wO;rw[jR]at Wk;have hnn:∀x,x∈(p::r.take n)::xs->∀z,z∈x->0<=z:=λx hx z hz=>cK (jR.mp (Wk x hx) z hz);have hn1:H8 l1=some (.lst ((HoldNeutral.nats (r.take n)).map nV)):=by rw[Aq,Fm λz hz=>hnn _ (cF ..) z (dR _ hz)]
  have hq8:∀q,q∈NW qs->H8 q.1=some (.lst (q.2.map nV))/\q.2.length<=300:=λq hq=>by
   refine⟨?_,hle q hq⟩;obtain⟨q0,Ij,rfl⟩:=br.mp hq;have:q0.2∈xs:=by rw[<-Nz];exact lx (f:=λx:Addr×List Int=>x.2) Ij
   show H8 q0.1=some (.lst ((HoldNeutral.nats q0.2).map nV));rw[hls.2 q0 Ij,Fm λz hz=>hnn _ (dR _ this) z hz]
  have aa0:H8 l2=some (.lst ((NW qs).map λq=>V.ref q.1)):=by rw[hls.1];unfold NW;rw[cQ];rfl
  obtain⟨ps7,R6⟩:=Gm.some;have nPr:Pt≠rd:=aI R6 R7.ins (by intro z;cases z);have Gk:gY H8 Pt jt iC:=by
   rcases Gm with e|⟨c',e,e2⟩;.exact .inl (b8 _ _ e nPr)
   exact .inr ⟨c',b8 _ _ e nPr,b8 _ _ e2 (aI e2 R7.ins (by intro z;cases z))⟩
  have A8:=A7.rd b8 R7.ins;have IW:H8 tl=some (.lst ((PyFlat.told outs).map V.int)):=b8 _ _ RP (aI RP R7.ins (by intro z;cases z));have Nm:jA Pt H H8:=λb u e nb=>b8 _ _ (Qq _ _ e nb) (aa e Uo);obtain⟨vh,ZU⟩:=A8.ins;refine⟨_,rfl,hd,UE,_,rfl,ZU,HG,_,rfl,tp,_,_,_,rfl,rfl,qb.of RO,rfl,_,rfl,tp,_,_,_,rfl,rfl,qb.of RO,rfl,_,rfl,tp,_,_,_,rfl,rfl,qb.of RO,rfl,(·≠tl),hd,UE,l1,l2,st.tab,p,_,_,c,rfl,(λy hy z=>by rw[z,IW]at hy;cases hy),A8,Gk,hn1,aa0,hq8,Rf,λH9 l b9 aad Vc A9 h9=>?_⟩;obtain⟨ps8,Wt⟩:=Gk.some;have Cf:H9 tl=some (.lst ((PyFlat.told outs).map V.int)):=b9 _ _ IW (aI IW ZU (by intro z;cases z)) (aI IW Wt (by intro z;cases z));have Ib:l≠tl:=λz=>by rw[z,IW]at Vc;cases Vc
  have bt9:jA Pt H H9:=λb u e nb=>b9 _ _ (Nm _ _ e nb) (aa e fH) nb;have hr9:H9 rd=some (.ins CR Iq (Af aQ (pos':Int))):=b9 _ _ R8.ins (aI ZU R8.ins uV).symm (aI R8.ins Wt (by intro z;cases z));obtain⟨out,Sd⟩:∃out,out=HoldNeutral.told (FhF.step st c).2:=⟨_,rfl⟩;have h9:H9 l=some (.lst (out.map V.int)):=by rw[Sd];exact h9
  have abB:out.length<=6000:=by rw[Sd];exact LR A7 Rf λq hq=>hle q hq
  have Xv:HoldNeutral.step st ((p::r.take n)::xs)=((FhF.step st c).1,out):=by unfold HoldNeutral.step;rw[EV,Sd]
  have abw:(PyFlat.told outs).length+6001*(pd.length+1)<=6001*300:=hlen;refine⟨_,rfl,.inl ⟨rfl,_,bp.of Cf⟩,_,rfl,l,_,rfl,.inl (bp.of h9),tl,_,_,rfl,rfl,Cf,?_,?_⟩;.rw[aE];exact gq (by omega:_<6001*300) (by decide)
  refine⟨_,rfl,.inl ⟨rfl,_,bp.of ai⟩,_,rfl,tl,l,_,_,rfl,rfl,ai,(by rw[ah Ib];exact h9),?_,?_⟩;.rw[dC,aE,aE];exact cB (by show(PyFlat.told outs).length+1+out.length<=6001*300;omega) (by decide)
  have keep:∀(X Y:List V)b u,H9 b=some u->b≠tl->upd (upd H9 tl (.lst X)) tl (.lst Y) b=some u:=λX Y b u e nb=>by rw[ah nb,ah nb];exact e
  have nrt:rd≠tl:=aI hr9 Cf (by intro z;cases z);have WB:∀(X Y:List V),jA Pt H (upd (upd H9 tl (.lst X)) tl (.lst Y)):=λX Y b u e nb=>keep X Y _ _ (bt9 _ _ e nb) (aa e fT);refine⟨pd.length,yF _,_,_,pos',f',(FhF.step st c).1,pd,outs++[out],rfl,rfl,WB _ _,?_,⟨keep _ _ _ _ hr9 nrt,Ox (WB _ _) Cb hQ⟩,(A9.off Cf).off ai,?_,by rw[hd8];exact R5,λc hc=>QF c (dR _ hc),?_,?_⟩
  .rcases aad with e|⟨c',e,e2⟩;.exact .inl (keep _ _ _ _ e (aI e Cf (by intro z;cases z)))
   exact .inr ⟨c',keep _ _ _ _ e (aI e Cf (by intro z;cases z)),keep _ _ _ _ e2 (aI e2 Cf (by intro z;cases z))⟩
  .rw[ai,wX,cR,cV,aE,jS];rfl
  .rw[jS,<-Ob];show outs++([out]++PyFlat.played HoldNeutral.step (FhF.step st c).1 pd)=outs++((HoldNeutral.step st ((p::r.take n)::xs)).2::PyFlat.played HoldNeutral.step (HoldNeutral.step st ((p::r.take n)::xs)).1 pd);rw[Xv];rfl
  rw[wX,dC,dr];omega
 have c:¬(pos:Int)<(ns.length:Int):=λq=>c (bq q);have hp:ns.length<=pos:=by omega
 rw[List.drop_eq_nil_of_le hp]at IE;obtain rfl:=xN IE;refine⟨_,rfl,k H7 tl Qq fT ?_⟩;rw[RP,<-Ob];show some (HO.lst ((PyFlat.told outs).map V.int))=some (HO.lst ((PyFlat.told (outs++[])).map V.int));rw[iG]
end
end Wh
end
section
namespace Wh
open PySem PySem.Spec PyProof.Rows L2
open PySem.W (WData Codec OpenSpec Well WellAll ReadsW ReadsAllW)
def Tx{P:Program}{w:World}{K:PySem.W.Frag}{mg mb:Str->Option Value}{CX:Nq}{k:Nat}{fa Pt:Addr}{fd:FuncData}{ps:List Str}{sp:Sp}{s₁:Shared}{vals:List Value}{ds:List WData}{R:PySem.W.WRecords}{cl:Str->Option Addr}{d0:WData}(KX:K.In s₁.heap)(Ap:s₁.heap.Ns mainGlobals mg)(hb:s₁.heap.Ns builtinsNs mb)(hbb:∀x:Str,x≠"__name__"->mb x=bootBuiltins x)(aaY:s₁.heap.NoLimit)(hg:s₁.gens=#[])(Cb:s₁.heap.get? Pt=some (PySem.W.tabObj #[]))(hct:isCodeTable s₁.heap Pt)(Yv:K.lookup Pt=none)(Yt:∃bm ob,mg "__builtins__"=some (.ref bm)/\bm≠builtinsNs/\s₁.heap.get? bm=some ob/\ob.cls=.type "module"/\ob.dict=some builtinsNs/\ob.data=.plain)(U8:WellAll w.params s₁.heap vals ds)(iF:rN ds=true)(hwt:∀d∈ds,d.weight<=1048576)(hr:eY k callerA)(F:∀base:Heap,K.In base->base.Ns mainGlobals mg->Ro mg base->ay P w K mg base CX k fa fd ps sp)(Xu:L2.Binds K fd ps [])(hlen:ds.length=ps.length)(F_:∀(H:Hp)(xs:List V),lQ K H xs ds->H Pt=none->sp xs (upd H Pt (.vW #[])) (λv H'=>Dw K H' v d0) λ_ _ _=>False)(hCX:∀H e s',CX [] H s₁ (λ_ _ _=>False) e s'->False):codeAny (model P w) callerA (.call (.ref fa) ⟨vals,[]⟩) (λr s'=>∃u as,r=.ok (.ret u)/\ReadsW R cl s'.heap u d0 as/\OldK s₁.heap s'.heap/\s'.os=s₁.os/\AllBare s'.gens) s₁:=by
 obtain⟨A,ho,ar⟩:=pW ds vals U8 iF hwt;have hO:QO (kh K s₁.heap A):=HZ ar;have dg:lE P w (kh K s₁.heap A) s₁.heap:=P_ ar;have hS:=zj KX ar ds vals U8 iF ho;have hV:=jW ho;have hK:∀b u,kh K s₁.heap A b=some u->K.lookup b=none:=λb u q=>(sL ar q).1;have UR:∀{b:Addr}{o:Obj},s₁.heap.get? b=some o->(∀vs n,o.data≠.seq vs n)->kh K s₁.heap A b=none:=fun {b o} e d=>by
  cases q:kh K s₁.heap A b with
  |none=>rfl
  |some u=>
   obtain⟨_,vs,_,_,⟨e2,_⟩|⟨e2,_⟩⟩:=sL ar q;.rw[e2]at e;cases e;exact absurd rfl (d _ _)
   rw[e2]at e;cases e;exact absurd rfl (d _ _)
 obtain⟨H0,eH0⟩:∃H0,H0=kh K s₁.heap A:=⟨_,rfl⟩;rw[<-eH0]at hO dg hS hK;have UR:∀{b:Addr}{o:Obj},s₁.heap.get? b=some o->(∀vs n,o.data≠.seq vs n)->H0 b=none:=λe d=>by rw[eH0];exact UR e d
 have hP0:H0 Pt=none:=UR Cb (by intro vs n z;cases z);obtain⟨H,eH⟩:∃H,H=upd H0 Pt (.vW #[]):=⟨_,rfl⟩;have sH:aY H0 H:=by rw[eH];exact cH _ _ _ hP0
 have hHP:H Pt=some (.vW #[]):=by rw[eH,ai]
 have Yw:∀{b},H0 b=none->b≠Pt->H b=none:=λe n=>by rw[eH,ah n];exact e
 have aaU:lE P w H s₁.heap:=by
  intro b u e;by_cases q:b=Pt;.subst q;rw[hHP]at e;cases e;exact Cb
  rw[eH,ah q]at e;exact(dg b u e).n_ (λc v _ z=>z) (λc z=>sH _ _ z) λc xs z=>sH _ _ z
 have zU:∀{b:Addr}{o:Obj},s₁.heap.get? b=some o->H b=none->(wg s₁.heap H).get? b=some o:=λe n=>MC e n;have UT:∀{b:Addr}{o:Obj},s₁.heap.get? b=some o->o≠PySem.W.tabObj #[]->b≠Pt:=λe n z=>by rw[z,Cb]at e;exact n (bZ e).symm
 have X7:∀{b:Addr}{m:Str->Option Value},s₁.heap.Ns b m->(wg s₁.heap H).Ns b m:=fun {b m} ⟨o,es,ep,e,d,r⟩=>⟨o,es,ep,zU e (Yw (UR e (by rw[d];intro _ _ z;cases z)) (UT e (by intro z;rw[z]at d;cases d))),d,r⟩;have nK:∀b o,K.lookup b=some o->H b=none:=λb o e=>by
  have n0:H0 b=none:=by cases q:H0 b with|none=>rfl|some u=>rw[hK b u q]at e;cases e
  exact Yw n0 (λz=>by rw[z,Yv]at e;cases e)
 have hKb:K.In (wg s₁.heap H):=λb o e=>zU (KX b o e) (nK b o e);have hM:Mod K mg (wg s₁.heap H):=⟨hKb,X7 Ap,⟨mb,X7 hb,hbb⟩,let⟨mc,h1,h2⟩:=aaY;⟨mc,X7 h1,h2⟩⟩;have hB:Ro mg (wg s₁.heap H):=by obtain⟨bm,ob,h1,h2,h3,h4,h5,h6⟩:=Yt;exact⟨bm,ob,h1,h2,zU h3 (Yw (UR h3 (by rw[h6];intro _ _ z;cases z)) (UT h3 (by intro z;rw[z]at h6;cases h6))),h4,h5,h6⟩
 have e0:rS P w K mg (wg s₁.heap H) callerA [] s₁ H:=⟨rfl,hM,λb o e=>Pd e,yp (HF _ _),trivial,λb hb=>absurd (show b∈([]:List Addr)from hb) (by simp),aaU,.of_eq hg⟩;have hl:vals.length=ps.length:=by rw[jK U8];exact hlen
 have hbd:=Xu s₁ vals KX (by rw[iG];exact hl);rw[iG]at hbd;have Wj:=F_ H0 _ hS hP0;rw[<-eH]at Wj;refine tT ((F _ hKb (X7 Ap) hB).run callerA [] s₁ H ⟨vals,[]⟩ vals (vals.map toV) _ _ hr e0 hbd hV Wj) λr s' x=>?_;cases r with
 |error e=>exact(hCX H e s' x).elim
 |ok fl=>
  cases fl with
  |next=>exact False.elim x
  |brk=>exact False.elim x
  |cont=>exact False.elim x
  |ret u=>
   obtain⟨v,H',os,bare,un,RT,r',q⟩:=x;have kept:∀b o,b≠Pt->s₁.heap.get? b=some o->s'.heap.get? b=some o:=λb o nb e=>by
    cases q2:H0 b with
    |none=>exact un.keep b o e (Yw q2 nb) (by intro z;exact absurd (show b∈([]:List Addr)from z) (by simp)) (by simp)
    |some u2=>
     rcases hO b with z|⟨ob,u3,z⟩;.rw[q2]at z;cases z
     have z1:=sH _ _ z;have z2:=un.sY b ob _ z1;obtain⟨e1,_⟩:=dg b _ z;obtain⟨e2,_⟩:=RT b _ z2;rw[e]at e1;cases e1;exact e2
   have KX':K.In s'.heap:=λb o e=>kept b o (λz=>by rw[z,Yv]at e;cases e) (KX b o e);obtain⟨as,Uo⟩:=Dw.reads (R:=R) (cl:=cl) RT KX' d0 v u q r';obtain⟨more,Xp⟩:=un.wc Pt _ hHP;have gP:s'.heap.get? Pt=some {cls:=.none,data:=.fields (#[]++more)}:=RT Pt _ Xp;refine⟨u,as,rfl,Uo,⟨λb o e=>?_,λb o e=>?_⟩,os,bare⟩
   .by_cases nb:b=Pt;.subst nb;rw[Cb]at e;cases e;exact .inr (.inl ⟨hct,rfl,#[],more,rfl,gP⟩)
    exact .inl (kept b o nb e)
   by_cases nb:b=Pt;.subst nb;exact⟨_,gP⟩
   exact⟨o,kept b o nb e⟩
def LN{K:PySem.W.Frag}{x:Str}{f c P:Addr}{oc oc2:Value}{od od2:Option Addr}{fd:FuncData}{sl sl2:Array (Option Value)}{vs:Array Value}(a:PySem.W.nsIn K mainGlobals x=some (some (.ref f)))(l:K.lookup f=some ⟨oc,od,.func fd,sl⟩)(hc:fd.code=.ref c)(lc:K.lookup c=some ⟨oc2,od2,.fields vs,sl2⟩)(h:vs[11]?=some (.ref P)):PySem.W.tabIn K x=some (c,P):=by unfold PySem.W.tabIn;rw[a];dsimp only;rw[l];dsimp only;rw[hc];dsimp only;rw[lc];dsimp only;rw[h]
def Su{r:OpenSpec}{k:Nat}{q:Program}{loose:List Str}{XP:(Str->Option Value)->Heap->Prop}{YP:World->Heap->Prop}{d dB:DefRec}{K:Params->PySem.W.Frag}{ps:List Str}{sp:PySem.W.Frag->Addr->Sp}{x:Str}{Ct Pt:Addr}(Xn:r.wellSaid=true)(hdf:d.params.defaults=[])(hlen:r.args.length=ps.length)(hr:eY k callerA)(hY:∀(w:World)(h:Heap),YP w h->(K w.params).In h)(Oa:(PyProof.Rows.recsOf q).find? (λe=>e.name==x)=some dB)(aaJ:∀w:World,PySem.W.tabIn (K w.params) x=some (Ct,Pt))(Yv:∀w:World,(K w.params).lookup Pt=none)(F:∀(w:World)(mg:Str->Option Value)(fa:Addr)(h:Heap),YP w h->(K w.params).In h->h.Ns mainGlobals mg->mg d.name=some (.ref fa)->∃fd:FuncData,L2.Binds (K w.params) fd ps []/\∀base:Heap,(K w.params).In base->base.Ns mainGlobals mg->Ro mg base->ay r.prog w (K w.params) mg base bu k fa fd ps (sp (K w.params) Pt))(F_:∀(K:PySem.W.Frag)(P:Addr)(H:Hp)(xs:List V)(a:Codec.denoteAll r.args),Codec.withinAll r.args a=true->Codec.app r.args r.asked a=true->lQ K H xs (Codec.encAll r.args a)->H P=none->sp K P xs (upd H P (.vW #[])) (λv H'=>Dw K H' v (r.ret.enc (Codec.app r.args r.f a))) λ_ _ _=>False):PySem.W.WalkOS q loose XP YP r d [] (λf vs=>PySem.call f vs):=by
 intro w sP s₁ mg mb G Y fa o pm cd doc dV kV ho hd As hD ZY hg args vals as aaR aaZ Uo U8 wz;obtain⟨a,e1,e2⟩:=PySem.W.os_pre_some aaR;obtain⟨e3,ZT⟩:=Codec.encAll_of_decAll r.args args a e1;subst e3;have KX:=hY w _ Y;obtain⟨fd,hb,hF⟩:=F w mg fa _ Y KX G.T.g ZY;obtain⟨hc,Cb⟩:=PySem.W.tab_of G.T KX Oa (aaJ w);have hct:isCodeTable s₁.heap Pt:=by obtain⟨o,vs,file,tf,flags,tg,inF,text,tt,c1,c2,c3,c4,_⟩:=hc;exact⟨_,o,vs,c1,c2,c3,c4⟩
 refine PySem.W.enter_call (tT (Tx (R:=[]) (cl:=classAt sP.heap) (d0:=r.ret.enc (Codec.app r.args r.f a)) KX G.T.g G.T.b G.T.builtins G.T.nolimit hg Cb hct (Yv w) G.T.bmain U8 (xf _ _) (vO aaZ) hr hF hb (by rw[vH];exact hlen) (λH xs hS hP=>F_ _ _ H xs a ZT e2 hS hP) λH e s' z=>z) λr' s' hq=>?_);obtain⟨u,as',rfl,h1,h2,h3,h4⟩:=hq;exact⟨.inl ⟨u,_,as',rfl,λ_=>rfl,h1,(OpenSpec.post_iff Xn ZT _ _).mpr rfl,λz=>Bool.noConfusion (show false=true from z)⟩,h2,h3,h4⟩
end Wh
end
section
namespace Wh
open PySem PySem.Spec PyProof.Rows L2
section
variable {K:PySem.W.Frag}
structure FM (K:PySem.W.Frag) (C:Addr) (m qual:Str) (st:Stmt) (f:Addr) (fd:FuncData):Prop where
  me:cU K C m f
  fu:gE K m qual st f fd
structure FG (K:PySem.W.Frag) (x:Str) (st:Stmt) (f:Addr) (fd:FuncData):Prop where
  gl:PySem.W.nsIn K mainGlobals x=some (some (.ref f))
  fu:gE K x x st f fd
structure CL (K:PySem.W.Frag) (x:Str) (C:Addr):Prop where
  gl:PySem.W.nsIn K mainGlobals x=some (some (.ref C))
  cl:B9 K C
  Q3:PySem.W.makesIn K C=true
  kp:PySem.W.keepIn K (.ref C)=true
def dD{C f:Addr}{m qual:Str}{st:Stmt}{oc:Value}{od an:Option Addr}{FX:Array (Option Value)}{kV doc pm k_ ct:Value}(a:PySem.W.findIn K (.ref C) m=some (some (.ref f)))(i:PySem.W.isFn K (.ref f)=true)(l:K.lookup f=some ⟨oc,od,.func (PySem.W.fnOf m qual (jH st) (h_ st) (ax st) .none kV doc pm an k_ ct),FX⟩)(c:PySem.W.codeIn K k_ qual=true)(k:PySem.W.keepIn K (.ref f)=true):FM K C m qual st f (PySem.W.fnOf m qual (jH st) (h_ st) (ax st) .none kV doc pm an k_ ct):=⟨⟨a,i,k⟩,Lu l c k⟩
def i8{f:Addr}{x:Str}{st:Stmt}{oc:Value}{od an:Option Addr}{FX:Array (Option Value)}{kV doc pm k_ ct:Value}(a:PySem.W.nsIn K mainGlobals x=some (some (.ref f)))(l:K.lookup f=some ⟨oc,od,.func (PySem.W.fnOf x x (jH st) (h_ st) (ax st) .none kV doc pm an k_ ct),FX⟩)(c:PySem.W.codeIn K k_ x=true)(k:PySem.W.keepIn K (.ref f)=true):FG K x st f (PySem.W.fnOf x x (jH st) (h_ st) (ax st) .none kV doc pm an k_ ct):=⟨a,Lu l c k⟩
def AX(a:PySem.W.nsIn K mainGlobals x=some (some (.ref C)))(pg:PySem.W.plainGet K C Str.empty=true)(hd:PySem.W.hasDictIn K C=true)(po:PySem.W.plainOver K C=true)(sa:PySem.W.findIn K (.ref C) "__setattr__"=some (some (.builtin "object.__setattr__")))(mk:PySem.W.makesIn K C=true)(kc:PySem.W.keepIn K (.ref C)=true):CL K x C:=⟨a,⟨pg,hd,po,sa⟩,mk,kc⟩
end
def SG{K:PySem.W.Frag}{mg:Str->Option Value}{h:Heap}{aD:Addr}(X:K.In h)(G:h.Ns mainGlobals mg){ep:Nat}{t0 u0 v0:Tok}{a0:Addr}{d0:Option Addr}{s0:Array (Option Value)}{n0:Nat}{t1 u1 v1:Tok}{a1:Addr}{d1:Option Addr}{s1:Array (Option Value)}{n1:Nat}{t2 u2 v2:Tok}{a2:Addr}{d2:Option Addr}{s2:Array (Option Value)}{n2:Nat}{t3 u3 v3:Tok}{a3:Addr}{d3:Option Addr}{s3:Array (Option Value)}{n3:Nat}{t4 u4 v4:Tok}{a4:Addr}{d4:Option Addr}{s4:Array (Option Value)}{n4:Nat}{t5 u5 v5:Tok}{a5:Addr}{d5:Option Addr}{s5:Array (Option Value)}{n5:Nat}{t6 u6 v6:Tok}{a6:Addr}{d6:Option Addr}{s6:Array (Option Value)}{n6:Nat}{t7 u7 v7:Tok}{a7:Addr}{d7:Option Addr}{s7:Array (Option Value)}{n7:Nat}{t8 u8 v8:Tok}{a8:Addr}{d8:Option Addr}{s8:Array (Option Value)}{n8:Nat}(a:PySem.W.nsIn K mainGlobals "SHAPES"=some (some (.ref aD)))(d:K.lookup aD=some ⟨.type "dict",none,.dict #[⟨hashInt 0,.int 0 t0,.ref a0⟩,⟨hashInt 1,.int 1 t1,.ref a1⟩,⟨hashInt 2,.int 2 t2,.ref a2⟩,⟨hashInt 3,.int 3 t3,.ref a3⟩,⟨hashInt 4,.int 4 t4,.ref a4⟩,⟨hashInt 5,.int 5 t5,.ref a5⟩,⟨hashInt 6,.int 6 t6,.ref a6⟩,⟨hashInt 7,.int 7 t7,.ref a7⟩,⟨hashInt 8,.int 8 t8,.ref a8⟩] ep,#[]⟩)(e0:K.lookup a0=some ⟨.type "tuple",d0,.seq #[.int 2 u0,.int 2 v0] n0,s0⟩)(e1:K.lookup a1=some ⟨.type "tuple",d1,.seq #[.int 1 u1,.int 0 v1] n1,s1⟩)(e2:K.lookup a2=some ⟨.type "tuple",d2,.seq #[.int 1 u2,.int 0 v2] n2,s2⟩)(e3:K.lookup a3=some ⟨.type "tuple",d3,.seq #[.int 1 u3,.int 1 v3] n3,s3⟩)(e4:K.lookup a4=some ⟨.type "tuple",d4,.seq #[.int 3 u4,.int 1 v4] n4,s4⟩)(e5:K.lookup a5=some ⟨.type "tuple",d5,.seq #[.int 1 u5,.int 1 v5] n5,s5⟩)(e6:K.lookup a6=some ⟨.type "tuple",d6,.seq #[.int 1 u6,.int 1 v6] n6,s6⟩)(e7:K.lookup a7=some ⟨.type "tuple",d7,.seq #[.int 1 u7,.int 0 v7] n7,s7⟩)(e8:K.lookup a8=some ⟨.type "tuple",d8,.seq #[.int 0 u8,.int 1 v8] n8,s8⟩):Sm K mg aD:=by
 refine⟨cw X G a,_,⟨⟨_,ep,d,⟨rfl,rfl,rfl⟩,rfl⟩,λe he=>?_⟩,λp n k hp=>?_⟩
 .have he:e∈[(⟨hashInt 0,.int 0 t0,.ref a0⟩:DictEntry),(⟨hashInt 1,.int 1 t1,.ref a1⟩:DictEntry),(⟨hashInt 2,.int 2 t2,.ref a2⟩:DictEntry),(⟨hashInt 3,.int 3 t3,.ref a3⟩:DictEntry),(⟨hashInt 4,.int 4 t4,.ref a4⟩:DictEntry),(⟨hashInt 5,.int 5 t5,.ref a5⟩:DictEntry),(⟨hashInt 6,.int 6 t6,.ref a6⟩:DictEntry),(⟨hashInt 7,.int 7 t7,.ref a7⟩:DictEntry),(⟨hashInt 8,.int 8 t8,.ref a8⟩:DictEntry)]:=by simpa using he
  simp only[bE,J_,or_false]at he;rcases he with rfl|rfl|rfl|rfl|rfl|rfl|rfl|rfl|rfl;all_goals exact⟨_,_,rfl,rfl⟩
 unfold PyWqaneo.shape at hp;repeat' split at hp
 all_goals first|cases hp;done|skip
 .rename_i e;subst e;cases hp;exact⟨a0,rfl,λH=>.inr ⟨_,_,_,e0,rfl,rfl,(by show 2<=sizeLine;decide),.cons ⟨_,rfl⟩ (.cons ⟨_,rfl⟩ .nil)⟩⟩
 .rename_i e;subst e;cases hp;exact⟨a1,rfl,λH=>.inr ⟨_,_,_,e1,rfl,rfl,(by show 2<=sizeLine;decide),.cons ⟨_,rfl⟩ (.cons ⟨_,rfl⟩ .nil)⟩⟩
 .rename_i e;subst e;cases hp;exact⟨a2,rfl,λH=>.inr ⟨_,_,_,e2,rfl,rfl,(by show 2<=sizeLine;decide),.cons ⟨_,rfl⟩ (.cons ⟨_,rfl⟩ .nil)⟩⟩
 .rename_i e;subst e;cases hp;exact⟨a3,rfl,λH=>.inr ⟨_,_,_,e3,rfl,rfl,(by show 2<=sizeLine;decide),.cons ⟨_,rfl⟩ (.cons ⟨_,rfl⟩ .nil)⟩⟩
 .rename_i e;subst e;cases hp;exact⟨a4,rfl,λH=>.inr ⟨_,_,_,e4,rfl,rfl,(by show 2<=sizeLine;decide),.cons ⟨_,rfl⟩ (.cons ⟨_,rfl⟩ .nil)⟩⟩
 .rename_i e;subst e;cases hp;exact⟨a5,rfl,λH=>.inr ⟨_,_,_,e5,rfl,rfl,(by show 2<=sizeLine;decide),.cons ⟨_,rfl⟩ (.cons ⟨_,rfl⟩ .nil)⟩⟩
 .rename_i e;subst e;cases hp;exact⟨a6,rfl,λH=>.inr ⟨_,_,_,e6,rfl,rfl,(by show 2<=sizeLine;decide),.cons ⟨_,rfl⟩ (.cons ⟨_,rfl⟩ .nil)⟩⟩
 .rename_i e;subst e;cases hp;exact⟨a7,rfl,λH=>.inr ⟨_,_,_,e7,rfl,rfl,(by show 2<=sizeLine;decide),.cons ⟨_,rfl⟩ (.cons ⟨_,rfl⟩ .nil)⟩⟩
 rename_i e;subst e;cases hp;exact⟨a8,rfl,λH=>.inr ⟨_,_,_,e8,rfl,rfl,(by show 2<=sizeLine;decide),.cons ⟨_,rfl⟩ (.cons ⟨_,rfl⟩ .nil)⟩⟩
section
variable {P:Program} {w:World} {K:PySem.W.Frag} {mg:Str->Option Value} {h:Heap}
set_option maxHeartbeats 0 in
def all_mk{fa CN CT CP CR CH aD c Pt f0 f1 f2 f3 f4 f5 f6 f7 f8 f9 f10 f11 f12 f13 f14 f15 f16 f17 f18 f19 f20 f21 f22 f23 f24 f25 f26 f27 f28 f29 f30 f31 f32 f33 f34 f35 f36 f37 f38 f39 f40 f41 f42 f43 f44 f45 f46 f47 f48 f49 f50 f51:Addr}{d0 d1 d2 d3 d4 d5 d6 d7 d8 d9 d10 d11 d12 d13 d14 d15 d16 d17 d18 d19 d20 d21 d22 d23 d24 d25 d26 d27 d28 d29 d30 d31 d32 d33 d34 d35 d36 d37 d38 d39 d40 d41 d42 d43 d44 d45 d46 d47 d48 d49 YM d51:FuncData}{t0 t1 t2 t3 t4 t5 t6 t7 t8 t9 t10 t11 t12 t13 t14 t15 t16 t17 t18 t19 t20:Tok}(X:K.In h)(G:h.Ns mainGlobals mg)(hfa:mg "answers"=some (.ref fa))(YQ:CL K "Net" CN)(YN:CL K "Table" CT)(Nl:CL K "Proofs" CP)(YO:CL K "CallReader" CR)(YR:CL K "Holder" CH)(F0:FM K CN "reach" "Net.reach" uF f0 d0)(F1:FM K CN "circle" "Net.circle" EM f1 d1)(F2:FM K CN "circle_room" "Net.circle_room" ze f2 d2)(F3:FM K CN "drive" "Net.drive" DL f3 d3)(F4:FM K CN "is_free" "Net.is_free" JE f4 d4)(F5:FM K CN "hold" "Net.hold" JD f5 d5)(F6:FM K CN "release" "Net.release" RI f6 d6)(F7:FM K CN "go_to" "Net.go_to" ZA f7 d7)(F8:FM K CN "settle_lowest" "Net.settle_lowest" zN f8 d8)(F9:FM K CN "bring_within" "Net.bring_within" DM f9 d9)(F10:FM K CN "lay_pipes" "Net.lay_pipes" RJ f10 d10)(F11:FM K CN "set_free" "Net.set_free" RH f11 d11)(Zl:FM K CN "__init__" "Net.__init__" JC f12 d12)(UK:FM K CT "has_place" "Table.has_place" Rv f13 d13)(Zk:FM K CT "cell_places" "Table.cell_places" Dk f14 d14)(Zj:FM K CT "__init__" "Table.__init__" Jg f15 d15)(Zi:FM K CT "movable" "Table.movable" Rt f16 d16)(Rn:FM K CT "make_net" "Table.make_net" Rr f17 d17)(Iw:FG K "is_set" DD f18 d18)(Zh:FG K "value_answer" Dz f19 d19)(Zg:FG K "range_answer" DB f20 d20)(Zf:FG K "other_answer" DC f21 d21)(Np:FG K "is_bound" uR f22 d22)(Ze:FM K CT "all_places" "Table.all_places" Rx f23 d23)(Zd:FM K CT "is_small" "Table.is_small" uN f24 d24)(VN:FM K CT "small_places" "Table.small_places" zp f25 d25)(Zc:FG K "small_answer" DA f26 d26)(Zb:FG K "begin_refusal" DF f27 d27)(Za:FM K CR "__init__" "CallReader.__init__" Jx f28 d28)(F29:FM K CR "has_more" "CallReader.has_more" Jv f29 d29)(Y_:FM K CR "read_number" "CallReader.read_number" RD f30 d30)(F31:FM K CR "read_list" "CallReader.read_list" Jw f31 d31)(Qv:FM K CP "__init__" "Proofs.__init__" JB f32 d32)(F33:FM K CP "show" "Proofs.show" JA f33 d33)(F34:FM K CP "prove" "Proofs.prove" DJ f34 d34)(F35:FM K CP "without" "Proofs.without" Jz f35 d35)(F36:FM K CP "publish" "Proofs.publish" RF f36 d36)(Qt:FG K "lowest_unsafe" zH f37 d37)(Y9:FG K "safe_answer" Jt f38 d38)(Y8:FG K "thin_answer" Jr f39 d39)(F40:FM K CT "has_lone_place" "Table.has_lone_place" Jf f40 d40)(Y7:FG K "may_be_best" Rz f41 d41)(Y6:FG K "with_one_more" Ju f42 d42)(Y5:FG K "best_set" EF f43 d43)(Y4:FG K "best_answer" DE f44 d44)(Y3:FG K "text_answer" Js f45 d45)(F46:FM K CR "read_call" "CallReader.read_call" Jy f46 d46)(Y2:FM K CH "__init__" "Holder.__init__" JG f47 d47)(F48:FM K CH "begin" "Holder.begin" DN f48 d48)(F49:FM K CH "answer" "Holder.answer" R9 f49 d49)(F50:FG K "answers" RA f50 YM)(NM:FM K CN "room" "Net.room" tN f51 d51)(k0:PySem.W.nsIn K mainGlobals "UP"=some (some (.int 1 t0)))(k1:PySem.W.nsIn K mainGlobals "DOWN"=some (some (.int (-1) t1)))(k2:PySem.W.nsIn K mainGlobals "WRONG_LIST"=some (some (.int (-1) t2)))(k3:PySem.W.nsIn K mainGlobals "OUT_OF_BOUNDS"=some (some (.int (-2) t3)))(k4:PySem.W.nsIn K mainGlobals "NO_PLACE"=some (some (.int (-4) t4)))(k5:PySem.W.nsIn K mainGlobals "NOT_GOOD"=some (some (.int (-5) t5)))(k6:PySem.W.nsIn K mainGlobals "TOO_MANY_PLACES"=some (some (.int (-6) t6)))(k7:PySem.W.nsIn K mainGlobals "NO_TABLE"=some (some (.int (-9) t7)))(k8:PySem.W.nsIn K mainGlobals "MOST_LINES"=some (some (.int 16 t8)))(k9:PySem.W.nsIn K mainGlobals "MOST_COUNT"=some (some (.int 1000000 t9)))(ZM:PySem.W.nsIn K mainGlobals "LEAST_BOUND"=some (some (.int 2 t10)))(k11:PySem.W.nsIn K mainGlobals "MOST_BOUND"=some (some (.int 1000 t11)))(k12:PySem.W.nsIn K mainGlobals "MOST_BEST_PLACES"=some (some (.int 12 t12)))(k13:PySem.W.nsIn K mainGlobals "BEGIN"=some (some (.int 0 t13)))(k14:PySem.W.nsIn K mainGlobals "VALUE"=some (some (.int 1 t14)))(k15:PySem.W.nsIn K mainGlobals "SMALL"=some (some (.int 2 t15)))(k16:PySem.W.nsIn K mainGlobals "RANGE"=some (some (.int 3 t16)))(k17:PySem.W.nsIn K mainGlobals "OTHER"=some (some (.int 4 t17)))(k18:PySem.W.nsIn K mainGlobals "SAFE"=some (some (.int 5 t18)))(k19:PySem.W.nsIn K mainGlobals "THIN"=some (some (.int 6 t19)))(k20:PySem.W.nsIn K mainGlobals "BEST"=some (some (.int 7 t20)))(z0:PySem.W.nsIn K mainGlobals "list"=some none)(z1:PySem.W.nsIn K mainGlobals "range"=some none)(z2:PySem.W.nsIn K mainGlobals "len"=some none)(z3:PySem.W.nsIn K mainGlobals "min"=some none)(z4:PySem.W.nsIn K mainGlobals "sum"=some none)(z5:PySem.W.nsIn K mainGlobals "zip"=some none)(z6:PySem.W.nsIn K mainGlobals "enumerate"=some none)(z7:PySem.W.nsIn K mainGlobals "sorted"=some none)(z8:PySem.W.nsIn K mainGlobals "str"=some none)(z9:PySem.W.nsIn K mainGlobals "ord"=some none)(n0:PySem.W.findIn K (.ref CN) "amounts"=some none)(n1:PySem.W.findIn K (.ref CN) "lows"=some none)(n2:PySem.W.findIn K (.ref CN) "highs"=some none)(n3:PySem.W.findIn K (.ref CN) "tails"=some none)(n4:PySem.W.findIn K (.ref CN) "heads"=some none)(n5:PySem.W.findIn K (.ref CN) "steps"=some none)(n6:PySem.W.findIn K (.ref CT) "rows"=some none)(n7:PySem.W.findIn K (.ref CT) "columns"=some none)(n8:PySem.W.findIn K (.ref CT) "amounts"=some none)(n9:PySem.W.findIn K (.ref CT) "blank_places"=some none)(n10:PySem.W.findIn K (.ref CP) "net"=some none)(n11:PySem.W.findIn K (.ref CP) "own"=some none)(n12:PySem.W.findIn K (.ref CP) "bound"=some none)(n13:PySem.W.findIn K (.ref CP) "shown"=some none)(n14:PySem.W.findIn K (.ref CR) "calls"=some none)(n15:PySem.W.findIn K (.ref CR) "position"=some none)(n16:PySem.W.findIn K (.ref CH) "table"=some none)(TS:Sm K mg aD)(rh:d43.code=.ref c)(Ar:PySem.W.codeHdIn K c Pt=true):L2.Binds K YM ["calls"] []/\∀base:Heap,K.In base->base.Ns mainGlobals mg->Ro mg base->ay P w K mg base bu 13 fa YM ["calls"] (nv K Pt):=by
 have e:=hfa.symm.trans (cw X G F50.gl);cases e;have g0:=cw X G k0;have g1:=cw X G k1;have g2:=cw X G k2;have g3:=cw X G k3;have g4:=cw X G k4;have g5:=cw X G k5;have g6:=cw X G k6;have g7:=cw X G k7;have g8:=cw X G k8;have g9:=cw X G k9;have g10:=cw X G ZM;have g11:=cw X G k11;have g12:=cw X G k12;have g13:=cw X G k13;have g14:=cw X G k14;have g15:=cw X G k15;have g16:=cw X G k16;have g17:=cw X G k17;have g18:=cw X G k18;have g19:=cw X G k19;have g20:=cw X G k20;have y0:=oo X G z0;have y1:=oo X G z1;have y2:=oo X G z2;have y3:=oo X G z3;have y4:=oo X G z4;have y5:=oo X G z5;have y6:=oo X G z6;have y7:=oo X G z7;have y8:=oo X G z8;have y9:=oo X G z9;have TN:jz K mg CN:=⟨YQ.cl,n0,n1,n2,n3,n4,n5,⟨_,g0⟩,⟨_,g1⟩,y0,y1,y2,y3,y4,y5,y6⟩;have TT:i_ K mg CT:=⟨YN.cl,n6,n7,n8,n9,y0,y1,y2,y4,y5⟩;have TP:AH K mg CP:=⟨Nl.cl,n10,n11,n12,n13,y0⟩;have TR:Rm K mg CR:=⟨YO.cl,n14,n15,y2,y1⟩;have TH:VF K CH:=⟨YR.cl,n16⟩;have TC:rQ mg:=⟨⟨_,g2⟩,⟨_,g3⟩,⟨_,g4⟩,⟨_,g5⟩,⟨_,g6⟩,⟨_,g7⟩,⟨_,g8⟩,⟨_,g9⟩,⟨_,g10⟩,⟨_,g11⟩,⟨_,g12⟩⟩;have TO:WJ mg:=⟨⟨_,g13⟩,⟨_,g14⟩,⟨_,g15⟩,⟨_,g16⟩,⟨_,g17⟩,⟨_,g18⟩,⟨_,g19⟩,⟨_,g20⟩⟩;have b0:=F0.fu.binds (ps:=["self","start","goal","barred"]) λ_ _ _ _ _ _ _ hl=>by obtain⟨_,_,_,_,rfl⟩:=U2 hl;rfl
 have b1:=F1.fu.binds (ps:=["self","place","way"]) λ_ _ _ _ _ _ _ hl=>by obtain⟨_,_,_,rfl⟩:=FZ hl;rfl
 have b2:=F2.fu.binds (ps:=["self","moves"]) λ_ _ _ _ _ _ _ hl=>by obtain⟨_,_,rfl⟩:=ln2 hl;rfl
 have b3:=F3.fu.binds (ps:=["self","place","way"]) λ_ _ _ _ _ _ _ hl=>by obtain⟨_,_,_,rfl⟩:=FZ hl;rfl
 have b4:=F4.fu.binds (ps:=["self","place"]) λ_ _ _ _ _ _ _ hl=>by obtain⟨_,_,rfl⟩:=ln2 hl;rfl
 have b5:=F5.fu.binds (ps:=["self","place","least","most"]) λ_ _ _ _ _ _ _ hl=>by obtain⟨_,_,_,_,rfl⟩:=U2 hl;rfl
 have b6:=F6.fu.binds (ps:=["self","place"]) λ_ _ _ _ _ _ _ hl=>by obtain⟨_,_,rfl⟩:=ln2 hl;rfl
 have b7:=F7.fu.binds (ps:=["self","amounts"]) λ_ _ _ _ _ _ _ hl=>by obtain⟨_,_,rfl⟩:=ln2 hl;rfl
 have b8:=F8.fu.binds (ps:=["self","place"]) λ_ _ _ _ _ _ _ hl=>by obtain⟨_,_,rfl⟩:=ln2 hl;rfl
 have b9:=F9.fu.binds (ps:=["self","place","least","most"]) λ_ _ _ _ _ _ _ hl=>by obtain⟨_,_,_,_,rfl⟩:=U2 hl;rfl
 have b10:=F10.fu.binds (ps:=["self","rows","columns"]) λ_ _ _ _ _ _ _ hl=>by obtain⟨_,_,_,rfl⟩:=FZ hl;rfl
 have b11:=F11.fu.binds (ps:=["self","place"]) λ_ _ _ _ _ _ _ hl=>by obtain⟨_,_,rfl⟩:=ln2 hl;rfl
 have VD:=Zl.fu.binds (ps:=["self","rows","columns","amounts","free"]) λ_ _ _ _ _ _ _ hl=>by obtain⟨_,_,_,_,_,rfl⟩:=U1 hl;rfl
 have YU:=UK.fu.binds (ps:=["self","place"]) λ_ _ _ _ _ _ _ hl=>by obtain⟨_,_,rfl⟩:=ln2 hl;rfl
 have b14:=Zk.fu.binds (ps:=["self"]) λ_ _ _ _ _ _ _ hl=>by obtain⟨_,rfl⟩:=oB hl;rfl
 have b15:=Zj.fu.binds (ps:=["self","rows","columns","counts","blanks"]) λ_ _ _ _ _ _ _ hl=>by obtain⟨_,_,_,_,_,rfl⟩:=U1 hl;rfl
 have b16:=Zi.fu.binds (ps:=["self","places"]) λ_ _ _ _ _ _ _ hl=>by obtain⟨_,_,rfl⟩:=ln2 hl;rfl
 have VC:=Rn.fu.binds (ps:=["self","hidden"]) λ_ _ _ _ _ _ _ hl=>by obtain⟨_,_,rfl⟩:=ln2 hl;rfl
 have VB:=Iw.fu.binds (ps:=["table","numbers"]) λ_ _ _ _ _ _ _ hl=>by obtain⟨_,_,rfl⟩:=ln2 hl;rfl
 have b19:=Zh.fu.binds (ps:=["table","place"]) λ_ _ _ _ _ _ _ hl=>by obtain⟨_,_,rfl⟩:=ln2 hl;rfl
 have b20:=Zg.fu.binds (ps:=["table","place","hidden"]) λ_ _ _ _ _ _ _ hl=>by obtain⟨_,_,_,rfl⟩:=FZ hl;rfl
 have b21:=Zf.fu.binds (ps:=["table","place","least","most","hidden"]) λ_ _ _ _ _ _ _ hl=>by obtain⟨_,_,_,_,_,rfl⟩:=U1 hl;rfl
 have YT:=Np.fu.binds (ps:=["number"]) λ_ _ _ _ _ _ _ hl=>by obtain⟨_,rfl⟩:=oB hl;rfl
 have b23:=Ze.fu.binds (ps:=["self"]) λ_ _ _ _ _ _ _ hl=>by obtain⟨_,rfl⟩:=oB hl;rfl
 have b24:=Zd.fu.binds (ps:=["self","place","bound"]) λ_ _ _ _ _ _ _ hl=>by obtain⟨_,_,_,rfl⟩:=FZ hl;rfl
 have b25:=VN.fu.binds (ps:=["self","bound"]) λ_ _ _ _ _ _ _ hl=>by obtain⟨_,_,rfl⟩:=ln2 hl;rfl
 have b26:=Zc.fu.binds (ps:=["table","bound"]) λ_ _ _ _ _ _ _ hl=>by obtain⟨_,_,rfl⟩:=ln2 hl;rfl
 have b27:=Zb.fu.binds (ps:=["rows","columns","counts","blanks"]) λ_ _ _ _ _ _ _ hl=>by obtain⟨_,_,_,_,rfl⟩:=U2 hl;rfl
 have b28:=Za.fu.binds (ps:=["self","calls"]) λ_ _ _ _ _ _ _ hl=>by obtain⟨_,_,rfl⟩:=ln2 hl;rfl
 have b29:=F29.fu.binds (ps:=["self"]) λ_ _ _ _ _ _ _ hl=>by obtain⟨_,rfl⟩:=oB hl;rfl
 have b30:=Y_.fu.binds (ps:=["self"]) λ_ _ _ _ _ _ _ hl=>by obtain⟨_,rfl⟩:=oB hl;rfl
 have b31:=F31.fu.binds (ps:=["self"]) λ_ _ _ _ _ _ _ hl=>by obtain⟨_,rfl⟩:=oB hl;rfl
 have b32:=Qv.fu.binds (ps:=["self","net","bound"]) λ_ _ _ _ _ _ _ hl=>by obtain⟨_,_,_,rfl⟩:=FZ hl;rfl
 have b33:=F33.fu.binds (ps:=["self","place","goal"]) λ_ _ _ _ _ _ _ hl=>by obtain⟨_,_,_,rfl⟩:=FZ hl;rfl
 have b34:=F34.fu.binds (ps:=["self","place"]) λ_ _ _ _ _ _ _ hl=>by obtain⟨_,_,rfl⟩:=ln2 hl;rfl
 have b35:=F35.fu.binds (ps:=["self","place","small","goal","amounts"]) λ_ _ _ _ _ _ _ hl=>by obtain⟨_,_,_,_,_,rfl⟩:=U1 hl;rfl
 have b36:=F36.fu.binds (ps:=["self","place"]) λ_ _ _ _ _ _ _ hl=>by obtain⟨_,_,rfl⟩:=ln2 hl;rfl
 have b37:=Qt.fu.binds (ps:=["table","proofs"]) λ_ _ _ _ _ _ _ hl=>by obtain⟨_,_,rfl⟩:=ln2 hl;rfl
 have b38:=Y9.fu.binds (ps:=["table","bound","hidden"]) λ_ _ _ _ _ _ _ hl=>by obtain⟨_,_,_,rfl⟩:=FZ hl;rfl
 have b39:=Y8.fu.binds (ps:=["table","bound","hidden"]) λ_ _ _ _ _ _ _ hl=>by obtain⟨_,_,_,rfl⟩:=FZ hl;rfl
 have b40:=F40.fu.binds (ps:=["self","hidden"]) λ_ _ _ _ _ _ _ hl=>by obtain⟨_,_,rfl⟩:=ln2 hl;rfl
 have b41:=Y7.fu.binds (ps:=["table","bound","hidden"]) λ_ _ _ _ _ _ _ hl=>by obtain⟨_,_,_,rfl⟩:=FZ hl;rfl
 have b42:=Y6.fu.binds (ps:=["sets","places"]) λ_ _ _ _ _ _ _ hl=>by obtain⟨_,_,rfl⟩:=ln2 hl;rfl
 have b43:=Y5.fu.binds (ps:=["table","bound"]) λ_ _ _ _ _ _ _ hl=>by obtain⟨_,_,rfl⟩:=ln2 hl;rfl
 have b44:=Y4.fu.binds (ps:=["table","bound"]) λ_ _ _ _ _ _ _ hl=>by obtain⟨_,_,rfl⟩:=ln2 hl;rfl
 have b45:=Y3.fu.binds (ps:=["table","hidden"]) λ_ _ _ _ _ _ _ hl=>by obtain⟨_,_,rfl⟩:=ln2 hl;rfl
 have b46:=F46.fu.binds (ps:=["self"]) λ_ _ _ _ _ _ _ hl=>by obtain⟨_,rfl⟩:=oB hl;rfl
 have b47:=Y2.fu.binds (ps:=["self"]) λ_ _ _ _ _ _ _ hl=>by obtain⟨_,rfl⟩:=oB hl;rfl
 have b48:=F48.fu.binds (ps:=["self","rows","columns","counts","blanks"]) λ_ _ _ _ _ _ _ hl=>by obtain⟨_,_,_,_,_,rfl⟩:=U1 hl;rfl
 have b49:=F49.fu.binds (ps:=["self","call","numbers","lists"]) λ_ _ _ _ _ _ _ hl=>by obtain⟨_,_,_,_,rfl⟩:=U2 hl;rfl
 have b50:=F50.fu.binds (ps:=["calls"]) λ_ _ _ _ _ _ _ hl=>by obtain⟨_,rfl⟩:=oB hl;rfl
 have YS:=NM.fu.binds (ps:=["self","place","way"]) λ_ _ _ _ _ _ _ hl=>by obtain⟨_,_,_,rfl⟩:=FZ hl;rfl
 refine⟨b50,λbase hK hN hB=>?_⟩;have G0:ay P w K mg base bu 2 f0 d0 ["self","start","goal","barred"] (zu CN):=Br F0.fu TN NM.fu YS NM.me;have G1:ay P w K mg base bu 3 f1 d1 ["self","place","way"] (yZ CN):=Fh F1.fu TN NM.fu YS NM.me F0.fu b0 F0.me;have G2:ay P w K mg base bu 2 f2 d2 ["self","moves"] (zB CN):=Bs F2.fu TN NM.fu YS NM.me;have G3:ay P w K mg base bu 4 f3 d3 ["self","place","way"] (pF CN):=Mm F3.fu TN NM.fu YS NM.me F0.fu b0 F0.me F1.fu b1 F1.me F2.fu b2 F2.me;have G4:ay P w K mg base bu 1 f4 d4 ["self","place"] (pO CN):=Hn F4.fu TN;have G5:ay P w K mg base bu 1 f5 d5 ["self","place","least","most"] (oK CN):=O_ F5.fu TN;have G6:ay P w K mg base bu 1 f6 d6 ["self","place"] (AK CN):=S0 F6.fu TN;have G7:ay P w K mg base bu 1 f7 d7 ["self","amounts"] (NP CN):=Xg F7.fu TN;have G8:ay P w K mg base bu 5 f8 d8 ["self","place"] (uO CN):=Hm F8.fu TN G3 b3 F3.me G5 b5 F5.me;have G9:ay P w K mg base bu 5 f9 d9 ["self","place","least","most"] (pG CN):=Mo F9.fu TN G3 b3 F3.me G4 b4 F4.me G5 b5 F5.me;have G10:ay P w K mg base bu 1 f10 d10 ["self","rows","columns"] (Jm CN):=S6 F10.fu TN;have G11:ay P w K mg base bu 2 f11 d11 ["self","place"] (Jj CN):=SY F11.fu TN G6 b6 F6.me;have G12:ay P w K mg base bu 3 f12 d12 ["self","rows","columns","amounts","free"] (Du CN):=O9 Zl.fu TN G10 b10 F10.me G11 b11 F11.me;have Y1:ay P w K mg base bu 1 f13 d13 ["self","place"] (wG CT):=S7 UK.fu TT;have G14:ay P w K mg base bu 1 f14 d14 ["self"] (sd CT):=Mn Zk.fu TT;have G15:ay P w K mg base bu 2 f15 d15 ["self","rows","columns","counts","blanks"] (qK CT):=D5 Zj.fu TT G14 b14 Zk.me;have G16:ay P w K mg base bu 1 f16 d16 ["self","places"] (ED CT):=S4 Zi.fu TT;have VM:ay P w K mg base bu 5 f17 d17 ["self","hidden"] (pA CT CN):=S3 Rn.fu TT (cw X G YQ.gl) ⟨YQ.Q3,Zl.me.at_,Zl.me.fn,YQ.kp⟩ G12 VD G16 b16 Zi.me;have VL:ay P w K mg base bu 2 f18 d18 ["table","numbers"] (kD CT):=Mj Iw.fu TT Y1 YU UK.me;have G19:ay P w K mg base bu 2 f19 d19 ["table","place"] (zq CT):=Ma Zh.fu TT TC Y1 YU UK.me;have G20:ay P w K mg base bu 6 f20 d20 ["table","place","hidden"] (zv CT):=Me Zg.fu TT TN TC VL VB (cw X G Iw.gl) Iw.fu.kp Y1 YU UK.me VM VC Rn.me G3 b3 F3.me;have G21:ay P w K mg base bu 6 f21 d21 ["table","place","least","most","hidden"] (zz CT):=Mh Zf.fu TT TN TC VL VB (cw X G Iw.gl) Iw.fu.kp Y1 YU UK.me VM VC Rn.me G9 b9 F9.me G8 b8 F8.me G14 b14 Zk.me;have Y0:ay P w K mg base bu 1 f22 d22 ["number"] jf:=D8 Np.fu TC;have G23:ay P w K mg base bu 1 f23 d23 ["self"] (EE CT):=ok_all Ze.fu TT;have G24:ay P w K mg base bu 1 f24 d24 ["self","place","bound"] (j6 CT):=D7 Zd.fu TT;have G25:ay P w K mg base bu 2 f25 d25 ["self","bound"] (mf CT):=Hl VN.fu TT G23 b23 Ze.me G24 b24 Zd.me;have G26:ay P w K mg base bu 3 f26 d26 ["table","bound"] (zr CT):=Mb Zc.fu TT TC Y0 YT (cw X G Np.gl) Np.fu.kp G25 b25 VN.me;have G27:ay P w K mg base bu 1 f27 d27 ["rows","columns","counts","blanks"] Jn:=Mq Zb.fu TC y2 y5;have G28:ay P w K mg base bu 1 f28 d28 ["self","calls"] (zx CR K):=Md Za.fu TR;have G29:ay P w K mg base bu 1 f29 d29 ["self"] (Ds CR K):=O7 F29.fu TR;have G30:ay P w K mg base bu 1 f30 d30 ["self"] (AL CR K):=S2 Y_.fu TR;have G31:ay P w K mg base bu 2 f31 d31 ["self"] (r_ CR K):=Mc F31.fu TR G30 b30 Y_.me;have G32:ay P w K mg base bu 1 f32 d32 ["self","net","bound"] (kC CP CN):=Mg Qv.fu TP TN;have G33:ay P w K mg base bu 6 f33 d33 ["self","place","goal"] (Dq CP CN):=O5 F33.fu TP TN G7 b7 F7.me G9 b9 F9.me G6 b6 F6.me;have G34:ay P w K mg base bu 7 f34 d34 ["self","place"] (zy CP CN):=Mf F34.fu TP TN G4 b4 F4.me G33 b33 F33.me;have G35:ay P w K mg base bu 6 f35 d35 ["self","place","small","goal","amounts"] (Dm CP CN):=O2 F35.fu TP TN G7 b7 F7.me G5 b5 F5.me G9 b9 F9.me G6 b6 F6.me;have G36:ay P w K mg base bu 7 f36 d36 ["self","place"] (Jk CP CN):=S1 F36.fu TP TN G35 b35 F35.me G5 b5 F5.me;have G37:ay P w K mg base bu 8 f37 d37 ["table","proofs"] (md CT CP CN):=Hk Qt.fu TT TP G25 b25 VN.me G34 b34 F34.me;have G38:ay P w K mg base bu 9 f38 d38 ["table","bound","hidden"] (Dr CT):=O6 Y9.fu TT TC VL VB (cw X G Iw.gl) Iw.fu.kp Y0 YT (cw X G Np.gl) Np.fu.kp VM VC Rn.me (cw X G Nl.gl) ⟨Nl.Q3,Qv.me.at_,Qv.me.fn,Nl.kp⟩ G32 b32 G37 b37 (cw X G Qt.gl) Qt.fu.kp;have G39:ay P w K mg base bu 9 f39 d39 ["table","bound","hidden"] (Dn CT):=O3 Y8.fu TT TP TC VL VB (cw X G Iw.gl) Iw.fu.kp Y0 YT (cw X G Np.gl) Np.fu.kp VM VC Rn.me (cw X G Nl.gl) ⟨Nl.Q3,Qv.me.at_,Qv.me.fn,Nl.kp⟩ G32 b32 G37 b37 (cw X G Qt.gl) Qt.fu.kp G24 b24 Zd.me G36 b36 F36.me;have G40:ay P w K mg base bu 1 f40 d40 ["self","hidden"] (Dt CT):=O8 F40.fu TT;have G41:ay P w K mg base bu 9 f41 d41 ["table","bound","hidden"] (Jl CT):=S5 Y7.fu TT G40 b40 F40.me VM VC Rn.me (cw X G Nl.gl) ⟨Nl.Q3,Qv.me.at_,Qv.me.fn,Nl.kp⟩ G32 b32 G37 b37 (cw X G Qt.gl) Qt.fu.kp;have G42:ay P w K mg base bu 1 f42 d42 ["sets","places"] qL:=D6 Y6.fu TT;have G43:ay P w K mg base bu 10 f43 d43 ["table","bound"] (Dy CT Pt):=Pc Y5.fu TT y7 rh Ar hB G25 b25 VN.me G23 b23 Ze.me G16 b16 Zi.me G41 b41 (cw X G Y7.gl) Y7.fu.kp G42 b42 (cw X G Y6.gl) Y6.fu.kp;have G44:ay P w K mg base bu 11 f44 d44 ["table","bound"] (zC CT Pt):=Mp Y4.fu TT TC Y0 YT (cw X G Np.gl) Np.fu.kp G43 b43 (cw X G Y5.gl) Y5.fu.kp;have G45:ay P w K mg base bu 3 f45 d45 ["table","hidden"] (Dp CT):=O4 Y3.fu TT TC y8 y9 VL VB (cw X G Iw.gl) Iw.fu.kp;have G46:ay P w K mg base bu 3 f46 d46 ["self"] (Dx CR K):=Pb F46.fu TR TS G30 b30 Y_.me G31 b31 F31.me;have G47:ay P w K mg base bu 1 f47 d47 ["self"] (zA CH CT):=Ml Y2.fu TH;have G48:ay P w K mg base bu 4 f48 d48 ["self","rows","columns","counts","blanks"] (uP CH CT):=Ho F48.fu TH G27 b27 (cw X G Zb.gl) Zb.fu.kp (cw X G YN.gl) ⟨YN.Q3,Zj.me.at_,Zj.me.fn,YN.kp⟩ G15 b15;have G49:ay P w K mg base bu 12 f49 d49 ["self","call","numbers","lists"] (Dv CH CT Pt):=Pa F49.fu TH TO TC G48 b48 F48.me G19 b19 (cw X G Zh.gl) Zh.fu.kp G26 b26 (cw X G Zc.gl) Zc.fu.kp G20 b20 (cw X G Zg.gl) Zg.fu.kp G21 b21 (cw X G Zf.gl) Zf.fu.kp G38 b38 (cw X G Y9.gl) Y9.fu.kp G39 b39 (cw X G Y8.gl) Y8.fu.kp G44 b44 (cw X G Y4.gl) Y4.fu.kp G45 b45 (cw X G Y3.gl) Y3.fu.kp;have G50:ay P w K mg base bu 13 fa YM ["calls"] (nv K Pt):=D9 F50.fu TR TH (cw X G YO.gl) ⟨YO.Q3,Za.me.at_,Za.me.fn,YO.kp⟩ G28 b28 (cw X G YR.gl) ⟨YR.Q3,Y2.me.at_,Y2.me.fn,YR.kp⟩ G47 b47 G29 b29 F29.me G46 b46 F46.me G49 b49 F49.me;exact G50
end
end Wh
end
section
namespace PySem.W.Fast
def tw15387937379080432891:=0
def tw1351029714731397031:=0
def tw5456618690758153728:=0
def tw18141309558154592826:=0
def tw2883965200613078389:=0
def tw2387044052764795434:=0
def tw15464347962920829863:=0
def tw17780151538537296556:=0
def tw8813567338349700705:=0
def tw14642471535099044186:=0
def tw14323042367769703712:=0
def tw5014043892994112805:=0
def tw1527816578820348990:=0
def tw8702514799103961643:=0
def tw11691151026996001993:=0
def tw14227785604979363980:=0
def tw4027665036547144286:=0
def tw1744387171851924634:=0
def tw15674833365830206964:=0
def tw11504706195394168610:=0
def tw16315150883171258509:=0
def tw10054138000698242479:=0
def tw12912887927810012878:=0
def tw10691438392535261410:=0
def tw17337398222517840843:=0
def tw336027432892721074:=0
def tw6827163254158925906:=0
def tw10971583497033536768:=0
def tw12404002597176930447:=0
def tw1542127550495067061:=0
def tw8835879677537804803:=0
def tw12563353652917682886:=0
def tw9075797630650764088:=0
def tw2198205864085341253:=0
def tw17306845576401959549:=0
def tw6014794904527857109:=0
def tw14781488137581149127:=0
def tw246369645094932165:=0
def tw11084403008546233932:=0
def tw18066879036544893870:=0
def tw7662225834068802815:=0
def tw6871166798106971504:=0
def tw7476028665099149251:=0
def tw8635800829741977541:=0
def tw13689369788540208434:=0
def tw7292615589750103186:=0
def tw12995819024310954915:=0
def tw11711431707498195774:=0
def tw5397104690996776830:=0
def tw2865665543519248014:=0
def tw10427061249698865218:=0
def tw9793331905346582132:=0
def tw15101687657568547286:=0
def tw2777720703206930050:=0
def tw13660969239671271576:=0
def tw10327258848871175152:=0
def tw222705102497928838:=0
def tw7147463699254413034:=0
def tw7119321472742976563:=0
def tw3651714069625180407:=0
def tw6997720727109170936:=0
def tw9233233528876631195:=0
def tw7660652134317234097:=0
def tw9985797332008318630:=0
def tw16297677088227636444:=0
def tw10390207586833838360:=0
def tw13035708124024234611:=0
def tw1542768687065334373:=0
def tw7324146843688933918:=0
def tw10984047502299804868:=0
def tw1265133416213819754:=0
def tw7614381430130619083:=0
def tw6377874933906602186:=0
def tw3886612660307722864:=0
def tw15528755186224088744:=0
def tw11900892047634470077:=0
def tw7491211289277889100:=0
def tw15016657370804458499:=0
def tw6054992396896590996:=0
def tw4155876741589233924:=0
def tw857594939658140565:=0
def tw11655652516344103165:=0
def tw5538551326480327827:=0
def tw9110806915858334679:=0
def tw16606035028239343190:=0
def tw1201913387330185505:=0
def tw17384334794341366681:=0
def tw13257978473387828158:=0
def tw7132086057680134466:=0
def tw14185211169535016701:=0
def tw9641225445251333777:=0
def tw6429751727748414649:=0
def tw6509123708735354006:=0
def tw16070726049170270357:=0
def tw4413876581996416617:=0
def tw5034285787067033582:=0
def tw13296640666928664553:=0
def tw3487487814476735290:=0
def tw16184280500982671923:=0
def tw10676115570480963052:=0
def tw17699943998435136136:=0
def tw18441554864860082910:=0
def tw9764021373296200347:=0
def tw14711146233385291914:=0
def tw8672519559013633328:=0
def tw13215988310890700779:=0
def tw3021054063511934136:=0
def tw11710464269955760690:=0
def tw13037639368324468209:=0
def tw5030334301094540986:=0
def tw7064313434298977196:=0
def tw16728008463180926702:=0
def tw7657711971303612522:=0
def tw10129150012939066413:=0
def tw13959046869309339705:=0
def tw16965529090086821207:=0
def tw18125799214833170959:=0
def tw6507654822665085902:=0
def tw4574649141847305443:=0
def tw6063346069424667569:=0
def tw16765912246415097167:=0
def tw9314724872241927146:=0
def tw13986213370766360211:=0
def tw2727633332042480907:=0
def tw7494864441885793531:=0
def tw7335947613433786761:=0
def tw12353344798225149568:=0
def tw5525124591768832348:=0
def tw13791732273475966243:=0
def tw18242393001841709286:=0
def tw3249017638861610402:=0
def tw13758841660808626632:=0
def tw10244761034688837258:=0
def tw18368048823721145283:=0
def tw13638447451916318425:=0
def tw16467971465287831214:=0
def tw11201984478287310670:=0
def tw13362794450026120010:=0
def tw1442887547308832073:=0
def tw15640967328125832615:=0
def tw14292397237743666003:=0
def tw2353677029091229439:=0
def tw6092659271066517881:=0
def tw900025308190236949:=0
def tw6967700999972403427:=0
def tw13069678677854183611:=0
def tw8637376494577438990:=0
def tw11277547941978156142:=0
def tw4651457881980211674:=0
def tw2608706794329901489:=0
end PySem.W.Fast
open PySem PySem.W PyProof.Rows
set_option maxRecDepth 100000 in
set_option maxHeartbeats 0 in
theorem PySem.Challenge.cw_withheld_s01_answers_holds : PySem.Challenge.rw_withheld_s01_answers.Holds := by
 w_on;k_headS;(case hw=>exact⟨[.list [.int 1,.int 0]],by decide +kernel,by decide +kernel⟩);k_fillS;refine' Wh.Su (r:=PySem.Challenge.rw_withheld_s01_answers) (k:=13) (ps:=["calls"]) (sp:=Wh.nv) (x:="best_set") (by decide +kernel) rfl rfl ⟨rfl,by decide,by decide⟩ (fun w h Y=>PySem.W.kIn_of Y) ?vR ?vT ?vN ?vF ?vS;case vR=>rfl
 case vT=>
  intro w;refine' Wh.LN ?u1 ?u2 ?u3 ?u4 ?u5;case u1=>k_is
  case u2=>k_is
  case u3=>rfl
  case u4=>k_is
  case u5=>rfl
 case vN=>intro w;kernel_rfl
 case vF=>
  intro w mg fa h Y KX G ZY;refine' ⟨_,Wh.all_mk KX G ZY (Wh.AX ?q1 ?q2 ?q3 ?q4 ?q5 ?q6 ?q7) (Wh.AX ?q8 ?q9 ?q10 ?q11 ?q12 ?q13 ?q14) (Wh.AX ?q15 ?q16 ?q17 ?q18 ?q19 ?q20 ?q21) (Wh.AX ?q22 ?q23 ?q24 ?q25 ?q26 ?q27 ?q28) (Wh.AX ?q29 ?q30 ?q31 ?q32 ?q33 ?q34 ?q35) (Wh.dD ?q36 ?q37 ?q38 ?q39 ?q40) (Wh.dD ?q41 ?q42 ?q43 ?q44 ?q45) (Wh.dD ?q46 ?q47 ?q48 ?q49 ?q50) (Wh.dD ?q51 ?q52 ?q53 ?q54 ?q55) (Wh.dD ?q56 ?q57 ?q58 ?q59 ?q60) (Wh.dD ?q61 ?q62 ?q63 ?q64 ?q65) (Wh.dD ?q66 ?q67 ?q68 ?q69 ?q70) (Wh.dD ?q71 ?q72 ?q73 ?q74 ?q75) (Wh.dD ?q76 ?q77 ?q78 ?q79 ?q80) (Wh.dD ?q81 ?q82 ?q83 ?q84 ?q85) (Wh.dD ?q86 ?q87 ?q88 ?q89 ?q90) (Wh.dD ?q91 ?q92 ?q93 ?q94 ?q95) (Wh.dD ?q96 ?q97 ?q98 ?q99 ?q100) (Wh.dD ?q101 ?q102 ?q103 ?q104 ?q105) (Wh.dD ?q106 ?q107 ?q108 ?q109 ?q110) (Wh.dD ?q111 ?q112 ?q113 ?q114 ?q115) (Wh.dD ?q116 ?q117 ?q118 ?q119 ?q120) (Wh.dD ?q121 ?q122 ?q123 ?q124 ?q125) (Wh.i8 ?q126 ?q127 ?q128 ?q129) (Wh.i8 ?q130 ?q131 ?q132 ?q133) (Wh.i8 ?q134 ?q135 ?q136 ?q137) (Wh.i8 ?q138 ?q139 ?q140 ?q141) (Wh.i8 ?q142 ?q143 ?q144 ?q145) (Wh.dD ?q146 ?q147 ?q148 ?q149 ?q150) (Wh.dD ?q151 ?q152 ?q153 ?q154 ?q155) (Wh.dD ?q156 ?q157 ?q158 ?q159 ?q160) (Wh.i8 ?q161 ?q162 ?q163 ?q164) (Wh.i8 ?q165 ?q166 ?q167 ?q168) (Wh.dD ?q169 ?q170 ?q171 ?q172 ?q173) (Wh.dD ?q174 ?q175 ?q176 ?q177 ?q178) (Wh.dD ?q179 ?q180 ?q181 ?q182 ?q183) (Wh.dD ?q184 ?q185 ?q186 ?q187 ?q188) (Wh.dD ?q189 ?q190 ?q191 ?q192 ?q193) (Wh.dD ?q194 ?q195 ?q196 ?q197 ?q198) (Wh.dD ?q199 ?q200 ?q201 ?q202 ?q203) (Wh.dD ?q204 ?q205 ?q206 ?q207 ?q208) (Wh.dD ?q209 ?q210 ?q211 ?q212 ?q213) (Wh.i8 ?q214 ?q215 ?q216 ?q217) (Wh.i8 ?q218 ?q219 ?q220 ?q221) (Wh.i8 ?q222 ?q223 ?q224 ?q225) (Wh.dD ?q226 ?q227 ?q228 ?q229 ?q230) (Wh.i8 ?q231 ?q232 ?q233 ?q234) (Wh.i8 ?q235 ?q236 ?q237 ?q238) (Wh.i8 ?q239 ?q240 ?q241 ?q242) (Wh.i8 ?q243 ?q244 ?q245 ?q246) (Wh.i8 ?q247 ?q248 ?q249 ?q250) (Wh.dD ?q251 ?q252 ?q253 ?q254 ?q255) (Wh.dD ?q256 ?q257 ?q258 ?q259 ?q260) (Wh.dD ?q261 ?q262 ?q263 ?q264 ?q265) (Wh.dD ?q266 ?q267 ?q268 ?q269 ?q270) (Wh.i8 ?q271 ?q272 ?q273 ?q274) (Wh.dD ?q275 ?q276 ?q277 ?q278 ?q279) ?q280 ?q281 ?q282 ?q283 ?q284 ?q285 ?q286 ?q287 ?q288 ?q289 ?q290 ?q291 ?q292 ?q293 ?q294 ?q295 ?q296 ?q297 ?q298 ?q299 ?q300 ?q301 ?q302 ?q303 ?q304 ?q305 ?q306 ?q307 ?q308 ?q309 ?q310 ?q311 ?q312 ?q313 ?q314 ?q315 ?q316 ?q317 ?q318 ?q319 ?q320 ?q321 ?q322 ?q323 ?q324 ?q325 ?q326 ?q327 (Wh.SG KX G ?q328 ?q329 ?q330 ?q331 ?q332 ?q333 ?q334 ?q335 ?q336 ?q337 ?q338) ?vc ?vh⟩;case q1=>k_is
  case q2=>k_is
  case q3=>k_is
  case q4=>k_is
  case q5=>k_is
  case q6=>k_is
  case q7=>k_is
  case q8=>k_is
  case q9=>k_is
  case q10=>k_is
  case q11=>k_is
  case q12=>k_is
  case q13=>k_is
  case q14=>k_is
  case q15=>k_is
  case q16=>k_is
  case q17=>k_is
  case q18=>k_is
  case q19=>k_is
  case q20=>k_is
  case q21=>k_is
  case q22=>k_is
  case q23=>k_is
  case q24=>k_is
  case q25=>k_is
  case q26=>k_is
  case q27=>k_is
  case q28=>k_is
  case q29=>k_is
  case q30=>k_is
  case q31=>k_is
  case q32=>k_is
  case q33=>k_is
  case q34=>k_is
  case q35=>k_is
  case q36=>k_is
  case q37=>k_is
  case q38=>k_is
  case q39=>k_is
  case q40=>k_is
  case q41=>k_is
  case q42=>k_is
  case q43=>k_is
  case q44=>k_is
  case q45=>k_is
  case q46=>k_is
  case q47=>k_is
  case q48=>k_is
  case q49=>k_is
  case q50=>k_is
  case q51=>k_is
  case q52=>k_is
  case q53=>k_is
  case q54=>k_is
  case q55=>k_is
  case q56=>k_is
  case q57=>k_is
  case q58=>k_is
  case q59=>k_is
  case q60=>k_is
  case q61=>k_is
  case q62=>k_is
  case q63=>k_is
  case q64=>k_is
  case q65=>k_is
  case q66=>k_is
  case q67=>k_is
  case q68=>k_is
  case q69=>k_is
  case q70=>k_is
  case q71=>k_is
  case q72=>k_is
  case q73=>k_is
  case q74=>k_is
  case q75=>k_is
  case q76=>k_is
  case q77=>k_is
  case q78=>k_is
  case q79=>k_is
  case q80=>k_is
  case q81=>k_is
  case q82=>k_is
  case q83=>k_is
  case q84=>k_is
  case q85=>k_is
  case q86=>k_is
  case q87=>k_is
  case q88=>k_is
  case q89=>k_is
  case q90=>k_is
  case q91=>k_is
  case q92=>k_is
  case q93=>k_is
  case q94=>k_is
  case q95=>k_is
  case q96=>k_is
  case q97=>k_is
  case q98=>k_is
  case q99=>k_is
  case q100=>k_is
  case q101=>k_is
  case q102=>k_is
  case q103=>k_is
  case q104=>k_is
  case q105=>k_is
  case q106=>k_is
  case q107=>k_is
  case q108=>k_is
  case q109=>k_is
  case q110=>k_is
  case q111=>k_is
  case q112=>k_is
  case q113=>k_is
  case q114=>k_is
  case q115=>k_is
  case q116=>k_is
  case q117=>k_is
  case q118=>k_is
  case q119=>k_is
  case q120=>k_is
  case q121=>k_is
  case q122=>k_is
  case q123=>k_is
  case q124=>k_is
  case q125=>k_is
  case q126=>k_is
  case q127=>k_is
  case q128=>k_is
  case q129=>k_is
  case q130=>k_is
  case q131=>k_is
  case q132=>k_is
  case q133=>k_is
  case q134=>k_is
  case q135=>k_is
  case q136=>k_is
  case q137=>k_is
  case q138=>k_is
  case q139=>k_is
  case q140=>k_is
  case q141=>k_is
  case q142=>k_is
  case q143=>k_is
  case q144=>k_is
  case q145=>k_is
  case q146=>k_is
  case q147=>k_is
  case q148=>k_is
  case q149=>k_is
  case q150=>k_is
  case q151=>k_is
  case q152=>k_is
  case q153=>k_is
  case q154=>k_is
  case q155=>k_is
  case q156=>k_is
  case q157=>k_is
  case q158=>k_is
  case q159=>k_is
  case q160=>k_is
  case q161=>k_is
  case q162=>k_is
  case q163=>k_is
  case q164=>k_is
  case q165=>k_is
  case q166=>k_is
  case q167=>k_is
  case q168=>k_is
  case q169=>k_is
  case q170=>k_is
  case q171=>k_is
  case q172=>k_is
  case q173=>k_is
  case q174=>k_is
  case q175=>k_is
  case q176=>k_is
  case q177=>k_is
  case q178=>k_is
  case q179=>k_is
  case q180=>k_is
  case q181=>k_is
  case q182=>k_is
  case q183=>k_is
  case q184=>k_is
  case q185=>k_is
  case q186=>k_is
  case q187=>k_is
  case q188=>k_is
  case q189=>k_is
  case q190=>k_is
  case q191=>k_is
  case q192=>k_is
  case q193=>k_is
  case q194=>k_is
  case q195=>k_is
  case q196=>k_is
  case q197=>k_is
  case q198=>k_is
  case q199=>k_is
  case q200=>k_is
  case q201=>k_is
  case q202=>k_is
  case q203=>k_is
  case q204=>k_is
  case q205=>k_is
  case q206=>k_is
  case q207=>k_is
  case q208=>k_is
  case q209=>k_is
  case q210=>k_is
  case q211=>k_is
  case q212=>k_is
  case q213=>k_is
  case q214=>k_is
  case q215=>k_is
  case q216=>k_is
  case q217=>k_is
  case q218=>k_is
  case q219=>k_is
  case q220=>k_is
  case q221=>k_is
  case q222=>k_is
  case q223=>k_is
  case q224=>k_is
  case q225=>k_is
  case q226=>k_is
  case q227=>k_is
  case q228=>k_is
  case q229=>k_is
  case q230=>k_is
  case q231=>k_is
  case q232=>k_is
  case q233=>k_is
  case q234=>k_is
  case q235=>k_is
  case q236=>k_is
  case q237=>k_is
  case q238=>k_is
  case q239=>k_is
  case q240=>k_is
  case q241=>k_is
  case q242=>k_is
  case q243=>k_is
  case q244=>k_is
  case q245=>k_is
  case q246=>k_is
  case q247=>k_is
  case q248=>k_is
  case q249=>k_is
  case q250=>k_is
  case q251=>k_is
  case q252=>k_is
  case q253=>k_is
  case q254=>k_is
  case q255=>k_is
  case q256=>k_is
  case q257=>k_is
  case q258=>k_is
  case q259=>k_is
  case q260=>k_is
  case q261=>k_is
  case q262=>k_is
  case q263=>k_is
  case q264=>k_is
  case q265=>k_is
  case q266=>k_is
  case q267=>k_is
  case q268=>k_is
  case q269=>k_is
  case q270=>k_is
  case q271=>k_is
  case q272=>k_is
  case q273=>k_is
  case q274=>k_is
  case q275=>k_is
  case q276=>k_is
  case q277=>k_is
  case q278=>k_is
  case q279=>k_is
  case q280=>k_is
  case q281=>k_is
  case q282=>k_is
  case q283=>k_is
  case q284=>k_is
  case q285=>k_is
  case q286=>k_is
  case q287=>k_is
  case q288=>k_is
  case q289=>k_is
  case q290=>k_is
  case q291=>k_is
  case q292=>k_is
  case q293=>k_is
  case q294=>k_is
  case q295=>k_is
  case q296=>k_is
  case q297=>k_is
  case q298=>k_is
  case q299=>k_is
  case q300=>k_is
  case q301=>k_is
  case q302=>k_is
  case q303=>k_is
  case q304=>k_is
  case q305=>k_is
  case q306=>k_is
  case q307=>k_is
  case q308=>k_is
  case q309=>k_is
  case q310=>k_is
  case q311=>k_is
  case q312=>k_is
  case q313=>k_is
  case q314=>k_is
  case q315=>k_is
  case q316=>k_is
  case q317=>k_is
  case q318=>k_is
  case q319=>k_is
  case q320=>k_is
  case q321=>k_is
  case q322=>k_is
  case q323=>k_is
  case q324=>k_is
  case q325=>k_is
  case q326=>k_is
  case q327=>k_is
  case q328=>k_is
  case q329=>k_is
  case q330=>k_is
  case q331=>k_is
  case q332=>k_is
  case q333=>k_is
  case q334=>k_is
  case q335=>k_is
  case q336=>k_is
  case q337=>k_is
  case q338=>k_is
  case vc=>rfl
  case vh=>kernel_rfl
 case vS=>intro K Pt H xs a ZT qd hx hP;cases hx with|cons h1 h2=>cases h2;cases h1 with|lst hs ha=>have e:=L2.Fv a.1 _ ha;subst e;have s:L2.aY H (L2.upd H Pt (.vW #[])):=Wh.cH _ _ _ hP;exact⟨_,a.1,rfl,s.seq hs,qd,.inl L2.ai,fun H' l _ _ hl=>.lst (L2.bp.of hl) (L2.FE _)⟩
end
