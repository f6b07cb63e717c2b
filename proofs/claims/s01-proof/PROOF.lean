import PyProof.Rows.All
import Sw28Spec
import PySw28
import Wide.All
import OpenK.AllK
import Wide.FinOn
import PyProof.EqAt
import PyProof.EqKinds
import PyProof.TupleCall
import KE.BitLaws
import PyProof.ExcBaseAll.Exception
import PyProof.StationsW
import PyProof.Rows.RuleM_int
import PyProof.Rows.SortShellAny
import KE.KDictLaws
import KE.KDictSum
import PyProof.ListRange
import PyProof.Rows.SortWalk
import KE.OsGo
import PySem.Challenge.RW_signrow_s01_answers
set_option Elab.async false
set_option linter.all false
set_option maxRecDepth 100000
theorem Z.{u} {α:Sort u}{a:α}:a=a:=rfl
theorem bw:type_of% @if_neg:=@if_neg
theorem bL:type_of% @if_pos:=@if_pos
theorem cG:type_of% @Nat.le_refl:=@Nat.le_refl
theorem dR:type_of% @List.getElem?_eq_getElem:=@List.getElem?_eq_getElem
theorem d4:type_of% @Option.bind_some:=@Option.bind_some
theorem ei:type_of% @List.getElem?_map:=@List.getElem?_map
theorem ek:type_of% @List.length_cons:=@List.length_cons
theorem ew:type_of% @List.length_map:=@List.length_map
theorem eE:type_of% @List.getElem?_eq_some_iff:=@List.getElem?_eq_some_iff
theorem eY:type_of% @Nat.zero_le:=@Nat.zero_le
theorem fu:type_of% @decide_eq_true:=@decide_eq_true
theorem fG:type_of% @PySem.Heap.lt_size:=@PySem.Heap.lt_size
theorem fT:type_of% @List.map_cons:=@List.map_cons
theorem fZ:type_of% @List.take_of_length_le:=@List.take_of_length_le
theorem f9:type_of% @List.mem_of_getElem?:=@List.mem_of_getElem?
theorem gd:type_of% @Option.map_some:=@Option.map_some
theorem gB:type_of% @List.length_append:=@List.length_append
theorem gQ:type_of% @List.mem_cons:=@List.mem_cons
theorem gR:type_of% @Nat.ne_of_lt:=@Nat.ne_of_lt
theorem g0:type_of% @List.length_take:=@List.length_take
theorem g4:type_of% @List.mem_singleton:=@List.mem_singleton
theorem g5:type_of% @List.mem_map:=@List.mem_map
theorem hr:type_of% @List.foldl_cons:=@List.foldl_cons
theorem hM:type_of% @PySem.boot_len:=@PySem.boot_len
theorem hZ:type_of% @List.mem_cons_of_mem:=@List.mem_cons_of_mem
theorem h2:type_of% @of_decide_eq_true:=@of_decide_eq_true
theorem h9:type_of% @List.mem_cons_self:=@List.mem_cons_self
theorem iB:type_of% @PySem.Heap.get?_push_of_some:=@PySem.Heap.get?_push_of_some
theorem iC:type_of% @List.size_toArray:=@List.size_toArray
theorem je:type_of% @Bool.and_eq_true:=@Bool.and_eq_true
theorem jf:type_of% @Nat.le_trans:=@Nat.le_trans
theorem jq:type_of% @Bool.false_ne_true:=@Bool.false_ne_true
theorem kf:type_of% @Bool.false_eq_true:=@Bool.false_eq_true
theorem kg:type_of% @List.find?_cons:=@List.find?_cons
theorem kh:type_of% @List.map_map:=@List.map_map
theorem ll:type_of% @Nat.lt_of_lt_of_le:=@Nat.lt_of_lt_of_le
theorem lU:type_of% @PySem.Heap.get?_push_size:=@PySem.Heap.get?_push_size
theorem lV:type_of% @PySem.F.plainAttrs_list:=@PySem.F.plainAttrs_list
theorem mV:type_of% @List.getElem_mem:=@List.getElem_mem
theorem ob:type_of% @List.drop_of_length_le:=@List.drop_of_length_le
theorem oc:type_of% @List.length_drop:=@List.length_drop
theorem od:type_of% @List.map_append:=@List.map_append
theorem oh:type_of% @List.foldl_append:=@List.foldl_append
theorem oo:type_of% @decide_eq_false:=@decide_eq_false
theorem pa:type_of% @List.mem_append:=@List.mem_append
theorem pe:type_of% @decide_eq_true_eq:=@decide_eq_true_eq
theorem pg:type_of% @PySem.mem_of_lookup:=@PySem.mem_of_lookup
theorem pk:type_of% @PySem.F.slot_list_append:=@PySem.F.slot_list_append
theorem pn:type_of% @PySem.F.type_list_append:=@PySem.F.type_list_append
theorem pq:type_of% @Option.bind_eq_some_iff:=@Option.bind_eq_some_iff
theorem p2:type_of% @List.range_succ:=@List.range_succ
theorem p7:type_of% @Nat.zero_add:=@Nat.zero_add
theorem qX:type_of% @Option.map_eq_some_iff:=@Option.map_eq_some_iff
theorem qY:type_of% @List.getElem?_eq_none:=@List.getElem?_eq_none
theorem qZ:type_of% @PySem.Heap.size_push:=@PySem.Heap.size_push
theorem rR:type_of% @List.mem_filter:=@List.mem_filter
theorem rT:type_of% @List.all_eq_true:=@List.all_eq_true
theorem rU:type_of% @List.foldl_nil:=@List.foldl_nil
theorem rW:type_of% @List.length_nil:=@List.length_nil
theorem rY:type_of% @Nat.lt_trans:=@Nat.lt_trans
theorem sS:type_of% @List.any_eq_true:=@List.any_eq_true
theorem uF:type_of% @Option.map_map:=@Option.map_map
theorem uG:type_of% @List.lookup_cons:=@List.lookup_cons
theorem uH:type_of% @List.append_assoc:=@List.append_assoc
theorem uI:type_of% @List.mem_append_left:=@List.mem_append_left
theorem uJ:type_of% @Nat.lt_irrefl:=@Nat.lt_irrefl
theorem vV:type_of% @List.ext_getElem?:=@List.ext_getElem?
theorem vW:type_of% @List.take_add_one:=@List.take_add_one
theorem vX:type_of% @Nat.lt_succ_self:=@Nat.lt_succ_self
theorem vY:type_of% @List.mem_of_find?_eq_some:=@List.mem_of_find?_eq_some
theorem vZ:type_of% @List.find?_some:=@List.find?_some
theorem v5:type_of% @List.map_nil:=@List.map_nil
theorem v7:type_of% @Nat.ne_of_gt:=@Nat.ne_of_gt
theorem v8:type_of% @List.mem_append_right:=@List.mem_append_right
theorem v9:type_of% @beq_iff_eq:=@beq_iff_eq
theorem v':type_of% @of_decide_eq_false:=@of_decide_eq_false
theorem wa:type_of% @decide_eq_decide:=@decide_eq_decide
theorem xY:type_of% @Bool.true_and:=@Bool.true_and
theorem xZ:type_of% @List.filter_cons:=@List.filter_cons
theorem x2:type_of% @List.getElem?_cons_zero:=@List.getElem?_cons_zero
theorem x3:type_of% @List.filter_append:=@List.filter_append
theorem x4:type_of% @List.getElem?_take_of_lt:=@List.getElem?_take_of_lt
theorem x5:type_of% @List.zipIdx_cons:=@List.zipIdx_cons
theorem x6:type_of% @Bool.not_false:=@Bool.not_false
theorem x7:type_of% @List.pairwise_cons:=@List.pairwise_cons
theorem z7:type_of% @List.drop_eq_getElem_cons:=@List.drop_eq_getElem_cons
theorem z8:type_of% @List.getElem?_eq_none_iff:=@List.getElem?_eq_none_iff
theorem z9:type_of% @List.getElem?_cons_succ:=@List.getElem?_cons_succ
theorem z_:type_of% @List.getElem?_drop:=@List.getElem?_drop
theorem z':type_of% @Nat.le_of_lt:=@Nat.le_of_lt
theorem Aa:type_of% @List.map_drop:=@List.map_drop
theorem Ab:type_of% @List.drop_succ_cons:=@List.drop_succ_cons
theorem Ac:type_of% @List.filterMap_cons:=@List.filterMap_cons
theorem Ad:type_of% @Bool.eq_iff_iff:=@Bool.eq_iff_iff
theorem Ae:type_of% @List.find?_eq_none:=@List.find?_eq_none
theorem Af:type_of% @List.nodup_cons:=@List.nodup_cons
theorem Ag:type_of% @List.map_congr_left:=@List.map_congr_left
theorem Ah:type_of% @Nat.not_lt_zero:=@Nat.not_lt_zero
theorem Ai:type_of% @Nat.le_of_eq:=@Nat.le_of_eq
theorem Aj:type_of% @PySem.Heap.get?_update_other:=@PySem.Heap.get?_update_other
theorem Ak:type_of% @List.any_cons:=@List.any_cons
theorem Al:type_of% @List.drop_drop:=@List.drop_drop
theorem D_:type_of% @Option.map_none:=@Option.map_none
theorem D':type_of% @Nat.min_eq_left:=@Nat.min_eq_left
theorem Ea:type_of% @List.mem_of_mem_take:=@List.mem_of_mem_take
theorem Eb:type_of% @List.mem_iff_getElem?:=@List.mem_iff_getElem?
theorem Ec:type_of% @PySem.F.slot_dict_get:=@PySem.F.slot_dict_get
theorem Ed:type_of% @List.drop_eq_nil_of_le:=@List.drop_eq_nil_of_le
theorem Ef:type_of% @List.filterMap_append:=@List.filterMap_append
theorem Eh:type_of% @List.length_filter_le:=@List.length_filter_le
theorem Ei:type_of% @List.tail_drop:=@List.tail_drop
theorem Ej:type_of% @List.not_mem_nil:=@List.not_mem_nil
theorem Ek:type_of% @PySem.W.mg_of:=@PySem.W.mg_of
theorem Iw:type_of% @List.getElem?_zipIdx:=@List.getElem?_zipIdx
theorem Iz:type_of% @List.getElem?_set_self:=@List.getElem?_set_self
theorem IK:type_of% @List.flatMap_cons:=@List.flatMap_cons
theorem IV:type_of% @List.mem_range:=@List.mem_range
theorem IW:type_of% @List.take_zero:=@List.take_zero
theorem I0:type_of% @List.getElem?_append_right:=@List.getElem?_append_right
theorem I1:type_of% @List.take_append_drop:=@List.take_append_drop
theorem I2:type_of% @List.nil_append:=@List.nil_append
theorem I3:type_of% @List.pairwise_map:=@List.pairwise_map
theorem I4:type_of% @Int.toNat_of_nonneg:=@Int.toNat_of_nonneg
theorem I5:type_of% @List.getElem?_set_ne:=@List.getElem?_set_ne
theorem I6:type_of% @Array.length_toList:=@Array.length_toList
theorem I7:type_of% @List.mem_filterMap:=@List.mem_filterMap
theorem I8:type_of% @Int.toNat_natCast:=@Int.toNat_natCast
theorem I9:type_of% @Nat.le_add_right:=@Nat.le_add_right
theorem I_:type_of% @List.mem_map_of_mem:=@List.mem_map_of_mem
theorem Uh:type_of% @List.getD_eq_getElem?_getD:=@List.getD_eq_getElem?_getD
theorem Ui:type_of% @List.drop_append_of_le_length:=@List.drop_append_of_le_length
theorem Uj:type_of% @List.getElem?_append_left:=@List.getElem?_append_left
theorem Uk:type_of% @List.mem_of_mem_drop:=@List.mem_of_mem_drop
theorem Ul:type_of% @PySem.Heap.get?_none_of_le:=@PySem.Heap.get?_none_of_le
theorem Um:type_of% @PySem.F.entry_dict_get:=@PySem.F.entry_dict_get
theorem Un:type_of% @PySem.F.slot_list_extend:=@PySem.F.slot_list_extend
theorem Uo:type_of% @PySem.F.type_list_extend:=@PySem.F.type_list_extend
abbrev aK:=List Nat
namespace Sr
open Sw28
def ea(lo hi:Int):P Nat:=only (fun x=>decide (lo<=(x:Int)) && decide ((x:Int)<=hi)) u16
theorem El{α:Type}(p:P α):∀ (n:Nat) (t:B),times p (n+1) t=(times p n t).bind fun y=>(p y.2).map fun x=>(y.1++[x.1],x.2)
 |0,t=>by
  simp only[times];cases h:p t<;>simp[h]
 |n+1,t=>by
  rw[times];have bU:=El p n
  conv=>rhs;rw[times]
  cases h:p t with
  |none=>simp
  |some x =>
   simp only[d4,bU];cases aC:times p n x.2 with
   |none=>simp
   |some y =>
    simp only[d4,gd];cases bH:p y.2<;>simp
theorem x8{α:Type}(p:P α){t:B}{i:Nat}{y:List α×B}(h:times p i t=some y)(aL:p y.2=none):∀ n,i<n->times p n t=none:=by
 intro n aR;obtain⟨k,rfl⟩:∃ k,n=i+1+k:=⟨n-(i+1),by omega⟩;induction k with
 |zero=>rw[Nat.add_zero,El,h];simp[aL]
 |succ k bU =>
  rw[← Nat.add_assoc,El,bU (by omega)];rfl
theorem mW{α:Type}(p:P α):∀ {n:Nat} {t:B} {y:List α×B},times p n t=some y->y.1.length=n
 |0,t,y,h=>by simp only[times]at h;cases h;rfl
 |n+1,t,y,h=>by
  simp only[times]at h;cases h1:p t with
  |none=>rw[h1]at h;simp at h
  |some x =>
   rw[h1]at h;simp only[d4]at h;cases aC:times p n x.2 with
   |none=>rw[aC]at h;simp at h
   |some z =>
    rw[aC]at h;simp only[gd,Option.some.injEq]at h;subst h;simp[mW p aC]
theorem ou{α:Type}(lo hi:Nat)(p:P α)(t:B):many lo hi p t=(ea lo hi t).bind fun x=>times p x.1 x.2:=by
 unfold many ea only;cases u16 t with
 |none=>rfl
 |some x =>
  simp only[d4];by_cases h:x.1<lo\/hi<x.1
  ·rw[bL h,bw (by simp;omega)];rfl
  ·rw[bw h,bL (by simp;omega)];rfl
theorem wg{α:Type}{lo hi:Nat}{p:P α}{t:B}{y:List α×B}(h:many lo hi p t=some y):lo<=y.1.length/\y.1.length<=hi:=by
 unfold many at h;cases h1:u16 t with
 |none=>rw[h1]at h;simp at h
 |some x =>
  rw[h1]at h;simp only[d4]at h;split at h
  ·cases h
  ·rename_i aC;rw[mW p h];omega
theorem gY{α:Type}(good:α->Bool)(p:P α)(t:B):only good p t=(p t).bind fun x=>if good x.1=true then some x else none:=rfl
theorem aiv{α:Type}(good:α->Bool)(p:P α):∀ (n:Nat) (t:B),times (only good p) n t=(times p n t).bind fun y=>if y.1.all good=true then some y else none
 |0,t=>by simp[times]
 |n+1,t=>by
  rw[times,times,gY];cases p t with
  |none=>simp
  |some x =>
   simp only[d4];by_cases b5:good x.1=true
   ·rw[bL b5];simp only[d4];rw[aiv good p n];cases times p n x.2 with
    |none=>simp
    |some z =>
     simp only[d4,gd,List.all_cons,b5,xY];split<;>simp
   ·rw[bw b5];cases times p n x.2 with
    |none=>simp
    |some z =>
     simp only[d4,gd,List.all_cons];simp[b5]
theorem aiw{α:Type}{p q:P α}(h:∀ t,p t=q t)(n:Nat)(t:B):times p n t=times q n t:=by
 have:p=q:=funext h;rw[this]
theorem sign_eq(g:Nat)(t:B):sign g t=ea 0 ((g:Int)-1) t:=by
 unfold sign ea;congr 1
 funext x
 simp;omega
theorem aix(t:B):skip t=ea 0 7 t:=by
 unfold skip ea;congr 1
 funext x
 simp;omega
theorem wh{lo hi:Int}{t:B}{x:Nat×B}(h:ea lo hi t=some x):lo<=(x.1:Int)/\(x.1:Int)<=hi/\u16 t=some x:=by
 unfold ea at h;rw[gY]at h;cases h1:u16 t with
 |none=>rw[h1]at h;simp at h
 |some y =>
  rw[h1]at h;simp only[d4]at h;split at h
  ·rename_i aC;cases h;simp at aC;exact⟨aC.1,aC.2,Z⟩
  ·cases h
def Em(c:Nat):P (Nat×Nat):=pair (ea 0 ((c:Int)-1)) u16
def p8(g:Nat):P Around:=fun t=>(many 0 8 (signs g) t).bind fun b=>(many 1 8 (signs g) b.2).bind fun h=>(many 0 8 (signs g) h.2).bind fun k =>
 (many 0 8 (Em h.1.length) k.2).map fun a=>(⟨b.1,h.1,k.1,a.1⟩,a.2)
theorem aiy(c:Nat)(t:B):Em c t=only (fun y=>decide (y.1<c)) (pair u16 u16) t:=by
 unfold Em pair ea;rw[gY];rw[gY];cases u16 t with
 |none=>rfl
 |some x =>
  simp only[d4];by_cases h:x.1<c
  ·rw[bL (by simp;omega)];simp only[d4];cases u16 x.2 with
   |none=>rfl
   |some y=>simp[h]
  ·rw[bw (by simp;omega)];cases u16 x.2 with
   |none=>rfl
   |some y=>simp[h]
theorem aiz{α:Type}(lo hi:Nat)(good:α->Bool)(p:P α)(t:B):many lo hi (only good p) t=only (fun l=>l.all good) (many lo hi p) t:=by
 rw[ou,gY,ou];cases ea lo hi t with
 |none=>rfl
 |some x=>simp only[d4,aiv]
theorem aai{α:Type}{p q:P α}(h:∀ t,p t=q t)(lo hi:Nat)(t:B):many lo hi p t=many lo hi q t:=by
 have:p=q:=funext h;rw[this]
theorem ap9(g:Nat)(t:B):around g t=p8 g t:=by
 unfold around p8 pair;cases h1:many 0 8 (signs g) t with
 |none=>rfl
 |some b =>
  simp only[d4];cases aC:many 1 8 (signs g) b.2 with
  |none=>rfl
  |some h =>
   simp only[d4];cases bH:many 0 8 (signs g) h.2 with
   |none=>rfl
   |some k =>
    simp only[d4];rw[aai (aiy h.1.length),aiz,gY];change (Option.map _ (Option.map _ (Option.map _ (many 0 8 (pair u16 u16) k.2)))).bind _=_
    cases many 0 8 (pair u16 u16) k.2 with
    |none=>rfl
    |some a =>
     simp only[gd,d4];split<;>rfl
def aiA(g:Nat):P (List (Nat×Nat)):=only (fun l=>rising (l.map fun y=>y.1)) (many 1 1024 (pair (sign g) (sign g)))
def aiB(g:Nat):P (List (Nat×aK)):=only (fun l=>rising (l.map fun y=>y.1)) (many 1 1024 (pair (sign g) (many 1 8 (sign g))))
def Uq(g:Nat):P (List (Nat×aK×Nat)):=only (fun l=>level (l.map fun y=>y.1)) (many 1 1024 (pair (sign g) (pair (many 1 7 (sign g)) (sign g))))
def Ur(g:Nat):P (List Around):=many 1 64 (p8 g)
def d7{α β:Type}(f:α->β)(p:P α):P β:=fun t=>(p t).map fun x=>(f x.1,x.2)
def qb(g k:Nat):P Sub :=
 if k=1 then d7 Sub.one (aiA g)else if k=2 then d7 Sub.more (aiB g)else if k=3 then d7 Sub.joined (Uq g)else d7 Sub.around (Ur g)
def sU(g:Nat):P (Nat×Nat×Sub):=fun t=>(ea 1 4 t).bind fun k=>(ea 0 7 k.2).bind fun s=>(qb g k.1 s.2).map fun y=>((k.1,s.1,y.1),y.2)
def lq:Sub->Nat
 | .one _=>1
 | .more _=>2
 | .joined _=>3
 | .around _=>4
theorem aiC{α β:Type}(x:(Nat×Nat)×B)(p:P α)(f:α->β):body x p f=(p x.2).map fun y=>(⟨x.1.2,f y.1⟩,y.2):=rfl
theorem sub_eq(g:Nat)(t:B):sub g t=(sU g t).map fun x=>(⟨x.1.2.1,x.1.2.2⟩,x.2):=by
 unfold sub sU;rw[pair];rw[ea,gY];cases u16 t with
 |none=>rfl
 |some k =>
  simp only[d4];by_cases aN:1<=k.1/\k.1<=4
  ·rw[bL (by simp;omega)];simp only[d4];rw[← aix];cases skip k.2 with
   |none=>rfl
   |some s =>
    simp only[gd,d4,aiC];unfold qb d7;by_cases h1:k.1=1
    ·rw[bL h1,bL h1];simp only[uF];rfl
    rw[bw h1,bw h1];by_cases aC:k.1=2
    ·rw[bL aC,bL aC];simp only[uF];rfl
    rw[bw aC,bw aC];by_cases bH:k.1=3
    ·rw[bL bH,bL bH];simp only[uF];rfl
    rw[bw bH,bw bH,bL (by omega)];unfold Ur;rw[aai (ap9 g)];simp only[uF];rfl
  ·rw[bw (by simp;omega)];cases skip k.2 with
   |none=>rfl
   |some s =>
    simp only[gd,d4];rw[bw (by omega),bw (by omega),bw (by omega),bw (by omega)];rfl
theorem ap_{g k:Nat}{t:B}{x:Sub×B}(h1:1<=k)(dw:k<=4)(h:qb g k t=some x):lq x.1=k:=by
 unfold qb d7 at h;split at h
 ·simp only[qX]at h;obtain⟨y,_,rfl⟩:=h;simp[lq, *]
 ·split at h
  ·simp only[qX]at h;obtain⟨y,_,rfl⟩:=h;simp[lq, *]
  ·split at h
   ·simp only[qX]at h;obtain⟨y,_,rfl⟩:=h;simp[lq, *]
   ·simp only[qX]at h;obtain⟨y,_,rfl⟩:=h;simp only[lq];omega
def En:P (Int×Int×Int):=pair s16 (pair s16 s16)
def aiD(g:Nat):P (List (Nat×Int×Int×Int)):=only (fun l=>rising (l.map fun y=>y.1)) (many 1 1024 (pair (sign g) En))
def pPairs(g:Nat):P (List (Nat×Nat×Int)):=only (fun l=>rising (l.map fun y=>65536 * y.1+y.2.1)) (many 1 1024 (pair (sign g) (pair (sign g) s16)))
def I'(g:Nat):P (List Anchor):=only (fun l=>rising (l.map fun a=>a.sign)) (many 1 1024 (anchor g))
def Ja(g:Nat):P (List Anchor):=only (fun l=>rising (l.map fun a=>65536 * a.sign+a.cls)) (many 1 1024 (anchor g))
def Jb(g:Nat):P (List Anchor×List Anchor):=pair (I' g) (Ja g)
theorem aiE(g:Nat)(t:B):anchors g t=Jb g t:=by
 unfold anchors Jb I' Ja pair;rw[gY,gY];cases many 1 1024 (anchor g) t with
 |none=>rfl
 |some m =>
  simp only[d4];by_cases h1:rising (m.1.map fun a=>a.sign)=true
  ·rw[bL h1];simp only[d4,gY];cases many 1 1024 (anchor g) m.2 with
   |none=>rfl
   |some b =>
    simp only[gd,d4,h1,xY];split<;>rfl
  ·rw[bw h1];cases many 1 1024 (anchor g) m.2 with
   |none=>rfl
   |some b =>
    simp only[gd,d4];rw[bw (by simp[h1])];rfl
def qd(g k:Nat):P Pos :=
 if k=1 then d7 Pos.one (aiD g)else if k=2 then d7 Pos.pair (pPairs g)else if k=3 then d7 (fun y=>Pos.onBase y.1 y.2) (Jb g)else d7 (fun y=>Pos.onMark y.1 y.2) (Jb g)
def sV(g:Nat):P (Nat×Nat×Pos):=fun t=>(ea 1 4 t).bind fun k=>(ea 0 7 k.2).bind fun s=>(qd g k.1 s.2).map fun y=>((k.1,s.1,y.1),y.2)
def qe:Pos->Nat
 | .one _=>1
 | .pair _=>2
 | .onBase _ _=>3
 | .onMark _ _=>4
theorem pos_eq(g:Nat)(t:B):pos g t=(sV g t).map fun x=>(⟨x.1.2.1,x.1.2.2⟩,x.2):=by
 unfold pos sV;rw[pair];rw[ea,gY];cases u16 t with
 |none=>rfl
 |some k =>
  simp only[d4];by_cases aN:1<=k.1/\k.1<=4
  ·rw[bL (by simp;omega)];simp only[d4];rw[← aix];cases skip k.2 with
   |none=>rfl
   |some s =>
    simp only[gd,d4,aiC];unfold qd d7;by_cases h1:k.1=1
    ·rw[bL h1,bL h1];simp only[uF];rfl
    rw[bw h1,bw h1];by_cases aC:k.1=2
    ·rw[bL aC,bL aC];simp only[uF];rfl
    rw[bw aC,bw aC];by_cases bH:k.1=3
    ·rw[bL bH,bL bH];simp only[aiE,uF];rfl
    rw[bw bH,bw bH,bL (by omega)];simp only[aiE,uF];rfl
  ·rw[bw (by simp;omega)];cases skip k.2 with
   |none=>rfl
   |some s =>
    simp only[gd,d4];rw[bw (by omega),bw (by omega),bw (by omega),bw (by omega)];rfl
theorem aqa{g k:Nat}{t:B}{x:Pos×B}(h1:1<=k)(dw:k<=4)(h:qd g k t=some x):qe x.1=k:=by
 unfold qd d7 at h;split at h
 ·simp only[qX]at h;obtain⟨y,_,rfl⟩:=h;simp[qe, *]
 ·split at h
  ·simp only[qX]at h;obtain⟨y,_,rfl⟩:=h;simp[qe, *]
  ·split at h
   ·simp only[qX]at h;obtain⟨y,_,rfl⟩:=h;simp[qe, *]
   ·simp only[qX]at h;obtain⟨y,_,rfl⟩:=h;simp only[qe];omega
def qg(g:Nat)(behind:Int):P Span:=fun t=>(u32 t).bind fun a=>(u32 a.2).bind fun b =>
 if behind<(a.1:Int)then if a.1<=b.1 then if b.1<=1114111 then(sign g b.2).bind fun s =>
  if(s.1:Int)+(b.1:Int)-(a.1:Int)<(g:Int)then some (⟨a.1,b.1,s.1⟩,s.2)else none else none else none else none
def pv(g:Nat):Nat->Int->B->Option (List Span×B)
 |0,_,t=>some ([],t)
 |n+1,behind,t=>(qg g behind t).bind fun x=>(pv g n (x.1.last:Int) x.2).map fun y=>(x.1::y.1,y.2)
def wi:Int->List Span->Bool
 |_,[]=>true
 |b,a::r=>decide (b<(a.first:Int)) && wi (a.last:Int) r
theorem aiF:∀ l:List Span,apart l=wi (-1) l
 | []=>rfl
 | [a]=>by simp[apart,wi];omega
 |a::b::r=>by
  have bU:=aiF (b::r);have h:decide ((-1:Int)<(a.first:Int))=true:=by simp;omega
  simp only[apart,wi,h,xY];rw[bU];have aC:decide ((-1:Int)<(b.first:Int))=true:=by simp;omega
  simp only[wi,aC,xY];congr 1
  simp
theorem aqb(g:Nat)(behind:Int)(t:B):qg g behind t=(span g t).bind fun x=>if behind<(x.1.first:Int)then some x else none:=by
 unfold qg span pair;cases u32 t with
 |none=>rfl
 |some a =>
  simp only[d4];cases u32 a.2 with
  |none=>rfl
  |some b =>
   simp only[d4];cases sign g b.2 with
   |none =>
    simp only[Option.bind_none,D_];split<;>(try split)<;>(try split)<;>rfl
   |some s =>
    simp only[d4,gd];by_cases h1:b.1<a.1\/0x10FFFF<b.1\/g<=s.1+(b.1-a.1)
    ·rw[bL h1];simp only[Option.bind_none];split
     ·split
      ·split
       ·rw[bw (by omega)]
       ·rfl
      ·rfl
     ·rfl
    ·rw[bw h1];simp only[d4];rw[bL (show a.1<=b.1 by omega),bL (show b.1<=1114111 by omega),bL (show(s.1:Int)+(b.1:Int)-(a.1:Int)<(g:Int) by omega)]
theorem aiG(g:Nat):∀ (n:Nat) (behind:Int) (t:B),pv g n behind t=(times (span g) n t).bind fun y=>if wi behind y.1=true then some y else none
 |0,b,t=>by simp[pv,times,wi]
 |n+1,b,t=>by
  rw[pv,times,aqb];cases span g t with
  |none=>rfl
  |some x =>
   simp only[d4];by_cases h:b<(x.1.first:Int)
   ·rw[bL h];simp only[d4];rw[aiG g n];cases times (span g) n x.2 with
    |none=>rfl
    |some y =>
     simp only[d4,gd,wi,h,decide_true,xY];split<;>rfl
   ·rw[bw h];cases times (span g) n x.2 with
    |none=>rfl
    |some y=>simp[wi,h]
theorem aqc(g:Nat)(t:B):only apart (many 0 1024 (span g)) t=(ea 0 1024 t).bind fun x=>pv g x.1 (-1) x.2:=by
 rw[gY,ou];show(Option.bind (Option.bind (ea 0 1024 t) _) _)=_;cases ea 0 1024 t with
 |none=>rfl
 |some x =>
  simp only[d4,aiG,aiF]
def qj(k:Nat):P (aK):=only rising (many 0 64 (ea 0 ((k:Int)-1)))
theorem aqd(k:Nat)(t:B):only (fun l=>rising l && l.all fun i=>decide (i<k)) (many 0 64 u16) t=qj k t:=by
 unfold qj;have h:∀ t,ea 0 ((k:Int)-1) t=only (fun i=>decide (i<k)) u16 t:=fun t=>by
  unfold ea;congr 1
  funext x
  simp;omega
 rw[gY,gY,aai h,aiz,gY];cases many 0 64 u16 t with
 |none=>rfl
 |some x =>
  simp only[d4];by_cases h1:(x.1.all fun i=>decide (i<k))=true
  ·rw[bL h1];simp only[d4,h1,Bool.and_true]
  ·rw[bw h1,bw (by simp[h1])];rfl
def Am(ks aG:Nat):P (List (Nat×aK×aK)):=only (fun l=>rising (l.map fun x=>x.1)) (many 0 64 (pair u32 (pair (qj ks) (qj aG))))
def Jc(g:Nat):P Font:=fun t =>
 ((ea 0 1024 t).bind fun x=>pv g x.1 (-1) x.2).bind fun m =>
  (times (only (fun c=>decide (c<4)) byte) g m.2).bind fun c =>
  (times u16 g c.2).bind fun w =>
  (only actsRight (many 0 64 (sub g)) w.2).bind fun s =>
  (many 0 64 (pos g) s.2).bind fun p =>
  (Am s.1.length p.1.length p.2).map fun f=>(⟨g,m.1,c.1,w.1,s.1,p.1,f.1⟩,f.2)
def Jd:P Font:=fun t=>(byte t).bind fun a=>if a.1=73 then(byte a.2).bind fun b=>if b.1=112 then
 (ea 1 4096 b.2).bind fun g=>Jc g.1 g.2 else none else none
theorem aaj{t:B}(h:∀ t',t≠73::112::t'):file t=none:=by
 unfold file;split
 ·exact absurd rfl (h _)
 ·rfl
theorem aqe(t:B):file (73::112::t)=(only (fun g=>decide (1<=g) && decide (g<=4096)) u16 t).bind fun g =>
  (only apart (many 0 1024 (span g.1)) g.2).bind fun m =>
  (times (only (fun c=>decide (c<4)) byte) g.1 m.2).bind fun c =>
  (times u16 g.1 c.2).bind fun w =>
  (only actsRight (many 0 64 (sub g.1)) w.2).bind fun s =>
  (many 0 64 (pos g.1) s.2).bind fun p =>
  (only (fun l=>rising (l.map fun x=>x.1)) (many 0 64 (pair u32 (pair (only (fun l=>rising l && l.all fun i=>decide (i<s.1.length)) (many 0 64 u16)) (only (fun l=>rising l && l.all fun i=>decide (i<p.1.length)) (many 0 64 u16))))) p.2).map fun f=>(⟨g.1,m.1,c.1,w.1,s.1,p.1,f.1⟩,f.2):=rfl
theorem aqf(t:B):file t=Jd t:=by
 unfold Jd;have hi:∀ k,(only (fun l=>rising l && l.all fun i=>decide (i<k)) (many 0 64 u16))=qj k:=fun k=>funext (aqd k);match t with
 | []=>rfl
 | [a] =>
  rw[aaj (by intro t' e;cases e)];simp only[byte,d4,Option.bind_none];split<;>rfl
 |a::b::t =>
  simp only[byte,d4];by_cases h:a=73
  ·by_cases aC:b=112
   ·subst h aC;rw[bL rfl,bL rfl,aqe];have e:only (fun g=>decide (1<=g) && decide (g<=4096)) u16 t=ea 1 4096 t:=by
     have a8:(fun g:Nat=>decide (1<=g) && decide (g<=4096))=fun x:Nat=>decide ((1:Int)<=(x:Int)) && decide ((x:Int)<=4096):=by
      funext x
      have h1:(1<=x)↔((1:Int)<=(x:Int)):=by omega
      have aC:(x<=4096)↔((x:Int)<=4096):=by omega
      simp only[h1,aC]
     unfold ea;rw[a8]
    rw[e];congr 1
    funext g
    unfold Jc;rw[← aqc];simp only[hi,Am]
   ·rw[bL h,bw aC,aaj (by intro t' e;injection e with bD a8;injection a8 with dr ov;exact aC dr)]
  ·rw[bw h,aaj (by intro t' e;injection e with bD a8;exact h bD)]
def ql(b:B):Option Font:=(Jd b).bind fun x=>if x.2=[]then some x.1 else none
theorem aak(b:B):Sw28.read b=ql b:=by
 unfold Sw28.read ql;rw[aqf]
theorem Je(l:List Item)(i:Nat)(h:Item->Item)(j:Nat):(at_ l i h)[j]?=(l[j]?).map fun x=>if j=i then h x else x:=by
 unfold at_;rw[ei,Iw];cases l[j]?<;>simp
theorem Us{l:List Item}{i:Nat}{x:Item}(h:Item->Item)(e:l[i]?=some x):at_ l i h=l.set i (h x):=by
 apply vV;intro j;rw[Je,List.getElem?_set];by_cases bM:i=j
 ·subst bM;obtain⟨hi,aq⟩:=eE.mp e;simp[hi,aq]
 ·have:¬ j=i:=fun z=>bM z.symm
  simp[bM,this]
theorem uK{l:List Item}{i:Nat}{x:Item}(e:l[i]?=some x):signAt l i=x.sign:=by simp[signAt,e]
theorem aqg{α:Type}{l:List α}{i:Nat}{x:α}(y:α)(e:l[i]?=some x):(l.set i y).take (i+1)=l.take i++[y]:=by
 have hi:=(eE.mp e).1;rw[vW,List.take_set_of_le (cG _),Iz hi];rfl
theorem aqh{α:Type}(l:List α)(i:Nat)(y:α):(l.set i y).drop (i+1)=l.drop (i+1):=by
 rw[List.drop_set_of_lt (vX i)]
theorem qm{α:Type}{l:List α}{i:Nat}{x:α}(e:l[i]?=some x):l.drop i=x::l.drop (i+1):=by
 obtain⟨hi,aq⟩:=eE.mp e;rw[z7 hi,aq]
theorem wj{α:Type}{l:List α}{i:Nat}{x:α}(e:l[i]?=some x):l.take (i+1)=l.take i++[x]:=by
 rw[vW,e];rfl
def oneOf(f:Font)(sk:Nat)(t:List (Nat×Nat))(x:Item):Item:=if passed f sk x=true then x else{ x with sign:=(t.lookup x.sign).getD x.sign }
theorem Ut(f:Font)(sk:Nat)(t:List (Nat×Nat)):∀ (fuel:Nat) (l:List Item) (i:Nat),l.length<=4096->l.length<fuel+i ->
  along f ⟨sk,.one t⟩ fuel l i=some (l.take i++(l.drop i).map (oneOf f sk t))
 |0,l,i,_,hf=>by
  have h:l.length<=i:=by omega
  simp[along,fZ h,ob h]
 |k+1,l,i,aF,hf=>by
  rw[along,bw (by show ¬ 4096<l.length;omega)];cases e:l[i]? with
  |none =>
   have h:l.length<=i:=z8.mp e;simp[fZ h,ob h]
  |some x =>
   have hi:=(eE.mp e).1;simp only[];rw[qm e,fT];by_cases aL:passed f sk x=true
   ·rw[bL aL,Ut f sk t k l (i+1) aF (by omega),wj e];simp[oneOf,aL]
   ·rw[bw aL];unfold changed;simp only[uK e];cases b_:t.lookup x.sign with
    |none =>
     simp only[D_];rw[Ut f sk t k l (i+1) aF (by omega),wj e];simp[oneOf,aL,b_]
    |some s =>
     simp only[gd,swap,uK e,b_];rw[Us _ e,Ut f sk t k _ (i+1) (by simpa using aF) (by simp;omega),aqg _ e,aqh];simp[oneOf,aL,b_]
def gU(f:Font)(sk:Nat)(t:List (Nat×aK))(x:Item):List Item :=
 if passed f sk x=true then[x]else match t.lookup x.sign with
  |some ss=>ss.map fun s=>{ x with sign:=s }
  |none=>[x]
theorem lookup_mem{eF β:Type}[BEq eF][LawfulBEq eF]:∀ {t:List (eF×β)} {k:eF} {v:β},t.lookup k=some v->(k,v)∈t
 | [],_,_,h=>by cases h
 |(a,b)::r,k,v,h=>by
  rw[uG]at h;split at h
  ·rename_i aN;cases h;rw[eq_of_beq aN];exact h9
  ·exact hZ _ (lookup_mem h)
theorem aqi{f:Font}{sk:Nat}{t:List (Nat×aK)}(b_:∀ y∈t,y.2≠[])(x:Item):1<=(gU f sk t x).length:=by
 unfold gU;split
 ·simp
 ·split
  ·rename_i ss e;have:=b_ _ (lookup_mem e);cases ss with
   |nil=>exact absurd rfl this
   |cons a r=>simp
  ·simp
theorem aiH{f:Font}{sk:Nat}{t:List (Nat×aK)}(b_:∀ y∈t,y.2≠[]):∀ l:List Item,l.length<=(l.flatMap (gU f sk t)).length
 | []=>by simp
 |x::r=>by
  have h1:=aqi (f:=f) (sk:=sk) b_ x;have aC:=aiH (f:=f) (sk:=sk) b_ r;simp only[IK,gB,ek];omega
theorem Uu(f:Font)(sk:Nat)(t:List (Nat×aK))(b_:∀ y∈t,y.2≠[]):∀ (fuel:Nat) (l:List Item) (i:Nat),i<=l.length->l.length<fuel+i ->
  along f ⟨sk,.more t⟩ fuel l i=if 4096<(l.take i++(l.drop i).flatMap (gU f sk t)).length then none else some (l.take i++(l.drop i).flatMap (gU f sk t))
 |0,l,i,h1,hf=>by omega
 |k+1,l,i,h1,hf=>by
  rw[along];have hlen:(l.take i++(l.drop i).flatMap (gU f sk t)).length ≥ l.length:=by
   have:=aiH (f:=f) (sk:=sk) b_ (l.drop i);simp only[gB,g0,oc]at this ⊢;omega
  by_cases c4:LONG<l.length
  ·rw[bL c4,bL (by have:LONG=4096:=rfl;omega)]
  ·rw[bw c4];cases e:l[i]? with
   |none =>
    have h:l.length<=i:=z8.mp e;have dw:¬ 4096<l.length:=by have:LONG=4096:=rfl;omega
    simp[fZ h,ob h,dw]
   |some x =>
    have hi:=(eE.mp e).1;simp only[];rw[qm e,IK];by_cases aL:passed f sk x=true
    ·rw[bL aL,Uu f sk t b_ k l (i+1) hi (by omega),wj e];simp[gU,aL]
    ·rw[bw aL];unfold changed;simp only[uK e];cases pw:t.lookup x.sign with
     |none =>
      simp only[D_];rw[Uu f sk t b_ k l (i+1) hi (by omega),wj e];simp[gU,aL,pw]
     |some ss =>
      simp only[gd];have aq:l.getD i ⟨0,0,0,0,0⟩=x:=by rw[Uh,e];rfl
      rw[aq];have bH:(l.take i++((ss.map fun s=>({ x with sign:=s }:Item))++l.drop (i+1))).length=i+ss.length+(l.length-(i+1)):=by
       simp only[gB,g0,ew,oc];omega
      have aal:(l.take i++((ss.map fun s=>({ x with sign:=s }:Item))++l.drop (i+1))).take (i+ss.length)=l.take i++ss.map fun s=>({ x with sign:=s }:Item):=by
       rw[← uH,List.take_append_of_le_length (by simp only[gB,g0,ew];omega),fZ (by simp only[gB,g0,ew];omega)]
      have oA:(l.take i++((ss.map fun s=>({ x with sign:=s }:Item))++l.drop (i+1))).drop (i+ss.length)=l.drop (i+1):=by
       rw[← uH,Ui (by simp only[gB,g0,ew];omega),ob (by simp only[gB,g0,ew];omega)];rfl
      rw[Uu f sk t b_ k _ (i+ss.length) (by omega) (by omega),aal,oA];simp[gU,aL,pw]
section
variable(p:Item->Bool)
def dz:Nat->List Item->aK
 |_,[]=>[]
 |k,x::r=>if p x=true then dz (k+1) r else k::dz (k+1) r
def rZ(l:List Item):List Item:=l.filter fun x=>!p x
def lineOf(l:List Item):aK:=(rZ p l).map fun x=>x.sign
theorem uL{x:Item}{r:List Item}(h:p x=true):lineOf p (x::r)=lineOf p r:=by simp[lineOf,rZ,h]
theorem r0{x:Item}{r:List Item}(h:¬ p x=true):lineOf p (x::r)=x.sign::lineOf p r:=by simp[lineOf,rZ,h]
theorem q0{k:Nat}{x:Item}{r:List Item}(h:p x=true):dz p k (x::r)=dz p (k+1) r:=by simp[dz,h]
theorem q1{k:Nat}{x:Item}{r:List Item}(h:¬ p x=true):dz p k (x::r)=k::dz p (k+1) r:=by simp[dz,h]
theorem Uv:∀ (k:Nat) (l:List Item),(dz p k l).length=(lineOf p l).length
 |k,[]=>rfl
 |k,x::r=>by
  by_cases h:p x=true
  ·rw[q0 p h,uL p h,Uv]
  ·rw[q1 p h,r0 p h,ek,ek,Uv]
theorem oD:∀ {k:Nat} {l:List Item} {j:Nat},j∈dz p k l->k<=j/\j<k+l.length
 |k,[],j,h=>by cases h
 |k,x::r,j,h=>by
  by_cases aq:p x=true
  ·rw[q0 p aq]at h;have:=oD h;simp only[ek];omega
  ·rw[q1 p aq]at h;rcases gQ.mp h with e|h
   ·simp only[ek];omega
   ·have:=oD h
    simp only[ek];omega
theorem Uw:∀ (r:List Item) (k:Nat) (q:Nat->Bool),(∀ j,q (k+j)=(r[j]?).any fun x=>!p x)->(List.range' k r.length).filter q=dz p k r
 | [],k,q,_=>rfl
 |x::r,k,q,a0=>by
  rw[ek,List.range'_succ,xZ];have h0:=a0 0;simp only[Nat.add_zero,x2,Option.any_some]at h0;have bU:=Uw r (k+1) q fun j=>by
   have:=a0 (j+1);simp only[z9]at this;rw[← this];congr 1
   omega
  rw[h0,bU];by_cases aq:p x=true
  ·simp[dz,aq]
  ·simp[dz,aq]
theorem aiI(k:Nat):∀ n,(List.range n).filter (fun j=>decide (k<=j))=List.range' k (n-k)
 |0=>by simp
 |n+1=>by
  rw[p2,x3,aiI k n];by_cases h:k<=n
  ·rw[List.filter_cons_of_pos (by simpa using h),List.filter_nil];have e:n+1-k=(n-k)+1:=by omega
   rw[e,List.range'_concat];congr 2
   omega
  ·rw[List.filter_cons_of_neg (by simpa using h),List.filter_nil,List.append_nil];have bD:n+1-k=0:=by omega
   have a8:n-k=0:=by omega
   rw[bD,a8]
theorem aqj(l:List Item)(k:Nat):((List.range l.length).filter fun j=>decide (k<=j)).filter (fun j=>(l[j]?).any fun x=>!p x)=dz p k (l.drop k):=by
 rw[aiI];have:=Uw p (l.drop k) k (fun j=>(l[j]?).any fun x=>!p x) fun j=>by rw[z_]
 rw[oc]at this;exact this
theorem Ux:∀ (r:List Item) (k:Nat) (g:Nat->Nat),(∀ j x,r[j]?=some x->g (k+j)=x.sign)->(dz p k r).map g=lineOf p r
 | [],_,_,_=>rfl
 |x::r,k,g,b5=>by
  have bU:=Ux r (k+1) g fun j y e=>by
   have:=b5 (j+1) y (by simpa using e);rw[← this];congr 1
   omega
  have h0:=b5 0 x rfl;by_cases aq:p x=true
  ·rw[q0 p aq,uL p aq,bU]
  ·rw[q1 p aq,r0 p aq,fT,bU];congr 1
end
theorem Jf(f:Font)(sk:Nat)(l:List Item)(i:Nat):after f sk l i=dz (passed f sk) (i+1) (l.drop (i+1)):=by
 unfold after;rw[← aqj];congr 1
theorem aqk(f:Font)(sk:Nat)(l:List Item){i:Nat}(hi:i<=l.length):before f sk l i=(dz (passed f sk) 0 (l.take i)).reverse:=by
 unfold before;congr 1
 have h:=Uw (passed f sk) (l.take i) 0 (fun j=>((l.take i)[j]?).any fun x=>!passed f sk x) fun j=>by rw[p7]
 rw[g0,D' hi,← List.range_eq_range']at h;rw[← h];refine List.filter_congr fun j bM=>?_;rw[x4 (IV.mp bM)]
def fits:List (aK)->aK->Bool
 | [],_=>true
 |_::_,[]=>false
 |s::r,x::xs=>s.contains x && fits r xs
theorem aam(l:List Item):∀ (ss:List (aK)) (oE:aK),match_ l ss oE=fits ss (oE.map (signAt l))
 | [],_=>by simp[match_,fits]
 |_::_,[]=>by simp[match_,fits]
 |s::r,j::oE=>by simp[match_,fits,aam l r oE]
theorem aiJ(f:Font)(sk:Nat)(l:List Item)(i:Nat):(after f sk l i).map (signAt l)=lineOf (passed f sk) (l.drop (i+1)):=by
 rw[Jf];refine Ux _ _ _ _ fun j x e=>?_;rw[z_]at e;exact uK e
theorem aql(f:Font)(sk:Nat)(l:List Item){i:Nat}(hi:i<=l.length):(before f sk l i).map (signAt l)=(lineOf (passed f sk) (l.take i)).reverse:=by
 rw[aqk f sk l hi,List.map_reverse];congr 1
 refine Ux _ _ _ _ fun j x e=>?_;rw[p7];have bM:=(eE.mp e).1;rw[g0]at bM;rw[x4 (by omega)]at e;exact uK e
section
variable(p:Item->Bool)
def lW:Nat->List Item->List Item
 |0,r=>r
 |_+1,[]=>[]
 |n+1,x::r=>if p x=true then x::lW (n+1) r else lW n r
theorem Jg(r:List Item):lW p 0 r=r:=by cases r<;>rfl
theorem aan:∀ (n:Nat) (r:List Item),(lW p n r).length<=r.length
 |0,r=>by rw[Jg];exact cG _
 |_+1,[]=>by simp[lW]
 |n+1,x::r=>by
  rw[lW];split
  ·simp only[ek];have:=aan (n+1) r;omega
  ·simp only[ek];have:=aan n r;omega
theorem Uy:∀ (r:List Item) (k n:Nat),((r.zipIdx k).filter fun y=>!((dz p k r).take n).contains y.2).map (fun y=>y.1)=lW p n r
 | [],k,n=>by cases n<;>rfl
 |x::r,k,n=>by
  have big:∀ m j,j∈(dz p (k+1) r).take m->k<j:=fun m j bM=>by
   have:=oD p (Ea bM);omega
  have aao:∀ m,((dz p (k+1) r).take m).contains k=false:=fun m=>by
   cases h:((dz p (k+1) r).take m).contains k with
   |false=>rfl
   |true =>
    have:=big m k (by simpa using h);omega
  rw[x5,xZ];by_cases aq:p x=true
  ·rw[q0 p aq];simp only[aao,x6,if_true,fT];rw[Uy r (k+1) n];cases n with
   |zero=>simp[Jg]
   |succ n=>simp[lW,aq]
  ·rw[q1 p aq];cases n with
   |zero =>
    have:=Uy r (k+1) 0;simp only[IW,List.contains_nil,x6,if_true,fT]at this ⊢;rw[this,Jg,Jg]
   |succ n =>
    have Uz:(!((k::dz p (k+1) r).take (n+1)).contains k)=false:=by simp
    have Jh:lW p (n+1) (x::r)=lW p n r:=by simp[lW,aq]
    simp only[Uz,kf,if_false];rw[Jh,← Uy r (k+1) n];congr 1
    refine List.filter_congr fun y aP=>?_;have aN:k<y.2:=by
     have:=List.mem_zipIdx aP;omega
    have:¬ y.2=k:=by omega
    simp[List.contains_cons,this]
theorem aiK{l:aK}:∀ (r:List Item) (k:Nat),(∀ j∈l,k+r.length<=j)->((r.zipIdx k).filter fun y=>!l.contains y.2).map (fun y=>y.1)=r
 | [],_,_=>rfl
 |x::r,k,h=>by
  rw[x5,xZ];have:l.contains k=false:=by
   cases e:l.contains k with
   |false=>rfl
   |true =>
    have:=h k (by simpa using e);simp only[ek]at this;omega
  simp only[this,x6,if_true,fT];rw[aiK r (k+1) fun j bM=>by have:=h j bM;simp only[ek]at this;omega]
end
abbrev h_:=Nat×aK×Nat
def nH(t:List h_)(x:Nat)(r:aK):Option h_:=t.find? fun e=>e.1 == x && fits (e.2.1.map fun s=>[s]) r
theorem aqm(f:Font)(sk:Nat)(t:List h_){l:List Item}{i:Nat}{x:Item}(e:l[i]?=some x) :
  changed f ⟨sk,.joined t⟩ l i=(nH t x.sign (lineOf (passed f sk) (l.drop (i+1)))).map fun a =>
   (l.take i++{ x with sign:=a.2.2 }::lW (passed f sk) a.2.1.length (l.drop (i+1)),i+1):=by
 have hi:=(eE.mp e).1;unfold changed nH;simp only[aam,aiJ,uK e];cases t.find? _ with
 |none=>rfl
 |some a =>
  simp only[gd,Option.some.injEq,Prod.mk.injEq,and_true];rw[Us _ e,Jf];have aH:l.set i { x with sign:=a.2.2 }=l.take i++{ x with sign:=a.2.2 }::l.drop (i+1):=by
   rw[List.set_eq_take_append_cons_drop,bL hi]
  rw[aH,List.zipIdx_append,x5,x3,xZ,od];have cZ:(l.take i).length=i:=by rw[g0];omega
  rw[cZ,p7];have big:∀ j∈(dz (passed f sk) (i+1) (l.drop (i+1))).take a.2.1.length,i<j:=fun j bM=>by
   have:=oD _ (Ea bM);omega
  have aap:((dz (passed f sk) (i+1) (l.drop (i+1))).take a.2.1.length).contains i=false:=by
   cases h:((dz (passed f sk) (i+1) (l.drop (i+1))).take a.2.1.length).contains i with
   |false=>rfl
   |true =>
    have:=big i (by simpa using h);omega
  rw[aiK _ 0 fun j bM=>by have:=big j bM;omega];simp only[aap,x6,if_true,fT];rw[Uy]
def lu(f:Font)(sk:Nat)(t:List h_):Nat->List Item->List Item
 |_,[]=>[]
 |c,x::r=>if passed f sk x=true then x::lu f sk t c r else match c with
  |c'+1=>lu f sk t c' r
  |0=>match nH t x.sign (lineOf (passed f sk) r)with
   |none=>x::lu f sk t 0 r
   |some a=>{ x with sign:=a.2.2 }::lu f sk t a.2.1.length r
theorem aaq(f:Font)(sk:Nat)(t:List h_):∀ (c:Nat) (r:List Item),lu f sk t 0 (lW (passed f sk) c r)=lu f sk t c r
 |0,r=>by rw[Jg]
 |c+1,[]=>by simp[lW,lu]
 |c+1,x::r=>by
  by_cases aq:passed f sk x=true
  ·simp only[lW,aq,if_true,lu];rw[aaq f sk t (c+1) r]
  ·simp only[lW,aq,kf,if_false,lu];rw[aaq f sk t c r]
theorem UG(f:Font)(sk:Nat)(t:List h_):∀ (fuel:Nat) (l:List Item) (i:Nat),l.length<=4096->l.length<fuel+i ->
  along f ⟨sk,.joined t⟩ fuel l i=some (l.take i++lu f sk t 0 (l.drop i))
 |0,l,i,_,hf=>by
  have h:l.length<=i:=by omega
  simp[along,fZ h,ob h,lu]
 |k+1,l,i,aF,hf=>by
  rw[along,bw (by show ¬ 4096<l.length;omega)];cases e:l[i]? with
  |none =>
   have h:l.length<=i:=z8.mp e;simp[fZ h,ob h,lu]
  |some x =>
   have hi:=(eE.mp e).1;have cZ:(l.take i).length=i:=by rw[g0];omega
   simp only[];rw[qm e];by_cases aL:passed f sk x=true
   ·rw[bL aL,UG f sk t k l (i+1) aF (by omega),wj e];simp[lu,aL]
   ·rw[bw aL,aqm f sk t e];cases aW:nH t x.sign (lineOf (passed f sk) (l.drop (i+1)))with
    |none =>
     simp only[D_];rw[UG f sk t k l (i+1) aF (by omega),wj e];simp[lu,aL,aW]
    |some a =>
     simp only[gd];have aA:=aan (passed f sk) a.2.1.length (l.drop (i+1));rw[oc]at aA;rw[UG f sk t k _ (i+1) (by simp only[gB,ek,cZ];omega) (by simp only[gB,ek,cZ];omega)];have h1:(l.take i++{ x with sign:=a.2.2 }::lW (passed f sk) a.2.1.length (l.drop (i+1))).take (i+1)=l.take i++[{ x with sign:=a.2.2 }]:=by
      rw[List.take_append,cZ,fZ (by omega)];simp
     have aC:(l.take i++{ x with sign:=a.2.2 }::lW (passed f sk) a.2.1.length (l.drop (i+1))).drop (i+1)=lW (passed f sk) a.2.1.length (l.drop (i+1)):=by
      rw[List.drop_append,cZ,ob (by omega)];simp
     rw[h1,aC,aaq];simp[lu,aL,aW]
def gf(t:List h_):Nat->aK->List (Option Nat)
 |_,[]=>[]
 |c+1,_::r=>none::gf t c r
 |0,x::r=>match nH t x r with
  |none=>some x::gf t 0 r
  |some a=>some a.2.2::gf t a.2.1.length r
def jW(p:Item->Bool):List Item->List (Option Nat)->List Item
 | [],_=>[]
 |x::r,st=>if p x=true then x::jW p r st else match st with
  |some s::lA=>{ x with sign:=s }::jW p r lA
  |none::lA=>jW p r lA
  | []=>x::jW p r []
theorem Ji(f:Font)(sk:Nat)(t:List h_):∀ (l:List Item) (c:Nat),lu f sk t c l=jW (passed f sk) l (gf t c (lineOf (passed f sk) l))
 | [],c=>by simp[lu,jW]
 |x::r,c=>by
  by_cases aq:passed f sk x=true
  ·rw[uL _ aq];simp only[lu,jW,aq,if_true];rw[Ji f sk t r c]
  ·rw[r0 _ aq];cases c with
   |succ c =>
    simp only[lu,jW,aq,kf,if_false,gf];rw[Ji f sk t r c]
   |zero =>
    simp only[lu,aq,kf,if_false,gf];cases nH t x.sign (lineOf (passed f sk) r)with
    |none =>
     simp only[jW,aq,kf,if_false];rw[Ji f sk t r 0]
    |some a =>
     simp only[jW,aq,kf,if_false];rw[Ji f sk t r a.2.1.length]
theorem aar(t:List h_):∀ (l:aK) (c:Nat),(gf t c l).length=l.length
 | [],c=>by cases c<;>rfl
 |x::r,c+1=>by simp[gf,aar t r]
 |x::r,0=>by
  simp only[gf];split<;>simp[aar t r]
theorem Eo:∀ {ss:List (aK)} {l:aK},fits ss l=true->ss.length<=l.length
 | [],_,_=>eY _
 |_::_,[],h=>by simp[fits]at h
 |s::r,x::xs,h=>by
  simp only[fits,je]at h;have:=Eo h.2;simp only[ek];omega
theorem aiL(t:List h_):∀ (c:Nat) (l:aK),c<=l.length->gf t c l=List.replicate c none++gf t 0 (l.drop c)
 |0,l,_=>by simp
 |c+1,[],h=>by simp at h
 |c+1,x::r,h=>by
  simp only[ek]at h;rw[gf,aiL t c r (by omega),List.replicate_succ];rfl
theorem aas(p:Item->Bool)(S:Nat->Nat)(F:Nat->Nat)(G:Nat->Bool):∀ (l:List Item) (k:Nat) (st:List (Option Nat)),st.length=(lineOf p l).length ->
  (∀ j x,l[j]?=some x->F (k+j)=x.from_/\(p x=true->S (k+j)=x.sign/\G (k+j)=false)) ->
  (∀ (m q:Nat),(dz p k l)[m]?=some q->(∀ s,st[m]?=some (some s)->S q=s/\G q=false)/\(st[m]?=some none->G q=true)) ->
  ((List.range' k l.length).filter fun q=>!G q).map S=(jW p l st).map (fun x=>x.sign)/\((List.range' k l.length).filter fun q=>!G q).map F=(jW p l st).map (fun x=>x.from_)
 | [],k,st,_,_,_=>by simp[jW]
 |x::r,k,st,aF,h1,aC=>by
  rw[ek,List.range'_succ,xZ];have aat:=h1 0 x rfl;simp only[Nat.add_zero]at aat;have Ao:∀ j y,r[j]?=some y->F (k+1+j)=y.from_/\(p y=true->S (k+1+j)=y.sign/\G (k+1+j)=false):=fun j y e=>by
   have:=h1 (j+1) y (by simpa using e);have a8:k+1+j=k+(j+1):=by omega
   rw[a8];exact this
  by_cases aq:p x=true
  ·rw[uL p aq]at aF;rw[q0 p aq]at aC;obtain⟨i1,i2⟩:=aas p S F G r (k+1) st aF Ao aC;obtain⟨iQ,dZ⟩:=aat;obtain⟨dZ,Jj⟩:=dZ aq;simp only[jW,aq,if_true,Jj,x6,fT];rw[i1,i2,dZ,iQ];exact⟨Z,Z⟩
  ·rw[r0 p aq]at aF;rw[q1 p aq]at aC;cases st with
   |nil=>simp at aF
   |cons o lA =>
    simp only[ek,Nat.add_right_cancel_iff]at aF;have Aq:∀ (m q:Nat),(dz p (k+1) r)[m]?=some q->(∀ s,lA[m]?=some (some s)->S q=s/\G q=false)/\(lA[m]?=some none->G q=true):=fun m q e=>by
     have:=aC (m+1) q (by simpa using e);simpa using this
    obtain⟨i1,i2⟩:=aas p S F G r (k+1) lA aF Ao Aq;obtain⟨a1,a2⟩:=aC 0 k rfl;cases o with
    |none =>
     have Jj:=a2 rfl;simp only[jW,aq,kf,if_false,Jj,Bool.not_true];exact⟨i1,i2⟩
    |some s =>
     obtain⟨dZ,Jj⟩:=a1 s rfl;simp only[jW,aq,kf,if_false,Jj,x6,if_true,fT];rw[i1,i2,dZ,aat.1];exact⟨Z,Z⟩
section
variable(p:Item->Bool)
def fH:aK->List Item->List Item
 | [],r=>r
 |_::_,[]=>[]
 |s::w,x::r=>if p x=true then x::fH (s::w) r else{ x with sign:=s }::fH w r
theorem x9(r:List Item):fH p [] r=r:=by cases r<;>rfl
theorem Jk:∀ (w:aK) (r:List Item),(fH p w r).length=r.length
 | [],r=>by rw[x9]
 |_::_,[]=>rfl
 |s::w,x::r=>by
  rw[fH];split
  ·simp[Jk (s::w) r]
  ·simp[Jk w r]
theorem aau:∀ (n:Nat) (r:List Item),fH p ((lineOf p r).take n) r=r
 |n,[]=>by cases n<;>simp[lineOf,rZ,fH]
 |n,x::r=>by
  by_cases h:p x=true
  ·rw[uL p h];have bU:=aau n r;cases aF:(lineOf p r).take n with
   |nil=>rw[x9]
   |cons s w=>rw[aF]at bU;simp[fH,h,bU]
  ·rw[r0 p h];cases n with
   |zero=>rw[IW,x9]
   |succ n=>simp[fH,h,aau n r]
theorem UJ:∀ (w:aK) (r:List Item) (k m q:Nat),(dz p k r)[m]?=some q->∀ s,w[m]?=some s->∃ x,r[q-k]?=some x/\(fH p w r)[q-k]?=some { x with sign:=s }
 | [],r,k,m,q,_,s,aH=>by simp at aH
 |s0::w,[],k,m,q,h,_,_=>by simp[dz]at h
 |s0::w,x::r,k,m,q,h,s,aH=>by
  by_cases aq:p x=true
  ·rw[q0 p aq]at h;obtain⟨y,h1,aC⟩:=UJ (s0::w) r (k+1) m q h s aH;have a0:=(oD p (f9 h)).1;have e:q-k=(q-(k+1))+1:=by omega
   refine⟨y,by rw[e];simpa using h1,?_⟩;rw[e];simpa [fH,aq]using aC
  ·rw[q1 p aq]at h;cases m with
   |zero =>
    simp only[x2,Option.some.injEq]at h aH;subst h aH;exact⟨x,by simp,by simp[fH,aq]⟩
   |succ m =>
    simp only[z9]at h aH;obtain⟨y,h1,aC⟩:=UJ w r (k+1) m q h s aH;have a0:=(oD p (f9 h)).1;have e:q-k=(q-(k+1))+1:=by omega
    refine⟨y,by rw[e];simpa using h1,?_⟩;rw[e];simpa [fH,aq]using aC
theorem aav:∀ (w:aK) (r:List Item) (k m q s':Nat),(dz p k r)[m]?=some q->m<w.length->∃ x,r[q-k]?=some x/\(fH p w r).set (q-k) { x with sign:=s' }=fH p (w.set m s') r
 | [],r,k,m,q,s',_,hm=>by simp at hm
 |s0::w,[],k,m,q,s',h,_=>by simp[dz]at h
 |s0::w,x::r,k,m,q,s',h,hm=>by
  by_cases aq:p x=true
  ·rw[q0 p aq]at h;obtain⟨y,h1,aC⟩:=aav (s0::w) r (k+1) m q s' h hm;have a0:=(oD p (f9 h)).1;have e:q-k=(q-(k+1))+1:=by omega
   refine⟨y,by rw[e];simpa using h1,?_⟩;rw[e];have mX:(s0::w).set m s'≠[]:=by cases m<;>simp
   cases hw:(s0::w).set m s' with
   |nil=>exact absurd hw mX
   |cons s1 yb =>
    rw[hw]at aC;simp[fH,aq,aC]
  ·rw[q1 p aq]at h;cases m with
   |zero =>
    simp only[x2,Option.some.injEq]at h;subst h;exact⟨x,by simp,by simp[fH,aq]⟩
   |succ m =>
    simp only[z9]at h;simp only[ek]at hm;obtain⟨y,h1,aC⟩:=aav w r (k+1) m q s' h (by omega);have a0:=(oD p (f9 h)).1;have e:q-k=(q-(k+1))+1:=by omega
    refine⟨y,by rw[e];simpa using h1,?_⟩;rw[e];simp[fH,aq,aC]
def h3:Nat->List Item->Nat
 |0,_=>0
 |_+1,[]=>0
 |n+1,x::r=>if p x=true then h3 (n+1) r+1 else h3 n r+1
theorem aaw(r:List Item):h3 p 0 r=0:=by cases r<;>rfl
theorem aax:∀ (n:Nat) (r:List Item) (k q:Nat),(dz p k r)[n]?=some q->q+1=k+h3 p (n+1) r
 |n,[],k,q,h=>by simp[dz]at h
 |n,x::r,k,q,h=>by
  by_cases aq:p x=true
  ·rw[q0 p aq]at h;have:=aax n r (k+1) q h;simp only[h3,aq,if_true];omega
  ·rw[q1 p aq]at h;cases n with
   |zero =>
    simp only[x2,Option.some.injEq]at h;subst h;simp[h3,aq,aaw]
   |succ n =>
    simp only[z9]at h;have:=aax n r (k+1) q h;simp only[h3,aq,kf,if_false]at this ⊢;omega
theorem aay:∀ (n:Nat) (r:List Item),h3 p n r<=r.length
 |0,r=>by rw[aaw];exact eY _
 |_+1,[]=>by simp[h3]
 |n+1,x::r=>by
  simp only[h3];split
  ·have:=aay (n+1) r;simp only[ek];omega
  ·have:=aay n r;simp only[ek];omega
end
def wk(f:Font)(w:aK)(y:Nat×Nat):aK:=match f.subs[y.2]? with
 |some q=>(match q.rule with
  | .one u=>w.set y.1 ((u.lookup (w.getD y.1 0)).getD (w.getD y.1 0))
  |_=>w)
 |none=>w
def jg(f:Font)(acts:List (Nat×Nat))(w:aK):aK:=acts.foldl (wk f) w
theorem aaz(f:Font)(w:aK)(y:Nat×Nat):(wk f w y).length=w.length:=by
 unfold wk;split
 ·split<;>simp
 ·rfl
theorem UL(f:Font):∀ (acts:List (Nat×Nat)) (w:aK),(jg f acts w).length=w.length
 | [],w=>rfl
 |y::r,w=>by
  show(jg f r (wk f w y)).length=_;rw[UL f r,aaz]
def aaA(f:Font)(here:aK)(l:List Item)(y:Nat×Nat):List Item:=match f.subs[y.2]? with
 |some q=>(match q.rule with
  | .one u=>swap u l (here.getD y.1 0)
  |_=>l)
 |none=>l
theorem aqn(f:Font)(sk:Nat){here:aK}{a r:List Item}{w:aK}{y:Nat×Nat}(hh:here=(dz (passed f sk) a.length r).take w.length)(aR:w.length<=(dz (passed f sk) a.length r).length)(aP:y.1<w.length) :
  aaA f here (a++fH (passed f sk) w r) y=a++fH (passed f sk) (wk f w y) r:=by
 unfold aaA wk;cases f.subs[y.2]? with
 |none=>rfl
 |some q =>
  simp only[];cases a0:q.rule with
  |one u =>
   simp only[];obtain⟨pl,g6⟩:∃ pl,(dz (passed f sk) a.length r)[y.1]?=some pl:=⟨_,dR (by omega)⟩;have b5:here.getD y.1 0=pl:=by
    rw[hh,Uh,x4 aP,g6];rfl
   rw[b5];obtain⟨s,aH⟩:∃ s,w[y.1]?=some s:=⟨_,dR aP⟩;have aiM:=(oD _ (f9 g6)).1;obtain⟨x,mY,Ep⟩:=UJ (passed f sk) w r a.length y.1 pl g6 s aH;have kV:(a++fH (passed f sk) w r)[pl]?=some { x with sign:=s }:=by
    rw[I0 aiM];exact Ep
   have hw:w.getD y.1 0=s:=by rw[Uh,aH];rfl
   unfold swap;rw[uK kV,hw];simp only[];cases cD:u.lookup s with
   |none =>
    simp only[Option.getD_none];congr 2
    apply vV;intro j;rw[List.getElem?_set];by_cases bM:y.1=j
    ·subst bM;rw[aH];simp[aP]
    ·simp[bM]
   |some s' =>
    simp only[Option.getD_some];obtain⟨x',aiN,Ar⟩:=aav (passed f sk) w r a.length y.1 pl s' g6 aP;rw[mY]at aiN;cases aiN;rw[Us _ kV,List.set_append_right _ _ aiM,← Ar]
  |more _=>rfl
  |joined _=>rfl
  |around _=>rfl
theorem aiO(f:Font)(sk:Nat){a r:List Item}{here:aK}:∀ (acts:List (Nat×Nat)) (w:aK),here=(dz (passed f sk) a.length r).take w.length->w.length<=(dz (passed f sk) a.length r).length ->
  (∀ y∈acts,y.1<w.length)->acts.foldl (aaA f here) (a++fH (passed f sk) w r)=a++fH (passed f sk) (jg f acts w) r
 | [],w,_,_,_=>rfl
 |y::bN,w,hh,aR,aP=>by
  have aF:=aaz f w y;rw[hr,aqn f sk hh aR (aP y h9)];exact aiO f sk bN (wk f w y) (by rw[aF];exact hh) (by rw[aF];exact aR) fun z hz=>by rw[aF];exact aP z (hZ _ hz)
theorem aaB{α:Type}{p q:α->Bool}:∀ {l:List α},(∀ a∈l,p a=q a)->l.find? p=l.find? q
 | [],_=>rfl
 |a::r,h=>by
  rw[kg,kg,h a h9,aaB fun b ak=>h b (hZ _ ak)]
def q2(a:Around)(past line:aK):Bool:=fits a.here line && (fits a.behind (line.drop a.here.length) && fits a.before past)
def pA(t:List Around)(past line:aK):Option Around:=t.find? fun a=>q2 a past line
structure yc(a:Around):Prop where
 here:1<=a.here.length
 acts:∀ y∈a.acts,y.1<a.here.length
theorem aqo(f:Font)(sk:Nat)(t:List Around)(b_:∀ a∈t,yc a){l:List Item}{i:Nat}{x:Item}(e:l[i]?=some x)(aL:¬ passed f sk x=true) :
  changed f ⟨sk,.around t⟩ l i=(pA t (lineOf (passed f sk) (l.take i)).reverse (lineOf (passed f sk) (l.drop i))).map fun a =>
   (l.take i++fH (passed f sk) (jg f a.acts ((lineOf (passed f sk) (l.drop i)).take a.here.length)) (l.drop i),i+h3 (passed f sk) a.here.length (l.drop i)):=by
 have hi:=(eE.mp e).1;have hline:(i::after f sk l i).map (signAt l)=lineOf (passed f sk) (l.drop i):=by
  rw[fT,aiJ,uK e,qm e,r0 _ aL]
 have UW:i::after f sk l i=dz (passed f sk) i (l.drop i):=by
  rw[Jf,qm e,q1 _ aL]
 have cZ:(l.take i).length=i:=by rw[g0];omega
 unfold changed pA;simp only[];have aaC:(t.find? fun a=>match_ l a.here (i::after f sk l i) && (match_ l a.behind ((after f sk l i).drop (a.here.length-1)) && match_ l a.before (before f sk l i))) =
   t.find? fun a=>q2 a (lineOf (passed f sk) (l.take i)).reverse (lineOf (passed f sk) (l.drop i)):=by
  apply aaB;intro a aW;have h1:=(b_ a aW).here;unfold q2;simp only[aam,hline,aql f sk l (z' hi),Aa];congr 3
  rw[← hline,fT];obtain⟨m,hm⟩:∃ m,a.here.length=m+1:=⟨a.here.length-1,by omega⟩;rw[hm];simp
 rw[aaC];cases fc:t.find? fun a=>q2 a (lineOf (passed f sk) (l.take i)).reverse (lineOf (passed f sk) (l.drop i))with
 |none=>rfl
 |some a =>
  have bK:=b_ a (vY fc);have q3:=vZ fc;simp only[q2,je]at q3;have hlen:=Eo q3.1;have aqp:=Uv (passed f sk) i (l.drop i);have lB:((lineOf (passed f sk) (l.drop i)).take a.here.length).length=a.here.length:=by rw[g0];omega
  simp only[gd,Option.some.injEq,Prod.mk.injEq];rw[UW];constructor
  ·have h:=aiO f sk (a:=l.take i) (r:=l.drop i) (here:=(dz (passed f sk) i (l.drop i)).take a.here.length) a.acts ((lineOf (passed f sk) (l.drop i)).take a.here.length)
    (by rw[lB,cZ]) (by rw[lB,cZ,aqp];exact hlen) (fun y aP=>by rw[lB];exact bK.acts y aP)
   rw[aau,I1]at h;exact h
  ·have h1:=bK.here
   obtain⟨m,hm⟩:∃ m,a.here.length=m+1:=⟨a.here.length-1,by omega⟩;obtain⟨q,a0⟩:∃ q,(dz (passed f sk) i (l.drop i))[m]?=some q:=⟨_,dR (by omega)⟩;have aF:=aax (passed f sk) m (l.drop i) i q a0;rw[hm,← aF];congr 1
   rw[List.getLastD_eq_getLast?,List.getLast?_eq_getElem?,g0,x4 (by omega)];rw[show min (m+1) (dz (passed f sk) i (l.drop i)).length-1=m by omega,a0];rfl
def h4(f:Font)(sk s:Nat):Bool:=let c:=f.cls.getD s 0
 decide (c≠0) && sk.testBit (c-1)
theorem Jl(f:Font)(sk:Nat)(x:Item):passed f sk x=h4 f sk x.sign:=rfl
def push(f:Font)(sk:Nat)(past:aK)(s:Nat):aK:=if h4 f sk s=true then past else s::past
def kj(f:Font)(sk:Nat)(t:List Around):aK->aK->List Item->List Item
 |_,_,[]=>[]
 |past,pend,x::r=>if passed f sk x=true then x::kj f sk t past pend r else match pend with
  |s::w=>{ x with sign:=s }::kj f sk t (push f sk past s) w r
  | []=>match pA t past (x.sign::lineOf (passed f sk) r)with
   |none=>x::kj f sk t (x.sign::past) [] r
   |some a=>match jg f a.acts ((x.sign::lineOf (passed f sk) r).take a.here.length)with
    | []=>x::kj f sk t (x.sign::past) [] r
    |s::w=>{ x with sign:=s }::kj f sk t (push f sk past s) w r
theorem aaD(p:Item->Bool)(a b:List Item):lineOf p (a++b)=lineOf p a++lineOf p b:=by simp[lineOf,rZ]
theorem aaE(f:Font)(sk:Nat)(t:List Around):∀ (r:List Item) (past pend:aK),pend.length<=(lineOf (passed f sk) r).length ->
  kj f sk t past pend r=(fH (passed f sk) pend r).take (h3 (passed f sk) pend.length r) ++
   kj f sk t ((lineOf (passed f sk) ((fH (passed f sk) pend r).take (h3 (passed f sk) pend.length r))).reverse++past) [] (r.drop (h3 (passed f sk) pend.length r))
 |r,past,[],_=>by simp[aaw,lineOf,rZ]
 | [],past,s::w,h=>by simp[lineOf,rZ]at h
 |x::r,past,s::w,h=>by
  by_cases aq:passed f sk x=true
  ·rw[uL _ aq]at h;have bU:=aaE f sk t r past (s::w) h;have aH:h3 (passed f sk) (w.length+1) (x::r)=h3 (passed f sk) (w.length+1) r+1:=by simp[h3,aq]
   rw[ek]at bU ⊢;rw[aH];simp only[kj,aq,if_true,fH,List.take_succ_cons,Ab,List.cons_append];rw[bU,uL _ aq]
  ·rw[r0 _ aq]at h;simp only[ek,Nat.add_le_add_iff_right]at h;have bU:=aaE f sk t r (push f sk past s) w h;have aH:h3 (passed f sk) (w.length+1) (x::r)=h3 (passed f sk) w.length r+1:=by simp[h3,aq]
   rw[ek,aH];simp only[kj,aq,kf,if_false,fH,List.take_succ_cons,Ab,List.cons_append];rw[bU];congr 3
   unfold push;by_cases aL:h4 f sk s=true
   ·rw[bL aL,uL];exact aL
   ·rw[bw aL,r0]
    ·simp
    ·exact aL
theorem aaF(p:Item->Bool):∀ (w:aK) (r:List Item),w.length<=(lineOf p r).length->(fH p w r).drop (h3 p w.length r)=r.drop (h3 p w.length r)
 | [],r,_=>by rw[x9]
 |s::w,[],h=>by simp[lineOf,rZ]at h
 |s::w,x::r,h=>by
  by_cases aq:p x=true
  ·rw[uL _ aq]at h;have bU:=aaF p (s::w) r h;rw[ek]at bU ⊢;simp[h3,aq,fH,bU]
  ·rw[r0 _ aq]at h;simp only[ek,Nat.add_le_add_iff_right]at h;have bU:=aaF p w r h;rw[ek];simp[h3,aq,fH,bU]
theorem aqq(f:Font)(sk:Nat)(t:List Around){past:aK}{x:Item}{r:List Item}{a:Around}{s:Nat}{w:aK}(aq:¬ passed f sk x=true)(aW:pA t past (x.sign::lineOf (passed f sk) r)=some a)
  (hw:jg f a.acts ((x.sign::lineOf (passed f sk) r).take a.here.length)=s::w):kj f sk t past [] (x::r)=kj f sk t past (s::w) (x::r):=by
 simp only[kj,aq,kf,if_false,aW,hw]
theorem U0(f:Font)(sk:Nat)(t:List Around)(b_:∀ a∈t,yc a):∀ (fuel:Nat) (l:List Item) (i:Nat),l.length<=4096->l.length<fuel+i ->
  along f ⟨sk,.around t⟩ fuel l i=some (l.take i++kj f sk t (lineOf (passed f sk) (l.take i)).reverse [] (l.drop i))
 |0,l,i,_,hf=>by
  have h:l.length<=i:=by omega
  simp[along,fZ h,ob h,kj]
 |k+1,l,i,aF,hf=>by
  rw[along,bw (by show ¬ 4096<l.length;omega)];cases e:l[i]? with
  |none =>
   have h:l.length<=i:=z8.mp e;simp[fZ h,ob h,kj]
  |some x =>
   have hi:=(eE.mp e).1;have cZ:(l.take i).length=i:=by rw[g0];omega
   simp only[];by_cases aL:passed f sk x=true
   ·rw[bL aL,U0 f sk t b_ k l (i+1) aF (by omega),wj e,aaD,qm e];simp[kj,aL,lineOf,rZ]
   ·rw[bw aL,aqo f sk t b_ e aL];cases aW:pA t (lineOf (passed f sk) (l.take i)).reverse (lineOf (passed f sk) (l.drop i))with
    |none =>
     simp only[D_];rw[U0 f sk t b_ k l (i+1) aF (by omega),wj e,aaD,qm e];rw[qm e,r0 _ aL]at aW;simp only[kj,aL,kf,if_false,aW];simp[lineOf,rZ,aL]
    |some a =>
     simp only[gd];have bK:=b_ a (vY aW);have q3:=vZ aW;simp only[q2,je]at q3;have hlen:=Eo q3.1;have q4:(jg f a.acts ((lineOf (passed f sk) (l.drop i)).take a.here.length)).length=a.here.length:=by rw[UL,g0];omega
     have aaG:=aay (passed f sk) a.here.length (l.drop i);rw[oc]at aaG;have yd:=Jk (passed f sk) (jg f a.acts ((lineOf (passed f sk) (l.drop i)).take a.here.length)) (l.drop i);rw[oc]at yd;have h1:=bK.here;have pB:1<=h3 (passed f sk) a.here.length (l.drop i):=by
      obtain⟨m,hm⟩:∃ m,a.here.length=m+1:=⟨a.here.length-1,by omega⟩;rw[hm,qm e];simp[h3,aL]
     rw[U0 f sk t b_ k _ _ (by simp only[gB,cZ];omega) (by simp only[gB,cZ];omega)];have Jm:(l.take i++fH (passed f sk) (jg f a.acts ((lineOf (passed f sk) (l.drop i)).take a.here.length)) (l.drop i)).take (i+h3 (passed f sk) a.here.length (l.drop i)) =
       l.take i++(fH (passed f sk) (jg f a.acts ((lineOf (passed f sk) (l.drop i)).take a.here.length)) (l.drop i)).take (h3 (passed f sk) a.here.length (l.drop i)):=by
      rw[List.take_append,cZ,fZ (by omega)];congr 2
      omega
     have aqr:(l.take i++fH (passed f sk) (jg f a.acts ((lineOf (passed f sk) (l.drop i)).take a.here.length)) (l.drop i)).drop (i+h3 (passed f sk) a.here.length (l.drop i)) =
       (l.drop i).drop (h3 (passed f sk) a.here.length (l.drop i)):=by
      rw[List.drop_append,cZ,ob (by omega),I2];have:=aaF (passed f sk) (jg f a.acts ((lineOf (passed f sk) (l.drop i)).take a.here.length)) (l.drop i) (by rw[q4];exact hlen);rw[q4]at this;rw[← this];congr 1
      omega
     rw[Jm,aqr,aaD,List.reverse_append,uH];congr 2
     have U3:=aaE f sk t (l.drop i) (lineOf (passed f sk) (l.take i)).reverse (jg f a.acts ((lineOf (passed f sk) (l.drop i)).take a.here.length)) (by rw[q4];exact hlen);rw[q4]at U3;rw[← U3];rw[qm e,r0 _ aL]at aW q4 ⊢;cases hw:jg f a.acts ((x.sign::lineOf (passed f sk) (l.drop (i+1))).take a.here.length)with
     |nil=>rw[hw]at q4
     |cons s w=>rw[aqq f sk t aL aW hw]
def ib(f:Font)(sk:Nat)(t:List Around):aK->aK->aK->aK
 |_,_,[]=>[]
 |past,pend,x::r=>match pend with
  |s::w=>s::ib f sk t (push f sk past s) w r
  | []=>match pA t past (x::r)with
   |none=>x::ib f sk t (x::past) [] r
   |some a=>match jg f a.acts ((x::r).take a.here.length)with
    | []=>x::ib f sk t (x::past) [] r
    |s::w=>s::ib f sk t (push f sk past s) w r
theorem Er(f:Font)(sk:Nat)(t:List Around):∀ (l:List Item) (past pend:aK),kj f sk t past pend l=fH (passed f sk) (ib f sk t past pend (lineOf (passed f sk) l)) l
 | [],past,pend=>by simp[kj,ib,lineOf,rZ,fH]
 |x::r,past,pend=>by
  by_cases aq:passed f sk x=true
  ·rw[uL _ aq];have bU:=Er f sk t r past pend;simp only[kj,aq,if_true];rw[bU];cases h:ib f sk t past pend (lineOf (passed f sk) r)with
   |nil=>rw[x9,x9]
   |cons s w=>simp[fH,aq]
  ·rw[r0 _ aq];cases pend with
   |cons s w =>
    simp only[kj,aq,kf,if_false,ib,fH];rw[Er f sk t r]
   |nil =>
    simp only[kj,aq,kf,if_false,ib];cases pA t past (x.sign::lineOf (passed f sk) r)with
    |none =>
     simp only[fH,aq,kf,if_false];rw[Er f sk t r]
    |some a =>
     simp only[];cases jg f a.acts ((x.sign::lineOf (passed f sk) r).take a.here.length)with
     |nil =>
      simp only[fH,aq,kf,if_false];rw[Er f sk t r]
     |cons s w =>
      simp only[fH,aq,kf,if_false];rw[Er f sk t r]
theorem aiP(f:Font)(sk:Nat)(t:List Around):∀ (pend past line:aK),pend.length<=line.length->ib f sk t past pend line=pend++ib f sk t (pend.foldl (push f sk) past) [] (line.drop pend.length)
 | [],past,line,_=>by simp
 |s::w,past,[],h=>by simp at h
 |s::w,past,x::r,h=>by
  simp only[ek,Nat.add_le_add_iff_right]at h;simp only[ib,List.cons_append,hr,ek,Ab];rw[aiP f sk t w (push f sk past s) r h]
theorem Jo(f:Font)(sk:Nat)(t:List Around):∀ (line past pend:aK),(ib f sk t past pend line).length=line.length
 | [],_,_=>rfl
 |x::r,past,pend=>by
  cases pend with
  |cons s w=>simp[ib,Jo f sk t r]
  |nil =>
   simp only[ib];cases pA t past (x::r)with
   |none=>simp[Jo f sk t r]
   |some a =>
    simp only[];cases jg f a.acts ((x::r).take a.here.length)with
    |nil=>simp[Jo f sk t r]
    |cons s w=>simp[Jo f sk t r]
theorem aqs(f:Font)(sk:Nat)(t:List Around){past r:aK}{x:Nat}(h:pA t past (x::r)=none):ib f sk t past [] (x::r)=x::ib f sk t (x::past) [] r:=by
 simp only[ib,h]
theorem aqt(f:Font)(sk:Nat)(t:List Around)(b_:∀ a∈t,yc a){past r:aK}{x:Nat}{a:Around}(h:pA t past (x::r)=some a) :
  ib f sk t past [] (x::r)=jg f a.acts ((x::r).take a.here.length)++ib f sk t ((jg f a.acts ((x::r).take a.here.length)).foldl (push f sk) past) [] ((x::r).drop a.here.length):=by
 have bK:=b_ a (vY h);have q3:=vZ h;simp only[q2,je]at q3;have hlen:=Eo q3.1;have q4:(jg f a.acts ((x::r).take a.here.length)).length=a.here.length:=by rw[UL,g0];omega
 have h1:=bK.here;have aL:=aiP f sk t (jg f a.acts ((x::r).take a.here.length)) past (x::r) (by rw[q4];exact hlen);rw[q4]at aL;rw[← aL];cases hw:jg f a.acts ((x::r).take a.here.length)with
 |nil=>rw[hw]at q4
 |cons s w=>simp only[ib,h,hw]
theorem U4(f:Font)(sk:Nat):∀ (l l':List Item) (k:Nat),l.map (fun x=>x.sign)=l'.map (fun x=>x.sign)->dz (passed f sk) k l=dz (passed f sk) k l'
 | [],[],_,_=>rfl
 | [],_::_,_,h=>by simp at h
 |_::_,[],_,h=>by simp at h
 |x::r,y::r',k,h=>by
  simp only[fT,List.cons.injEq]at h;have U5:passed f sk x=passed f sk y:=by rw[Jl,Jl,h.1]
  have bU:=U4 f sk r r' (k+1) h.2;unfold dz;rw[U5,bU]
theorem aiQ(p:Item->Bool)(l:List Item):∀ (n i:Nat),(∀ j x,i<=j->j<i+n->l[j]?=some x->p x=true)->dz p i (l.drop i)=dz p (i+n) (l.drop (i+n))
 |0,i,_=>rfl
 |n+1,i,h=>by
  cases e:l[i]? with
  |none =>
   have aF:l.length<=i:=z8.mp e;rw[ob aF,ob (by omega)];rfl
  |some x =>
   rw[qm e,q0 p (h i x (cG _) (by omega) e),aiQ p l n (i+1) fun j y h1 aC=>h j y (by omega) (by omega)];have a8:i+1+n=i+(n+1):=by omega
   rw[a8]
def placeAt(f:Font)(r:Rule Sw28.Pos)(l:List Item)(i:Nat):List Item:=(placed f r l i).1
structure Goes(f:Font)(r:Rule Sw28.Pos):Prop where
 same:∀ l i,(placeAt f r l i).map (fun x=>x.sign)=l.map fun x=>x.sign
 on:∀ l i,i<(placed f r l i).2/\∀ j x,i<j->j<(placed f r l i).2->l[j]?=some x->passed f r.skip x=true
theorem aaH(f:Font)(r:Rule Sw28.Pos)(g:Goes f r):∀ (fuel:Nat) (l:List Item) (i:Nat),l.length<fuel+i->placing f r fuel l i=(dz (passed f r.skip) i (l.drop i)).foldl (placeAt f r) l
 |0,l,i,hf=>by
  have h:l.length<=i:=by omega
  simp[placing,ob h,dz]
 |k+1,l,i,hf=>by
  rw[placing];cases e:l[i]? with
  |none =>
   have h:l.length<=i:=z8.mp e;simp[ob h,dz]
  |some x =>
   have hi:=(eE.mp e).1;simp only[];by_cases aL:passed f r.skip x=true
   ·rw[bL aL,aaH f r g k l (i+1) (by omega),qm e,q0 _ aL]
   ·rw[bw aL,qm e,q1 _ aL,hr];have aH:=g.same l i;obtain⟨h1,aC⟩:=g.on l i;have aF:(placeAt f r l i).length=l.length:=by
     have:=congrArg List.length aH;simpa using this
    show placing f r k (placeAt f r l i) (placed f r l i).2=_;rw[aaH f r g k _ _ (by rw[aF];omega)];obtain⟨n,aR⟩:∃ n,(placed f r l i).2=i+1+n:=⟨(placed f r l i).2-(i+1),by omega⟩;rw[aR]at aC ⊢;rw[aiQ (passed f r.skip) l n (i+1) fun j y a b c=>aC j y (by omega) (by omega) c];rw[U4 f r.skip ((placeAt f r l i).drop (i+1+n)) (l.drop (i+1+n)) (i+1+n) (by rw[Aa,Aa,aH])]
theorem aaI(l:List Item)(i:Nat)(h:Item->Item)(hh:∀ x,(h x).sign=x.sign):(at_ l i h).map (fun x=>x.sign)=l.map fun x=>x.sign:=by
 apply vV;intro j;rw[ei,ei,Je];cases l[j]? with
 |none=>rfl
 |some x =>
  simp only[gd,Option.some.injEq];split
  ·exact hh x
  ·rfl
theorem aaJ(m b:List Anchor)(l:List Item)(i p:Nat):(setOn m b l i p).map (fun x=>x.sign)=l.map fun x=>x.sign:=by
 unfold setOn;split
 ·rfl
 ·split
  ·exact aaI _ _ _ fun _=>rfl
  ·rfl
theorem aqu(f:Font)(sk:Nat)(t:List (Nat×Int×Int×Int)):Goes f ⟨sk,.one t⟩ where
 same:=fun l i=>by
  unfold placeAt placed;simp only[];split
  ·exact aaI _ _ _ fun _=>rfl
  ·rfl
 on:=fun l i=>by
  unfold placed;simp only[];exact⟨vX i,fun j x a b=>by omega⟩
theorem aqv(f:Font)(sk:Nat)(m b:List Anchor):Goes f ⟨sk,.onBase m b⟩ where
 same:=fun l i=>by
  unfold placeAt placed;simp only[];split
  ·exact aaJ _ _ _ _ _
  ·rfl
 on:=fun l i=>by
  unfold placed;simp only[];split<;>exact⟨vX i,fun j x a b=>by simp only[]at b;omega⟩
theorem aqw(f:Font)(sk:Nat)(m b:List Anchor):Goes f ⟨sk,.onMark m b⟩ where
 same:=fun l i=>by
  unfold placeAt placed;simp only[];split
  ·exact aaJ _ _ _ _ _
  ·rfl
 on:=fun l i=>by
  unfold placed;simp only[];split<;>exact⟨vX i,fun j x a b=>by simp only[]at b;omega⟩
theorem aqx(f:Font)(sk:Nat)(l:List Item)(i:Nat){j:Nat}{oE:aK}(h:after f sk l i=j::oE):i<j/\∀ k x,i<k->k<j->l[k]?=some x->passed f sk x=true:=by
 rw[Jf]at h;have bM:=oD (passed f sk) (k:=i+1) (l:=l.drop (i+1)) (j:=j) (by rw[h];exact h9);refine⟨by omega,fun k x a b e=>?_⟩;have key:∀ (r:List Item) (o:Nat),dz (passed f sk) o r=j::oE->∀ m y,o+m<j->r[m]?=some y->passed f sk y=true:=by
  intro r;induction r with
  |nil=>intro o h;simp[dz]at h
  |cons z r bU =>
   intro o h m y hm aP;by_cases hz:passed f sk z=true
   ·cases m with
    |zero=>simp only[x2,Option.some.injEq]at aP;rw[← aP];exact hz
    |succ m =>
     rw[q0 _ hz]at h;exact bU (o+1) h m y (by omega) (by simpa using aP)
   ·rw[q1 _ hz]at h;simp only[List.cons.injEq]at h;omega
 exact key (l.drop (i+1)) (i+1) h (k-(i+1)) x (by omega) (by rw[z_];rw[show i+1+(k-(i+1))=k by omega];exact e)
theorem aqy(f:Font)(sk:Nat)(t:List (Nat×Nat×Int)):Goes f ⟨sk,.pair t⟩ where
 same:=fun l i=>by
  unfold placeAt placed;simp only[];split
  ·rfl
  ·split
   ·dsimp only;exact aaI _ _ _ fun _=>rfl
   ·rfl
 on:=fun l i=>by
  unfold placed;simp only[];split
  ·exact⟨vX i,fun j x a b=>by simp only[]at b;omega⟩
  ·rename_i j oE h;split
   ·exact aqx f sk l i h
   ·exact⟨vX i,fun k x a b=>by simp only[]at b;omega⟩
theorem aaK(f:Font)(r:Rule Sw28.Pos):Goes f r:=by
 obtain⟨sk,r⟩:=r;cases r with
 |one t=>exact aqu f sk t
 |pair t=>exact aqy f sk t
 |onBase m b=>exact aqv f sk m b
 |onMark m b=>exact aqw f sk m b
theorem aqz(f:Font)(r:Rule Sw28.Pos)(l:List Item):placing f r (l.length+1) l 0=(dz (passed f r.skip) 0 l).foldl (placeAt f r) l:=by
 rw[aaH f r (aaK f r) _ _ _ (by omega),List.drop_zero]
theorem Es(f:Font)(r:Rule Sw28.Pos):∀ (oE:aK) (l:List Item),(oE.foldl (placeAt f r) l).map (fun x=>x.sign)=l.map fun x=>x.sign
 | [],l=>rfl
 |j::oE,l=>by rw[hr,Es f r oE,(aaK f r).same]
def Et:Sub->Prop
 | .one _=>True
 | .more t=>∀ y∈t,y.2≠[]
 | .joined _=>True
 | .around t=>∀ a∈t,yc a
def chg(f:Font)(r:Rule Sub)(l:List Item):Option (List Item):=match r.rule with
 | .one t=>some (l.map (oneOf f r.skip t))
 | .more t=>if 4096<(l.flatMap (gU f r.skip t)).length then none else some (l.flatMap (gU f r.skip t))
 | .joined t=>some (jW (passed f r.skip) l (gf t 0 (lineOf (passed f r.skip) l)))
 | .around t=>some (fH (passed f r.skip) (ib f r.skip t [] [] (lineOf (passed f r.skip) l)) l)
theorem aiR(f:Font)(r:Rule Sub)(l:List Item)(ok:Et r.rule)(aF:l.length<=4096):along f r (9 * l.length+9) l 0=chg f r l:=by
 obtain⟨sk,b⟩:=r;cases b with
 |one t =>
  rw[Ut f sk t _ _ _ aF (by omega)];simp[chg]
 |more t =>
  rw[Uu f sk t ok _ _ _ (eY _) (by omega)];simp[chg]
 |joined t =>
  rw[UG f sk t _ _ _ aF (by omega),Ji];simp[chg]
 |around t =>
  rw[U0 f sk t ok _ _ _ aF (by omega),Er];simp[chg,lineOf,rZ]
theorem Eu(p:Item->Bool):∀ (l:List Item) (st:List (Option Nat)),(jW p l st).length<=l.length
 | [],_=>by simp[jW]
 |x::r,st=>by
  simp only[jW];split
  ·have:=Eu p r st;simp only[ek];omega
  ·split
   ·rename_i s lA;have:=Eu p r lA;simp only[ek];omega
   ·rename_i lA;have:=Eu p r lA;simp only[ek];omega
   ·have:=Eu p r [];simp only[ek];omega
theorem aaL{f:Font}{r:Rule Sub}{l m:List Item}(aF:l.length<=4096)(h:chg f r l=some m):m.length<=4096:=by
 unfold chg at h;split at h
 ·cases h;simpa using aF
 ·split at h
  ·cases h
  ·cases h;omega
 ·cases h;have:=Eu (passed f r.skip) l;rename_i t _;exact jf (this _) aF
 ·cases h;rw[Jk];exact aF
def nJ(f:Font):List (Rule Sub)->List Item->Option (List Item)
 | [],l=>some l
 |r::rs,l=>(chg f r l).bind fun m=>nJ f rs m
theorem aiS(f:Font)(ok:∀ r∈f.subs,Et r.rule):∀ (ks:aK) (l:List Item),l.length<=4096->(∀ k∈ks,k<f.subs.length) ->
  changedBy f ks l=nJ f (ks.filterMap fun k=>f.subs[k]?) l
 | [],l,_,_=>rfl
 |k::ks,l,aF,aN=>by
  obtain⟨r,aA⟩:∃ r,f.subs[k]?=some r:=⟨_,dR (aN k h9)⟩;rw[changedBy,Ac,aA];simp only[];rw[aiR f r l (ok r (f9 aA)) aF,nJ];cases h:chg f r l with
  |none=>rfl
  |some m =>
   simp only[d4];exact aiS f ok ks m (aaL aF h) fun j bM=>aN j (hZ _ bM)
theorem aiT{f:Font}:∀ {rs:List (Rule Sub)} {l m:List Item},l.length<=4096->nJ f rs l=some m->m.length<=4096
 | [],l,m,aF,h=>by cases h;exact aF
 |r::rs,l,m,aF,h=>by
  rw[nJ]at h;cases h1:chg f r l with
  |none=>rw[h1]at h;cases h
  |some k =>
   rw[h1]at h;exact aiT (aaL aF h1) h
def wu(f:Font):List (Rule Sw28.Pos)->List Item->List Item
 | [],l=>l
 |r::rs,l=>wu f rs ((dz (passed f r.skip) 0 l).foldl (placeAt f r) l)
theorem aaM(f:Font):∀ (ks:aK) (l:List Item),(ks.foldl (fun l k=>match f.poss[k]? with
  |some r=>placing f r (l.length+1) l 0
  |none=>l) l)=wu f (ks.filterMap fun k=>f.poss[k]?) l
 | [],l=>rfl
 |k::ks,l=>by
  rw[hr,Ac];cases f.poss[k]? with
  |none=>exact aaM f ks l
  |some r =>
   simp only[];rw[aaM f ks,aqz];rfl
def wide(f:Font)(l:List Item):List Item:=l.map fun x=>{ x with advance:=(f.advance.getD x.sign 0:Nat) }
theorem aqA(f:Font)(ok:∀ r∈f.subs,Et r.rule)(tags cs:aK)(aU:cs.length<=4096) :
  set_ f tags cs=(nJ f ((asked f.subs.length ((f.features.filter fun x=>tags.contains x.1).map fun x=>x.2.1)).filterMap fun k=>f.subs[k]?) (begun f cs)).map fun l =>
   wu f ((asked f.poss.length ((f.features.filter fun x=>tags.contains x.1).map fun x=>x.2.2)).filterMap fun k=>f.poss[k]?) (wide f l):=by
 unfold set_;simp only[];have ak:(begun f cs).length<=4096:=by simpa [begun]using aU
 rw[aiS f ok _ _ ak fun k aN=>by
  unfold asked at aN;exact IV.mp (rR.mp aN).1]
 cases h:nJ f _ (begun f cs)with
 |none=>rfl
 |some l =>
  have:=aiT ak h;simp only[d4,gd];rw[bw (by show ¬ 4096<l.length;omega)];unfold placedBy;exact congrArg some (aaM f _ _)
def keyOf(e:h_):aK:=e.1::e.2.1
theorem aiU:∀ (w r:aK),fits (w.map fun s=>[s]) r=w.isPrefixOf r
 | [],r=>by simp[fits,List.isPrefixOf]
 |_::_,[]=>by simp[fits,List.isPrefixOf]
 |s::w,x::r=>by
  simp only[fT,fits,List.isPrefixOf,aiU w r];congr 1
  rw[List.contains_cons,List.contains_nil,Bool.or_false,Ad];simp;exact eq_comm
theorem aqB(t:List h_)(x:Nat)(r:aK):nH t x r=t.find? fun e=>(keyOf e).isPrefixOf (x::r):=by
 unfold nH;apply aaB;intro e _;rw[aiU];rfl
def oF(ds:List (aK×Nat))(e:h_):List (aK×Nat):=if(ds.any fun d=>d.1 == keyOf e)=true then ds else ds++[(keyOf e,e.2.2)]
def jG(t:List h_):List (aK×Nat):=t.foldl oF []
theorem aqC(q:aK->Bool)(ds:List (aK×Nat))(e:h_):(oF ds e).find? (fun d=>q d.1)=(ds.find? fun d=>q d.1).or (if q (keyOf e)=true then some (keyOf e,e.2.2)else none):=by
 unfold oF;split
 ·rename_i h;obtain⟨d,hd,he⟩:=sS.mp h;have he:=eq_of_beq he;cases hf:ds.find? fun d=>q d.1 with
  |some z=>rfl
  |none =>
   have:=Ae.mp hf d hd;rw[he]at this;simp[this]
 ·rw[List.find?_append];congr 1
  rw[kg,List.find?_nil];split<;>simp_all
theorem aiV(q:aK->Bool):∀ (t:List h_) (ds:List (aK×Nat)),(t.foldl oF ds).find? (fun d=>q d.1)=(ds.find? fun d=>q d.1).or ((t.find? fun e=>q (keyOf e)).map fun e=>(keyOf e,e.2.2))
 | [],ds=>by simp
 |e::t,ds=>by
  rw[hr,aiV q t,aqC,Option.or_assoc,kg];congr 1
  split
  ·rename_i h;simp[h]
  ·rename_i h;simp[h]
theorem aqD(t:List h_)(x:Nat)(r:aK):(jG t).find? (fun d=>d.1.isPrefixOf (x::r))=(nH t x r).map fun e=>(keyOf e,e.2.2):=by
 rw[aqB,jG,aiV (fun k=>k.isPrefixOf (x::r))];simp
theorem aaN(t:List h_)(e:h_):jG (t++[e])=oF (jG t) e:=by simp[jG]
structure r1(ds:List (aK×Nat))(L:Nat->aK):Prop where
 nd:(ds.map fun d=>d.1).Nodup
 len:∀ a n,n∈L a↔∃ d∈ds,d.1.head?=some a/\d.1.length=n
 ne:∀ d∈ds,d.1≠[]
def qp(L:Nat->aK)(a n:Nat):Nat->aK:=fun b=>if b=a then(if n∈L a then L a else L a++[n])else L b
theorem r1.tell{ds:List (aK×Nat)}{L:Nat->aK}(h:r1 ds L)(e:h_)(aR:¬ (ds.any fun d=>d.1 == keyOf e)=true) :
  r1 (ds++[(keyOf e,e.2.2)]) (qp L e.1 (keyOf e).length) where
 nd:=by
  rw[od,List.nodup_append];refine⟨h.nd,by simp,fun a aW b ak=>?_⟩;simp only[fT,v5,g4]at ak;subst ak;rintro rfl;obtain⟨d,hd,aN⟩:=g5.mp aW;exact aR (sS.mpr ⟨d,hd,by simp[aN]⟩)
 len:=fun a n=>by
  unfold qp;by_cases aW:a=e.1
  ·subst aW;rw[bL rfl];constructor
   ·intro hm;by_cases aU:(keyOf e).length∈L e.1
    ·rw[bL aU]at hm;obtain⟨d,hd,h1,aC⟩:=(h.len _ _).mp hm;exact⟨d,uI _ hd,h1,aC⟩
    ·rw[bw aU]at hm;rcases pa.mp hm with hm|hm
     ·obtain⟨d,hd,h1,aC⟩:=(h.len _ _).mp hm;exact⟨d,uI _ hd,h1,aC⟩
     ·exact⟨(keyOf e,e.2.2),by simp,Z,(g4.mp hm).symm⟩
   ·rintro⟨d,hd,h1,aC⟩;rcases pa.mp hd with hd|hd
    ·have hm:=(h.len e.1 n).mpr ⟨d,hd,h1,aC⟩
     by_cases aU:(keyOf e).length∈L e.1
     ·rw[bL aU];exact hm
     ·rw[bw aU];exact uI _ hm
    ·obtain rfl:=g4.mp hd;by_cases aU:(keyOf e).length∈L e.1
     ·rw[bL aU,← aC];exact aU
     ·rw[bw aU,← aC];simp
  ·rw[bw aW,h.len];constructor
   ·rintro⟨d,hd,h1,aC⟩;exact⟨d,uI _ hd,h1,aC⟩
   ·rintro⟨d,hd,h1,aC⟩;rcases pa.mp hd with hd|hd
    ·exact⟨d,hd,h1,aC⟩
    ·obtain rfl:=g4.mp hd;simp only[keyOf,List.head?_cons,Option.some.injEq]at h1;exact absurd h1.symm aW
 ne:=fun d hd=>by
  rcases pa.mp hd with hd|hd
  ·exact h.ne d hd
  ·obtain rfl:=g4.mp hd;simp[keyOf]
theorem r1.nil:r1 [] (fun _=>[]):=⟨List.nodup_nil,fun a n=>by simp,fun d hd=>by cases hd⟩
def uM(ds:List (aK×Nat))(cur:aK)(n:Nat):Option Nat:=ds.findIdx? fun d=>d.1 == cur.take n
def gC(ds:List (aK×Nat))(cur:aK)(best:Option Nat)(n:Nat):Option Nat:=match uM ds cur n with
 |none=>best
 |some m=>match best with
  |none=>some m
  |some b=>if m<b then some m else some b
def bestOf(ds:List (aK×Nat))(cur:aK)(ns:aK):Option Nat:=ns.foldl (gC ds cur) none
theorem aiW(ds:List (aK×Nat))(cur:aK):∀ (ns:aK) (init:Option Nat),
  (∀ n∈ns,∀ m,uM ds cur n=some m->∃ b,ns.foldl (gC ds cur) init=some b/\b<=m) /\
  (∀ b,ns.foldl (gC ds cur) init=some b->init=some b\/∃ n∈ns,uM ds cur n=some b) /\
  (∀ i,init=some i->∃ b,ns.foldl (gC ds cur) init=some b/\b<=i)
 | [],init=>⟨fun n aR=>(by cases aR),fun b h=>.inl h,fun i h=>⟨i,h,cG _⟩⟩
 |n::ns,init=>by
  obtain⟨i1,i2,i3⟩:=aiW ds cur ns (gC ds cur init n);refine⟨fun k aN m hm=>?_,fun b ak=>?_,fun i hi=>?_⟩
  ·rw[hr];rcases gQ.mp aN with rfl|aN
   ·have:∃ c,gC ds cur init k=some c/\c<=m:=by
     unfold gC;rw[hm];cases init with
     |none=>exact⟨m,Z,cG _⟩
     |some b =>
      simp only[];split
      ·exact⟨m,Z,cG _⟩
      ·exact⟨b,Z,by omega⟩
    obtain⟨c,aU,Jp⟩:=this;obtain⟨b,ak,aqE⟩:=i3 c aU;exact⟨b,ak,by omega⟩
   ·exact i1 k aN m hm
  ·rw[hr]at ak;rcases i2 b ak with h|⟨k,aN,hf⟩
   ·unfold gC at h;cases hf:uM ds cur n with
    |none=>rw[hf]at h;exact .inl h
    |some m =>
     rw[hf]at h;cases init with
     |none=>exact .inr ⟨n,h9,by rw[hf];exact h⟩
     |some c =>
      simp only[]at h;split at h
      ·exact .inr ⟨n,h9,by rw[hf];exact h⟩
      ·exact .inl h
   ·exact .inr ⟨k,hZ _ aN,hf⟩
  ·rw[hr];have:∃ c,gC ds cur init n=some c/\c<=i:=by
    unfold gC;subst hi;cases uM ds cur n with
    |none=>exact⟨i,Z,cG _⟩
    |some m =>
     simp only[];split
     ·exact⟨m,Z,by omega⟩
     ·exact⟨i,Z,cG _⟩
   obtain⟨c,aU,aG0⟩:=this;obtain⟨b,ak,aqE⟩:=i3 c aU;exact⟨b,ak,by omega⟩
theorem aaO{α:Type}{l:List α}{p:α->Bool}{m:Nat}(h:l.findIdx? p=some m):(∃ x,l[m]?=some x/\p x=true)/\∀ j x,j<m->l[j]?=some x->p x=false:=by
 obtain⟨hm,aL,cZ⟩:=List.findIdx?_eq_some_iff_getElem.mp h;refine⟨⟨l[m],dR hm,aL⟩,fun j x bM aq=>?_⟩;obtain⟨aG1,rfl⟩:=eE.mp aq;have:=cZ j bM;simpa using this
theorem aqF{ds:List (aK×Nat)}{L:Nat->aK}(h:r1 ds L)(x:Nat)(r:aK):bestOf ds (x::r) (L x)=ds.findIdx? fun d=>d.1.isPrefixOf (x::r):=by
 obtain⟨f1,f2,_⟩:=aiW ds (x::r) (L x) none;have aiX:∀ n b,uM ds (x::r) n=some b->∃ d,ds[b]?=some d/\d.1.isPrefixOf (x::r)=true:=fun n b ak=>by
  obtain⟨⟨d,hd,he⟩,_⟩:=aaO ak;refine⟨d,hd,?_⟩;rw[eq_of_beq he,List.isPrefixOf_iff_prefix];exact List.take_prefix _ _
 cases hm:ds.findIdx? fun d=>d.1.isPrefixOf (x::r)with
 |none =>
  cases ak:bestOf ds (x::r) (L x)with
  |none=>rfl
  |some b =>
   rcases f2 b ak with z|⟨n,_,hf⟩
   ·cases z
   ·obtain⟨d,hd,aL⟩:=aiX n b hf;have:=List.findIdx?_eq_none_iff.mp hm d (f9 hd);rw[aL]at this;cases this
 |some m =>
  obtain⟨⟨d,hd,aL⟩,aqG⟩:=aaO hm;have Av:=f9 hd;have uN:=List.isPrefixOf_iff_prefix.mp aL;have aqH:d.1.head?=some x:=by
   cases aiY:d.1 with
   |nil=>exact absurd aiY (h.ne d Av)
   |cons a k =>
    rw[aiY]at uN;have:=(List.cons_prefix_cons.mp uN).1;rw[this];rfl
  have aR:d.1.length∈L x:=(h.len x _).mpr ⟨d,Av,aqH,rfl⟩;have aqI:(x::r).take d.1.length=d.1:=(List.prefix_iff_eq_take.mp uN).symm;have hf:uM ds (x::r) d.1.length=some m:=by
   unfold uM;rw[aqI];have Ew:=(eE.mp hd).1;refine List.findIdx?_eq_some_iff_getElem.mpr ⟨Ew,?_,fun j bM=>?_⟩
   ·have:=(eE.mp hd).2
    simp[this]
   ·simp only[Bool.not_eq_true,beq_eq_false_iff_ne,ne_eq];intro e;have h1:(ds.map fun d=>d.1)[j]?=some d.1:=by
     rw[ei,dR (by omega)];simp[e]
    have aC:(ds.map fun d=>d.1)[m]?=some d.1:=by
     rw[ei,hd];rfl
    have bH:j<(ds.map fun d=>d.1).length:=by rw[ew];omega
    have dw:=(List.getElem?_inj bH h.nd).mp (h1.trans aC.symm);omega
  obtain⟨b,ak,aG2⟩:=f1 _ aR m hf;have:b=m:=by
   rcases f2 b ak with z|⟨n,_,Jq⟩
   ·cases z
   ·obtain⟨d',lC,uO⟩:=aiX n b Jq;by_cases cZ:b<m
    ·have:=aqG b d' cZ lC
     rw[uO]at this;cases this
    ·omega
  rw[← this];exact ak
theorem aiZ{α:Type}(p:α->Bool):∀ l:List α,(l.findIdx? p).bind (fun m=>l[m]?)=l.find? p
 | []=>rfl
 |a::l=>by
  rw[List.findIdx?_cons,kg];cases h:p a with
  |true=>simp
  |false =>
   simp only[kf,if_false];rw[← aiZ p l];cases l.findIdx? p<;>simp
theorem aqJ{t:List h_}{L:Nat->aK}(h:r1 (jG t) L)(x:Nat)(r:aK) :
  (bestOf (jG t) (x::r) (L x)).bind (fun m=>(jG t)[m]?)=(nH t x r).map fun e=>(keyOf e,e.2.2):=by
 rw[aqF h,aiZ,aqD]
theorem ai0:∀ (a b:List (aK)) (l:aK),fits (a++b) l=(fits a l && fits b (l.drop a.length))
 | [],b,l=>by simp[fits]
 |s::a,b,[]=>by simp[fits]
 |s::a,b,x::xs=>by simp[fits,ai0 a b xs,Bool.and_assoc]
theorem aqK(a:Around)(past line:aK):q2 a past line=(fits (a.here++a.behind) line && fits a.before past):=by
 unfold q2;rw[ai0,Bool.and_assoc]
def qq(ss:List (aK))(l:aK)(d:Nat):Bool:=match ss[d]? with
 |none=>true
 |some s=>match l[d]? with
  |none=>false
  |some x=>s.contains x
theorem ai1:∀ (ss:List (aK)) (l:aK),fits ss l=true↔∀ d,qq ss l d=true
 | [],l=>by simp[fits,qq]
 |s::r,[]=>by
  simp only[fits,kf,false_iff];intro h;have:=h 0;simp[qq]at this
 |s::r,x::xs=>by
  simp only[fits,je,ai1 r xs];constructor
  ·rintro⟨h1,aC⟩ d;cases d with
   |zero=>simpa [qq]using h1
   |succ d=>simpa [qq]using aC d
  ·intro h;refine⟨by simpa [qq]using h 0,fun d=>by simpa [qq]using h (d+1)⟩
theorem aaP(b k m:Nat):(b ||| 2 ^ k).testBit m=(b.testBit m || decide (k=m)):=by
 rw[Nat.testBit_or,Nat.testBit_two_pow]
def freeOf(rows:List (List (aK)))(d:Nat):Nat:=(rows.zipIdx).foldl (fun b y=>if y.1.length<=d then b ||| 2 ^ y.2 else b) 0
theorem ai2(d:Nat):∀ (rows:List (List (aK))) (k b m:Nat),((rows.zipIdx k).foldl (fun b y=>if y.1.length<=d then b ||| 2 ^ y.2 else b) b).testBit m =
  (b.testBit m || (decide (k<=m) && (rows[m-k]?).any fun ss=>decide (ss.length<=d)))
 | [],k,b,m=>by simp
 |ss::rows,k,b,m=>by
  rw[x5,hr,ai2 d rows (k+1)];by_cases hm:k=m
  ·subst hm;have h1:decide (k+1<=k)=false:=by simp
   rw[h1];simp only[Bool.false_and,Bool.or_false,Nat.sub_self,x2,Option.any_some,cG,decide_true,xY];split
   ·rename_i h;rw[aaP];simp[h]
   ·rename_i h;simp[h]
  ·have ak:(if ss.length<=d then b ||| 2 ^ k else b).testBit m=b.testBit m:=by
    split
    ·rw[aaP];simp[hm]
    ·rfl
   simp only[]at ak ⊢;rw[ak];congr 1
   by_cases aN:k<=m
   ·have e:m-k=(m-(k+1))+1:=by omega
    have h1:decide (k+1<=m)=true:=by simp;omega
    have aC:decide (k<=m)=true:=by simp;omega
    rw[h1,aC,e,z9]
   ·have h1:decide (k+1<=m)=false:=by simp;omega
    have aC:decide (k<=m)=false:=by simp;omega
    rw[h1,aC];rfl
theorem ai3(rows:List (List (aK)))(d m:Nat):(freeOf rows d).testBit m=(rows[m]?).any fun ss=>decide (ss.length<=d):=by
 unfold freeOf;rw[ai2];simp
def r2(A:List (Nat×Nat))(s b:Nat):List (Nat×Nat):=if(A.any fun y=>decide (y.1=s))=true then A.map (fun y=>if y.1=s then(y.1,b)else y)else A++[(s,b)]
def pC(A:List (Nat×Nat))(s:Nat):Option Nat:=(A.find? fun y=>decide (y.1=s)).map fun y=>y.2
theorem aaQ(s b j:Nat):∀ A:List (Nat×Nat),pC (A.map fun y=>if y.1=s then(y.1,b)else y) j=(pC A j).map fun x=>if j=s then b else x
 | []=>rfl
 |y::A=>by
  unfold pC at *;rw[fT,kg,kg];by_cases aP:y.1=s
  ·rw[bL aP];by_cases bM:y.1=j
   ·subst bM;simp[aP]
   ·simp only[bM,decide_false];exact aaQ s b j A
  ·rw[bw aP];by_cases bM:y.1=j
   ·have:¬ j=s:=fun z=>aP (bM.trans z)
    simp[bM,this]
   ·simp only[bM,decide_false];exact aaQ s b j A
theorem aqL(A:List (Nat×Nat))(s b j:Nat):pC (r2 A s b) j=if j=s then some b else pC A j:=by
 unfold r2;split
 ·rename_i h;rw[aaQ];by_cases bM:j=s
  ·subst bM;rw[bL rfl];have:∃ x,pC A j=some x:=by
    unfold pC;obtain⟨y,aP,aN⟩:=sS.mp h;cases hf:A.find? fun y=>decide (y.1=j)with
    |none=>exact absurd aN (by have:=Ae.mp hf y aP;simpa using this)
    |some z=>exact⟨z.2,Z⟩
   obtain⟨x,aq⟩:=this;simp[aq]
  ·rw[bw bM];cases pC A j<;>simp[bM]
 ·rename_i h;unfold pC;rw[List.find?_append];by_cases bM:j=s
  ·subst bM;rw[bL rfl];have:A.find? (fun y=>decide (y.1=j))=none:=by
    rw[Ae];intro y aP aN;exact h (sS.mpr ⟨y,aP,aN⟩)
   rw[this];simp
  ·rw[bw bM];cases A.find? (fun y=>decide (y.1=j))with
   |some z=>rfl
   |none =>
    have:¬ s=j:=fun z=>bM z.symm;simp[this]
def jh(A:List (Nat×Nat))(fr s:Nat):Nat:=(pC A s).getD fr
def qs(fr k:Nat)(A:List (Nat×Nat))(ss:aK):List (Nat×Nat):=ss.foldl (fun A s=>r2 A s (jh A fr s ||| 2 ^ k)) A
theorem ai4(fr k:Nat):∀ (ss:aK) (A:List (Nat×Nat)) (s m:Nat),(jh (qs fr k A ss) fr s).testBit m=((jh A fr s).testBit m || (decide (k=m) && ss.contains s))
 | [],A,s,m=>by simp[qs]
 |x::ss,A,s,m=>by
  show(jh (qs fr k (r2 A x (jh A fr x ||| 2 ^ k)) ss) fr s).testBit m=_;rw[ai4 fr k ss];have h1:jh (r2 A x (jh A fr x ||| 2 ^ k)) fr s=if s=x then jh A fr x ||| 2 ^ k else jh A fr s:=by
   unfold jh;rw[aqL];split<;>rfl
  rw[h1];by_cases aH:s=x
  ·subst aH;rw[bL rfl,aaP];simp only[List.contains_cons,beq_self_eq_true,Bool.true_or,Bool.and_true];cases (jh A fr s).testBit m<;>cases decide (k=m)<;>simp
  ·rw[bw aH];have:(s == x)=false:=by simp[aH]
   rw[List.contains_cons,this,Bool.false_or]
def r3(fr d:Nat)(A:List (Nat×Nat))(y:List (aK)×Nat):List (Nat×Nat):=if d<y.1.length then qs fr y.2 A (y.1.getD d [])else A
def U6(rows:List (List (aK)))(d:Nat):List (Nat×Nat):=(rows.zipIdx).foldl (r3 (freeOf rows d) d) []
theorem ai5(fr d:Nat):∀ (rows:List (List (aK))) (k:Nat) (A:List (Nat×Nat)) (s m:Nat),(jh ((rows.zipIdx k).foldl (r3 fr d) A) fr s).testBit m =
  ((jh A fr s).testBit m || (decide (k<=m) && (rows[m-k]?).any fun ss=>(ss[d]?).any fun st=>st.contains s))
 | [],k,A,s,m=>by simp
 |ss::rows,k,A,s,m=>by
  rw[x5,hr,ai5 fr d rows (k+1)];have h0:(jh (r3 fr d A (ss,k)) fr s).testBit m=((jh A fr s).testBit m || (decide (k=m) && (ss[d]?).any fun st=>st.contains s)):=by
   unfold r3;by_cases hd:d<ss.length
   ·simp only[bL hd];rw[ai4,Uh,dR hd];rfl
   ·simp only[bw hd];rw[qY (by omega)];simp
  rw[h0,Bool.or_assoc];congr 1
  by_cases hm:k=m
  ·subst hm;have h1:decide (k+1<=k)=false:=by simp
   simp[h1]
  ·by_cases aN:k<=m
   ·have e:m-k=(m-(k+1))+1:=by omega
    have h1:decide (k+1<=m)=true:=by simp;omega
    have aC:decide (k<=m)=true:=by simp;omega
    have bH:decide (k=m)=false:=by simp[hm]
    rw[h1,aC,bH,e,z9];simp
   ·have h1:decide (k+1<=m)=false:=by simp;omega
    have aC:decide (k<=m)=false:=by simp;omega
    have bH:decide (k=m)=false:=by simp[hm]
    rw[h1,aC,bH];rfl
theorem aqM(rows:List (List (aK)))(d s m:Nat):(jh (U6 rows d) (freeOf rows d) s).testBit m=((rows[m]?).any fun ss=>decide (ss.length<=d) || (ss[d]?).any fun st=>st.contains s):=by
 unfold U6;rw[ai5];have:jh [] (freeOf rows d) s=freeOf rows d:=rfl;rw[this,ai3];simp only[eY,decide_true,xY,Nat.sub_zero];cases rows[m]?<;>simp
def Jr(rows:List (List (aK)))(d:Nat)(x:Option Nat):Nat:=match x with
 |none=>freeOf rows d
 |some s=>jh (U6 rows d) (freeOf rows d) s
theorem aqN(rows:List (List (aK)))(l:aK)(d m:Nat):(Jr rows d l[d]?).testBit m=(rows[m]?).any fun ss=>qq ss l d:=by
 unfold Jr;cases aF:l[d]? with
 |none =>
  simp only[];rw[ai3];congr 1
  funext ss
  unfold qq;rw[aF];by_cases h:ss.length<=d
  ·rw[qY h];simp[h]
  ·rw[dR (by omega)];simp[h]
 |some x =>
  simp only[];rw[aqM];congr 1
  funext ss
  unfold qq;rw[aF];by_cases h:ss.length<=d
  ·rw[qY h];simp[h]
  ·rw[dR (by omega)];simp[h]
def lX(rows:List (List (aK)))(l:aK)(n b:Nat):Nat:=(List.range n).foldl (fun b d=>b &&& Jr rows d l[d]?) b
theorem Js(rows:List (List (aK)))(l:aK)(n b:Nat):lX rows l (n+1) b=lX rows l n b &&& Jr rows n l[n]?:=by
 unfold lX;rw[p2,oh];rfl
theorem aaR(rows:List (List (aK)))(l:aK)(m:Nat):∀ (n b:Nat),(lX rows l n b).testBit m=(b.testBit m && (List.range n).all fun d=>(rows[m]?).any fun ss=>qq ss l d)
 |0,b=>by simp[lX]
 |n+1,b=>by
  rw[Js,Nat.testBit_and,aaR rows l m n,aqN,p2,List.all_append,Bool.and_assoc];simp
theorem ai6(rows:List (List (aK)))(l:aK):∀ n,lX rows l n 0=0
 |0=>rfl
 |n+1=>by rw[Js,ai6 rows l n,Nat.zero_and]
theorem aqO(rows:List (List (aK)))(l:aK){j n b:Nat}(bM:j<=n)(h:lX rows l j b=0):lX rows l n b=0:=by
 obtain⟨k,rfl⟩:∃ k,n=j+k:=⟨n-j,by omega⟩;induction k with
 |zero=>exact h
 |succ k bU=>rw[← Nat.add_assoc,Js,bU (by omega),Nat.zero_and]
theorem aqP{ss:List (aK)}{l:aK}{d:Nat}(h:ss.length<=d):qq ss l d=true:=by
 unfold qq;rw[qY h]
theorem ai7{ss:List (aK)}{l:aK}{n:Nat}(aR:ss.length<=n):((List.range n).all fun d=>qq ss l d)=fits ss l:=by
 rw[Ad,ai1,rT];constructor
 ·intro h d;by_cases hd:d<n
  ·exact h d (IV.mpr hd)
  ·exact aqP (by omega)
 ·intro h d _;exact h d
theorem aqQ{t:List Around}{line past:aK}{n1 n2:Nat}(h1:∀ a∈t,(a.here++a.behind).length<=n1)(aC:∀ a∈t,a.before.length<=n2)(m:Nat) :
  (lX (t.map fun a=>a.before) past n2 (lX (t.map fun a=>a.here++a.behind) line n1 (2 ^ t.length-1))).testBit m=(t[m]?).any fun a=>q2 a past line:=by
 rw[aaR,aaR,Nat.testBit_two_pow_sub_one];simp only[ei];cases b_:t[m]? with
 |none =>
  have:t.length<=m:=z8.mp b_;have h:decide (m<t.length)=false:=by simp;omega
  simp[h]
 |some a =>
  obtain⟨hm,aW⟩:=eE.mp b_;have uP:a∈t:=f9 b_;have h:decide (m<t.length)=true:=by simp;omega
  simp only[h,xY,gd,Option.any_some];rw[ai7 (h1 a uP),ai7 (aC a uP),aqK]
theorem ai8:∀ (m b:Nat),b.testBit m=true->(∀ j,j<m->b.testBit j=false)->(b &&& (b-1))+2 ^ m=b
 |0,b,h,_=>by
  rw[Nat.testBit_zero]at h;have ak:b % 2=1:=by simpa using h
  have bD:(b &&& (b-1)) / 2=b / 2 &&& (b-1) / 2:=Nat.and_div_two;have a8:(b-1) / 2=b / 2:=by omega
  rw[a8,Nat.and_self]at bD;have o:=@Nat.and_mod_two_eq_one b (b-1);rw[Nat.pow_zero];omega
 |m+1,b,h,aF=>by
  have h0:=aF 0 (by omega);rw[Nat.testBit_zero]at h0;have ak:b % 2=0:=by
   have:¬ b % 2=1:=by simpa using h0
   omega
  have UW:b≠0:=by
   rintro rfl;simp at h
  rw[Nat.testBit_succ]at h;have bU:=ai8 m (b / 2) h fun j bM=>by
   have:=aF (j+1) (by omega)
   rwa [Nat.testBit_succ]at this
  have bD:(b &&& (b-1)) / 2=b / 2 &&& (b-1) / 2:=Nat.and_div_two;have a8:(b-1) / 2=b / 2-1:=by omega
  rw[a8]at bD;have o:=@Nat.and_mod_two_eq_one b (b-1);rw[Nat.pow_succ];omega
theorem aqR:∀ (b:Nat),b≠0->∃ m,b.testBit m=true/\∀ j,j<m->b.testBit j=false:=by
 intro b;induction b using Nat.strongRecOn with
 |_ b bU =>
  intro ak;by_cases h:b % 2=1
  ·exact⟨0,by rw[Nat.testBit_zero];simpa using h,fun j bM=>by omega⟩
  ·obtain⟨m,h1,aC⟩:=bU (b / 2) (by omega) (by omega);refine⟨m+1,by rw[Nat.testBit_succ];exact h1,fun j bM=>?_⟩;cases j with
   |zero=>rw[Nat.testBit_zero];simpa using h
   |succ j=>rw[Nat.testBit_succ];exact aC j (by omega)
theorem ai9{α:Type}{q:α->Bool}:∀ {l:List α} {m:Nat} {x:α},l[m]?=some x->q x=true->(∀ j y,j<m->l[j]?=some y->q y=false)->l.find? q=some x
 | [],m,x,h,_,_=>by simp at h
 |a::l,0,x,h,a0,_=>by
  simp only[x2,Option.some.injEq]at h;subst h;simp[kg,a0]
 |a::l,m+1,x,h,a0,aF=>by
  have aW:=aF 0 a (by omega) rfl;rw[kg,aW];exact ai9 (by simpa using h) a0 fun j y bM aP=>aF (j+1) y (by omega) (by simpa using aP)
theorem ai_{t:List Around}{line past:aK}{b:Nat}(ak:∀ m,b.testBit m=(t[m]?).any fun a=>q2 a past line)(h0:b=0):pA t past line=none:=by
 unfold pA;rw[Ae];intro a aW h;obtain⟨m,hm⟩:=Eb.mp aW;have:=ak m;rw[h0,hm]at this;simp[h]at this
theorem aqS{t:List Around}{line past:aK}{b:Nat}(ak:∀ m,b.testBit m=(t[m]?).any fun a=>q2 a past line)(h0:b≠0) :
  ∃ m a,t[m]?=some a/\pA t past line=some a/\b-(b &&& (b-1))=2 ^ m:=by
 obtain⟨m,h1,aC⟩:=aqR b h0;have hm:=ak m;rw[h1]at hm;cases b_:t[m]? with
 |none=>rw[b_]at hm;simp at hm
 |some a =>
  rw[b_]at hm;refine⟨m,a,b_,ai9 b_ (by simpa using hm.symm) fun j y bM aP=>?_,?_⟩
  ·have:=ak j
   rw[aC j bM,aP]at this;simpa using this.symm
  ·have:=ai8 m b h1 aC
   exact Nat.sub_eq_of_eq_add (by rw[Nat.add_comm];exact this.symm)
theorem ai':∀ {a b:List Int},a.Pairwise (· < ·)->b.Pairwise (· < ·)->(∀ z,z∈a↔z∈b)->a=b
 | [],[],_,_,_=>rfl
 | [],y::b,_,_,h=>by have:=(h y).mpr h9;cases this
 |x::a,[],_,_,h=>by have:=(h x).mp h9;cases this
 |x::a,y::b,aW,ak,h=>by
  have Ex:=x7.mp aW;have g8:=x7.mp ak;have U5:x=y:=by
   rcases gQ.mp ((h x).mp h9)with e|aq
   ·exact e
   ·rcases gQ.mp ((h y).mpr h9)with e|aP
    ·exact e.symm
    ·have h1:=Ex.1 y aP
     have aC:=g8.1 x aq;omega
  subst U5;congr 1
  refine ai' Ex.2 g8.2 fun z=>?_;constructor
  ·intro hz;rcases gQ.mp ((h z).mp (hZ _ hz))with e|U7
   ·have:=Ex.1 z hz;omega
   ·exact U7
  ·intro hz;rcases gQ.mp ((h z).mpr (hZ _ hz))with e|U7
   ·have:=g8.1 z hz;omega
   ·exact U7
theorem aja:∀ {a:List Int},a.Pairwise (·<=·)->a.Nodup->a.Pairwise (· < ·)
 | [],_,_=>List.Pairwise.nil
 |x::a,h,aR=>by
  have h':=x7.mp h;have lD:=Af.mp aR;refine x7.mpr ⟨fun y aP=>?_,aja h'.2 lD.2⟩;have h1:=h'.1 y aP;have aC:x≠y:=fun e=>lD.1 (e▸aP);omega
theorem aqT(k:Nat)(l:List (aK)):((asked k l).map fun n:Nat=>(n:Int)).Pairwise (· < ·):=by
 unfold asked;rw[I3];refine List.Pairwise.filter _ ?_;exact List.Pairwise.imp (fun h=>by omega) List.pairwise_lt_range
theorem Jt{k:Nat}{l:List (aK)}{n:Nat}:n∈asked k l↔n<k/\∃ x∈l,n∈x:=by
 unfold asked;rw[rR,IV,sS];simp
theorem aqU{k:Nat}{l:List (aK)}{ks ns:List Int}(aN:∀ x∈l,∀ n∈x,n<k)(hm:∀ z,z∈ks↔∃ x∈l,∃ n∈x,z=((n:Nat):Int))(aR:ks.Nodup)(aL:ns.Perm ks)(aH:ns.Pairwise (·<=·)) :
  ns=(asked k l).map fun n:Nat=>(n:Int):=by
 refine ai' (aja aH (aL.nodup_iff.mpr aR)) (aqT k l) fun z=>?_;rw[aL.mem_iff,hm,g5];constructor
 ·rintro⟨x,aq,n,wz,rfl⟩;exact⟨n,Jt.mpr ⟨aN x aq n wz,x,aq,wz⟩,Z⟩
 ·rintro⟨n,lD,rfl⟩;obtain⟨_,x,aq,wz⟩:=Jt.mp lD;exact⟨x,aq,n,wz,Z⟩
structure Aw(m:List Span):Prop where
 le:∀ s∈m,s.first<=s.last
 up:m.Pairwise fun a b=>a.last<b.first
theorem Aw.lt{m:List Span}(h:Aw m){i j:Nat}{a b:Span}(lE:i<j)(aW:m[i]?=some a)(ak:m[j]?=some b):a.last<b.first:=by
 obtain⟨hi,rfl⟩:=eE.mp aW;obtain⟨bM,rfl⟩:=eE.mp ak;exact List.pairwise_iff_getElem.mp h.up i j hi bM lE
theorem Aw.aqV{m:List Span}(h:Aw m){i j:Nat}{a b:Span}(lE:i<j)(aW:m[i]?=some a)(ak:m[j]?=some b):a.last<b.last:=by
 have h1:=h.lt lE aW ak;have aC:=h.le b (f9 ak);omega
theorem aqW{f:Font}{c:Nat}(ak:∀ (j:Nat) (s:Span),f.map[j]?=some s->s.last<c):mapped f c=0:=by
 unfold mapped;have:f.map.find? (fun s=>decide (s.first<=c) && decide (c<=s.last))=none:=by
  rw[Ae];intro s aH;obtain⟨j,bM⟩:=Eb.mp aH;have:=ak j s bM;simp;omega
 rw[this]
theorem aqX{f:Font}(h:Aw f.map){c n:Nat}{p:Span}(ak:∀ (j:Nat) (s:Span),j<n->f.map[j]?=some s->s.last<c)(aL:f.map[n]?=some p)(aU:c<=p.last) :
  mapped f c=if p.first<=c then p.sign+(c-p.first)else 0:=by
 unfold mapped;split
 ·rename_i s aH;have h1:=vZ aH;simp only[je,pe]at h1;obtain⟨j,bM⟩:=Eb.mp (vY aH);have aqY:j=n:=by
   rcases Nat.lt_trichotomy j n with cZ|e|aqZ
   ·have:=ak j s cZ bM;omega
   ·exact e
   ·have:=h.lt aqZ aL bM;omega
  subst aqY;rw[bM]at aL;cases aL;rw[bL h1.1]
 ·rename_i aH;have:=Ae.mp aH p (f9 aL);rw[bw];intro hle;exact this (by simp;omega)
theorem aaS(p:Item->Bool):∀ (r:List Item) (k m q:Nat),(dz p k r)[m]?=some q->dz p (q+1) (r.drop (q+1-k))=(dz p k r).drop (m+1)
 | [],k,m,q,h=>by simp[dz]at h
 |x::r,k,m,q,h=>by
  have a0:=(oD p (f9 h)).1;by_cases aq:p x=true
  ·rw[q0 p aq]at h ⊢;have kk:=(oD p (f9 h)).1;have e:q+1-k=(q+1-(k+1))+1:=by omega
   rw[e,Ab];exact aaS p r (k+1) m q h
  ·rw[q1 p aq]at h ⊢;cases m with
   |zero =>
    simp only[x2,Option.some.injEq]at h;subst h;have e:k+1-k=1:=by omega
    rw[e];simp
   |succ m =>
    simp only[z9]at h;have kk:=(oD p (f9 h)).1;have e:q+1-k=(q+1-(k+1))+1:=by omega
    rw[e,Ab,Ab];exact aaS p r (k+1) m q h
theorem ajb(f:Font)(sk:Nat)(l:List Item){m i:Nat}(h:(dz (passed f sk) 0 l)[m]?=some i):after f sk l i=(dz (passed f sk) 0 l).drop (m+1):=by
 rw[Jf];exact aaS (passed f sk) l 0 m i h
def U8(t:List (Nat×Nat×Int))(a b:Nat):Int:=((t.find? fun x=>x.1 == a && x.2.1 == b).map fun x=>x.2.2).getD 0
theorem aq0(l:List Item)(i:Nat)(h:Item->Item)(hh:∀ x,h x=x):at_ l i h=l:=by
 apply vV;intro j;rw[Je];cases l[j]? with
 |none=>rfl
 |some x=>simp[hh]
theorem aq1(f:Font)(sk:Nat)(t:List (Nat×Nat×Int)){l l':List Item}(aH:l'.map (fun x=>x.sign)=l.map fun x=>x.sign){m i j:Nat}(hi:(dz (passed f sk) 0 l)[m]?=some i)(bM:(dz (passed f sk) 0 l)[m+1]?=some j) :
  placeAt f ⟨sk,.pair t⟩ l' i=at_ l' i fun y=>{ y with advance:=y.advance+U8 t (signAt l' i) (signAt l' j) }:=by
 have aW:after f sk l' i=j::(dz (passed f sk) 0 l).drop (m+2):=by
  have aU:=U4 f sk l' l 0 aH;rw[ajb f sk l' (m:=m) (by rw[aU];exact hi),aU];rw[qm bM]
 unfold placeAt placed;simp only[aW];unfold U8;cases t.find? _ with
 |none =>
  simp only[D_,Option.getD_none];rw[aq0];intro x;simp
 |some x=>rfl
theorem aq2(f:Font)(sk:Nat)(t:List (Nat×Nat×Int)){l l':List Item}(aH:l'.map (fun x=>x.sign)=l.map fun x=>x.sign){m i:Nat}(hi:(dz (passed f sk) 0 l)[m]?=some i)(hm:(dz (passed f sk) 0 l).length=m+1) :
  placeAt f ⟨sk,.pair t⟩ l' i=l':=by
 have aW:after f sk l' i=[]:=by
  have aU:=U4 f sk l' l 0 aH;rw[ajb f sk l' (m:=m) (by rw[aU];exact hi),aU,ob (by omega)]
 unfold placeAt placed;simp only[aW]
theorem aaT{β:Type}(p:Item->Bool)(g:β->Nat->β):∀ (r:List Item) (k:Nat) (b:β),(dz p k r).foldl g b=(r.zipIdx k).foldl (fun b y=>if p y.1=true then b else g b y.2) b
 | [],_,_=>rfl
 |x::r,k,b=>by
  rw[x5,hr];by_cases aq:p x=true
  ·rw[q0 p aq,bL aq,aaT p g r]
  ·rw[q1 p aq,bw aq,hr,aaT p g r]
def pD(f:Font)(l:List Item)(i:Nat):Option Nat:=((List.range i).reverse).find? fun p=>(l[p]?).any fun x=>clsOf f x != 3
theorem ajc(f:Font)(l:List Item)(i:Nat):pD f l (i+1)=if((l[i]?).any fun x=>clsOf f x != 3)=true then some i else pD f l i:=by
 unfold pD;rw[p2,List.reverse_append,List.reverse_singleton,List.singleton_append,kg];split<;>simp_all
theorem ajd{f:Font}{l:List Item}{i p:Nat}(h:pD f l i=some p):p<i:=by
 have:=vY h;simpa using this
theorem aq3(f:Font)(x y:Item)(h:x.sign=y.sign):clsOf f x=clsOf f y:=by unfold clsOf;rw[h]
theorem aq4(f:Font){l l':List Item}(h:l'.map (fun x=>x.sign)=l.map fun x=>x.sign)(i:Nat):pD f l' i=pD f l i:=by
 unfold pD;congr 1
 funext p
 have:=congrArg (fun z=>z[p]?) h;simp only[ei]at this;cases h1:l'[p]? with
 |none =>
  rw[h1]at this;cases aC:l[p]? with
  |none=>rfl
  |some y=>rw[aC]at this;simp at this
 |some x =>
  rw[h1]at this;cases aC:l[p]? with
  |none=>rw[aC]at this;simp at this
  |some y =>
   rw[aC]at this;simp only[gd,Option.some.injEq]at this;simp only[Option.any_some];rw[aq3 f x y this]
theorem Ju(l:List Item)(i j:Nat):carried l i j=(((l.take j).drop i).map fun x=>x.advance).sum:=by
 unfold carried;have key:∀ (r:List Item) (s:Int),r.foldl (fun s x=>s+x.advance) s=s+(r.map fun x=>x.advance).sum:=by
  intro r;induction r with
  |nil=>intro s;simp
  |cons x r bU=>intro s;rw[hr,bU,fT,List.sum_cons];omega
 rw[key];omega
theorem aje{l:List Item}{i j:Nat}{x:Item}(lE:i<=j)(h:l[j]?=some x):carried l i (j+1)=carried l i j+x.advance:=by
 have bM:=(eE.mp h).1;rw[Ju,Ju,wj h,Ui (by rw[g0];omega),od,List.sum_append];simp
theorem ajf{l:List Item}{i:Nat}{x:Item}(h:l[i]?=some x):carried l i (i+1)=x.advance:=by
 rw[aje (cG i) h,Ju,ob (by rw[g0];omega)];simp
theorem aq5{l l':List Item}(h:l'.map (fun x=>x.advance)=l.map fun x=>x.advance)(i j:Nat):carried l' i j=carried l i j:=by
 rw[Ju,Ju];rw[Aa,List.map_take,Aa,List.map_take,h]
theorem aq6(l:List Item)(i:Nat)(h:Item->Item)(hh:∀ x,(h x).advance=x.advance):(at_ l i h).map (fun x=>x.advance)=l.map fun x=>x.advance:=by
 apply vV;intro j;rw[ei,ei,Je];cases l[j]? with
 |none=>rfl
 |some x =>
  simp only[gd,Option.some.injEq];split
  ·exact hh x
  ·rfl
theorem aq7(m b:List Anchor)(l:List Item)(i p:Nat):(setOn m b l i p).map (fun x=>x.advance)=l.map fun x=>x.advance:=by
 unfold setOn;split
 ·rfl
 ·split
  ·exact aq6 _ _ _ fun _=>rfl
  ·rfl
theorem aq8(f:Font)(sk:Nat)(m b:List Anchor)(l:List Item)(i:Nat):placeAt f ⟨sk,.onBase m b⟩ l i=match pD f l i with
  |some p=>setOn m b l i p
  |none=>l:=by
 unfold placeAt placed;show(match pD f l i with
  |some p=>(setOn m b l i p,i+1)
  |none=>(l,i+1)).1=_
 cases pD f l i<;>rfl
def aaU(g:Nat):Sub->Prop
 | .one t=>∀ y∈t,y.2<g
 | .more t=>∀ y∈t,y.2.length<=8/\∀ s∈y.2,s<g
 | .joined t=>∀ e∈t,e.2.2<g
 | .around _=>True
def aaV(rs:List (Rule Sub))(n:Nat):Prop:=∃ q u,rs[n]?=some q/\q.rule=.one u
structure pF(f:Font):Prop where
 cl:f.cls.length=f.signs
 ad:f.advance.length=f.signs
 g1:1<=f.signs
 Jv:f.signs<=4096
 r4:∀ z∈f.cls,z<4
 mo:Aw f.map
 ms:∀ s∈f.map,s.sign+(s.last-s.first)<f.signs
 sk:∀ r∈f.subs,r.skip<8
 pG:∀ r∈f.poss,r.skip<8
 so:∀ r∈f.subs,Et r.rule
 fV:∀ r∈f.subs,aaU f.signs r.rule
 ac:∀ r∈f.subs,∀ l,r.rule=.around l->l.length<=64/\∀ a∈l,∀ y∈a.acts,aaV f.subs y.2
 fL:f.subs.length<=64
 pl:f.poss.length<=64
 b0:∀ x∈f.features,(∀ n∈x.2.1,n<f.subs.length)/\(∀ n∈x.2.2,n<f.poss.length)/\x.2.1.length<=64/\x.2.2.length<=64
 wA:f.features.length<=64
 fr:rising (f.features.map fun x=>x.1)=true
def yg(t:List (Nat×Nat))(w:aK)(i:Nat):aK:=w.set i ((t.lookup (w.getD i 0)).getD (w.getD i 0))
def uQ(f:Font)(sk:Nat)(t:List (Nat×Nat))(s:Nat):Nat:=if h4 f sk s=true then s else(t.lookup s).getD s
theorem ajg(f:Font)(sk:Nat)(t:List (Nat×Nat))(ss:aK):∀ j,j<=ss.length->((List.range j).filter fun i=>!h4 f sk (ss.getD i 0)).foldl (yg t) ss=(ss.take j).map (uQ f sk t)++ss.drop j
 |0,_=>by simp
 |j+1,h=>by
  have bU:=ajg f sk t ss j (by omega);have e:ss[j]?=some ss[j]:=dR (by omega);have eg:ss.getD j 0=ss[j]:=by simp[List.getD,e]
  rw[p2,x3,oh,bU,vW,e,od];have aF:((ss.take j).map (uQ f sk t)).length=j:=by simp;omega
  have hd:ss.drop j=ss[j]::ss.drop (j+1):=z7 (by omega);by_cases aL:h4 f sk ss[j]=true
  ·simp only[eg,aL,xZ,List.filter_nil,Bool.not_true,kf,if_false,rU,Option.toList_some,fT,v5];rw[hd,uH];simp[uQ,aL]
  ·have uO:h4 f sk ss[j]=false:=by simpa using aL
   simp only[eg,uO,xZ,List.filter_nil,x6,if_true,hr,rU,Option.toList_some,fT,v5];unfold yg;have b5:((ss.take j).map (uQ f sk t)++ss.drop j).getD j 0=ss[j]:=by
    rw[List.getD,I0 (by omega),aF,Nat.sub_self,hd];rfl
   rw[b5,List.set_append_right _ _ (by omega),aF,Nat.sub_self,uH];congr 1
   have aq9:uQ f sk t ss[j]=(t.lookup ss[j]).getD ss[j]:=by simp[uQ,uO]
   rw[hd,aq9];rfl
theorem aq_(f:Font)(sk:Nat)(t:List (Nat×Nat))(ss:aK):((List.range ss.length).filter fun i=>!h4 f sk (ss.getD i 0)).foldl (yg t) ss=ss.map (uQ f sk t):=by
 rw[ajg f sk t ss ss.length (cG _)];simp
theorem one_sign(f:Font)(sk:Nat)(t:List (Nat×Nat))(l:List Item):(l.map (oneOf f sk t)).map (fun x=>x.sign)=(l.map fun x=>x.sign).map (uQ f sk t):=by
 rw[kh,kh];apply Ag;intro x _;show(oneOf f sk t x).sign=uQ f sk t x.sign;unfold oneOf uQ;rw[Jl];split<;>rfl
theorem aq'(f:Font)(sk:Nat)(t:List (Nat×Nat))(l:List Item):(l.map (oneOf f sk t)).map (fun x=>x.from_)=l.map fun x=>x.from_:=by
 rw[kh];apply Ag;intro x _;show(oneOf f sk t x).from_=x.from_;unfold oneOf;split<;>rfl
theorem U9{β:Type}(s:Nat):∀ t:List (Nat×β),t.lookup s=(t.find? fun y=>decide (y.1=s)).map fun y=>y.2
 | []=>rfl
 |y::t=>by
  rw[uG,kg];by_cases h:y.1=s
  ·subst h;simp
  ·have h':¬ s=y.1:=fun e=>h e.symm
   simp only[h,decide_false];rw[show(s == y.1)=false by simp[h']];exact U9 s t
def oG(f:Font)(k:Nat)(w:aK)(y:Nat×Nat):aK:=match f.subs[y.2]? with
 |some q=>(match q.rule with
  | .one u=>w.set (k+y.1) ((u.lookup (w.getD (k+y.1) 0)).getD (w.getD (k+y.1) 0))
  |_=>w)
 |none=>w
theorem ara{f:Font}{k:Nat}{w:aK}{y:Nat×Nat}{q:Rule Sub}{u:List (Nat×Nat)}(h1:f.subs[y.2]?=some q)(aC:q.rule=.one u):oG f k w y=w.set (k+y.1) ((u.lookup (w.getD (k+y.1) 0)).getD (w.getD (k+y.1) 0)):=by
 unfold oG;rw[h1];dsimp only;rw[aC]
theorem arb(f:Font)(k:Nat)(w:aK)(y:Nat×Nat):(oG f k w y).length=w.length:=by
 unfold oG;split
 ·split<;>simp
 ·rfl
theorem aaW(f:Font)(k:Nat):∀ (acts:List (Nat×Nat)) (w:aK),(acts.foldl (oG f k) w).length=w.length
 | [],_=>rfl
 |y::acts,w=>by rw[hr,aaW f k acts,arb]
theorem ard(f:Font)(a b:aK)(y:Nat×Nat)(u:aK)(aN:a.length=k)(aP:y.1<u.length):oG f k (a++(u++b)) y=a++(wk f u y++b):=by
 unfold oG wk;cases h:f.subs[y.2]? with
 |none=>rfl
 |some q =>
  dsimp only;cases a0:q.rule with
  |one t =>
   dsimp only;have b5:(a++(u++b)).getD (k+y.1) 0=u.getD y.1 0:=by
    rw[List.getD,List.getD,I0 (by omega),Uj (by omega)];congr 2
    omega
   rw[b5,List.set_append_right _ _ (by omega),List.set_append_left _ _ (by omega)];congr 3
   omega
  |_=>rfl
theorem ajh(f:Font){k:Nat}(a b:aK)(aN:a.length=k):∀ (acts:List (Nat×Nat)) (u:aK),(∀ y∈acts,y.1<u.length)->acts.foldl (oG f k) (a++(u++b))=a++(jg f acts u++b)
 | [],u,_=>rfl
 |y::acts,u,h=>by
  rw[hr,ard f a b y u aN (h y h9),ajh f a b aN acts]
  ·rfl
  ·intro z hz;rw[aaz];exact h z (hZ _ hz)
theorem aji(f:Font)(sk:Nat):∀ (w p:aK),w.foldl (push f sk) p=(w.filter fun s=>!h4 f sk s).reverse++p
 | [],p=>rfl
 |s::w,p=>by
  rw[hr,aji f sk w,xZ];unfold push;by_cases h:h4 f sk s=true
  ·simp[h]
  ·simp[h]
theorem aaX(p:Item->Bool):∀ (w:aK) (r:List Item) (i:Nat) (x:Item),r[i]?=some x->p x=true->(fH p w r)[i]?=some x
 | [],r,i,x,h,_=>by rw[x9];exact h
 |s::w,[],i,x,h,_=>by simp at h
 |s::w,y::r,0,x,h,aL=>by
  simp at h;subst h;simp[fH,aL]
 |s::w,y::r,i+1,x,h,aL=>by
  have h':r[i]?=some x:=by simpa using h
  unfold fH;by_cases aP:p y=true
  ·rw[bL aP];simpa using aaX p (s::w) r i x h' aL
  ·rw[bw aP];simpa using aaX p w r i x h' aL
theorem aaY(p:Item->Bool):∀ (w:aK) (r:List Item),(fH p w r).map (fun x=>x.from_)=r.map fun x=>x.from_
 | [],r=>by rw[x9]
 |s::w,[]=>rfl
 |s::w,x::r=>by
  unfold fH;by_cases aq:p x=true
  ·rw[bL aq];simp[aaY p (s::w) r]
  ·rw[bw aq];simp[aaY p w r]
theorem arf(p:Item->Bool)(l:List Item)(w F:aK)(iQ:F.length=l.length)(hw:w.length=(dz p 0 l).length)(h1:∀ m q,(dz p 0 l)[m]?=some q->F.getD q 0=w.getD m 0)(aC:∀ (i:Nat) (x:Item),l[i]?=some x->p x=true->F.getD i 0=x.sign)
  (bH:∀ (i:Nat) (x:Item),l[i]?=some x->¬ p x=true->∃ m:Nat,(dz p 0 l)[m]?=some i):F=(fH p w l).map fun x=>x.sign:=by
 apply vV;intro i;by_cases hi:i<l.length
 ·have aF:l[i]?=some l[i]:=dR hi
  have arh:F[i]?=some (F.getD i 0):=by simp[List.getD,dR (show i<F.length by omega)]
  rw[arh,ei];by_cases aL:p l[i]=true
  ·rw[aaX p w l i _ aF aL,aC i _ aF aL];rfl
  ·obtain⟨m,hm⟩:=bH i _ aF aL;have ari:m<w.length:=by rw[hw];exact(eE.mp hm).1
   have ajj:w[m]?=some w[m]:=dR ari;obtain⟨x,aq,hf⟩:=UJ p w l 0 m i hm w[m] ajj;rw[Nat.sub_zero]at hf;rw[hf,h1 m i hm];simp[List.getD,ajj]
 ·rw[qY (by omega),qY (by rw[ew,Jk];omega)]
def U_(g:Nat)(x:Item):Prop:=x.sign<g/\x.dx=0/\x.dy=0
def In(g:Nat)(l:List Item):Prop:=∀ x∈l,U_ g x
theorem ajk{g:Nat}{l:List Item}{i:Nat}{h:Item->Item}(aF:In g l)(hh:∀ x,U_ g x->U_ g (h x)):In g (at_ l i h):=fun x aq=>by
 unfold at_ at aq;obtain⟨⟨y,j⟩,aP,rfl⟩:=g5.mp aq;have h1:y∈l:=by
  have:=List.mem_zipIdx aP;simp only[eY,Nat.sub_zero,true_and]at this;rw[this.2];exact mV _
 show U_ g (if j=i then h y else y);split
 ·exact hh _ (aF _ h1)
 ·exact aF _ h1
theorem aaZ{β:Type}{a:Nat}{b:β}:∀ {t:List (Nat×β)},t.lookup a=some b->∃ y∈t,y.2=b
 | [],h=>by cases h
 |(k,v)::t,h=>by
  rw[uG]at h;split at h
  ·cases h;exact⟨_,h9,Z⟩
  ·obtain⟨y,aP,e⟩:=aaZ h;exact⟨y,hZ _ aP,e⟩
theorem ajl{g:Nat}{l:List Item}{t:List (Nat×Nat)}{i:Nat}(aF:In g l)(b_:∀ y∈t,y.2<g):In g (swap t l i):=by
 unfold swap;split
 ·rename_i s aH;obtain⟨y,aP,rfl⟩:=aaZ aH;exact ajk aF fun _ aq=>⟨b_ y aP,aq.2⟩
 ·exact aF
theorem arj{f:Font}(ok:pF f){r:Rule Sub}(aA:r∈f.subs){l m:List Item}{i j:Nat}(aF:In f.signs l)(h:changed f r l i=some (m,j)):In f.signs m:=by
 have fV:=ok.fV r aA;unfold changed at h;split at h
 ·rename_i t nM;rw[nM]at fV;cases e:t.lookup (signAt l i)with
  |none=>rw[e]at h;cases h
  |some s =>
   rw[e]at h;cases h;exact ajl aF fV
 ·rename_i t nM;rw[nM]at fV;cases e:t.lookup (signAt l i)with
  |none=>rw[e]at h;cases h
  |some s =>
   rw[e]at h;cases h;obtain⟨y,aP,rfl⟩:=aaZ e;intro x aq;rcases pa.mp aq with aq|aq
   ·exact aF x (Ea aq)
   ·rcases pa.mp aq with aq|aq
    ·obtain⟨s,aH,rfl⟩:=g5.mp aq;refine⟨(fV y aP).2 s aH,?_⟩;show(l.getD i ⟨0,0,0,0,0⟩).dx=0/\(l.getD i ⟨0,0,0,0,0⟩).dy=0;rw[List.getD];cases a8:l[i]? with
     |none=>exact⟨Z,Z⟩
     |some z=>exact(aF z (f9 a8)).2
    ·exact aF x (Uk aq)
 ·rename_i t nM;rw[nM]at fV;simp only[]at h;cases e:t.find? fun x=>x.1 == signAt l i && match_ l (x.2.1.map fun s=>[s]) (after f r.skip l i)with
  |none=>rw[e]at h;cases h
  |some y =>
   rw[e]at h;cases h;have aP:=vY e;intro x aq;obtain⟨⟨z,k⟩,hz,rfl⟩:=g5.mp aq;have h1:=(rR.mp hz).1;have:=List.mem_zipIdx h1;simp only[eY,Nat.sub_zero,true_and]at this;have aC:z∈at_ l i fun x=>{ x with sign:=y.2.2 }:=by rw[this.2];exact mV _
   exact ajk (h:=fun x=>{ x with sign:=y.2.2 }) aF (fun _ aq=>⟨fV y aP,aq.2⟩) z aC
 ·rename_i t nM;cases e:t.find? fun a=>match_ l a.here (i::after f r.skip l i) && (match_ l a.behind ((after f r.skip l i).drop (a.here.length-1)) && match_ l a.before (before f r.skip l i))with
  |none=>rw[e]at h;cases h
  |some a =>
   rw[e]at h;simp only[gd,Option.some.injEq,Prod.mk.injEq]at h;obtain⟨h,_⟩:=h;subst h;suffices aH:∀ (acts:List (Nat×Nat)) (Ax:List Item),In f.signs Ax->In f.signs (acts.foldl (fun l2 y=>match f.subs[y.2]? with
    |some q=>(match q.rule with
     | .one u=>swap u l2 (((i::after f r.skip l i).take a.here.length).getD y.1 0)
     |_=>l2)
    |none=>l2) Ax) from aH _ _ aF
   intro acts;induction acts with
   |nil=>intro Ax h0;exact h0
   |cons y acts bU =>
    intro Ax h0;rw[hr];apply bU;cases a8:f.subs[y.2]? with
    |none=>exact h0
    |some q =>
     have ajm:=ok.fV q (f9 a8);show In f.signs (match q.rule with
      | .one u=>swap u Ax (((i::after f r.skip l i).take a.here.length).getD y.1 0)
      |_=>Ax)
     cases dr:q.rule with
     |one u=>rw[dr]at ajm;exact ajl h0 ajm
     |more u=>exact h0
     |joined u=>exact h0
     |around u=>exact h0
theorem Va{f:Font}(ok:pF f){r:Rule Sub}(aA:r∈f.subs):∀ (k:Nat) {l m:List Item} {i:Nat},In f.signs l->along f r k l i=some m->In f.signs m
 |0,l,m,i,aF,h=>by cases h;exact aF
 |k+1,l,m,i,aF,h=>by
  rw[along]at h;split at h
  ·cases h
  ·split at h
   ·cases h;exact aF
   ·split at h
    ·exact Va ok aA k aF h
    ·split at h
     ·rename_i dT j e;exact Va ok aA k (arj ok aA aF e) h
     ·exact Va ok aA k aF h
theorem ark{f:Font}(ok:pF f){r:Rule Sub}(aA:r∈f.subs){l m:List Item}(ji:l.length<=4096)(aF:In f.signs l)(h:chg f r l=some m):In f.signs m :=
 Va ok aA _ aF (by rw[aiR f r l (ok.so r aA) ji];exact h)
theorem arl{f:Font}(ok:pF f)(c:Nat):mapped f c<f.signs:=by
 unfold mapped;split
 ·rename_i s e;have h1:=ok.ms s (vY e);have aC:=vZ e;simp only[je,pe]at aC;omega
 ·exact ok.g1
theorem arn{f:Font}(ok:pF f)(cs:aK):In f.signs (begun f cs):=fun x aq=>by
 unfold begun at aq;obtain⟨y,_,rfl⟩:=g5.mp aq;exact⟨arl ok _,Z,Z⟩
theorem aro{k:Nat}{a b:List (aK)}(h:∀ x,x∈a↔x∈b):asked k a=asked k b:=by
 unfold asked;congr 1
 funext i
 rw[Ad,sS,sS];exact⟨fun⟨x,aq,e⟩=>⟨x,(h x).mp aq,e⟩,fun⟨x,aq,e⟩=>⟨x,(h x).mpr aq,e⟩⟩
theorem ajn{β:Type}:∀ {l:List (Nat×β)},rising (l.map fun x=>x.1)=true->∀ {x:Nat×β},x∈l->(l.find? fun y=>decide (y.1=x.1))=some x
 | [],_,_,h=>by cases h
 |a::l,aA,x,h=>by
  rw[kg];rcases gQ.mp h with rfl|h
  ·simp
  ·have cZ:∀ {c:Nat} {l:List (Nat×β)},rising (c::l.map fun x=>x.1)=true->∀ y∈l,c<y.1:=by
    intro c l;induction l generalizing c with
    |nil=>intro _ y aP;cases aP
    |cons b l bU =>
     intro aA y aP;simp only[fT,rising,je,pe]at aA;rcases gQ.mp aP with rfl|aP
     ·exact aA.1
     ·have:=bU (c:=b.1) (by simpa [rising]using aA.2) y aP
      omega
   have h1:=cZ (by simpa using aA) x h;rw[oo (by omega)];have aC:rising (l.map fun x=>x.1)=true:=by
    cases l with
    |nil=>rfl
    |cons b l =>
     simp only[fT,rising,je,pe]at aA;simpa using aA.2
   exact ajn aC h
theorem row_cases{l x s:List Int}(h:PyFlat.row l=some (x,s)):l=(x.length:Int)::(x++s):=by
 match l,h with
 |n::r,h =>
  rw[PyFlat.row]at h;split at h
  ·rename_i aR;simp only[Option.some.injEq,Prod.mk.injEq]at h;obtain⟨rfl,rfl⟩:=h;rw[I1,g0,D' aR.2,I4 aR.1]
  ·cases h
inductive Shaped:List Int->List (List Int)->List Int->Prop
 |start (t):Shaped (1::t) [[1]] t
 |open_ (x t):Shaped (2::((x.length:Nat):Int)::(x++t)) [[2],x] t
 |sign (z t):Shaped (3::z::t) [[3,z]] t
 |has (z t):Shaped (4::z::t) [[4,z]] t
 |set_ (z x y t):Shaped (5::z::((x.length:Nat):Int)::(x++((y.length:Nat):Int)::(y++t))) [[5,z],x,y] t
theorem arp{l:List Int}{c:List (List Int)}{t:List Int}(h:PyFlat.call PySw28.shape l=some (c,t)):Shaped l c t:=by
 match l,h with
 |p::r,h =>
  rw[PyFlat.call]at h;unfold PySw28.shape at h;by_cases h1:p=1
  ·subst h1;rw[bL rfl]at h;simp only[Ah,if_false,List.drop_zero,PyFlat.rows,IW,Option.some.injEq,Prod.mk.injEq]at h;obtain⟨rfl,rfl⟩:=h;exact .start _
  rw[bw h1]at h;by_cases aC:p=2
  ·subst aC;rw[bL rfl]at h;simp only[Ah,if_false,List.drop_zero,PyFlat.rows,IW]at h;cases e:PyFlat.row r with
   |none=>rw[e]at h;cases h
   |some y =>
    obtain⟨x,s⟩:=y;rw[e]at h;simp only[Option.some.injEq,Prod.mk.injEq]at h;obtain⟨rfl,rfl⟩:=h;rw[row_cases e];exact .open_ _ _
  rw[bw aC]at h;have one:∀ {q:Int} {c t},(if r.length<1 then none else match PyFlat.rows 0 (r.drop 1)with
   |none=>none
   |some (xs,t)=>some ((q::r.take 1)::xs,t))=some (c,t)->∃ z,r=z::t/\c=[[q,z]]:=fun{q c t} h=>by
   match r,h with
   |z::r,h =>
    simp[PyFlat.rows]at h;exact⟨z,by rw[h.2],h.1.symm⟩
  by_cases bH:p=3
  ·subst bH;rw[bL rfl]at h;obtain⟨z,rfl,rfl⟩:=one h;exact .sign _ _
  rw[bw bH]at h;by_cases dw:p=4
  ·subst dw;rw[bL rfl]at h;obtain⟨z,rfl,rfl⟩:=one h;exact .has _ _
  rw[bw dw]at h;by_cases jr:p=5
  ·subst jr;rw[bL rfl]at h;match r,h with
   | [],h=>simp at h
   |z::r,h =>
    simp only[ek,show ¬ r.length+1<1 by omega,if_false,Ab,List.drop_zero,PyFlat.rows,List.take_succ_cons,IW]at h;cases e:PyFlat.row r with
    |none=>rw[e]at h;cases h
    |some y =>
     obtain⟨x,s⟩:=y;rw[e]at h;simp only[]at h;cases a8:PyFlat.row s with
     |none=>rw[a8]at h;cases h
     |some y =>
      obtain⟨iD,s2⟩:=y;rw[a8]at h;simp only[Option.some.injEq,Prod.mk.injEq]at h;obtain⟨rfl,rfl⟩:=h;rw[row_cases e,row_cases a8];exact .set_ _ _ _ _
  rw[bw jr]at h;cases h
theorem aa0{x:List Int}(h:∀ z∈x,0<=z):x=(Sw28Neutral.nats x).map fun n:Nat=>(n:Int):=by
 unfold Sw28Neutral.nats;rw[kh];have:x.map ((fun n:Nat=>(n:Int)) ∘ Int.toNat)=x.map id:=Ag fun z hz=>by
  show((z.toNat:Nat):Int)=z;exact I4 (h z hz)
 rw[this,List.map_id]
theorem Jw{z:Int}{b:Nat}(h:Sw28Neutral.natural z b=true):0<=z/\z<2 ^ b:=by
 unfold Sw28Neutral.natural at h;simpa using h
theorem arq{x:List Int}(h:Sw28Neutral.asked1 (PySw28.whole [[2],x])=true):(∀ z∈x,0<=z/\z<256)/\x.length<=65536:=by
 have h:(Sw28Neutral.whole32 (x.length:Int) && ((x.all (fun(z:Int)=>Sw28Neutral.natural z 8) && Sw28Neutral.long x (x.length:Int) 0 65536)))=true:=h;simp only[je,rT]at h;refine⟨fun z hz=>Jw (h.2.1 z hz),?_⟩;have:=h.2.2;unfold Sw28Neutral.long at this;have:=h2 this;split at this
 ·omega
 ·omega
theorem ars{z:Int}{x y:List Int}(h:Sw28Neutral.asked1 (PySw28.whole [[5,z],x,y])=true):(∀ z∈x,0<=z)/\(∀ z∈y,0<=z)/\x.length<=1024/\y.length<=64:=by
 have h:(Sw28Neutral.whole32 (x.length:Int) && (Sw28Neutral.whole32 (y.length:Int) && (Sw28Neutral.whole32 z && ((x.all (fun(z:Int)=>Sw28Neutral.natural z 32) && decide ((x.length:Int)=if(0<=(x.length:Int)/\(x.length:Int)<=1024)/\((0<=(y.length:Int)/\(y.length:Int)<=64)/\(0<=z/\z<=4096))then(x.length:Int)else 0)) && ((y.all (fun(z:Int)=>Sw28Neutral.natural z 32) && decide ((y.length:Int)=if(0<=(x.length:Int)/\(x.length:Int)<=1024)/\((0<=(y.length:Int)/\(y.length:Int)<=64)/\(0<=z/\z<=4096))then(y.length:Int)else 0)))))))=true:=h;simp only[je,rT,pe]at h;obtain⟨_,_,_,⟨h1,aC⟩,bH,dw⟩:=h;refine⟨fun z hz=>(Jw (h1 z hz)).1,fun z hz=>(Jw (bH z hz)).1,?_,?_⟩
 ·split at aC<;>omega
 ·split at dw<;>omega
theorem aru(s:St)(c:Call):(Sw28.step s c).2.2.length<=20480:=by
 cases c with
 |start=>exact eY _
 |open_ b n =>
  simp only[Sw28.step];split
  ·exact eY _
  ·split<;>exact eY _
 |sign c=>cases s<;>exact eY _
 |has c=>cases s<;>exact eY _
 |set_ cs n tags m room =>
  cases s with
  |none=>exact eY _
  |some f =>
   simp only[Sw28.step];split
   ·exact eY _
   ·rename_i hw;split
    ·exact eY _
    ·rename_i l aF;split
     ·exact eY _
     ·rename_i aA;have hw:(Sw28.within n 0 1024 && (Sw28.within m 0 64 && Sw28.within room 0 4096))=true:=by simpa using hw
      simp only[je]at hw;have dw:=hw.2.2;unfold Sw28.within at dw;simp only[je,pe]at dw;have:∀ l:List Item,(l.flatMap told).length=5 * l.length:=fun l=>by
       induction l with
       |nil=>rfl
       |cons x l bU =>
        rw[IK,gB,bU,ek];show 5+_=_;omega
      simp only[this];omega
theorem arv(s:St)(c:List (List Int)):(Sw28Neutral.step s c).2.length<=20481:=by
 unfold Sw28Neutral.step;split
 ·exact eY _
 ·rename_i x _;have:=aru s x;simp only[ek,Sw28Neutral.ints,ew];omega
end Sr
abbrev cn:=PySem.W.Frag
abbrev g9:=PySem.Str->Option PySem.Value
abbrev dI:=List PySem.Value
abbrev d1:=List PySem.Addr
abbrev cF:=PySem.FuncData
abbrev aX:=PySem.Shared
abbrev fw:=PySem.Program
abbrev e3:=PySem.World
abbrev aO:=PySem.Value
abbrev au:=PySem.Addr
namespace L2
open PySem PySem.Spec PyProof.Rows
abbrev Key:=Sum Int Str
def uR:Key->aO->Bool
 | .inl k,v=>Value.isInt k v
 | .inr x,v=>Value.isStrOf x v
def arw(w:e3):Key->Int
 | .inl k=>hashInt k
 | .inr x=>hashStr w x
theorem wB:∀ {k:Key} {v:aO},uR k v=true->(∃ i t,k=Sum.inl i/\v=Value.int i t)\/(∃ x t,k=Sum.inr x/\v=Value.str x t)
 | .inl i,v,h=>by
  obtain⟨t,e⟩:=Value.isInt_shape (k:=i) (v:=v) h;exact .inl ⟨i,t,rfl,e⟩
 | .inr x,v,h=>by
  obtain⟨t,e⟩:=Value.isStrOf_shape (x:=x) (v:=v) h;exact .inr ⟨x,t,rfl,e⟩
theorem arx(i:Int)(t:Tok):uR (.inl i) (.int i t)=true:=by simp[uR,Value.isInt]
theorem arz(x:Str)(t:Tok):uR (.inr x) (.str x t)=true:=by simp[uR,Value.isStrOf]
theorem arA(a b:Int):decide ((Sum.inl a:Key)=Sum.inl b)=(a == b):=by
 by_cases e:a=b
 ·subst e;simp
 ·have h:¬ (Sum.inl a:Key)=Sum.inl b:=fun q=>e (Sum.inl.inj q)
  rw[oo h];exact(beq_eq_false_iff_ne.mpr e).symm
theorem arB(a b:Str):decide ((Sum.inr a:Key)=Sum.inr b)=decide (a=b):=by
 by_cases e:a=b
 ·subst e;simp
 ·have h:¬ (Sum.inr a:Key)=Sum.inr b:=fun q=>e (Sum.inr.inj q)
  rw[oo h,oo e]
theorem arC(a:Int)(b:Str):decide ((Sum.inl a:Key)=Sum.inr b)=false:=oo (fun q=>nomatch q)
theorem arD(a:Str)(b:Int):decide ((Sum.inr a:Key)=Sum.inl b)=false:=oo (fun q=>nomatch q)
def iR(prog:fw)(w:e3):PySem.KeyKind prog w Key where
 is:=uR
 hash:=arw w
 inj:=fun v a b aW ak=>by
  rcases wB aW with⟨i,t,rfl,rfl⟩|⟨x,t,rfl,rfl⟩
  ·rcases wB ak with⟨j,u,rfl,e⟩|⟨y,u,rfl,e⟩
   ·injection e with bD _;rw[bD]
   ·exact nomatch e
  ·rcases wB ak with⟨j,u,rfl,e⟩|⟨y,u,rfl,e⟩
   ·exact nomatch e
   ·injection e with bD _;rw[bD]
 byValue:=fun k v h=>by
  rcases wB h with⟨i,t,rfl,rfl⟩|⟨x,t,rfl,rfl⟩<;>rfl
 pyHash:=fun aZ h=>by
  rcases wB aZ with⟨i,t,rfl,rfl⟩|⟨x,t,rfl,rfl⟩
  ·exact wpAny_pyHash_int h
  ·exact wpAny_pyHash_str h
 eqBool:=fun cD aZ h=>by
  rcases wB cD with⟨i,t,rfl,rfl⟩|⟨x,t,rfl,rfl⟩
  ·rcases wB aZ with⟨j,u,rfl,rfl⟩|⟨y,u,rfl,rfl⟩
   ·rw[arA]at h;exact wpAny_eqBool_int h
   ·rw[arC]at h;exact SeqAt.EqAt.int_str i t y u _ _ _ _ h
  ·rcases wB aZ with⟨j,u,rfl,rfl⟩|⟨y,u,rfl,rfl⟩
   ·rw[arD]at h;exact SeqAt.EqAt.str_int x t j u _ _ _ _ h
   ·rw[arB]at h;exact wpAny_eqBool_str h
 «strs»:=fun k x t v h=>by
  rcases wB h with⟨i,u,rfl,e⟩|⟨y,u,rfl,e⟩
  ·exact nomatch e
  ·injection e with bD _
   subst bD;cases v<;>rfl
theorem arE(prog:fw)(w:e3)(i:Int)(t:Tok):(iR prog w).is (.inl i) (.int i t)=true:=arx i t
theorem arF(prog:fw)(w:e3)(x:Str)(t:Tok):(iR prog w).is (.inr x) (.str x t)=true:=arz x t
inductive V where
 |non|bl (b:Bool)|int (i:Int)|str (x:Str)|pH (b:Array UInt8)|Jx (b:UInt64)|ref (a:au)|ty (n:String)
 deriving DecidableEq
def RelV:V->aO->Prop
 | .non,u=>u=Value.none
 | .bl b,u=>u=Value.bool b
 | .int i,u=>∃ t,u=Value.int i t
 | .str x,u=>∃ t,u=Value.str x t
 | .pH b,u=>∃ t,u=Value.bytes b t
 | .Jx b,u=>∃ t,u=Value.float b t
 | .ref a,u=>u=Value.ref a
 | .ty n,u=>u=Value.type n
abbrev Vals:List V->dI->Prop:=Paired RelV
theorem Vals.length{xs:List V}{us:dI}(r:Vals xs us):xs.length=us.length:=Paired.length r
theorem Vals.get:∀ {xs:List V} {us:dI} {i:Nat} {x:V},Vals xs us->xs[i]?=some x->∃ u,us[i]?=some u/\RelV x u
 |_,_,_,_,.nil,e=>by simp at e
 |_,_,0,_,.cons r _,e=>by simp at e;subst e;exact⟨_,Z,r⟩
 |_,_,i+1,x,.cons _ t,e=>by
  obtain⟨u,h1,aC⟩:=Vals.get (i:=i) (x:=x) t (by simpa using e);exact⟨u,by simpa using h1,aC⟩
theorem Vals.set{x:V}{u:aO}(r:RelV x u):∀ {xs:List V} {us:dI} (i:Nat),Vals xs us->Vals (xs.set i x) (us.set i u)
 |_,_,_,.nil=>.nil
 |_,_,0,.cons _ t=>.cons r t
 |_,_,i+1,.cons q t=>.cons q (Vals.set r i t)
theorem Vals.append:∀ {xs bN:List V} {us ws:dI},Vals xs us->Vals bN ws->Vals (xs++bN) (us++ws)
 |_,_,_,_,.nil,s=>s
 |_,_,_,_,.cons r t,s=>.cons r (Vals.append t s)
theorem Vals.take:∀ {xs:List V} {us:dI} (n:Nat),Vals xs us->Vals (xs.take n) (us.take n)
 |_,_,0,_=>.nil
 |_,_,_+1,.nil=>.nil
 |_,_,n+1,.cons r t=>.cons r (Vals.take n t)
theorem Vals.drop:∀ {xs:List V} {us:dI} (n:Nat),Vals xs us->Vals (xs.drop n) (us.drop n)
 |_,_,0,r=>r
 |_,_,_+1,.nil=>.nil
 |_,_,n+1,.cons _ t=>Vals.drop n t
def mZ:Option V->Option aO->Prop
 |some v,some u=>RelV v u
 |none,none=>True
 |_,_=>False
def KV{eF:Type}:List (eF×V)->List (eF×aO)->Prop:=Paired fun(p:eF×V) (q:eF×aO)=>p.1=q.1/\RelV p.2 q.2
def c0:Key->V
 | .inl i=>.int i
 | .inr x=>.str x
inductive HO where
 |lst (xs:List V)
 |tup (xs:List V)
 |dW (kvs:List (Key×V))|gD (kvs:List (List Key×V))
 |set (S:Int->Bool) (n:Nat)
 |ins (C dx:au) (fs:List (Str×V))
 |own (x:au)
 |Vb (fs:List (Str×V))
 |met (f x:au)
 |uT (lo hi:Int)
 |sW (o:Obj) (u:HO)
 |yh (ps:Array aO)
 |ext (Ay:Heap->Prop)
abbrev ao:=au->Option HO
def upd(H:ao)(a:au)(o:HO):ao:=fun b=>if b=a then some o else H b
theorem a7{H:ao}{a:au}{o:HO}:upd H a o a=some o:=by unfold upd;rw[bL rfl]
theorem a6{H:ao}{a b:au}{o:HO}(h:b≠a):upd H a o b=H b:=by unfold upd;rw[bw h]
theorem ig{H:ao}{a:au}{o u:HO}:upd (upd H a o) a u=upd H a u:=by
 funext b;unfold upd;split<;>rfl
theorem hN{H:ao}{a b:au}{o u:HO}(h:H a=some o)(h':H b=some u)(d:o≠u):a≠b:=by
 intro e;subst e;rw[h]at h';exact d (Option.some.inj h')
theorem bQ{H:ao}{a b:au}{o:HO}(h:H a=some o)(h':H b=none):a≠b:=by
 intro e;subst e;rw[h]at h';cases h'
section
variable(P:fw)(w:e3)
def hO(H:ao)(h:Heap)(a:au):HO->Prop
 | .lst xs=>xs.length<=sizeLine/\∃ (its:dI) (n:Nat),Vals xs its/\h.get? a=some { cls:=.type "list",data:=.seq its.toArray n }
 | .tup xs=>xs.length<=sizeLine/\∃ its:dI,Vals xs its/\IsTup h a its.toArray
 | .dW kvs=>kvs.length<=sizeLine/\(a == sysModules)=false/\∃ vs,KV kvs vs/\h.DictOf (iR P w) a vs
 | .gD kvs=>kvs.length<=sizeLine/\(a == sysModules)=false/\∃ xs:List (List Key×au×aO),
   Paired (fun(p:List Key×V) (q:List Key×au×aO)=>p.1=q.1/\H q.2.1=some (.tup (p.1.map c0))/\RelV p.2 q.2.2) kvs xs /\
   ∃ o es ep,h.get? a=some o/\o.ExactDict/\o.data=.dict es ep/\es.toList=xs.map (entryOfKey (tupleKind (iR P w)))/\(xs.map (·.1)).Nodup
 | .set S n=>h.SetOf (intKind P w) a S n
 | .ins C dx fs=>H dx=some (.own a)/\fs.length<=1000/\dx≠a/\h.get? a=some (PySem.W.instObj C dx) /\
   ∃ gF,h.Ns1 dx gF/\(∀ f,mZ (fs.lookup f) (gF f))/\PySem.Within gF (fs.map (·.1))
 | .own _=>∃ o,h.get? a=some o
 | .Vb fs=>∃ gF,h.Ns1 a gF/\∀ f,mZ (fs.lookup f) (gF f)
 | .uT lo hi=>∃ t u v,h.get? a=some { cls:=.type "range",data:=.fields #[.int lo t,.int hi u,.int 1 v] }
 | .sW o u=>h.get? a=some o/\hO H h a u
 | .yh ps=>h.get? a=some { cls:=.none,data:=.fields ps }
 | .met f x=>h.get? a=some (PySem.W.methodObj (.ref f) (.ref x))
 | .ext Ay=>Ay h/\(∃ o,h.get? a=some o)/\∀ h1 aC:Heap,Ay h1->(∀ o,h1.get? a=some o->aC.get? a=some o)->Ay aC
def hs(H:ao)(h:Heap):Prop:=∀ a o,H a=some o->hO P w H h a o
end
section
variable{P:fw}{w:e3}{H H':ao}{h h':Heap}{a:au}{o:HO}
theorem hO.lt(x:hO P w H h a o):a<h.objs.size:=by
 cases o with
 |lst xs=>obtain⟨_,_,_,_,e⟩:=x;exact fG e
 |tup xs=>obtain⟨_,_,_,p⟩:=x;exact p.lt
 |dW kvs=>obtain⟨_,_,_,_,o,_,_,e,_⟩:=x;exact fG e
 |gD kvs=>obtain⟨_,_,_,_,o,_,_,e,_⟩:=x;exact fG e
 |set S n=>obtain⟨o,_,_,_,e,_⟩:=x;exact fG e
 |ins C dx fs=>obtain⟨_,_,_,e,_⟩:=x;exact fG e
 |own y=>obtain⟨_,e⟩:=x;exact fG e
 |Vb fs=>obtain⟨_,⟨_,_,_,e,_⟩,_⟩:=x;exact fG e
 |uT lo hi=>obtain⟨_,_,_,e⟩:=x;exact fG e
 |sW cX u=>obtain⟨e,_⟩:=x;exact fG e
 |yh ps=>exact fG (show h.get? a=some _ from x)
 |met f y=>exact fG (show h.get? a=some _ from x)
 |ext Ay=>obtain⟨_,⟨_,e⟩,_⟩:=x;exact fG e
theorem Paired.d7{α β:Type}{F G:α->β->Prop}:∀ {ajo:List α} {ajp:List β},Paired F ajo ajp->(∀ a b,F a b->G a b)->Paired G ajo ajp
 |_,_,.nil,_=>.nil
 |_,_,.cons r t,f=>.cons (f _ _ r) (Paired.d7 t f)
theorem hO.stay(x:hO P w H h a o)(k:∀ b u,(b=a\/H b=some (.own a))->h.get? b=some u->h'.get? b=some u)
  (bA:∀ b,H b=some (.own a)->H' b=some (.own a)) (b_:∀ b xs,H b=some (.tup xs)->H' b=some (.tup xs)):hO P w H' h' a o:=by
 induction o with
 |lst xs=>obtain⟨z,its,n,r,e⟩:=x;exact⟨z,its,n,r,k _ _ (.inl rfl) e⟩
 |tup xs=>obtain⟨z,its,r,cX,e,c⟩:=x;exact⟨z,its,r,cX,k _ _ (.inl rfl) e,c⟩
 |dW kvs=>obtain⟨z,y,vs,r,cX,es,ep,e,c⟩:=x;exact⟨z,y,vs,r,cX,es,ep,k _ _ (.inl rfl) e,c⟩
 |gD kvs =>
  obtain⟨z,y,xs,r,cX,es,ep,e,c⟩:=x;exact⟨z,y,xs,Paired.d7 r fun p q z=>⟨z.1,b_ _ _ z.2.1,z.2.2⟩,cX,es,ep,k _ _ (.inl rfl) e,c⟩
 |set S n=>obtain⟨cX,es,ep,t,e,c⟩:=x;exact⟨cX,es,ep,t,k _ _ (.inl rfl) e,c⟩
 |ins C dx fs =>
  obtain⟨d,z,ne,e,gF,⟨hP,es,ep,a8,c⟩,r⟩:=x;exact⟨bA _ d,z,ne,k _ _ (.inl rfl) e,gF,⟨hP,es,ep,k _ _ (.inr d) a8,c⟩,r⟩
 |own y=>obtain⟨cX,e⟩:=x;exact⟨cX,k _ _ (.inl rfl) e⟩
 |Vb fs=>obtain⟨gF,⟨hP,es,ep,e,c⟩,r⟩:=x;exact⟨gF,⟨hP,es,ep,k _ _ (.inl rfl) e,c⟩,r⟩
 |uT lo hi=>obtain⟨t,u,v,e⟩:=x;exact⟨t,u,v,k _ _ (.inl rfl) e⟩
 |sW cX u bU=>obtain⟨e,q⟩:=x;exact⟨k _ _ (.inl rfl) e,bU q⟩
 |yh ps =>
  have e:h.get? a=some { cls:=.none,data:=.fields ps }:=x;show h'.get? a=some { cls:=.none,data:=.fields ps };exact k a _ (.inl rfl) e
 |met f y =>
  have e:h.get? a=some (PySem.W.methodObj (.ref f) (.ref y)):=x;show h'.get? a=some (PySem.W.methodObj (.ref f) (.ref y));exact k a _ (.inl rfl) e
 |ext Ay=>obtain⟨p,⟨o,e⟩,st⟩:=x;exact⟨st _ _ p fun o q=>k _ _ (.inl rfl) q,⟨o,k _ _ (.inl rfl) e⟩,st⟩
theorem hs.lt(x:hs P w H h)(e:H a=some o):a<h.objs.size:=(x a o e).lt
theorem hs.fresh(x:hs P w H h)(e:h.objs.size<=a):H a=none:=by
 cases q:H a with
 |none=>rfl
 |some u=>exact absurd (ll (x.lt q) e) (uJ _)
theorem hs.kept(x:hs P w H h)(k:∀ b u,h.get? b=some u->h'.get? b=some u):hs P w H h':=fun a o e =>
 (x a o e).stay (fun b u _ q=>k b u q) (fun _ q=>q) fun _ _ q=>q
theorem hs.laid(x:hs P w H h)(k:∀ b u,h.get? b=some u->h'.get? b=some u)(aL:h.objs.size<=a)(new:hO P w (upd H a o) h' a o):hs P w (upd H a o) h':=fun b u e=>by
 have aR:=x.fresh aL;by_cases ak:b=a
 ·subst ak;rw[a7]at e;cases e;exact new
 ·rw[a6 ak]at e;exact(x b u e).stay (fun c v _ q=>k c v q) (fun c q=>by rw[a6 (bQ q aR)];exact q) fun c xs q=>by rw[a6 (bQ q aR)];exact q
end
def sX(H:ao)(a:au)(u:HO):Prop:=H a=some u\/∃ o,H a=some (.sW o u)
theorem sX.ok{P:fw}{w:e3}{H:ao}{h:Heap}{a:au}{u:HO}(r:sX H a u)(x:hs P w H h):hO P w H h a u:=by
 rcases r with r|⟨o,r⟩
 ·exact x a u r
 ·obtain⟨_,q⟩:=x a _ r;exact q
def Jy:Option HO->Prop
 |some (.lst _)=>True
 |some (.dW _)=>True
 |some (.gD _)=>True
 |some (.set _ _)=>True
 |some (.ins _ _ _)=>True
 |some (.ext _)=>True
 |_=>False
section
variable{P:fw}{w:e3}{H:ao}{h h':Heap}{x e:au}{hF:HO}
theorem hs.write(ok:hs P w H h)(mu:Jy (H x))(he:e=x\/H e=some (.own x))(k:∀ b u,b≠e->h.get? b=some u->h'.get? b=some u)(Ey:∃ u,h'.get? e=some u)
  (new:hO P w (upd H x hF) h' x hF):hs P w (upd H x hF) h':=fun b u q=>by
 have ajq:∀ c y,H c=some (.own y)->c≠x:=fun c y r z=>by subst z;rw[r]at mu;exact mu
 have arG:∀ c xs,H c=some (.tup xs)->c≠x:=fun c xs r z=>by subst z;rw[r]at mu;exact mu
 by_cases ak:b=x
 ·subst ak;rw[a7]at q;cases q;exact new
 ·rw[a6 ak]at q;by_cases Az:b=e
  ·have d8:H b=some (.own x):=by
    rcases he with z|z
    ·exact absurd (Az.trans z) ak
    ·rw[Az];exact z
   rw[q]at d8;cases d8;obtain⟨v,aZ⟩:=Ey;exact⟨v,by rw[Az];exact aZ⟩
  ·refine(ok b u q).stay (fun c v aU r=>k c v ?_ r) (fun c r=>by rw[a6 (ajq c b r)];exact r) fun c xs r=>by rw[a6 (arG c xs r)];exact r
   rcases aU with rfl|aU
   ·exact Az
   ·rintro rfl;rcases he with z|z
    ·exact ajq c b aU z
    ·rw[aU]at z;cases z;exact ak rfl
end
structure jX(fs ex:d1)(H H':ao)(h h':Heap):Prop where
 keep:∀ b o,h.get? b=some o->H b=none->b∉fs->b∉ex->h'.get? b=some o
 slot:∀ b o,h.get? b=some o->H b=none->b∈fs->b∉ex->∃ fL,h'.get? b=some { o with slots:=fL }
 free:∀ b o,h.get? b=some o->H b=none->b∉ex->H' b=none
 there:∀ b o,h.get? b=some o->b∉ex->∃ hF,h'.get? b=some hF
 wC:∀ b xs,H b=some (.tup xs)->H' b=some (.tup xs)
 uU:∀ b o u,H b=some (.sW o u)->H' b=some (.sW o u)
 wD:∀ b ps,H b=some (.yh ps)->∃ more,H' b=some (.yh (ps++more))
section
variable{fs A_ ex aG3:d1}{H H1 aB:ao}{h h1 aC h':Heap}{a x e:au}{o:HO}
theorem jX.any(u:jX fs ex H H1 h h1){b:au}{cX:Obj}(q:h.get? b=some cX)(n:H b=none)(aq:b∉ex):∃ fL,h1.get? b=some { cX with slots:=fL }:=by
 by_cases ak:b∈fs
 ·exact u.slot b cX q n ak aq
 ·exact⟨cX.slots,u.keep b cX q n ak aq⟩
theorem jX.kept(k:∀ b u,h.get? b=some u->h'.get? b=some u):jX fs ex H H h h' :=
 ⟨fun b cX q _ _ _=>k b cX q,fun b cX q _ _ _=>⟨cX.slots,k b cX q⟩,fun _ _ _ n _=>n,fun b cX q _=>⟨cX,k b cX q⟩,fun _ _ q=>q,fun _ _ _ q=>q,fun _ ps q=>⟨#[],by rw[q];simp⟩⟩
theorem jX.refl:jX fs ex H H h h:=jX.kept fun _ _ q=>q
theorem jX.laid(k:∀ b u,h.get? b=some u->h'.get? b=some u)(aL:h.objs.size<=a)(aR:H a=none):jX fs ex H (upd H a o) h h' where
 keep:=fun b u q _ _ _=>k b u q
 slot:=fun b u q _ _ _=>⟨u.slots,k b u q⟩
 free:=fun b u q n _=>by rw[a6 (gR (ll (fG q) aL))];exact n
 there:=fun b u q _=>⟨u,k b u q⟩
 wC:=fun b xs q=>by rw[a6 (bQ q aR)];exact q
 uU:=fun b u xs q=>by rw[a6 (bQ q aR)];exact q
 wD:=fun b ps q=>⟨#[],by rw[a6 (bQ q aR),q];simp⟩
theorem jX.write(mu:Jy (H x))(he:e=x\/H e=some (.own x))(k:∀ b u,b≠e->h.get? b=some u->h'.get? b=some u)(Ey:∃ u,h'.get? e=some u):jX fs ex H (upd H x o) h h':=by
 have aq:∀ b,H b=none->b≠x:=fun b n z=>by subst z;rw[n]at mu;exact mu
 have ak:∀ b,H b=none->b≠e:=fun b n z=>by
  subst z;rcases he with r|r
  ·exact aq b n r
  ·rw[n]at r;cases r
 have hm:∀ b u,H b=some u->¬ Jy (some u)->b≠x:=fun b u q nm z=>by subst z;rw[q]at mu;exact nm mu
 refine⟨fun b u q n _ _=>k b u (ak b n) q,fun b u q n _ _=>⟨u.slots,k b u (ak b n) q⟩,fun b u q n _=>by rw[a6 (aq b n)];exact n,fun b u q _=>?_,
  fun b xs q=>by rw[a6 (hm b _ q fun z=>z)];exact q,fun b u xs q=>by rw[a6 (hm b _ q fun z=>z)];exact q,fun b ps q=>⟨#[],by rw[a6 (hm b _ q fun z=>z),q];simp⟩⟩
 by_cases Az:b=e
 ·subst Az;exact Ey
 ·exact⟨u,k b u Az q⟩
end
def Vc(h:Heap)(H:ao):d1:=(List.range h.objs.size).filter fun a=>(H a).isSome
def wF(h:Heap)(H:ao):Heap:=PySem.W.hideAll h (Vc h H)
theorem arH(h:Heap)(H:ao):(wF h H).objs.size=h.objs.size:=PySem.W.hideAll_size _ _
theorem arI{h:Heap}{H:ao}{b:au}{o:Obj}(e:h.get? b=some o)(n:H b=none):(wF h H).get? b=some o :=
 PySem.W.hideAll_get _ e fun hm=>by
  have q:(H b).isSome=true:=(rR.mp hm).2;rw[n]at q;simp at q
theorem arJ{h:Heap}{H:ao}{b:au}{o:Obj}(e:(wF h H).get? b=some o):h.get? b=some o/\H b=none:=by
 have e':h.get? b=some o:=PySem.W.of_hideAll (Vc h H) e;refine⟨e',?_⟩;cases q:H b with
 |none=>rfl
 |some x =>
  have hm:b∈Vc h H:=rR.mpr ⟨IV.mpr (fG e'),by simp[q]⟩;have z:(wF h H).get? b=none:=PySem.W.hideAll_none (Vc h H) hm;rw[z]at e;cases e
def arK(g h:Heap)(L:au):List (au×Obj):=(List.range h.objs.size).filterMap fun a=>if a=L\/(g.get? a).isSome=true then none else(h.get? a).map fun o=>(a,o)
def rest(g h:Heap)(L d:au):List (au×Obj):=(arK g h L).filter fun p=>decide (p.1≠d)
structure Mod(K:cn)(av:g9)(base:Heap):Prop where
 Jz:K.In base
 glob:base.Ns mainGlobals av
 blt:∃ pI,base.Ns builtinsNs pI/\∀ x:Str,x≠"__name__"->pI x=bootBuiltins x
 nolimit:base.NoLimit
structure bR where
 prog:fw
 w:e3
 K:cn
 av:g9
 base:Heap
 A:Around
 N:List Str
 jY:aX
 JB:ao
 env:Env
 outer:List Env
 stack:List Env
 ex:d1
 fn:Str->Bool
 calm:Bool
 g_:List (au×Obj)
 xe:aO->aX->Prop
def nO(l:List Env):d1:=l.filterMap (·.frame)
abbrev bR.fs(X:bR):d1:=nO X.outer
def Ez(sc:Scope)(x:Str):Prop:=sc.names.lookup x=some .local\/sc.names.lookup x=some .cell\/sc.names.lookup x=some .free
def Loc(sc:Scope)(x:Str):Prop:=sc.names.lookup x=some .local\/sc.names.lookup x=some .cell
def Look(env:Env)(h:Heap)(m:g9)(x:Str)(u:aO):Prop :=
 (env.kindOf x=some .local/\m x=some u)\/((env.kindOf x=some .cell\/env.kindOf x=some .free)/\∃ c,env.cells.lookup x=some c/\h.IsCell c (some u))
structure bR.Ok(X:bR):Prop where
 mod:Mod X.K X.av X.base
 kind:X.env.scope.kind=.function
 glob:X.env.globals=mainGlobals
 blt:X.env.builtins=builtinsNs
 above:X.jY.heap.objs.size<=X.env.locals
 inj:∀ x y c,X.env.cells.lookup x=some c->X.env.cells.lookup y=some c->x=y
 has:∀ x,(X.env.kindOf x=some .cell\/X.env.kindOf x=some .free)->∃ c,X.env.cells.lookup x=some c
 wG:∀ x c,X.fn x=true->X.env.cells.lookup x=some c->X.jY.heap.objs.size<=c
 hd:X.calm=true->X.A.handled=none
 frames:X.A.frames=some X.stack
 sY:X.stack=X.outer\/(X.stack=X.env::X.outer/\X.env.frame=some X.env.locals)
 yj:∀ b∈X.ex,b≠X.env.locals/\∀ x c,X.env.cells.lookup x=some c->c≠b
 bs:∀ b o,X.base.get? b=some o->X.jY.heap.get? b=some o/\X.JB b=none
 qt:X.base.objs.size<=X.jY.heap.objs.size
 wH:∀ b o,X.base.get? b=some o->b∉X.ex
 wI:∀ b∈X.ex,b∉X.fs
 nP:X.jY.heap.FunFrames X.base X.outer
 sZ:∀ b∈X.fs,X.JB b=none
structure Inv(X:bR)(pins:List (au×Obj))(σ:List (Option V))(H:ao)(s:aX):Prop where
 ok:X.Ok
 os:s.os=X.jY.os
 bare:AllBare s.gens
 base:jX X.fs X.ex X.JB H X.jY.heap s.heap
 loc:∃ m,s.heap.Ns X.env.locals m/\∀ (i:Nat) (x:Str) (v:V),X.N[i]?=some x->σ[i]?=some (some v)->Ez X.env.scope x->∃ u,RelV v u/\Look X.env s.heap m x u
 cell:∀ x c,X.env.cells.lookup x=some c->∃ v,s.heap.IsCell c v
 free:H X.env.locals=none
 oH:∀ x c,X.env.cells.lookup x=some c->H c=none
 pin:∀ p∈X.g_++pins,s.heap.get? p.1=some p.2/\H p.1=none/\p.1≠X.env.locals/\p.1∉X.fs/\∀ v,p.2.data≠.cell v
 bK:hs X.prog X.w H s.heap
 len:σ.length=X.N.length
section
variable{X:bR}{pins:List (au×Obj)}{σ:List (Option V)}{H H':ao}{s:aX}{h':Heap}
theorem bR.Ok.arL(ok:X.Ok){b:au}{o:Obj}(e:X.base.get? b=some o):b∉X.fs:=fun ak=>by
 have:=(ok.nP.mem ak).1;rw[e]at this;cases this
theorem Inv.bs(I:Inv X pins σ H s):∀ b o,X.base.get? b=some o->s.heap.get? b=some o/\H b=none:=fun b o e =>
 ⟨I.base.keep b o (I.ok.bs b o e).1 (I.ok.bs b o e).2 (I.ok.arL e) (I.ok.wH b o e),I.base.free b o (I.ok.bs b o e).1 (I.ok.bs b o e).2 (I.ok.wH b o e)⟩
theorem Inv.jH(I:Inv X pins σ H s):∀ b o,X.base.get? b=some o->s.heap.get? b=some o:=fun b o e=>(I.bs b o e).1
theorem Inv.mod(I:Inv X pins σ H s):Mod X.K X.av X.base:=I.ok.mod
theorem Inv.jJ(I:Inv X pins σ H s):X.K.In s.heap:=I.ok.mod.Jz.keeps I.jH
theorem Inv.fr(I:Inv X pins σ H s):∃ m,Fr X.base X.env.locals s.heap m :=
 let ⟨m,aR,_⟩:=I.loc
 ⟨m,aR,I.jH,jf I.ok.qt I.ok.above⟩
theorem Inv.lt(I:Inv X pins σ H s):X.env.locals<s.heap.objs.size:=let ⟨_,aR,_⟩:=I.loc;aR.lt
theorem Inv.EY(I:Inv X pins σ H s):X.jY.heap.objs.size<=s.heap.objs.size:=jf I.ok.above (z' I.lt)
theorem Inv.arM(I:Inv X pins σ H s){a:au}(h:s.heap.objs.size<=a):a∉X.fs:=fun ak=>by
 obtain⟨_,o,bA,_⟩:=I.ok.nP.mem ak;exact absurd (ll (fG bA) (jf I.EY h)) (uJ _)
theorem Inv.Ba(I:Inv X pins σ H s):∀ x c,X.env.cells.lookup x=some c->c≠X.env.locals:=fun x c e z=>by
 obtain⟨v,o,bA,hd⟩:=I.cell x c e;obtain⟨m,⟨hF,es,ep,uV,lC,_⟩,_⟩:=I.loc;rw[z,uV]at bA;cases bA;rw[lC]at hd;cases hd
theorem Inv.nP(I:Inv X pins σ H s):s.heap.FunFrames X.base X.outer:=by
 have all:∀ (l:List Env),(∀ b∈nO l,b∈X.fs)->X.jY.heap.FunFrames X.base l->s.heap.FunFrames X.base l:=by
  intro l;induction l with
  |nil=>intro _ _;trivial
  |cons env r bU =>
   intro aH aF;obtain⟨aN,⟨L,o,hf,aR,bA,hd⟩,aA⟩:=aF;have c4:L∈X.fs:=aH L (by unfold nO;rw[Ac,hf];exact h9);obtain⟨fL,e⟩:=I.base.slot L o bA (I.ok.sZ L c4) c4 fun z=>I.ok.wI L z c4;exact⟨aN,⟨L,_,hf,aR,e,hd⟩,bU (fun b ak=>aH b (by unfold nO;rw[Ac,hf];exact hZ _ ak)) aA⟩
 exact all X.outer (fun _ ak=>ak) I.ok.nP
theorem Inv.stack(I:Inv X pins σ H s):s.heap.FunFrames X.base X.stack:=by
 rcases I.ok.sY with e|⟨e,hf⟩
 ·rw[e];exact I.nP
 ·rw[e];obtain⟨m,aR,_⟩:=I.loc;refine .cons (by rw[I.ok.kind];decide) hf aR ?_ I.nP;exact Ul (jf I.ok.qt I.ok.above)
theorem Inv.Vd(I:Inv X pins σ H s):∀ b∈nO X.stack,b∈X.env.locals::X.fs:=fun b ak=>by
 rcases I.ok.sY with e|⟨e,hf⟩
 ·rw[e]at ak;exact hZ _ ak
 ·rw[e]at ak;unfold nO at ak;rw[Ac,hf]at ak;exact ak
theorem Inv.aa1(I:Inv X pins σ H s):∀ b∈nO X.stack,H b=none:=fun b ak=>by
 rcases gQ.mp (I.Vd b ak)with e|ak
 ·rw[e];exact I.free
 ·obtain⟨_,o,bA,_⟩:=I.ok.nP.mem ak;exact I.base.free b o bA (I.ok.sZ b ak) fun z=>I.ok.wI b z ak
theorem Inv.step{g':Array GenState}{t':Nat}{d':Drawn}{ch:d1}(I:Inv X pins σ H s)
  (oJ:∀ b∈ch,(b∈X.ex\/X.jY.heap.objs.size<=b)/\b≠X.env.locals/\(∀ x c,X.env.cells.lookup x=some c->c≠b)/\∀ p∈X.g_++pins,p.1≠b)
  (keep:∀ b o,b≠X.env.locals->b∉X.fs->b∉ch->s.heap.get? b=some o->H b=none->h'.get? b=some o)
  (slot:∀ b o,b≠X.env.locals->b∈X.fs->b∉ch->s.heap.get? b=some o->H b=none->∃ fL,h'.get? b=some { o with slots:=fL }) (free:∀ b o,b∉ch->s.heap.get? b=some o->H b=none->H' b=none)
  (there:∀ b o,b∉ch->s.heap.get? b=some o->∃ hF,h'.get? b=some hF)
  (wC:∀ b xs,H b=some (.tup xs)->H' b=some (.tup xs)) (uU:∀ b o u,H b=some (.sW o u)->H' b=some (.sW o u)) (wD:∀ b ps,H b=some (.yh ps)->∃ more,H' b=some (.yh (ps++more)))
  (ns:∀ m,s.heap.Ns X.env.locals m->h'.Ns X.env.locals m) (bK:hs X.prog X.w H' h') (b5:AllBare g') :
  Inv X pins σ H' { s with heap:=h',gens:=g',drawn:=d',toks:=t' }:=by
 have ajr:∀ b o,X.jY.heap.get? b=some o->b≠X.env.locals:=fun b o e=>gR (ll (fG e) I.ok.above);have Bb:∀ b o,X.jY.heap.get? b=some o->b∉X.ex->b∉ch:=fun b o e aq ak=>by
  rcases (oJ b ak).1 with z|z
  ·exact aq z
  ·exact absurd (ll (fG e) z) (uJ _)
 have cellK:∀ x c,X.env.cells.lookup x=some c->∀ v,s.heap.IsCell c v->h'.IsCell c v:=fun x c e v ⟨o,bA,hd⟩=>by
  have Bc:c∉ch:=fun z=>(oJ c z).2.2.1 x c e rfl;by_cases aU:c∈X.fs
  ·obtain⟨fL,q⟩:=slot c o (I.Ba x c e) aU Bc bA (I.oH x c e);exact⟨_,q,hd⟩
  ·exact⟨o,keep c o (I.Ba x c e) aU Bc bA (I.oH x c e),hd⟩
 refine⟨I.ok,I.os,b5,⟨fun b o e n ak aq=>?_,fun b o e n ak aq=>?_,fun b o e n aq=>?_,fun b o e aq=>?_,fun b xs e=>wC b xs (I.base.wC b xs e),fun b o xs e=>uU b o xs (I.base.uU b o xs e),fun b ps e=>?_⟩,?_,fun x c e=>?_,?_,fun x c e=>?_,fun p aL=>?_,bK,I.len⟩
 ·exact keep b o (ajr b o e) ak (Bb b o e aq) (I.base.keep b o e n ak aq) (I.base.free b o e n aq)
 ·obtain⟨fL,bD⟩:=I.base.slot b o e n ak aq;obtain⟨arN,a8⟩:=slot b _ (ajr b o e) ak (Bb b o e aq) bD (I.base.free b o e n aq);exact⟨arN,a8⟩
 ·obtain⟨hF,bD⟩:=I.base.there b o e aq;exact free b hF (Bb b o e aq) bD (I.base.free b o e n aq)
 ·obtain⟨hF,bD⟩:=I.base.there b o e aq;exact there b hF (Bb b o e aq) bD
 ·obtain⟨aa2,bD⟩:=I.base.wD b ps e;obtain⟨Ve,a8⟩:=wD b _ bD;exact⟨aa2++Ve,by rw[a8,Array.append_assoc]⟩
 ·obtain⟨m,aR,aF⟩:=I.loc;refine⟨m,ns m aR,fun i x v bD a8 dr=>?_⟩;obtain⟨u,r,l⟩:=aF i x v bD a8 dr;refine⟨u,r,?_⟩;rcases l with l|⟨k,c,e,z⟩
  ·exact .inl l
  ·exact .inr ⟨k,c,e,cellK x c e _ z⟩
 ·obtain⟨v,z⟩:=I.cell x c e;exact⟨v,cellK x c e v z⟩
 ·obtain⟨m,⟨o,_,_,bA,_⟩,_⟩:=I.loc;exact free _ o (fun z=>(oJ _ z).2.1 rfl) bA I.free
 ·obtain⟨v,o,bA,hd⟩:=I.cell x c e;exact free c o (fun z=>(oJ c z).2.2.1 x c e rfl) bA (I.oH x c e)
 ·obtain⟨e,n,ne,kl,d⟩:=I.pin p aL;have Bc:p.1∉ch:=fun z=>(oJ p.1 z).2.2.2 p aL rfl;exact⟨keep p.1 p.2 ne kl Bc e n,free p.1 p.2 Bc e n,ne,kl,d⟩
theorem Inv.un{t':Nat}(I:Inv X pins σ H s)(u:jX X.fs [] H H' s.heap h')(bK:hs X.prog X.w H' h'):Inv X pins σ H' { s with heap:=h',toks:=t' }:=by
 obtain⟨m,⟨o,es,ep,bA,r⟩,_⟩:=id I.loc;obtain⟨fL,c4⟩:=u.any bA I.free (by simp);exact I.step (g':=s.gens) (d':=s.drawn) (ch:=[]) (fun _ z=>nomatch z) (fun b o _ ak _ e n=>u.keep b o e n ak (by simp)) (fun b o _ ak _ e n=>u.slot b o e n ak (by simp)) (fun b o _ e n=>u.free b o e n (by simp)) (fun b o _ e=>u.there b o e (by simp)) u.wC u.uU u.wD (fun dT hm=>by
  obtain⟨hF,aa3,aa4,uV,r'⟩:=hm;rw[bA]at uV;cases uV;exact⟨_,aa3,aa4,c4,r'⟩) bK I.bare
theorem Inv.call{g':Array GenState}{t':Nat}{d':Drawn}{ch:d1}(I:Inv X pins σ H s)(u:jX (nO X.stack) ch H H' s.heap h')(bK:hs X.prog X.w H' h')(b5:AllBare g')
  (oJ:∀ b∈ch,(b∈X.ex\/X.jY.heap.objs.size<=b)/\b≠X.env.locals/\(∀ x c,X.env.cells.lookup x=some c->c≠b)/\∀ p∈X.g_++pins,p.1≠b) :
  Inv X pins σ H' { s with heap:=h',gens:=g',drawn:=d',toks:=t' }:=by
 obtain⟨m,⟨o,es,ep,bA,r⟩,_⟩:=id I.loc;obtain⟨fL,c4⟩:=u.any bA I.free fun z=>(oJ _ z).2.1 rfl;exact I.step (ch:=ch) oJ (fun b o c4 ak aU e n=>u.keep b o e n (fun z=>(gQ.mp (I.Vd b z)).elim c4 ak) aU) (fun b o _ _ aU e n=>u.any e n aU) (fun b o aU e n=>u.free b o e n aU) (fun b o aU e=>u.there b o e aU) u.wC u.uU u.wD (fun dT hm=>by
  obtain⟨hF,aa3,aa4,uV,r'⟩:=hm;rw[bA]at uV;cases uV;exact⟨_,aa3,aa4,c4,r'⟩) bK b5
theorem Inv.turned{t':Nat}{it:au}(I:Inv X pins σ H s)(k:∀ b o,b≠it->s.heap.get? b=some o->h'.get? b=some o)(aR:H it=none)(c4:it≠X.env.locals)
  (h1:it∈X.ex\/X.jY.heap.objs.size<=it) (aC:∀ x c,X.env.cells.lookup x=some c->c≠it) (bH:∀ p∈X.g_++pins,p.1≠it):Inv X pins σ H { s with heap:=h',toks:=t' }:=by
 have ym:∀ b u,H b=some u->b≠it:=fun b u e z=>by rw[z,aR]at e;cases e
 refine I.step (g':=s.gens) (d':=s.drawn) (ch:=[it]) (fun b ak=>?_) (fun b o _ _ aU e _=>k b o (fun z=>aU (by simp[z])) e) (fun b o _ _ aU e _=>⟨o.slots,k b o (fun z=>aU (by simp[z])) e⟩) (fun _ _ _ _ n=>n)
  (fun b o aU e=>⟨o,k b o (fun z=>aU (by simp[z])) e⟩) (fun _ _ e=>e) (fun _ _ _ e=>e) (fun b ps e=>⟨#[],by rw[e];simp⟩) (fun m hm=>?_) (fun b u e=>?_) I.bare
 ·have e:b=it:=by simpa using ak
  subst e;exact⟨h1,c4,aC,bH⟩
 ·obtain⟨o,es,ep,bA,r⟩:=hm;exact⟨o,es,ep,k _ o (Ne.symm c4) bA,r⟩
 ·refine(I.bK b u e).stay (fun c v aU q=>k c v ?_ q) (fun _ q=>q) fun _ _ q=>q;rcases aU with z|z
  ·rw[z];exact ym b u e
  ·exact ym c _ z
theorem Inv.tok(I:Inv X pins σ H s)(t:Nat):Inv X pins σ H { s with toks:=t }:=I.un (h':=s.heap) (t':=t) jX.refl I.bK
theorem Inv.kept{t':Nat}(I:Inv X pins σ H s)(k:∀ b u,s.heap.get? b=some u->h'.get? b=some u):Inv X pins σ H { s with heap:=h',toks:=t' }:=I.un (jX.kept k) (I.bK.kept k)
theorem Inv.laid{a:au}{o:HO}{t':Nat}(I:Inv X pins σ H s)(k:∀ b u,s.heap.get? b=some u->h'.get? b=some u)(aL:s.heap.objs.size<=a)(new:hO X.prog X.w (upd H a o) h' a o) :
  Inv X pins σ (upd H a o) { s with heap:=h',toks:=t' }:=I.un (jX.laid k aL (I.bK.fresh aL)) (I.bK.laid k aL new)
theorem Inv.write{x e:au}{o:HO}{t':Nat}(I:Inv X pins σ H s)(mu:Jy (H x))(he:e=x\/H e=some (.own x))(k:∀ b u,b≠e->s.heap.get? b=some u->h'.get? b=some u)(Ey:∃ u,h'.get? e=some u)
  (new:hO X.prog X.w (upd H x o) h' x o):Inv X pins σ (upd H x o) { s with heap:=h',toks:=t' }:=I.un (jX.write mu he k Ey) (I.bK.write mu he k Ey new)
theorem Inv.weak{dc:List (Option V)}(I:Inv X pins σ H s)(aF:dc.length=σ.length)(w:∀ (i:Nat) v,dc[i]?=some (some v)->σ[i]?=some (some v)):Inv X pins dc H s :=
 ⟨I.ok,I.os,I.bare,I.base,let ⟨m,aR,aa5⟩:=I.loc;⟨m,aR,fun i x v bD a8 dr=>aa5 i x v bD (w i v a8) dr⟩,I.cell,I.free,I.oH,I.pin,I.bK,aF.trans I.len⟩
theorem Inv.JC{JD:List (au×Obj)}(I:Inv X pins σ H s)(h:∀ p∈JD,s.heap.get? p.1=some p.2/\H p.1=none/\p.1≠X.env.locals/\p.1∉X.fs/\∀ v,p.2.data≠.cell v):Inv X JD σ H s :=
 ⟨I.ok,I.os,I.bare,I.base,I.loc,I.cell,I.free,I.oH,fun p aL=>(pa.mp aL).elim (fun z=>I.pin p (uI _ z)) (h p),I.bK,I.len⟩
theorem aa6{N:List Str}(hl:N.Nodup){i j:Nat}{x:Str}(a:N[i]?=some x)(b:N[j]?=some x):i=j:=by
 obtain⟨h1,bD⟩:=eE.mp a;obtain⟨aC,a8⟩:=eE.mp b;exact(List.getElem_inj hl).mp (bD.trans a8.symm)
theorem ajs{M:Model}{A:Around}{E:aO->aX->Prop}{i:Nat}{x:Str}{v:V}{u:aO}{Q:Unit->aX->Prop}(I:Inv X pins σ H s)(hl:X.N.Nodup)(hi:X.N[i]?=some x)(aq:Loc X.env.scope x)(r:RelV v u)
  (h:∀ s',Inv X pins (σ.set i (some v)) H s'->(∃ a,Heap.SameBut a s.heap s'.heap/\(a=X.env.locals\/X.env.cells.lookup x=some a))->Q () s') (hf:X.fn x=true\/X.env.scope.names.lookup x=some .local:=by first|exact .inl rfl|exact .inr rfl|assumption):wpAny M A (storeName X.env x u) Q E s:=by
 obtain⟨m,aR,aF⟩:=id I.loc;have arO:(X.env.scope.kind == .class || (X.env.scope.kind == .module && X.env.locals != X.env.globals))=false:=by rw[I.ok.kind];rfl
 have ajt:i < σ.length:=by rw[I.len];exact(eE.mp hi).1
 have Ba:=I.Ba;have tracked:∀ {a:au} {h':Heap},(∃ o,s.heap.get? a=some o/\H a=none)->Heap.SameBut a s.heap h'->hs X.prog X.w H h':=fun{a h'} aW aH b cX e=>by
  obtain⟨_,_,s6⟩:=aW;refine(I.bK b cX e).stay (fun c w' aU q=>(aH.2 c ?_).trans q) (fun _ q=>q) fun _ _ q=>q;rintro rfl;rcases aU with rfl|aU
  ·rw[s6]at e;cases e
  ·rw[s6]at aU;cases aU
 rcases aq with aN|aN
 ·refine wpAny_storeName_local aN aR (fun h' lD aH=>?_) arO;obtain⟨arP,_,_,JF,_⟩:=id aR;refine h _ ⟨I.ok,I.os,I.bare,⟨fun b o e n ak aq=>?_,fun b o e n ak aq=>?_,I.base.free,fun b o e aq=>?_,I.base.wC,I.base.uU,I.base.wD⟩,⟨_,lD,fun j y aa7 bD a8 dr=>?_⟩,fun y c e=>?_,I.free,I.oH,fun p aL=>?_,tracked ⟨arP,JF,I.free⟩ aH,by simpa using I.len⟩ ⟨_,aH,.inl rfl⟩
  ·exact(aH.2 b (gR (ll (fG e) I.ok.above))).trans (I.base.keep b o e n ak aq)
  ·obtain⟨fL,bD⟩:=I.base.slot b o e n ak aq;exact⟨fL,(aH.2 b (gR (ll (fG e) I.ok.above))).trans bD⟩
  ·obtain⟨hF,bD⟩:=I.base.there b o e aq;exact⟨hF,(aH.2 b (gR (ll (fG e) I.ok.above))).trans bD⟩
  ·by_cases bM:j=i
   ·subst bM;rw[hi]at bD;cases bD;rw[Iz ajt]at a8;cases a8;exact⟨u,r,.inl ⟨aN,by simp⟩⟩
   ·rw[I5 (Ne.symm bM)]at a8;obtain⟨u',r',q⟩:=aF j y aa7 bD a8 dr;refine⟨u',r',?_⟩;rcases q with⟨k,e⟩|⟨k,c,e,z⟩
    ·refine .inl ⟨k,?_⟩;have:y≠x:=fun e=>bM (aa6 hl bD (e▸hi));simp[this,e]
    ·exact .inr ⟨k,c,e,z.sameBut aH (Ba y c e)⟩
  ·obtain⟨w',z⟩:=I.cell y c e;exact⟨w',z.sameBut aH (Ba y c e)⟩
  ·obtain⟨e,n,ne,kl,d⟩:=I.pin p aL;exact⟨(aH.2 p.1 ne).trans e,n,ne,kl,d⟩
 ·have Jq:X.fn x=true:=by
   rcases hf with z|z
   ·exact z
   ·rw[z]at aN;cases aN
  obtain⟨c,aU⟩:=I.ok.has x (.inl aN);obtain⟨w',z⟩:=I.cell x c aU;refine wpAny_storeName_cell I.ok.kind aN aU z (fun h' aa8 aH=>?_);obtain⟨jK,aju,arQ⟩:=id z;refine h { s with heap:=h' } ⟨I.ok,I.os,I.bare,⟨fun b o e n ak aq=>?_,fun b o e n ak aq=>?_,I.base.free,fun b o e aq=>?_,I.base.wC,I.base.uU,I.base.wD⟩,⟨m,aR.sameBut aH (Ne.symm (Ba x c aU)),fun j y aa7 bD a8 dr=>?_⟩,fun y c' e=>?_,I.free,I.oH,fun p aL=>?_,tracked ⟨jK,aju,I.oH x c aU⟩ aH,by simpa using I.len⟩ ⟨c,aH,.inr aU⟩
  ·exact(aH.2 b (gR (ll (fG e) (I.ok.wG x c Jq aU)))).trans (I.base.keep b o e n ak aq)
  ·obtain⟨fL,bD⟩:=I.base.slot b o e n ak aq;exact⟨fL,(aH.2 b (gR (ll (fG e) (I.ok.wG x c Jq aU)))).trans bD⟩
  ·obtain⟨hF,bD⟩:=I.base.there b o e aq;exact⟨hF,(aH.2 b (gR (ll (fG e) (I.ok.wG x c Jq aU)))).trans bD⟩
  ·by_cases bM:j=i
   ·subst bM;rw[hi]at bD;cases bD;rw[Iz ajt]at a8;cases a8;exact⟨u,r,.inr ⟨.inl aN,c,aU,aa8⟩⟩
   ·rw[I5 (Ne.symm bM)]at a8;obtain⟨u',r',q⟩:=aF j y aa7 bD a8 dr;refine⟨u',r',?_⟩;rcases q with q|⟨k,c',e,lF⟩
    ·exact .inl q
    ·refine .inr ⟨k,c',e,lF.sameBut aH ?_⟩;rintro rfl;exact bM (aa6 hl bD (I.ok.inj _ _ _ e aU▸hi))
  ·by_cases E_:c'=c
   ·subst E_;exact⟨_,aa8⟩
   ·obtain⟨aa9,eG⟩:=I.cell y c' e;exact⟨aa9,eG.sameBut aH E_⟩
  ·obtain⟨e,n,ne,kl,d⟩:=I.pin p aL;refine⟨(aH.2 p.1 ?_).trans e,n,ne,kl,d⟩;intro q;rw[q,aju]at e;have d8:jK=p.2:=Option.some.inj e;exact d w' (by rw[← d8];exact arQ)
theorem aa_{M:Model}{A:Around}{E:aO->aX->Prop}{i:Nat}{x:Str}{v:V}{u:aO}{Q:Unit->aX->Prop}(I:Inv X pins σ H s)(hl:X.N.Nodup)(hi:X.N[i]?=some x)(aq:Loc X.env.scope x)(r:RelV v u)
  (h:∀ s',Inv X pins (σ.set i (some v)) H s'->Q () s') (hf:X.fn x=true\/X.env.scope.names.lookup x=some .local:=by first|exact .inl rfl|exact .inr rfl|assumption):wpAny M A (storeName X.env x u) Q E s :=
 ajs I hl hi aq r (fun s' ih _=>h s' ih) hf
theorem Inv.call'{s':aX}{ch:d1}(I:Inv X pins σ H s)(bA:s'.os=s.os)(u:jX (nO X.stack) ch H H' s.heap s'.heap)(bK:hs X.prog X.w H' s'.heap)(b5:AllBare s'.gens)
  (oJ:∀ b∈ch,(b∈X.ex\/X.jY.heap.objs.size<=b)/\b≠X.env.locals/\(∀ x c,X.env.cells.lookup x=some c->c≠b)/\∀ p∈X.g_++pins,p.1≠b):Inv X pins σ H' s':=by
 obtain⟨h',g',d',t',hF⟩:=s';have e:hF=s.os:=bA;subst e;exact I.call (g':=g') (t':=t') (d':=d') u bK b5 oJ
end
abbrev cM:=aO->Option au->ao->Prop
abbrev St:=List (Option V)
abbrev bx:=V->ao->Prop
abbrev TE:=St->ao->bx->Prop
abbrev TT:=St->ao->(Bool->ao->Prop)->Prop
abbrev TA:=St->ao->(List V->ao->Prop)->Prop
structure Ends where
 cT:St->ao->Prop
 E':bx
 jH:St->ao->Prop:=fun _ _=>False
 ft:St->ao->Prop:=fun _ _=>False
abbrev TS:=Ends->St->ao->Prop
def EP(X:bR)(pins:List (au×Obj))(σ:St)(Q:bx)(u:aO)(s':aX):Prop:=∃ v H',Inv X pins σ H' s'/\RelV v u/\Q v H'
def Vf(X:bR)(pins:List (au×Obj))(σ:St)(Q:Bool->ao->Prop)(b:Bool)(s':aX):Prop:=∃ H',Inv X pins σ H' s'/\Q b H'
def AP(X:bR)(pins:List (au×Obj))(σ:St)(Q:List V->ao->Prop)(us:dI)(s':aX):Prop:=∃ vs H',Inv X pins σ H' s'/\Vals vs us/\Q vs H'
def SP(X:bR)(pins:List (au×Obj))(D:Ends)(f:Flow)(s':aX):Prop :=
 match f with
 | .next=>∃ dc H',Inv X pins dc H' s'/\D.cT dc H'
 | .brk=>∃ dc H',Inv X pins dc H' s'/\D.jH dc H'
 | .cont=>∃ dc H',Inv X pins dc H' s'/\D.ft dc H'
 | .ret u=>∃ v dc H',Inv X pins dc H' s'/\RelV v u/\D.E' v H'
def PE(X:bR)(e:Expr)(t:TE):Prop :=
 ∀ (pins:List (au×Obj)) (s:aX) (σ:St) (H:ao) (Q:bx),Inv X pins σ H s->t σ H Q->wpAny (model X.prog X.w) X.A (eval e X.env) (EP X pins σ Q) X.xe s
def pJ(X:bR)(e:Expr)(t:TT):Prop :=
 ∀ (pins:List (au×Obj)) (s:aX) (σ:St) (H:ao) (Q:Bool->ao->Prop),Inv X pins σ H s->t σ H Q->wpAny (model X.prog X.w) X.A (isTrue e X.env (eval e X.env)) (Vf X pins σ Q) X.xe s
def PW(X:bR)(e:Expr)(t:TT):Prop :=
 ∀ (whole:Sem aO) (pins:List (au×Obj)) (s:aX) (σ:St) (H:ao) (Q:Bool->ao->Prop),Inv X pins σ H s->t σ H Q->wpAny (model X.prog X.w) X.A (isTrue e X.env whole) (Vf X pins σ Q) X.xe s
theorem PW.pt{X:bR}{e:Expr}{t:TT}(h:PW X e t):pJ X e t:=h _
def PA(X:bR)(es:List Expr)(t:TA):Prop :=
 ∀ (pos:Pos) (pins:List (au×Obj)) (s:aX) (σ:St) (H:ao) (Q:List V->ao->Prop),Inv X pins σ H s->t σ H Q->wpAny (model X.prog X.w) X.A (spliced (backTo pos (starEach es X.env))) (AP X pins σ Q) X.xe s
def PS(X:bR)(st:Stmt)(t:TS):Prop :=
 ∀ (pins:List (au×Obj)) (s:aX) (σ:St) (H:ao) (D:Ends),Inv X pins σ H s->t D σ H->wpAny (model X.prog X.w) X.A (exec st X.env) (SP X pins D) X.xe s
def pK(X:bR)(st:List Stmt)(t:TS):Prop :=
 ∀ (pins:List (au×Obj)) (s:aX) (σ:St) (H:ao) (D:Ends),Inv X pins σ H s->t D σ H->wpAny (model X.prog X.w) X.A (execs st X.env) (SP X pins D) X.xe s
theorem cJ{α:Type}{t:Sem α}{Q eo:α->aX->Prop}{M:Model}{A:Around}{E:aO->aX->Prop}{s:aX}(h:wpAny M A t Q E s)(Bd:∀ a s,Q a s->eo a s):wpAny M A t eo E s:=wpAny_mono h Bd fun _ _ x=>x
section
variable{X:bR}
theorem bin{a b:Expr}{cN tb:TE}(aW:PE X a cN)(ak:PE X b tb){pins:List (au×Obj)}{s:aX}{σ:St}{H:ao}{R:V->V->ao->Prop}(I:Inv X pins σ H s)(h:cN σ H fun x H1=>tb σ H1 fun y aB=>R x y aB)
  {α:Type} {Q:α->aX->Prop} {f:aO->aO->Sem α}
  (hf:∀ v u s2 x y aB,Inv X pins σ aB s2->RelV x v->RelV y u->R x y aB->wpAny (model X.prog X.w) X.A (f v u) Q X.xe s2) :
  wpAny (model X.prog X.w) X.A (eval a X.env) (fun v fU=>wpAny (model X.prog X.w) X.A (eval b X.env) (fun u lY=>wpAny (model X.prog X.w) X.A (f v u) Q X.xe lY) X.xe fU) X.xe s:=by
 refine cJ (aW pins s σ H _ I h) fun v s1 ⟨x,H1,bk,cH,bT⟩=>?_;refine cJ (ak pins s1 σ H1 _ bk bT) fun u s2 ⟨y,aB,dJ,dm,cA⟩=>?_;exact hf v u s2 x y aB dJ cH dm cA
inductive gg(i:Nat)(σ:St)(H:ao)(Q:bx):Prop
 |mk (v:V) (e:σ[i]?=some (some v)) (q:Q v H)
def uW(v:V):TE:=fun _ H Q=>Q v H
theorem arR{i:Nat}{x:Str}{pos:Pos}(hl:X.N[i]?=some x)(aZ:Ez X.env.scope x)(hd:(x == ("__debug__":Str))=false:=by decide) (wJ:(x == ("__classdict__":Str))=false:=by decide):PE X (.Name x pos) (gg i):=by
 intro pins s σ H Q I h;obtain⟨v,e,h⟩:=h;obtain⟨m,aR,aF⟩:=I.loc;obtain⟨u,r,l⟩:=aF i x v hl e aZ;have fin:EP X pins σ Q u s:=⟨v,H,I,r,h⟩;rcases l with⟨aN,hm⟩|⟨aN,c,aU,Vg⟩
 ·exact wpAny_Name (wpAny_loadName_local I.ok.kind aN aR hm fin) hd
 ·rcases aN with aN|aN
  ·exact wpAny_Name (wpAny_loadName_cell I.ok.kind aN aU Vg fin) hd
  ·exact wpAny_Name (wpAny_loadName_free I.ok.kind aN aU Vg fin wJ) hd
theorem b3{i j pos}:PE X (.Constant (.int i) j pos) (uW (.int i)):=fun _ _ _ H _ I h=>wpAny_Constant_int ⟨.int i,H,I.tok _,⟨_,rfl⟩,h⟩
theorem ajv{b j pos}:PE X (.Constant (.bool b) j pos) (uW (.bl b)):=fun _ _ _ H _ I h=>Constant_bool ⟨.bl b,H,I,rfl,h⟩
theorem Fb{j pos}:PE X (.Constant .none j pos) (uW .non):=fun _ _ _ H _ I h=>Constant_none ⟨.non,H,I,rfl,h⟩
theorem arS{x j pos}:PE X (.Constant (.str x) j pos) (uW (.str x)):=fun _ _ _ H _ I h=>Calls.Constant_str ⟨.str x,H,I.tok _,⟨_,rfl⟩,h⟩
def qu(X:bR)(x:Str):Prop:=X.env.kindOf x=some .globalImplicit
theorem Fd{E:aO->aX->Prop}{pins:List (au×Obj)}{s:aX}{σ:St}{H:ao}{x:Str}{u:aO}{pos:Pos}{Q:aO->aX->Prop}(I:Inv X pins σ H s)(b5:qu X x)(hm:X.av x=some u)(h:Q u s)
  (hd:(x == ("__debug__":Str))=false:=by decide):wpAny (model X.prog X.w) X.A (eval (.Name x pos) X.env) Q E s :=
 Calls.Name_function_global I.ok.kind b5 (Calls.loadGlobal_global (by rw[I.ok.glob];exact I.mod.glob.keeps I.jH) hm h) hd
theorem Fe{E:aO->aX->Prop}{pins:List (au×Obj)}{s:aX}{σ:St}{H:ao}{x:Str}{u:aO}{pos:Pos}{Q:aO->aX->Prop}(I:Inv X pins σ H s)(b5:qu X x)(hm:X.av x=none)(aZ:bootBuiltins x=some u)(h:Q u s)
  (aR:x≠"__name__":=by decide) (hd:(x == ("__debug__":Str))=false:=by decide):wpAny (model X.prog X.w) X.A (eval (.Name x pos) X.env) Q E s:=by
 obtain⟨pI,h1,aC⟩:=I.mod.blt;exact Calls.Name_function_global I.ok.kind b5 (Calls.loadGlobal_builtin (by rw[I.ok.glob];exact I.mod.glob.keeps I.jH) hm (by rw[I.ok.blt];exact h1.keeps I.jH) ((aC x aR).trans aZ) h) hd
theorem gV{x:Str}{v:V}{u:aO}{pos:Pos}(b5:qu X x)(hm:X.av x=some u)(r:RelV v u)(hd:(x == ("__debug__":Str))=false:=by decide):PE X (.Name x pos) (uW v) :=
 fun _ _ _ H _ I h=>Fd I b5 hm ⟨v,H,I,r,h⟩ hd
variable{a b:Expr}{cN tb:TE}{pos:Pos}
def PC(X:bR)(op:CmpOp)(a b:Expr)(t:TE):Prop :=
 ∀ (pins:List (au×Obj)) (s:aX) (σ:St) (H:ao) (Q:bx),Inv X pins σ H s->t σ H Q ->
  wpAny (model X.prog X.w) X.A (eval a X.env) (fun v fU=>wpAny (model X.prog X.w) X.A (eval b X.env) (fun u lY=>wpAny (model X.prog X.w) X.A (compareOp op v u) (EP X pins σ Q) X.xe lY) X.xe fU) X.xe s
theorem arT(b:Expr){op:CmpOp}(h:op≠.In)(aC:op≠.NotIn):behindInMarks op b=false:=by
 have bD:(op == CmpOp.In)=false:=by cases op<;>first|rfl|exact absurd rfl h
 have a8:(op == CmpOp.NotIn)=false:=by cases op<;>first|rfl|exact absurd rfl aC
 cases b<;>simp[behindInMarks,bD,a8]
def arU(cN:TE):TE:=fun σ H Q=>cN σ H fun x H1=>Q (.bl (decide (x=.non))) H1
def arV(cN:TE):TE:=fun σ H Q=>cN σ H fun x H1=>Q (.bl (!decide (x=.non))) H1
theorem RelV.ajw{x:V}{v:aO}(r:RelV x v):(v == Value.none)=decide (x=.non):=by
 cases x with
 |non=>cases r;rfl
 |bl _=>cases r;rfl
 |int _=>obtain⟨t,rfl⟩:=r;rfl
 |str _=>obtain⟨t,rfl⟩:=r;rfl
 |pH _=>obtain⟨t,rfl⟩:=r;rfl
 |Jx _=>obtain⟨t,rfl⟩:=r;rfl
 |ref _=>cases r;rfl
 |ty _=>cases r;rfl
theorem yp{j pos'}(aW:PE X a cN):PC X .Is a (.Constant .none j pos') (arU cN):=by
 intro pins s σ H Q I h;refine cJ (aW pins s σ H _ I h) fun v s1 ⟨x,H1,bk,cH,bT⟩=>?_;exact Constant_none (is_none_gen ⟨.bl _,H1,bk,by rw[cH.ajw];rfl,bT⟩)
theorem aa'{j pos'}(aW:PE X a cN):PC X .IsNot a (.Constant .none j pos') (arV cN):=by
 intro pins s σ H Q I h;refine cJ (aW pins s σ H _ I h) fun v s1 ⟨x,H1,bk,cH,bT⟩=>?_;exact Constant_none (isnot_none_gen ⟨.bl _,H1,bk,by rw[cH.ajw];rfl,bT⟩)
inductive ajx(Q:Bool->ao->Prop)(x:V)(H:ao):Prop
 |mk (c:Bool) (e:x=.bl c) (q:Q c H)
def arW(t:TE):TT:=fun σ H Q=>t σ H (ajx Q)
theorem pL{op:CmpOp}{t:TE}(h:PC X op a b t)(h1:behindInMarks op b=false:=by first|exact arT _ (by decide) (by decide)|rfl):pJ X (.Compare a [op] [b] pos) (arW t):=by
 intro pins s σ H Q I hw;refine wpAny_isTrue_Compare1 (cJ (h pins s σ H _ I hw) fun v s1 h1=>cJ h1 fun u s2 aC=>cJ aC fun c s3 ⟨x,H1,bk,cH,bT⟩=>?_) h1;obtain⟨d,rfl,q⟩:=bT;cases cH;exact wpAny_truthy_bool ⟨H1,bk,q⟩
variable{r5 Vh:TT}{rest:List Expr}
def arX(t u:TT):TT:=fun σ H Q=>t σ H fun c H1=>if c=true then u σ H1 Q else Q false H1
def arY(t u:TT):TT:=fun σ H Q=>t σ H fun c H1=>if c=true then Q true H1 else u σ H1 Q
def ajy(t:TT):TT:=fun σ H Q=>t σ H fun c H1=>Q (!c) H1
theorem abb(aW:pJ X a r5):PW X (.BoolOp .And [a] pos) r5:=by
 intro JG pins s σ H Q I h;refine isTrue_and (cJ (aW pins s σ H Q I h) fun c s1 e=>?_);cases c with
 |true=>exact isTrue_and_nil e
 |false=>exact e
theorem abd(aW:pJ X a r5):PW X (.BoolOp .Or [a] pos) r5:=by
 intro JG pins s σ H Q I h;refine isTrue_or (cJ (aW pins s σ H Q I h) fun c s1 e=>?_);cases c with
 |false=>exact isTrue_or_nil e
 |true=>exact e
theorem abe(aW:pJ X a r5)(ak:PW X (.BoolOp .And (b::rest) pos) Vh):PW X (.BoolOp .And (a::b::rest) pos) (arX r5 Vh):=by
 intro JG pins s σ H Q I h;refine isTrue_and (cJ (aW pins s σ H _ I h) fun c s1 ⟨H1,bk,bT⟩=>?_);cases c with
 |true=>exact ak JG pins s1 σ H1 Q bk bT
 |false=>exact⟨H1,bk,bT⟩
theorem abf(aW:pJ X a r5)(ak:PW X (.BoolOp .Or (b::rest) pos) Vh):PW X (.BoolOp .Or (a::b::rest) pos) (arY r5 Vh):=by
 intro JG pins s σ H Q I h;refine isTrue_or (cJ (aW pins s σ H _ I h) fun c s1 ⟨H1,bk,bT⟩=>?_);cases c with
 |true=>exact⟨H1,bk,bT⟩
 |false=>exact ak JG pins s1 σ H1 Q bk bT
theorem abg(aW:pJ X a r5):pJ X (.UnaryOp .Not a pos) (ajy r5):=by
 intro pins s σ H Q I h;exact isTrue_not (aW pins s σ H (fun c H1=>Q (!c) H1) I h)
def arZ(t:TT)(cN tb:TE):TE:=fun σ H Q=>t σ H fun c H1=>if c=true then cN σ H1 Q else tb σ H1 Q
theorem Vi{c:Expr}(aU:pJ X c r5)(aW:PE X a cN)(ak:PE X b tb):PE X (.IfExp c a b pos) (arZ r5 cN tb):=by
 intro pins s σ H Q I h;refine wpAny_IfExp (cJ (aU pins s σ H _ I h) fun d s1 ⟨H1,bk,bT⟩=>?_);cases d with
 |true=>exact aW pins s1 σ H1 Q bk bT
 |false=>exact ak pins s1 σ H1 Q bk bT
end
def aT(K:cn)(H:ao)(a:au)(xs:List V):Prop :=
 sX H a (.lst xs) \/
  ∃ (o:Obj) (its:Array aO) (n:Nat),K.lookup a=some o/\o.cls=.type "list"/\o.dict=none/\o.data=.seq its n/\its.size<=sizeLine/\Vals xs its.toList
def fM(K:cn)(H:ao)(a:au)(xs:List V):Prop :=
 sX H a (.tup xs) \/
  ∃ (o:Obj) (its:Array aO) (n:Nat),K.lookup a=some o/\o.cls=.type "tuple"/\o.data=.seq its n/\its.size<=sizeLine/\Vals xs its.toList
def ar0:aO->Option V
 | .none=>some .non
 | .bool b=>some (.bl b)
 | .int i _=>some (.int i)
 | .str x _=>some (.str x)
 | .bytes b _=>some (.pH b)
 | .float b _=>some (.Jx b)
 | .ref a=>some (.ref a)
 | .type n=>some (.ty n)
 |_=>none
theorem RelV.abs{x:V}{u:aO}(r:RelV x u):ar0 u=some x:=by
 cases x with
 |non=>cases r;rfl
 |bl _=>cases r;rfl
 |int _=>obtain⟨t,rfl⟩:=r;rfl
 |str _=>obtain⟨t,rfl⟩:=r;rfl
 |pH _=>obtain⟨t,rfl⟩:=r;rfl
 |Jx _=>obtain⟨t,rfl⟩:=r;rfl
 |ref _=>cases r;rfl
 |ty _=>cases r;rfl
theorem RelV.inj{x y:V}{u:aO}(r:RelV x u)(q:RelV y u):x=y:=Option.some.inj (r.abs.symm.trans q.abs)
theorem Vals.inj:∀ {xs bN:List V} {us:dI},Vals xs us->Vals bN us->xs=bN
 |_,_,_,.nil,.nil=>rfl
 |_,_,_,.cons r t,.cons r' t'=>by rw[r.inj r',Vals.inj t t']
section
variable{X:bR}{pins:List (au×Obj)}{σ:St}{H:ao}{s:aX}{a:au}{xs bN:List V}
theorem aT.of{K:cn}(h:H a=some (.lst xs)):aT K H a xs:=.inl (.inl h)
theorem fM.of{K:cn}(h:H a=some (.tup xs)):fM K H a xs:=.inl (.inl h)
theorem Inv.list(I:Inv X pins σ H s)(h:aT X.K H a xs):∃ its:dI,Vals xs its/\PlainL s.heap a its.toArray/\xs.length<=sizeLine:=by
 rcases h with h|⟨o,its,n,aN,aU,hd,aH,hz,r⟩
 ·obtain⟨z,its,n,r,e⟩:=h.ok I.bK;exact⟨its,r,⟨_,n,e,Z,Z,Z⟩,z⟩
 ·refine⟨its.toList,r,⟨o,n,I.jJ a o aN,aU,hd,by simpa using aH⟩,?_⟩;have e:=r.length;simp only[I6]at e;omega
theorem Inv.tuple(I:Inv X pins σ H s)(h:fM X.K H a xs):∃ its:dI,Vals xs its/\IsTup s.heap a its.toArray/\xs.length<=sizeLine:=by
 rcases h with h|⟨o,its,n,aN,aU,aH,hz,r⟩
 ·obtain⟨z,its,r,p⟩:=h.ok I.bK;exact⟨its,r,p,z⟩
 ·refine⟨its.toList,r,⟨o,I.jJ a o aN,aU,n,by simpa using aH⟩,?_⟩;have e:=r.length;simp only[I6]at e;omega
theorem Inv.Vj(I:Inv X pins σ H s)(h:aT X.K H a xs)(h':aT X.K H a bN):xs=bN:=by
 obtain⟨its,r,⟨o,n,e,_,_,d⟩,_⟩:=I.list h;obtain⟨its',r',⟨hF,n',e',_,_,d'⟩,_⟩:=I.list h';rw[e]at e';cases e';rw[d]at d';injection d' with JH _
 have:its=its':=by simpa using congrArg Array.toList JH
 subst this;exact r.inj r'
theorem Inv.ar3(I:Inv X pins σ H s)(h:fM X.K H a xs)(h':fM X.K H a bN):xs=bN:=by
 obtain⟨its,r,⟨o,e,_,n,d⟩,_⟩:=I.tuple h;obtain⟨its',r',⟨hF,e',_,n',d'⟩,_⟩:=I.tuple h';rw[e]at e';cases e';rw[d]at d';injection d' with JH _
 have:its=its':=by simpa using congrArg Array.toList JH
 subst this;exact r.inj r'
end
abbrev bR.wish(X:bR)(E:aO->aX->Prop):bR:={ X with xe:=E }
abbrev bR.q5(X:bR):bR:=X.wish fun _ _=>False
theorem bR.Ok.wish{X:bR}(ok:X.Ok)(E:aO->aX->Prop):(X.wish E).Ok :=
 ⟨ok.mod,ok.kind,ok.glob,ok.blt,ok.above,ok.inj,ok.has,ok.wG,ok.hd,ok.frames,ok.sY,ok.yj,ok.bs,ok.qt,ok.wH,ok.wI,ok.nP,ok.sZ⟩
theorem bR.Ok.q6{X:bR}{E:aO->aX->Prop}(ok:(X.wish E).Ok):X.Ok :=
 ⟨ok.mod,ok.kind,ok.glob,ok.blt,ok.above,ok.inj,ok.has,ok.wG,ok.hd,ok.frames,ok.sY,ok.yj,ok.bs,ok.qt,ok.wH,ok.wI,ok.nP,ok.sZ⟩
section
variable{X:bR}{pins:List (au×Obj)}{σ:St}{H:ao}{s:aX}{E:aO->aX->Prop}
theorem Inv.wish(I:Inv X pins σ H s)(E:aO->aX->Prop):Inv (X.wish E) pins σ H s:=⟨I.ok.wish E,I.os,I.bare,I.base,I.loc,I.cell,I.free,I.oH,I.pin,I.bK,I.len⟩
theorem Inv.q6(I:Inv (X.wish E) pins σ H s):Inv X pins σ H s:=⟨I.ok.q6,I.os,I.bare,I.base,I.loc,I.cell,I.free,I.oH,I.pin,I.bK,I.len⟩
theorem SP.q6{D:Ends}{f:Flow}{s':aX}(h:SP (X.wish E) pins D f s'):SP X pins D f s':=by
 cases f with
 |next=>obtain⟨dc,H',I,q⟩:=h;exact⟨dc,H',I.q6,q⟩
 |brk=>obtain⟨dc,H',I,q⟩:=h;exact⟨dc,H',I.q6,q⟩
 |cont=>obtain⟨dc,H',I,q⟩:=h;exact⟨dc,H',I.q6,q⟩
 |ret u=>obtain⟨v,dc,H',I,r,q⟩:=h;exact⟨v,dc,H',I.q6,r,q⟩
end
section
variable{X:bR}{st:Stmt}{rest:List Stmt}{t u:TS}{e:Expr}{te:TE}{pos:Pos}
def ar4:TS:=fun D σ H=>D.cT σ H
def c3(t u:TS):TS:=fun D σ H=>t { D with cT:=u D } σ H
theorem ht:pK X [] ar4:=fun _ _ σ H _ I h=>wpAny_execs_nil ⟨σ,H,I,h⟩
theorem aV(h1:PS X st t)(aC:pK X rest u):pK X (st::rest) (c3 t u):=by
 intro pins s σ H D I h;refine wpAny_execs_cons (cJ (h1 pins s σ H { D with cT:=u D } I h) fun f s1 q=>?_);cases f with
 |next =>
  obtain⟨dc,H',ih,q⟩:=q;exact aC pins s1 dc H' D ih q
 |ret v=>exact q
 |brk=>exact q
 |cont=>exact q
theorem bj(h1:PS X st t):pK X [st] t:=by
 intro pins s σ H D I h;refine wpAny_execs_cons (cJ (h1 pins s σ H D I h) fun f s1 q=>?_);cases f with
 |next=>exact wpAny_execs_nil q
 |ret v=>exact q
 |brk=>exact q
 |cont=>exact q
theorem Inv.quiet{pins:List (au×Obj)}{σ:St}{H:ao}{s:aX}(I:Inv X pins σ H s):interactive X.env=false:=by simp[interactive,I.ok.kind]
def ar5(D:Ends)(σ:St)(_:V)(H:ao):Prop:=D.cT σ H
def wK(te:TE):TS:=fun D σ H=>te σ H (ar5 D σ)
theorem er(he:PE X e te)(aH:swapsWith e none pos.line X.env=pure false:=by rfl):PS X (.Expr e pos) (wK te):=by
 intro pins s σ H D I h;exact wpAny_Expr_any (cJ (he pins s σ H _ I h) fun v s1 ⟨x,H1,bk,cH,bT⟩=>⟨σ,H1,bk,bT⟩) I.quiet aH
def ajz(te:TE):TS:=fun D σ H=>te σ H D.E'
theorem dK(he:PE X e te):PS X (.Return (some e) pos) (ajz te):=by
 intro pins s σ H D I h;exact wpAny_Return_some (cJ (he pins s σ H _ I h) fun v s1 ⟨x,H1,bk,cH,bT⟩=>⟨x,σ,H1,bk,cH,bT⟩)
def ar6:TS:=fun D _ H=>D.E' .non H
theorem abh:PS X (.Return none pos) ar6:=fun _ _ σ H _ I h=>wpAny_Return_none ⟨.non,σ,H,I,rfl,h⟩
def ajA(c:TT)(t u:TS):TS:=fun D σ H=>c σ H fun b H1=>if b=true then t D σ H1 else u D σ H1
theorem gh{c:Expr}{a b:List Stmt}{tc:TT}(aU:pJ X c tc)(aW:pK X a t)(ak:pK X b u):PS X (.If c a b pos) (ajA tc t u):=by
 intro pins s σ H D I h;refine wpAny_If (cJ (aU pins s σ H _ I h) fun d s1 ⟨H1,bk,bT⟩=>?_);cases d with
 |true=>exact aW pins s1 σ H1 D bk bT
 |false=>exact ak pins s1 σ H1 D bk bT
end
abbrev lG:=V->St->ao->(St->ao->Prop)->Prop
abbrev yq:=List V->St->ao->(St->ao->Prop)->Prop
def PG(X:bR)(target:Expr)(t:lG):Prop :=
 ∀ (pins:List (au×Obj)) (s:aX) (σ:St) (H:ao) (v:V) (u:aO) (Q:St->ao->Prop),Inv X pins σ H s->RelV v u->t v σ H Q ->
  wpAny (model X.prog X.w) X.A (assign target X.env u) (fun _ s'=>∃ dc H',Inv X pins dc H' s'/\Q dc H') X.xe s
def JK(X:bR)(ts:List Expr)(t:yq):Prop :=
 ∀ (pins:List (au×Obj)) (s:aX) (σ:St) (H:ao) (vs:List V) (us:dI) (Q:St->ao->Prop),Inv X pins σ H s->Vals vs us->t vs σ H Q ->
  wpAny (model X.prog X.w) X.A (assignInOrder ((assignEach ts X.env).map (·.2)) us) (fun _ s'=>∃ dc H',Inv X pins dc H' s'/\Q dc H') X.xe s
abbrev Bf:=V->V->V->ao->(ao->Prop)->Prop
def abj(X:bR)(t:Bf):Prop :=
 ∀ (pins:List (au×Obj)) (s:aX) (σ:St) (H:ao) (o i v:V) (f3 hQ u:aO) (Q:ao->Prop),Inv X pins σ H s->RelV o f3->RelV i hQ->RelV v u->t o i v H Q ->
  wpAny (model X.prog X.w) X.A (setItem f3 hQ u) (fun _ s'=>∃ H',Inv X pins σ H' s'/\Q H') X.xe s
abbrev JL:=V->V->ao->bx->Prop
def ajB(X:bR)(op:Operator)(t:JL):Prop :=
 ∀ (pins:List (au×Obj)) (s:aX) (σ:St) (H:ao) (x y:V) (v u:aO) (Q:bx),Inv X pins σ H s->RelV x v->RelV y u->t x y H Q ->
  wpAny (model X.prog X.w) X.A (inplaceOp op v u) (EP X pins σ Q) X.xe s
section
variable{X:bR}{pos:Pos}
def kW(i:Nat):lG:=fun v σ H Q=>Q (σ.set i (some v)) H
theorem dj{i:Nat}{x:Str}(hl:X.N.Nodup)(hi:X.N[i]?=some x)(aq:Loc X.env.scope x)(hf:X.fn x=true\/X.env.scope.names.lookup x=some .local:=by first|exact .inl rfl|exact .inr rfl|assumption):PG X (.Name x pos) (kW i):=by
 intro pins s σ H v u Q I r h;exact wpAny_assign_Name (aa_ I hl hi aq r (fun s' ih=>⟨_,H,ih,h⟩) hf)
def ajC:yq:=fun vs σ H Q=>vs=[]/\Q σ H
def ar7(u:yq)(r:List V)(Q:St->ao->Prop)(σ:St)(H:ao):Prop:=u r σ H Q
inductive abk(t:lG)(u:yq)(vs:List V)(σ:St)(H:ao)(Q:St->ao->Prop):Prop
 |mk (v:V) (r:List V) (e:vs=v::r) (q:t v σ H (ar7 u r Q))
theorem r6:JK X [] ajC:=by
 intro pins s σ H vs us Q I r h;obtain⟨e,h⟩:=h;subst e;cases r;exact assignInOrder_nil ⟨σ,H,I,h⟩
theorem jL{e:Expr}{es:List Expr}{t:lG}{u:yq}(h1:PG X e t)(aC:JK X es u)
  (aH:(assignEach (e::es) X.env).map (·.2)=assign e X.env::(assignEach es X.env).map (·.2):=by rfl):JK X (e::es) (abk t u):=by
 intro pins s σ H vs us Q I r h;obtain⟨v,gw,bD,h⟩:=h;subst bD;cases r with
 |cons r lZ =>
  rw[aH];refine assignInOrder_cons (cJ (h1 pins s σ H _ _ _ I r h) fun _ s1 ⟨Bg,H1,bk,bT⟩=>?_);exact aC pins s1 Bg H1 _ _ Q bk lZ bT
inductive abl(K:cn)(n:Nat)(t:yq)(v:V)(σ:St)(H:ao)(Q:St->ao->Prop):Prop
 |mk (a:au) (xs:List V) (e:v=.ref a) (h:fM K H a xs) (l:xs.length=n) (q:t xs σ H Q)
theorem s7{es:List Expr}{k:Nat}{t:yq}{n:Nat}(aU:X.calm=true)(h:JK X es t)
  (aR:(assignEach es X.env).length=n:=by rfl) (m1:(assignEach es X.env).findIdx? (·.1)=none:=by rfl):PG X (.Tuple es k pos) (abl X.K n t):=by
 intro pins s σ H v u Q I r hw;obtain⟨a,xs,bD,a0,aF,hw⟩:=hw;subst bD;cases r;obtain⟨its,eZ,b_,hz⟩:=I.tuple a0;refine assign_Tuple_tuple (I.ok.hd aU) b_ (by simp[aR,← aF,eZ.length]) m1 fun h' aq=>?_;have bk:Inv X pins σ H { s with heap:=h' }:=I.kept (t':=s.toks) fun b o e=>aq b o (gR (fG e)) e;exact h pins _ σ H xs _ Q bk (by simpa using eZ) hw
def ar8(σ:St)(Q:St->ao->Prop)(H:ao):Prop:=Q σ H
def ar9(t:Bf)(v:V)(σ:St)(Q:St->ao->Prop)(o i:V)(H:ao):Prop:=t o i v H (ar8 σ Q)
def ar_(m2:TE)(t:Bf)(v:V)(σ:St)(Q:St->ao->Prop)(o:V)(H:ao):Prop:=m2 σ H (ar9 t v σ Q o)
def ar'(to m2:TE)(t:Bf):lG:=fun v σ H Q=>to σ H (ar_ m2 t v σ Q)
theorem Fg{o i:Expr}{to m2:TE}{t:Bf}(bA:PE X o to)(hi:PE X i m2)(aH:abj X t)
  (aW:∀ v,assign (.Subscript o i pos) X.env v=(do
   let f3 ← holding [v] (eval o X.env)
   let hQ ← holding [v,f3] (eval i X.env)
   standAt pos
   holding [v,f3,hQ] (setItem f3 hQ v)
   release [v,f3,hQ] []):=by intro _;rfl):PG X (.Subscript o i pos) (ar' to m2 t):=by
 intro pins s σ H v u Q I r h;rw[aW];refine wpAny_bind (wpAny_holding (cJ (bA pins s σ H _ I h) fun f3 s1 ⟨x,H1,bk,cH,bT⟩=>?_));refine wpAny_bind (wpAny_holding (cJ (hi pins s1 σ H1 _ bk bT) fun hQ s2 ⟨y,aB,dJ,dm,cA⟩=>?_));refine wpAny_bind (wpAny_standAt (wpAny_bind (wpAny_holding (cJ (aH pins s2 σ aB x y v f3 hQ u _ dJ cH dm r cA) fun _ s3 ⟨aJ,eU,dY⟩=>?_))));exact wpAny_release ⟨σ,aJ,eU,dY⟩
def asa(g:lG)(σ:St)(D:Ends)(x:V)(H:ao):Prop:=g x σ H D.cT
def Fi(te:TE)(g:lG):TS:=fun D σ H=>te σ H (asa g σ D)
theorem Fj{e0 e:Expr}{te:TE}{g:lG}(he:PE X e te)(b5:PG X e0 g)(aH:swapsWithSole [e0] e pos.line X.env=pure false:=by rfl)(hw:swappedStores [e0] e X.env=pure none:=by rfl)
  (h1:(assignEach [e0] X.env).map (·.2)=[assign e0 X.env]:=by rfl):PS X (.Assign [e0] e pos) (Fi te g):=by
 intro pins s σ H D I h;refine wpAny_Assign_stores (cJ (he pins s σ H _ I h) fun v s1 ⟨x,H1,bk,cH,bT⟩=>?_) aH hw;rw[h1];exact cJ (b5 pins s1 σ H1 x v _ bk cH bT) fun _ s2 q=>q
theorem cp{i:Nat}{x:Str}{e:Expr}{te:TE}{pos':Pos}(hl:X.N.Nodup)(hi:X.N[i]?=some x)(aq:Loc X.env.scope x)(he:PE X e te)(aH:swapsWith e (some (.Name x pos')) pos.line X.env=pure false:=by rfl)(hf:X.fn x=true\/X.env.scope.names.lookup x=some .local:=by first|exact .inl rfl|exact .inr rfl|assumption) :
  PS X (.Assign [.Name x pos'] e pos) (Fi te (kW i)):=by
 intro pins s σ H D I h;refine wpAny_Assign_Name (cJ (he pins s σ H _ I h) fun v s1 ⟨y,H1,bk,cH,bT⟩=>?_) aH;exact aa_ bk hl hi aq cH (fun s2 dJ=>⟨_,H1,dJ,bT⟩) hf
def ajD(i:Nat)(te:TE)(m2:JL):TS:=fun D σ H=>∃ x,σ[i]?=some (some x)/\te σ H fun y H1=>m2 x y H1 fun z aB=>D.cT (σ.set i (some z)) aB
theorem Fl{i:Nat}{x:Str}{e:Expr}{te:TE}{op:Operator}{m2:JL}{pos':Pos}(hl:X.N.Nodup)(hi:X.N[i]?=some x)(aq:Loc X.env.scope x)(he:PE X e te)(bA:ajB X op m2)(hf:X.fn x=true\/X.env.scope.names.lookup x=some .local:=by first|exact .inl rfl|exact .inr rfl|assumption) :
  PS X (.AugAssign (.Name x pos') op e pos) (ajD i te m2):=by
 intro pins s σ H D I h;obtain⟨v,bD,h⟩:=h;obtain⟨m,aR,aF⟩:=I.loc;have asb:Ez X.env.scope x:=by rcases aq with k|k;exact .inl k;exact .inr (.inl k)
 obtain⟨u,r,l⟩:=aF i x v hi bD asb;refine wpAny_AugAssign_Name ?_;have go:wpAny (model X.prog X.w) X.A (eval e X.env) (fun w lY=>wpAny (model X.prog X.w) X.A (inplaceOp op u w) (fun r yr=>wpAny (model X.prog X.w) X.A (storeName X.env x r) (fun _=>SP X pins D .next) X.xe yr) X.xe lY) X.xe s:=by
  refine cJ (he pins s σ H _ I h) fun w s1 ⟨y,H1,bk,cH,bT⟩=>?_;refine cJ (bA pins s1 σ H1 v y u w _ bk r cH bT) fun z s2 ⟨aG4,aB,dJ,dm,cA⟩=>?_;exact aa_ dJ hl hi aq dm (fun s3 eU=>⟨_,aB,eU,cA⟩) hf
 rcases l with⟨aN,hm⟩|⟨aN,c,aU,Vg⟩
 ·exact wpAny_loadName_local I.ok.kind aN aR hm go
 ·rcases aN with aN|aN
  ·exact wpAny_loadName_cell I.ok.kind aN aU Vg go
  ·rcases aq with k|k
   ·have:X.env.scope.names.lookup x=some .free:=aN
    rw[k]at this;cases this
   ·have:X.env.scope.names.lookup x=some .free:=aN
    rw[k]at this;cases this
def asd(to m2 te:TE)(Vk:V->V->ao->bx->Prop)(Vl:JL)(Vm:Bf):TS:=fun D σ H=>to σ H fun o H1=>m2 σ H1 fun i aB=>Vk o i aB fun x aJ=>te σ aJ fun y bB=>Vl x y bB fun z b2=>Vm o i z b2 fun eH=>D.cT σ eH
def ajE(X:bR)(t:V->V->ao->bx->Prop):Prop :=
 ∀ (pins:List (au×Obj)) (s:aX) (σ:St) (H:ao) (o i:V) (f3 hQ:aO) (Q:bx),Inv X pins σ H s->RelV o f3->RelV i hQ->t o i H Q ->
  wpAny (model X.prog X.w) X.A (getItem f3 hQ) (EP X pins σ Q) X.xe s
theorem Vn{o i e:Expr}{to m2 te:TE}{Vk:V->V->ao->bx->Prop}{Vl:JL}{Vm:Bf}{op:Operator}{r7:Pos}(bA:PE X o to)(hi:PE X i m2)(b5:ajE X Vk)(he:PE X e te)(aL:ajB X op Vl)(aH:abj X Vm)
  (aW:∀ f3 hQ new,augStore i f3 hQ new=(do holding [new,f3,hQ] (setItem f3 hQ new);release [new,f3,hQ] [];pure .next):=by intros;rfl):PS X (.AugAssign (.Subscript o i r7) op e pos) (asd to m2 te Vk Vl Vm):=by
 intro pins s σ H D I h;refine wpAny_AugAssign_SubscriptAny (cJ (bA pins s σ H _ I h) fun f3 s1 ⟨x1,H1,bk,cH,bT⟩=>?_) aW;refine cJ (hi pins s1 σ H1 _ bk bT) fun hQ s2 ⟨iD,aB,dJ,dm,cA⟩=>?_;refine cJ (b5 pins s2 σ aB x1 iD f3 hQ _ dJ cH dm cA) fun old s3 ⟨kp,aJ,eU,d2,dY⟩=>?_;refine cJ (he pins s3 σ aJ _ eU dY) fun v s4 ⟨qw,bB,l0,jM,hG⟩=>?_;refine cJ (aL pins s4 σ bB kp qw old v _ l0 d2 jM hG) fun new s5 ⟨s8,b2,uX,m4,mb⟩=>?_;exact cJ (aH pins s5 σ b2 x1 iD s8 f3 hQ new _ uX cH dm m4 mb) fun _ cU ⟨eH,uY,wL⟩=>⟨σ,eH,uY,wL⟩
end
section
variable{X:bR}{pos:Pos}
def ajF(c:TT)(tb:TS):TS:=fun D σ H=>∃ W:Nat->St->ao->Prop,(∃ m,W m σ H)/\∀ m σ H,W m σ H ->
 c σ H fun b H1=>if b=true then ∃ N:St->ao->Prop,(∀ dc H',N dc H'->∃ dT,dT<m/\W dT dc H')/\tb { D with cT:=N,ft:=N,jH:=D.cT } σ H1 else D.cT σ H1
theorem Vo{c:Expr}{body:List Stmt}{tc:TT}{tb:TS}(aL:PassesOwn (model X.prog X.w) X.A X.env X.xe)(aU:pJ X c tc)(ak:pK X body tb):PS X (.While c body [] pos) (ajF tc tb):=by
 intro pins s σ H D I h;obtain⟨W,⟨m0,Fo⟩,turn⟩:=h;refine wpAny_While (codeAny_whileLoop (fun n s'=>∃ dc H',Inv X pins dc H' s'/\W n dc H') ?_ m0 ⟨σ,H,I,Fo⟩);rintro n s1 ⟨Bg,H1,bk,yb⟩;refine wpAny_passesOwn aL (cJ (aU pins s1 Bg H1 _ bk (turn n Bg H1 yb)) fun b s2 ⟨aB,dJ,cA⟩=>?_);cases b with
 |true =>
  obtain⟨N,hl,cA⟩:=cA;rw[bL rfl];refine wpAny_passesOwn aL (cJ (ak pins s2 Bg aB _ dJ cA) fun f s3 dY=>?_);cases f with
  |next =>
   obtain⟨pN,aJ,eU,qx⟩:=dY;obtain⟨dT,hm,w3⟩:=hl pN aJ qx;exact⟨dT,hm,pN,aJ,eU,w3⟩
  |cont =>
   obtain⟨pN,aJ,eU,qx⟩:=dY;obtain⟨dT,hm,w3⟩:=hl pN aJ qx;exact⟨dT,hm,pN,aJ,eU,w3⟩
  |brk=>exact dY
  |ret v=>exact dY
 |false =>
  rw[bw jq];exact wpAny_execs_nil ⟨Bg,aB,dJ,cA⟩
end
structure It where
 go:Nat->ao->Prop
 mc:Nat->ao->V->ao->Prop
 stop:Nat->ao->Prop
def q7(X:bR)(pins:List (au×Obj))(H:ao)(b:au):Prop :=
 H b=none/\b≠X.env.locals/\b∉X.fs/\(b∈X.ex\/X.jY.heap.objs.size<=b)/\(∀ x c,X.env.cells.lookup x=some c->c≠b)/\∀ p∈X.g_++pins,p.1≠b
theorem Inv.Bh{X:bR}{pins:List (au×Obj)}{σ:St}{H H':ao}{s:aX}{b:au}(I:Inv X pins σ H s)(ak:s.heap.objs.size<=b)(aR:H' b=none):q7 X pins H' b:=by
 refine⟨aR,v7 (ll I.lt ak),I.arM ak,.inr (jf I.EY ak),fun x c e z=>?_,fun p aL z=>?_⟩
 ·obtain⟨v,q⟩:=I.cell x c e;exact absurd (ll q.lt (by rw[z];exact ak)) (uJ _)
 ·exact absurd (ll (fG (I.pin p aL).1) (by rw[z];exact ak)) (uJ _)
structure Turn(P:fw)(w:e3)(K:cn)(e0:Expr)(J:It)(fp:d1)(it:au)(tn:Nat->Heap->Prop):Prop where
 mem:it∈fp
 obj:∀ i h,tn i h->∀ b∈fp,∃ o,h.get? b=some o/\∀ v,o.data≠.cell v
 keep:∀ i h h',tn i h->(∀ b∈fp,∀ o,h.get? b=some o->h'.get? b=some o)->tn i h'
 item:∀ (X:bR),X.prog=P->X.w=w->X.K=K->X.calm=true->∀ (i:Nat) (pins:List (au×Obj)) (s:aX) (σ:St) (H:ao) (E:aO->aX->Prop),Inv X pins σ H s->(∀ b∈fp,q7 X pins H b)->tn i s.heap->J.go i H ->
  wpAny (model P w) X.A (pyNext (.ref it)) (fun r s1=>∃ u,r=some u /\
   wpAny (model P w) X.A (letOwnedTupleGo e0 (.ref it) u) (fun _ s2=>∃ x H',Inv X pins σ H' s2/\RelV x u/\J.mc i H x H'/\tn (i+1) s2.heap/\∀ b∈fp,H' b=none) E s1) E s
 done:∀ (X:bR),X.prog=P->X.w=w->X.K=K->X.calm=true->∀ (i:Nat) (pins:List (au×Obj)) (s:aX) (σ:St) (H:ao) (E:aO->aX->Prop),Inv X pins σ H s->(∀ b∈fp,q7 X pins H b)->tn i s.heap->J.stop i H ->
  wpAny (model P w) X.A (pyNext (.ref it)) (fun r s1=>r=none/\Inv X pins σ H s1) E s
 self:∀ (A:Around) (i:Nat) (s:aX) (Q:aO->aX->Prop) (E:aO->aX->Prop),tn i s.heap->Q (.ref it) s->wpAny (model P w) A (pyIter (.ref it)) Q E s
abbrev TI:=St->ao->(It->ao->Prop)->Prop
def PIE(X:bR)(pins:List (au×Obj))(σ:St)(e0:Expr)(R:It->ao->Prop)(abm:aO)(s2:aX):Prop :=
 ∃ (it:au) (fp:d1) (tn:Nat->Heap->Prop) (J:It) (H':ao),abm=.ref it/\Inv X pins σ H' s2/\Turn X.prog X.w X.K e0 J fp it tn/\tn 0 s2.heap/\(∀ b∈fp,q7 X pins H' b)/\R J H'
def PI(X:bR)(e0 iter:Expr)(kY:TI):Prop :=
 ∀ (pins:List (au×Obj)) (s:aX) (σ:St) (H:ao) (R:It->ao->Prop),Inv X pins σ H s->kY σ H R ->
  wpAny (model X.prog X.w) X.A (eval iter X.env) (fun v s1=>wpAny (model X.prog X.w) X.A (pyIter v) (PIE X pins σ e0 R) X.xe s1) X.xe s
theorem abn{M:Model}{A:Around}{E:aO->aX->Prop}{s:aX}{e0:Expr}{it:au}{u:aO}{o:Obj}{n:String}{vs:Array aO}{Q:Unit->aX->Prop}(bA:s.heap.get? it=some o)(aU:o.cls=.type n)(hd:o.data=.fields vs)
  (aR:["enumerate","zip","dict_itemiterator","dict_reverseitemiterator","odict_iterator","itertools.zip_longest","itertools.pairwise"].contains n=false) (Bd:Q () s):wpAny M A (letOwnedTupleGo e0 (.ref it) u) Q E s:=by
 unfold letOwnedTupleGo;cases e0<;>first
  |exact wpAny_pure Bd
  |(cases u<;>first
    |exact wpAny_pure Bd
    |(refine wpAny_bind (wpAny_load bA ?_)
      rw[aU,hd];show wpAny M A (if(["enumerate","zip","dict_itemiterator","dict_reverseitemiterator","odict_iterator","itertools.zip_longest","itertools.pairwise"].contains n && vs[0]? == some (rawInt _))=true then _ else _) Q E s;rw[bw (by intro h;rw[aR,Bool.false_and]at h;cases h)];exact wpAny_pure Bd))
def jj(K:cn)(a:au):It :=
 ⟨fun i H=>∃ xs x,aT K H a xs/\xs[i]?=some x,fun i H x H'=>H'=H/\∀ xs,aT K H a xs->xs[i]?=some x,fun i H=>∃ xs,aT K H a xs/\xs.length<=i⟩
def JM(K:cn)(a:au):It :=
 ⟨fun i H=>∃ xs x,fM K H a xs/\xs[i]?=some x,fun i H x H'=>H'=H/\∀ xs,fM K H a xs->xs[i]?=some x,fun i H=>∃ xs,fM K H a xs/\xs.length<=i⟩
def oK(lo:Int)(n:Nat):It:=⟨fun i _=>i<n,fun i H x H'=>H'=H/\x=.int (lo+i),fun i _=>n<=i⟩
theorem ase{P:fw}{w:e3}{K:cn}{e0:Expr}(a it:au):Turn P w K e0 (jj K a) [it] it (fun i h=>h.IsListIter it a i) where
 mem:=by simp
 obj:=fun i h st b ak=>by
  have e:b=it:=by simpa using ak
  subst e;obtain⟨o,e,c,d⟩:=st;exact⟨o,e,fun v z=>by rw[d]at z;cases z⟩
 keep:=fun i h h' st k=>st.at fun o e=>k it (by simp) o e
 item:=by
  intro X gJ hw hu aU i pins s σ H E I hf st b5;subst gJ hw hu;obtain⟨xs,x,a0,aq⟩:=b5;obtain⟨its,eZ,p,hz⟩:=I.list a0;obtain⟨u,cD,hn⟩:=eZ.get aq;obtain⟨f0,f1,f2,fJ,f4,m5⟩:=hf it (by simp);refine wpAny_pyNext_list_item st p.isList (x:=u) (by simpa using cD) fun h' lA fV=>?_;have bk:Inv X pins σ H { s with heap:=h' }:=I.turned (t':=s.toks) (fun b o ak e=>(fV.2 b ak).trans e) f0 f1 fJ f4 m5;obtain⟨o,e,c,d⟩:=id lA;exact⟨u,Z,abn (s:={ s with heap:=h' }) e c d (by decide) ⟨x,H,bk,hn,⟨rfl,fun bN aP=>by rw[I.Vj aP a0];exact aq⟩,lA,fun b ak=>(hf b ak).1⟩⟩
 done:=by
  intro X gJ hw hu aU i pins s σ H E I hf st b5;subst gJ hw hu;obtain⟨xs,a0,aq⟩:=b5;obtain⟨its,eZ,p,hz⟩:=I.list a0;obtain⟨f0,f1,f2,fJ,f4,m5⟩:=hf it (by simp);have aF:=eZ.length;exact wpAny_pyNext_list_end (I.ok.hd aU) st p.isList (by simp;omega) fun h' dM=>⟨rfl,I.turned (t':=s.toks) (fun b o ak e=>dM b o ak e) f0 f1 fJ f4 m5⟩
 self:=fun _ _ _ _ _ st h=>wpAny_pyIter_listiter st h
theorem asf{P:fw}{w:e3}{K:cn}{e0:Expr}(a it:au):Turn P w K e0 (JM K a) [it] it (fun i h=>h.IsTupleIter it a i) where
 mem:=by simp
 obj:=fun i h st b ak=>by
  have e:b=it:=by simpa using ak
  subst e;obtain⟨o,e,c,d⟩:=st;exact⟨o,e,fun v z=>by rw[d]at z;cases z⟩
 keep:=fun i h h' st k=>st.at fun o e=>k it (by simp) o e
 item:=by
  intro X gJ hw hu aU i pins s σ H E I hf st b5;subst gJ hw hu;obtain⟨xs,x,a0,aq⟩:=b5;obtain⟨its,eZ,p,hz⟩:=I.tuple a0;obtain⟨u,cD,hn⟩:=eZ.get aq;obtain⟨f0,f1,f2,fJ,f4,m5⟩:=hf it (by simp);refine wpAny_pyNext_tuple_item st (show s.heap.IsTuple a its.toArray from p) (x:=u) (by simpa using cD) fun h' lA fV=>?_;have bk:Inv X pins σ H { s with heap:=h' }:=I.turned (t':=s.toks) (fun b o ak e=>(fV.2 b ak).trans e) f0 f1 fJ f4 m5;obtain⟨o,e,c,d⟩:=id lA;exact⟨u,Z,abn (s:={ s with heap:=h' }) e c d (by decide) ⟨x,H,bk,hn,⟨rfl,fun bN aP=>by rw[I.ar3 aP a0];exact aq⟩,lA,fun b ak=>(hf b ak).1⟩⟩
 done:=by
  intro X gJ hw hu aU i pins s σ H E I hf st b5;subst gJ hw hu;obtain⟨xs,a0,aq⟩:=b5;obtain⟨its,eZ,p,hz⟩:=I.tuple a0;obtain⟨f0,f1,f2,fJ,f4,m5⟩:=hf it (by simp);have aF:=eZ.length;exact wpAny_pyNext_tuple_end (I.ok.hd aU) st (show s.heap.IsTuple a its.toArray from p) (by simp;omega) fun h' dM=>⟨rfl,I.turned (t':=s.toks) (fun b o ak e=>dM b o ak e) f0 f1 fJ f4 m5⟩
 self:=fun _ _ _ _ _ st h=>wpAny_pyIter_tupleiter st h
theorem ash{P:fw}{w:e3}{K:cn}{e0:Expr}(it:au)(lo:Int)(n:Nat):Turn P w K e0 (oK lo n) [it] it (fun i h=>IsRangeIter h it (lo+(i:Nat) * 1) ((n:Int)-(i:Nat)) 1) where
 mem:=by simp
 obj:=fun i h st b ak=>by
  have e:b=it:=by simpa using ak
  subst e;exact⟨_,st,fun v z=>by
   have lF:Data.fields _=Data.cell v:=z;cases lF⟩
 keep:=fun i h h' st k=>k it (by simp) _ st
 item:=by
  intro X gJ hw hu aU i pins s σ H E I hf st b5;subst gJ hw hu;obtain⟨f0,f1,f2,fJ,f4,m5⟩:=hf it (by simp);have W:=Walks.range (prog:=X.prog) (w:=X.w) (I.ok.hd aU) it lo 1 n;refine W.item i s _ _ b5 st fun v h' tk aZ lA dA=>?_;obtain⟨t,rfl⟩:=aZ;have bk:Inv X pins σ H { s with heap:=h',toks:=tk }:=I.turned (fun b o ak e=>dA b o (by simpa using ak) e) f0 f1 fJ f4 m5;refine⟨_,Z,abn (s:={ s with heap:=h',toks:=tk }) (n:="range_iterator") lA rfl rfl (by decide) ⟨.int (lo+i),H,bk,⟨t,?_⟩,⟨rfl,rfl⟩,lA,fun b ak=>(hf b ak).1⟩⟩;rw[Int.mul_one]
 done:=by
  intro X gJ hw hu aU i pins s σ H E I hf st b5;subst gJ hw hu;obtain⟨f0,f1,f2,fJ,f4,m5⟩:=hf it (by simp);exact wpAny_pyNext_range_end (I.ok.hd aU) st (by have:n<=i:=b5;omega) fun h' dM=>⟨rfl,I.turned (t':=s.toks) (fun b o ak e=>dM b o ak e) f0 f1 fJ f4 m5⟩
 self:=fun _ _ _ _ _ st h=>wpAny_pyIter_rangeiter st h
section
variable{X:bR}{e0:Expr}
def Fp(K:cn)(tl:TE):TI:=fun σ H R=>tl σ H fun x H1=>∃ a,x=.ref a/\(∃ xs,aT K H1 a xs)/\R (jj K a) H1
def asi(K:cn)(tl:TE):TI:=fun σ H R=>tl σ H fun x H1=>∃ a,x=.ref a/\(∃ xs,fM K H1 a xs)/\R (JM K a) H1
theorem gG{l:Expr}{tl:TE}(aF:PE X l tl):PI X e0 l (Fp X.K tl):=by
 intro pins s σ H R I h;refine cJ (aF pins s σ H _ I h) fun v s1 ⟨x,H1,bk,cH,bT⟩=>?_;obtain⟨a,e,⟨xs,a0⟩,q⟩:=bT;subst e;cases cH;obtain⟨its,eZ,p,hz⟩:=bk.list a0;refine wpAny_pyIter_list p.isList ?_;refine⟨s1.heap.objs.size,[s1.heap.objs.size],_,_,H1,Z,bk.kept (t':=s1.toks) fun b o e=>iB _ e,ase a _,⟨_,lU _ rfl,Z,Z⟩,fun b ak=>?_,q⟩;have e:b=s1.heap.objs.size:=by simpa using ak
 subst e;exact bk.Bh (cG _) (bk.bK.fresh (cG _))
theorem asj{l:Expr}{tl:TE}(aF:PE X l tl):PI X e0 l (asi X.K tl):=by
 intro pins s σ H R I h;refine cJ (aF pins s σ H _ I h) fun v s1 ⟨x,H1,bk,cH,bT⟩=>?_;obtain⟨a,e,⟨xs,a0⟩,q⟩:=bT;subst e;cases cH;obtain⟨its,eZ,p,hz⟩:=bk.tuple a0;refine wpAny_pyIter_tuple (show s1.heap.IsTuple a its.toArray from p) ?_;refine⟨s1.heap.objs.size,[s1.heap.objs.size],_,_,H1,Z,bk.kept (t':=s1.toks) fun b o e=>iB _ e,asf a _,⟨_,lU _ rfl,Z,Z⟩,fun b ak=>?_,q⟩;have e:b=s1.heap.objs.size:=by simpa using ak
 subst e;exact bk.Bh (cG _) (bk.bK.fresh (cG _))
theorem ajG{pins:List (au×Obj)}{σ:St}{H:ao}{s:aX}{R:It->ao->Prop}{E:aO->aX->Prop}{lo hi:Int}{t u v:Tok}{tk:Nat}(I:Inv X pins σ H s)(h1:-(2 ^ 62)<=lo)(aC:lo<2 ^ 62)(bH:-(2 ^ 62)<=hi)(dw:hi<2 ^ 62)
  (q:R (oK lo (hi-lo).toNat) H):wpAny (model X.prog X.w) X.A (pyIter (.ref s.heap.objs.size)) (PIE X pins σ e0 R) E { s with heap:=s.heap.push { cls:=.type "range",data:=.fields #[.int lo t,.int hi u,.int 1 v] },toks:=tk }:=by
 refine wpAny_pyIter_range (IsRange.new ..) (small_one h1 aC bH dw) ?_;have bk:Inv X pins σ H { s with heap:=s.heap.push { cls:=.type "range",data:=.fields #[.int lo t,.int hi u,.int 1 v] },toks:=tk }:=I.kept fun b o e=>iB _ e;refine⟨(s.heap.push { cls:=.type "range",data:=.fields #[.int lo t,.int hi u,.int 1 v] }).objs.size,[(s.heap.push { cls:=.type "range",data:=.fields #[.int lo t,.int hi u,.int 1 v] }).objs.size],_,_,H,Z,
  bk.kept (t':=tk) fun b o e=>iB _ e,ash _ lo (hi-lo).toNat,?_,fun b ak=>?_,q⟩
 ·have bD:lo+((0:Nat):Int) * 1=lo:=by simp
  have a8:(((hi-lo).toNat:Nat):Int)-((0:Nat):Int)=Builtin.Range.rangeSize lo hi 1:=by rw[rangeSize_one];split<;>omega
  show IsRangeIter _ _ (lo+((0:Nat):Int) * 1) ((((hi-lo).toNat:Nat):Int)-((0:Nat):Int)) 1;rw[bD,a8];exact lU _ rfl
 ·have e:b=(s.heap.push { cls:=.type "range",data:=.fields #[.int lo t,.int hi u,.int 1 v] }).objs.size:=by simpa using ak
  subst e;exact bk.Bh (cG _) (bk.bK.fresh (cG _))
def asl(cN:TA):TI:=fun σ H R=>cN σ H fun vs H1=>∃ j:Int,vs=[.int j]/\-(2 ^ 62)<=j/\j<2 ^ 62/\R (oK 0 j.toNat) H1
def asn(cN:TA):TI:=fun σ H R=>cN σ H fun vs H1=>∃ i j:Int,vs=[.int i,.int j]/\(-(2 ^ 62)<=i/\i<2 ^ 62/\-(2 ^ 62)<=j/\j<2 ^ 62)/\R (oK i (j-i).toNat) H1
theorem mg{a:Expr}{cN:TA}{p pos:Pos}(b5:qu X "range") (hm:X.av "range"=none) (aW:PA X [a] cN) (aH:starEach [a] X.env=[(false,eval a X.env)]:=by rfl):PI X e0 (.Call (.Name "range" p) [a] [] pos) (asl cN):=by
 intro pins s σ H R I h;refine Call_ (Fe I b5 hm boot_range (PyProof.Rows.callWith_type1 (cJ (aW pos pins s σ H _ I h) fun us s1 ⟨vs,H1,bk,cH,bT⟩=>?_) aH rfl));obtain⟨j,e,bT,cA,q⟩:=bT;subst e;cases cH with
 |cons r lZ =>
  cases lZ;obtain⟨t,rfl⟩:=r;exact call_range_1 (ajG bk (by omega) (by omega) bT cA (by simpa using q))
theorem abo{a b:Expr}{cN:TA}{p pos:Pos}(b5:qu X "range") (hm:X.av "range"=none) (aW:PA X [a,b] cN) (aH:starEach [a,b] X.env=[(false,eval a X.env),(false,eval b X.env)]:=by rfl) (lH:starEach [b] X.env=[(false,eval b X.env)]:=by rfl) :
  PI X e0 (.Call (.Name "range" p) [a,b] [] pos) (asn cN):=by
 intro pins s σ H R I h;refine Call_ (Fe I b5 hm boot_range (PyProof.Rows.callWith_type1 (cJ (aW pos pins s σ H _ I h) fun us s1 ⟨vs,H1,bk,cH,bT⟩=>?_) (by rw[aH,lH]) (by rw[lH];rfl)));obtain⟨i,j,e,⟨bT,cA,dY,hG⟩,q⟩:=bT;subst e;cases cH with
 |cons r lZ =>
  cases lZ with
  |cons r' lZ =>
   cases lZ;obtain⟨t,rfl⟩:=r;obtain⟨t',rfl⟩:=r';exact call_range_2 (ajG bk bT cA dY hG q)
def aso(kY:TI)(g:lG)(tb:TS):TS:=fun D σ H=>kY σ H fun J H1=>∃ W:Nat->Nat->St->ao->Prop,(∃ m,W 0 m σ H1)/\∀ i m σ H,W i m σ H ->
 (J.stop i H/\D.cT σ H)\/(J.go i H/\∃ N:St->ao->Prop,(∀ dc H',N dc H'->∃ dT,dT<m/\W (i+1) dT dc H')/\∀ x H',J.mc i H x H'->g x σ H' fun dV aB=>tb { D with cT:=N,ft:=N,jH:=D.cT } dV aB)
def JN(fp:d1)(h:Heap):List (au×Obj):=fp.filterMap fun b=>(h.get? b).map fun o=>(b,o)
theorem abp{fp:d1}{h:Heap}{b:au}{o:Obj}(ak:b∈fp)(e:h.get? b=some o):(b,o)∈JN fp h:=I7.mpr ⟨b,ak,by rw[e];rfl⟩
theorem asp{fp:d1}{h:Heap}{p:au×Obj}(aL:p∈JN fp h):p.1∈fp/\h.get? p.1=some p.2:=by
 obtain⟨b,ak,e⟩:=I7.mp aL;cases q:h.get? b with
 |none=>rw[q]at e;cases e
 |some o =>
  rw[q]at e;have e':(b,o)=p:=Option.some.inj e;subst e';exact⟨ak,q⟩
theorem Inv.pinned{pins:List (au×Obj)}{σ:St}{H:ao}{s:aX}{fp:d1}(I:Inv X pins σ H s)(hf:∀ b∈fp,q7 X pins H b)(bA:∀ b∈fp,∃ o,s.heap.get? b=some o/\∀ v,o.data≠.cell v):Inv X (pins++JN fp s.heap) σ H s :=
 I.JC fun p aL=>(pa.mp aL).elim (fun z=>I.pin p (v8 _ z)) fun z=>by
  obtain⟨ak,e⟩:=asp z;obtain⟨f0,f1,f2,_⟩:=hf p.1 ak;obtain⟨o,e',d⟩:=bA p.1 ak;rw[e]at e';cases e';exact⟨e,f0,f1,f2,d⟩
theorem Inv.Vp{pins pl:List (au×Obj)}{σ:St}{H:ao}{s:aX}(I:Inv X (pins++pl) σ H s):Inv X pins σ H s:=I.JC fun p aL=>I.pin p (v8 _ (uI _ aL))
theorem ho{iter:Expr}{body:List Stmt}{kY:TI}{g:lG}{tb:TS}{pos:Pos}(aL:PassesOwn (model X.prog X.w) X.A X.env X.xe)(aU:X.calm=true)(hi:PI X e0 iter kY)(b5:PG X e0 g)(ak:pK X body tb)
  (aH:∀ x,foldedSetIterable iter X.env x=pure x:=by intro _;rfl):PS X (.For e0 iter body [] pos) (aso kY g tb):=by
 intro pins s σ H D I h;refine wpAny_For (cJ (hi pins s σ H _ I h) fun v s1 h1=>cJ h1 fun abm s2 aC=>?_) aH;obtain⟨it,fp,tn,J,aB,e,dJ,T,Vq,f2,W,⟨m0,Fo⟩,turn⟩:=aC;subst e;have stat:∀ {H':ao},(∀ b∈fp,H' b=none)->∀ b∈fp,q7 X pins H' b:=fun aR b ak=>⟨aR b ak,(f2 b ak).2⟩;refine codeAny_forLoop_any (fun n s'=>∃ i dc H',Inv X pins dc H' s'/\tn i s'.heap/\(∀ b∈fp,H' b=none)/\W i n dc H') ?_ m0 ⟨0,σ,aB,dJ,Vq,fun b ak=>(f2 b ak).1,Fo⟩;rintro n s3 ⟨i,pN,aJ,eU,Vr,ajH,w3⟩;rcases turn i n pN aJ w3 with⟨stop,qn⟩|⟨go,N,hl,step⟩
 ·refine wpAny_passesOwn aL (cJ (T.done X rfl rfl rfl aU i pins s3 pN aJ X.xe eU (stat ajH) Vr stop) fun r s4 ⟨aA,l0⟩=>?_);subst aA;exact wpAny_execs_nil ⟨pN,aJ,l0,qn⟩
 ·refine wpAny_passesOwn aL (cJ (T.item X rfl rfl rfl aU i pins s3 pN aJ X.xe eU (stat ajH) Vr go) fun r s4 ⟨u,aA,dw⟩=>?_);subst aA;refine wpAny_passesOwn aL (cJ dw fun _ s5 ⟨x,b2,uX,m4,asq,Fq,asr⟩=>?_);have asu:=uX.pinned (stat asr) (T.obj _ _ Fq);refine wpAny_passesOwn aL (cJ (b5 _ s5 pN b2 x u _ asu m4 (step x b2 asq)) fun _ cU ⟨asv,eH,uY,wL⟩=>?_);refine wpAny_passesOwn aL (cJ (ak _ cU asv eH _ uY wL) fun f fx uZ=>?_);have again:∀ {s9:St} {dB:ao},Inv X (pins++JN fp s5.heap) s9 dB fx->N s9 dB->∃ m,m<n/\∃ i dc H',Inv X pins dc H' fx/\tn i fx.heap/\(∀ b∈fp,H' b=none)/\W i m dc H':=fun{s9 dB} m6 Bj=>by
   obtain⟨dT,hm,Ft⟩:=hl s9 dB Bj;refine⟨dT,hm,i+1,s9,dB,m6.Vp,T.keep _ _ _ Fq fun b ak o e=>(m6.pin (b,o) (v8 _ (v8 _ (abp ak e)))).1,fun b ak=>?_,Ft⟩;obtain⟨o,e,d⟩:=T.obj _ _ Fq b ak;exact(m6.pin (b,o) (v8 _ (v8 _ (abp ak e)))).2.1
  cases f with
  |next=>obtain⟨s9,dB,m6,Bj⟩:=uZ;exact again m6 Bj
  |cont=>obtain⟨s9,dB,m6,Bj⟩:=uZ;exact again m6 Bj
  |brk=>obtain⟨s9,dB,m6,uZ⟩:=uZ;exact⟨s9,dB,m6.Vp,uZ⟩
  |ret v=>obtain⟨Bk,s9,dB,m6,ys,uZ⟩:=uZ;exact⟨Bk,s9,dB,m6.Vp,ys,uZ⟩
end
theorem qy{K:cn}{a:au}{xs:List V}{g:lG}{tb:TS}{D:Ends}{σ:St}{H:ao}(Pv:Nat->St->ao->Prop)(h0:Pv 0 σ H)(aF:∀ i σ H,i<=xs.length->Pv i σ H->aT K H a xs)
  (aH:∀ i x σ H,xs[i]?=some x->Pv i σ H->g x σ H fun dV aB=>tb { D with cT:=Pv (i+1),ft:=Pv (i+1),jH:=D.cT } dV aB) (hd:∀ σ H,Pv xs.length σ H->D.cT σ H) :
  ∃ W:Nat->Nat->St->ao->Prop,(∃ m,W 0 m σ H)/\∀ i m σ H,W i m σ H ->
   ((jj K a).stop i H/\D.cT σ H)\/((jj K a).go i H/\∃ N:St->ao->Prop,(∀ dc H',N dc H'->∃ dT,dT<m/\W (i+1) dT dc H')/\∀ x H',(jj K a).mc i H x H'->g x σ H' fun dV aB=>tb { D with cT:=N,ft:=N,jH:=D.cT } dV aB):=by
 refine⟨fun i m σ H=>m=xs.length-i/\i<=xs.length/\Pv i σ H,⟨xs.length,by simp,eY _,h0⟩,?_⟩;rintro i m σ H ⟨rfl,hi,p⟩;have q:=aF i σ H hi p;by_cases cZ:i<xs.length
 ·refine .inr ⟨⟨xs,xs[i],q,by simp[cZ]⟩,Pv (i+1),fun dc H' p'=>⟨xs.length-(i+1),by omega,rfl,cZ,p'⟩,fun x H' y=>?_⟩;obtain⟨e,y⟩:=y;subst e;exact aH i x σ _ (y xs q) p
 ·have e:i=xs.length:=by omega
  subst e;exact .inl ⟨⟨xs,q,cG _⟩,hd σ H p⟩
theorem asw{K:cn}{a:au}{xs:List V}{g:lG}{tb:TS}{D:Ends}{σ:St}{H:ao}(Pv:Nat->St->ao->Prop)(h0:Pv 0 σ H)(aF:∀ i σ H,i<=xs.length->Pv i σ H->fM K H a xs)
  (aH:∀ i x σ H,xs[i]?=some x->Pv i σ H->g x σ H fun dV aB=>tb { D with cT:=Pv (i+1),ft:=Pv (i+1),jH:=D.cT } dV aB) (hd:∀ σ H,Pv xs.length σ H->D.cT σ H) :
  ∃ W:Nat->Nat->St->ao->Prop,(∃ m,W 0 m σ H)/\∀ i m σ H,W i m σ H ->
   ((JM K a).stop i H/\D.cT σ H)\/((JM K a).go i H/\∃ N:St->ao->Prop,(∀ dc H',N dc H'->∃ dT,dT<m/\W (i+1) dT dc H')/\∀ x H',(JM K a).mc i H x H'->g x σ H' fun dV aB=>tb { D with cT:=N,ft:=N,jH:=D.cT } dV aB):=by
 refine⟨fun i m σ H=>m=xs.length-i/\i<=xs.length/\Pv i σ H,⟨xs.length,by simp,eY _,h0⟩,?_⟩;rintro i m σ H ⟨rfl,hi,p⟩;have q:=aF i σ H hi p;by_cases cZ:i<xs.length
 ·refine .inr ⟨⟨xs,xs[i],q,by simp[cZ]⟩,Pv (i+1),fun dc H' p'=>⟨xs.length-(i+1),by omega,rfl,cZ,p'⟩,fun x H' y=>?_⟩;obtain⟨e,y⟩:=y;subst e;exact aH i x σ _ (y xs q) p
 ·have e:i=xs.length:=by omega
  subst e;exact .inl ⟨⟨xs,q,cG _⟩,hd σ H p⟩
theorem ta{lo:Int}{n:Nat}{g:lG}{tb:TS}{D:Ends}{σ:St}{H:ao}(Pv:Nat->St->ao->Prop)(h0:Pv 0 σ H)
  (aH:∀ i σ H,i<n->Pv i σ H->g (.int (lo+i)) σ H fun dV aB=>tb { D with cT:=Pv (i+1),ft:=Pv (i+1),jH:=D.cT } dV aB) (hd:∀ σ H,Pv n σ H->D.cT σ H) :
  ∃ W:Nat->Nat->St->ao->Prop,(∃ m,W 0 m σ H)/\∀ i m σ H,W i m σ H ->
   ((oK lo n).stop i H/\D.cT σ H)\/((oK lo n).go i H/\∃ N:St->ao->Prop,(∀ dc H',N dc H'->∃ dT,dT<m/\W (i+1) dT dc H')/\∀ x H',(oK lo n).mc i H x H'->g x σ H' fun dV aB=>tb { D with cT:=N,ft:=N,jH:=D.cT } dV aB):=by
 refine⟨fun i m σ H=>m=n-i/\i<=n/\Pv i σ H,⟨n,by simp,eY _,h0⟩,?_⟩;rintro i m σ H ⟨rfl,hi,p⟩;by_cases cZ:i<n
 ·refine .inr ⟨cZ,Pv (i+1),fun dc H' p'=>⟨n-(i+1),by omega,rfl,cZ,p'⟩,fun x H' y=>?_⟩;obtain⟨e,y⟩:=y;subst e y;exact aH i σ _ cZ p
 ·have e:i=n:=by omega
  subst e;exact .inl ⟨cG _,hd σ H p⟩
theorem abq{c:TT}{tb:TS}{D:Ends}{σ:St}{H:ao}(Pv:St->ao->Prop)(JQ:St->ao->Nat)(h0:Pv σ H)
  (aH:∀ σ H,Pv σ H->c σ H fun b H1=>if b=true then tb { D with cT:=fun dc H'=>Pv dc H'/\JQ dc H'<JQ σ H,ft:=fun dc H'=>Pv dc H'/\JQ dc H'<JQ σ H,jH:=D.cT } σ H1 else D.cT σ H1)
  (mono:∀ σ H Q eo,(∀ b H1,Q b H1->eo b H1)->c σ H Q->c σ H eo):ajF c tb D σ H:=by
 refine⟨fun m σ H=>m=JQ σ H/\Pv σ H,⟨_,Z,h0⟩,?_⟩;rintro m σ H ⟨rfl,p⟩;refine mono σ H _ _ (fun b H1 q=>?_) (aH σ H p);cases b with
 |true=>exact⟨_,fun dc H' ⟨p',l⟩=>⟨_,l,rfl,p'⟩,q⟩
 |false=>exact q
abbrev cO:=V->V->ao->bx->Prop
def h5(X:bR)(f:aO->aO->Sem aO)(r:cO):Prop :=
 ∀ (pins:List (au×Obj)) (s:aX) (σ:St) (H:ao) (x y:V) (v u:aO) (Q:bx),Inv X pins σ H s->RelV x v->RelV y u->r x y H Q ->
  wpAny (model X.prog X.w) X.A (f v u) (EP X pins σ Q) X.xe s
def abr(X:bR)(f:aO->Sem aO)(r:V->ao->bx->Prop):Prop :=
 ∀ (pins:List (au×Obj)) (s:aX) (σ:St) (H:ao) (x:V) (v:aO) (Q:bx),Inv X pins σ H s->RelV x v->r x H Q ->
  wpAny (model X.prog X.w) X.A (f v) (EP X pins σ Q) X.xe s
def q8(X:bR)(f:aO)(r:List V->ao->bx->Prop):Prop :=
 ∀ (pins:List (au×Obj)) (s:aX) (σ:St) (H:ao) (xs:List V) (us:dI) (Q:bx),Inv X pins σ H s->Vals xs us->r xs H Q ->
  wpAny (model X.prog X.w) X.A (call f us) (EP X pins σ Q) X.xe s
def asx(X:bR)(r:V->ao->(Bool->ao->Prop)->Prop):Prop :=
 ∀ (pins:List (au×Obj)) (s:aX) (σ:St) (H:ao) (x:V) (v:aO) (Q:Bool->ao->Prop),Inv X pins σ H s->RelV x v->r x H Q ->
  wpAny (model X.prog X.w) X.A (truthy v) (Vf X pins σ Q) X.xe s
def asy(r:cO)(Q:bx)(x y:V)(H:ao):Prop:=r x y H Q
def asz(r:cO)(tb:TE)(σ:St)(Q:bx)(x:V)(H:ao):Prop:=tb σ H (asy r Q x)
def wM(r:cO)(cN tb:TE):TE:=fun σ H Q=>cN σ H (asz r tb σ Q)
def asA(r:V->ao->bx->Prop)(Q:bx)(x:V)(H:ao):Prop:=r x H Q
def asB(r:V->ao->bx->Prop)(cN:TE):TE:=fun σ H Q=>cN σ H (asA r Q)
inductive JR(C:Int->Int->Prop)(g:Int->Int->V)(x y:V)(H:ao)(Q:bx):Prop
 |mk (i j:Int) (ex:x=.int i) (gj:y=.int j) (c:C i j) (q:Q (g i j) H)
inductive qz(g:Int->Int->V)(x y:V)(H:ao)(Q:bx):Prop
 |mk (i j:Int) (ex:x=.int i) (gj:y=.int j) (q:Q (g i j) H)
inductive ajI(g:Int->V)(x:V)(H:ao)(Q:bx):Prop
 |mk (i:Int) (ex:x=.int i) (q:Q (g i) H)
section
variable{X:bR}{a b c:Expr}{cN tb tc:TE}{pos:Pos}
theorem abt(aW:PE X a cN)(ak:PE X b tb){pins:List (au×Obj)}{s:aX}{σ:St}{H:ao}{R:V->V->ao->Prop}(I:Inv X pins σ H s)
  (h:cN σ H fun x H1=>tb σ H1 fun y aB=>R x y aB) {Q:aO->aX->Prop} {f:aO->aO->Sem aO}
  (hf:∀ v u s2 x y aB,Inv X pins σ aB s2->RelV x v->RelV y u->R x y aB->wpAny (model X.prog X.w) X.A (f v u) Q X.xe s2) :
  wpAny (model X.prog X.w) X.A (eval a X.env) (fun v fU=>wpAny (model X.prog X.w) X.A (eval b X.env) (fun u lY=>wpAny (model X.prog X.w) X.A (f v u) Q X.xe lY) X.xe fU) X.xe s:=by
 refine cJ (aW pins s σ H _ I h) fun v s1 ⟨x,H1,bk,cH,bT⟩=>?_;refine cJ (ak pins s1 σ H1 _ bk bT) fun u s2 ⟨y,aB,dJ,dm,cA⟩=>?_;exact hf v u s2 x y aB dJ cH dm cA
theorem e4{op:Operator}{r:cO}(bA:h5 X (binaryOp op) r)(aW:PE X a cN)(ak:PE X b tb):PE X (.BinOp a op b pos) (wM r cN tb):=by
 intro pins s σ H Q I h;exact wpAny_BinOp (abt aW ak I h fun v u s2 x y aB dJ cc b4 q=>bA pins s2 σ aB x y v u Q dJ cc b4 q)
theorem abu{op:UnaryOp}{r:V->ao->bx->Prop}(bA:abr X (unaryOp op) r)(aW:PE X a cN):PE X (.UnaryOp op a pos) (asB r cN):=by
 intro pins s σ H Q I h;exact UnaryOp_ (cJ (aW pins s σ H _ I h) fun v s1 ⟨x,H1,bk,cH,bT⟩=>bA pins s1 σ H1 x v Q bk cH bT)
theorem Vs{f:aO->aO->Sem aO}{C:Int->Int->Prop}{g:Int->Int->Int}
  (rule:∀ (i j:Int) (t u:Tok) (s:aX) (Q:aO->aX->Prop) (E:aO->aX->Prop),C i j->Q (.int (g i j) s.toks) { s with toks:=s.toks+1 }->wpAny (model X.prog X.w) X.A (f (.int i t) (.int j u)) Q E s) :
  h5 X f (JR C fun i j=>.int (g i j)):=by
 intro pins s σ H x y v u Q I cc b4 h;obtain⟨i,j,rfl,rfl,aU,q⟩:=h;obtain⟨t,rfl⟩:=cc;obtain⟨t',rfl⟩:=b4;exact rule i j t t' s _ _ aU ⟨.int (g i j),H,I.tok _,⟨_,rfl⟩,q⟩
theorem Bl{f:aO->aO->Sem aO}{g:Int->Int->Int}
  (rule:∀ (i j:Int) (t u:Tok) (s:aX) (Q:aO->aX->Prop) (E:aO->aX->Prop),Q (.int (g i j) s.toks) { s with toks:=s.toks+1 }->wpAny (model X.prog X.w) X.A (f (.int i t) (.int j u)) Q E s) :
  h5 X f (qz fun i j=>.int (g i j)):=by
 intro pins s σ H x y v u Q I cc b4 h;obtain⟨i,j,rfl,rfl,q⟩:=h;obtain⟨t,rfl⟩:=cc;obtain⟨t',rfl⟩:=b4;exact rule i j t t' s _ _ ⟨.int (g i j),H,I.tok _,⟨_,rfl⟩,q⟩
theorem Vt{f:aO->aO->Sem aO}{g:Int->Int->Bool}
  (rule:∀ (i j:Int) (t u:Tok) (s:aX) (Q:aO->aX->Prop) (E:aO->aX->Prop),Q (.bool (g i j)) s->wpAny (model X.prog X.w) X.A (f (.int i t) (.int j u)) Q E s) :
  h5 X f (qz fun i j=>.bl (g i j)):=by
 intro pins s σ H x y v u Q I cc b4 h;obtain⟨i,j,rfl,rfl,q⟩:=h;obtain⟨t,rfl⟩:=cc;obtain⟨t',rfl⟩:=b4;exact rule i j t t' s _ _ ⟨.bl (g i j),H,I,rfl,q⟩
def asC(i j:Int):Prop:=0<j/\j<1073741824
def ajJ(i j:Int):Prop:=0<=j/\j<=1000000/\i.natAbs<2 ^ 64
def Vu(i j:Int):Prop:=(-(2 ^ 64)<i/\i<2 ^ 64)\/(-(2 ^ 64)<j/\j<2 ^ 64)
theorem Vu.ok{i j:Int}(h:Vu i j):IntMulOk i j:=by
 rcases h with⟨h1,aC⟩|⟨h1,aC⟩
 ·exact .of_left (intBits_le_64 h1 aC)
 ·exact .of_right (intBits_le_64 h1 aC)
theorem m7:h5 X (binaryOp .Add) (qz fun i j=>.int (i+j)):=Bl fun _ _ _ _ _ _ _ q=>add_int q
theorem kv:h5 X (binaryOp .Sub) (qz fun i j=>.int (i-j)):=Bl fun _ _ _ _ _ _ _ q=>sub_int q
theorem ajK:h5 X (binaryOp .Mult) (JR Vu fun i j=>.int (i * j)):=Vs fun _ _ _ _ _ _ _ aU q=>mul_int q aU.ok
theorem asD:h5 X (binaryOp .FloorDiv) (JR asC fun i j=>.int (i / j)):=Vs fun i j _ _ _ _ _ aU q=>by
 have h1:(0:Int)<j:=aU.1;have aC:j<1073741824:=aU.2;exact floordiv_int (by omega) (by rw[Int.fdiv_eq_ediv_of_nonneg i (by omega)];exact q) (.inl (PyProof.noPylong_small (by omega)))
theorem abv:h5 X (binaryOp .Mod) (JR (fun _ j=>0<j) fun i j=>.int (i % j)):=Vs fun i j _ _ _ _ _ aU q=>by
 have h1:(0:Int)<j:=aU;exact mod_int' (by omega) (by rw[Int.fmod_eq_emod_of_nonneg i (by omega)];exact q)
theorem abw:h5 X (binaryOp .LShift) (JR ajJ fun i j=>.int (i * 2 ^ j.toNat)):=Vs fun _ _ _ _ _ _ _ aU q=>lshift_int_small aU.1 aU.2.1 aU.2.2 q
theorem abx:h5 X (binaryOp .BitAnd) (qz fun i j=>.int (Builtin.bitAnd i j)):=Bl fun _ _ _ _ _ _ _ q=>and_int q
theorem asF:h5 X (binaryOp .BitOr) (qz fun i j=>.int (Builtin.bitOr i j)):=Bl fun _ _ _ _ _ _ _ q=>or_int q
theorem Bm:h5 X (inplaceOp .Add) (qz fun i j=>.int (i+j)):=Bl fun _ _ _ _ _ _ _ q=>iadd_int q
theorem ajL:h5 X (inplaceOp .BitAnd) (qz fun i j=>.int (Builtin.bitAnd i j)):=Bl fun _ _ _ _ _ _ _ q=>iand_int q
theorem asG:h5 X (inplaceOp .BitOr) (qz fun i j=>.int (Builtin.bitOr i j)):=Bl fun _ _ _ _ _ _ _ q=>ior_int q
theorem asH{f:aO->Sem aO}{g:Int->Int}
  (rule:∀ (i:Int) (t:Tok) (s:aX) (Q:aO->aX->Prop) (E:aO->aX->Prop),Q (.int (g i) s.toks) { s with toks:=s.toks+1 }->wpAny (model X.prog X.w) X.A (f (.int i t)) Q E s) :
  abr X f (ajI fun i=>.int (g i)):=by
 intro pins s σ H x v Q I cc h;obtain⟨i,rfl,q⟩:=h;obtain⟨t,rfl⟩:=cc;exact rule i t s _ _ ⟨.int (g i),H,I.tok _,⟨_,rfl⟩,q⟩
theorem aby:abr X (unaryOp .USub) (ajI fun i=>.int (-i)):=asH fun _ _ _ _ _ q=>neg_int q
end
def ajM:V->V->Bool
 | .non,.non=>true | .non,.int _=>true | .int _,.non=>true | .non,.bl _=>true | .bl _,.non=>true | .non,.str _=>true | .str _,.non=>true
 | .int _,.int _=>true | .bl _,.bl _=>true | .str _,.str _=>true | .pH _,.pH _=>true
 | .int _,.str _=>true | .str _,.int _=>true | .bl _,.str _=>true | .str _,.bl _=>true
 |_,_=>false
def asI:cO:=fun x y H Q=>ajM x y=true/\Q (.bl (decide (x=y))) H
def asJ:cO:=fun x y H Q=>ajM x y=true/\Q (.bl (!decide (x=y))) H
theorem ajN{i j:Int}:decide (V.int i=V.int j)=(i == j):=by
 rw[Ad];simp
theorem ajO{i j:Bool}:decide (V.bl i=V.bl j)=(i == j):=by
 rw[Ad];simp
theorem ajP{i j:Str}:decide (V.str i=V.str j)=(i == j):=by
 rw[Ad];simp
theorem ajQ{i j:Array UInt8}:decide (V.pH i=V.pH j)=(i.toList == j.toList):=by
 rw[Ad];cases i;cases j;simp
section
variable{X:bR}{a b c:Expr}{cN tb tc:TE}{pos:Pos}
theorem h6{pins:List (au×Obj)}{σ:St}{H:ao}{s:aX}{Q:bx}{k k':Bool}(I:Inv X pins σ H s)(q:Q (.bl k) H)(e:k=k'):EP X pins σ Q (.bool k') s:=by
 subst e;exact⟨.bl k,H,I,Z,q⟩
theorem jN:h5 X (compareOp .Eq) asI:=by
 intro pins s σ H x y v u Q I cc b4 h;obtain⟨aH,q⟩:=h;cases x with
 |non =>
  cases cc;cases y with
  |non=>cases b4;exact PySem.EqNone.eq_none_none (h6 I q (by simp))
  |bl j=>cases b4;exact PySem.EqNone.eq_none_bool (h6 I q (by simp))
  |int j=>obtain⟨t',rfl⟩:=b4;exact PySem.EqNone.eq_none_int (h6 I q (by simp))
  |str j=>obtain⟨t',rfl⟩:=b4;exact PySem.EqNone.eq_none_str (h6 I q (by simp))
  |_=>exact absurd (show false=true from aH) jq
 |bl i =>
  cases cc;cases y with
  |non=>cases b4;exact PySem.EqNone.eq_bool_none (h6 I q (by simp))
  |bl j=>cases b4;exact eq_bool (h6 I q ajO)
  |str j=>obtain⟨t',rfl⟩:=b4;exact PySem.EqMixed.eq_bool_str (h6 I q (by simp))
  |_=>exact absurd (show false=true from aH) jq
 |int i =>
  obtain⟨t,rfl⟩:=cc;cases y with
  |non=>cases b4;exact PySem.EqNone.eq_int_none (h6 I q (by simp))
  |int j=>obtain⟨t',rfl⟩:=b4;exact eq_int (h6 I q ajN)
  |str j=>obtain⟨t',rfl⟩:=b4;exact PySem.EqMixed.eq_int_str (h6 I q (by simp))
  |_=>exact absurd (show false=true from aH) jq
 |str i =>
  obtain⟨t,rfl⟩:=cc;cases y with
  |non=>cases b4;exact PySem.EqNone.eq_str_none (h6 I q (by simp))
  |bl j=>cases b4;exact PySem.EqMixed.eq_str_bool (h6 I q (by simp))
  |int j=>obtain⟨t',rfl⟩:=b4;exact PySem.EqMixed.eq_str_int (h6 I q (by simp))
  |str j=>obtain⟨t',rfl⟩:=b4;exact eq_str (h6 I q ajP)
  |_=>exact absurd (show false=true from aH) jq
 |pH i =>
  obtain⟨t,rfl⟩:=cc;cases y with
  |pH j=>obtain⟨t',rfl⟩:=b4;exact PySem.W.eq_bytes (h6 I q ajQ)
  |_=>exact absurd (show false=true from aH) jq
 |_=>cases y<;>exact absurd (show false=true from aH) jq
theorem asK:h5 X (compareOp .NotEq) asJ:=by
 intro pins s σ H x y v u Q I cc b4 h;obtain⟨aH,q⟩:=h;cases x with
 |non =>
  cases cc;cases y with
  |non=>cases b4;exact PySem.EqNone.ne_none_none (h6 I q (by simp))
  |bl j=>cases b4;exact PySem.EqNone.ne_none_bool (h6 I q (by simp))
  |int j=>obtain⟨t',rfl⟩:=b4;exact PySem.EqNone.ne_none_int (h6 I q (by simp))
  |str j=>obtain⟨t',rfl⟩:=b4;exact PySem.EqNone.ne_none_str (h6 I q (by simp))
  |_=>exact absurd (show false=true from aH) jq
 |bl i =>
  cases cc;cases y with
  |non=>cases b4;exact PySem.EqNone.ne_bool_none (h6 I q (by simp))
  |bl j=>cases b4;exact ne_bool (h6 I q (congrArg not ajO))
  |str j=>obtain⟨t',rfl⟩:=b4;exact PySem.EqMixed.ne_bool_str (h6 I q (by simp))
  |_=>exact absurd (show false=true from aH) jq
 |int i =>
  obtain⟨t,rfl⟩:=cc;cases y with
  |non=>cases b4;exact PySem.EqNone.ne_int_none (h6 I q (by simp))
  |int j=>obtain⟨t',rfl⟩:=b4;exact ne_int (h6 I q (congrArg not ajN))
  |str j=>obtain⟨t',rfl⟩:=b4;exact PySem.EqMixed.ne_int_str (h6 I q (by simp))
  |_=>exact absurd (show false=true from aH) jq
 |str i =>
  obtain⟨t,rfl⟩:=cc;cases y with
  |non=>cases b4;exact PySem.EqNone.ne_str_none (h6 I q (by simp))
  |bl j=>cases b4;exact PySem.EqMixed.ne_str_bool (h6 I q (by simp))
  |int j=>obtain⟨t',rfl⟩:=b4;exact PySem.EqMixed.ne_str_int (h6 I q (by simp))
  |str j=>obtain⟨t',rfl⟩:=b4;exact ne_str (h6 I q (congrArg not ajP))
  |_=>exact absurd (show false=true from aH) jq
 |pH i =>
  obtain⟨t,rfl⟩:=cc;cases y with
  |pH j=>obtain⟨t',rfl⟩:=b4;exact PySem.W.ne_bytes (h6 I q (congrArg not ajQ))
  |_=>exact absurd (show false=true from aH) jq
 |_=>cases y<;>exact absurd (show false=true from aH) jq
theorem q9:h5 X (compareOp .Lt) (qz fun i j=>.bl (decide (i<j))):=Vt fun _ _ _ _ _ _ _ q=>lt_int q
theorem yt:h5 X (compareOp .LtE) (qz fun i j=>.bl (decide (i<=j))):=Vt fun _ _ _ _ _ _ _ q=>le_int q
theorem JT:h5 X (compareOp .Gt) (qz fun i j=>.bl (decide (j<i))):=Vt fun _ _ _ _ _ _ _ q=>gt_int q
theorem abz:h5 X (compareOp .GtE) (qz fun i j=>.bl (decide (j<=i))):=Vt fun _ _ _ _ _ _ _ q=>ge_int q
theorem h5.or{f:aO->aO->Sem aO}{r r':cO}(h:h5 X f r)(h':h5 X f r'):h5 X f (fun x y H Q=>r x y H Q\/r' x y H Q):=by
 intro pins s σ H x y v u Q I cc b4 q;rcases q with q|q
 ·exact h pins s σ H x y v u Q I cc b4 q
 ·exact h' pins s σ H x y v u Q I cc b4 q
theorem fe(b:Expr){op:CmpOp}(h:op≠.In:=by decide)(aC:op≠.NotIn:=by decide):behindInMarks op b=false:=by
 have bD:(op == CmpOp.In)=false:=by cases op<;>first|rfl|exact absurd rfl h
 have a8:(op == CmpOp.NotIn)=false:=by cases op<;>first|rfl|exact absurd rfl aC
 cases b<;>simp[behindInMarks,bD,a8]
theorem nQ{op:CmpOp}{r:cO}(bA:h5 X (compareOp op) r)(aW:PE X a cN)(ak:PE X b tb)(hm:behindInMarks op b=false):PE X (.Compare a [op] [b] pos) (wM r cN tb):=by
 intro pins s σ H Q I h;exact wpAny_Compare1 (abt aW ak I h fun v u s2 x y aB dJ cc b4 q=>bA pins s2 σ aB x y v u Q dJ cc b4 q) hm
def asL(t:TE):TT:=fun σ H Q=>t σ H (ajx Q)
theorem gK{op:CmpOp}{r:cO}(bA:h5 X (compareOp op) r)(aW:PE X a cN)(ak:PE X b tb)(hm:behindInMarks op b=false):pJ X (.Compare a [op] [b] pos) (asL (wM r cN tb)):=by
 intro pins s σ H Q I h;refine wpAny_isTrue_Compare1 (cJ (aW pins s σ H _ I h) fun v s1 ⟨x,H1,bk,cH,bT⟩=>cJ (ak pins s1 σ H1 _ bk bT) fun u s2 ⟨y,aB,dJ,dm,cA⟩ =>
  cJ (bA pins s2 σ aB x y v u _ dJ cH dm cA) fun c s3 ⟨z,aJ,eU,d2,k,e,dY⟩=>?_) hm
 subst e;cases d2;exact wpAny_truthy_bool ⟨aJ,eU,dY⟩
def abA(K:cn)(x:V)(H:ao)(k:Bool):Prop :=
 match x with
 | .non=>k=false
 | .bl b=>k=b
 | .int i=>k=(i != 0)
 | .str y=>y.length<=sizeLine/\k=((y.length:Int) != 0)
 | .pH y=>y.size<=sizeLine/\k=((y.size:Int) != 0)
 | .ref p=>(∃ xs,aT K H p xs/\k=!xs.isEmpty)\/(∃ xs,fM K H p xs/\k=!xs.isEmpty)\/∃ kvs,H p=some (.dW kvs)/\k=!kvs.isEmpty
 |_=>False
theorem asM{eF:Type}{kvs:List (eF×V)}{vs:List (eF×aO)}(r:KV kvs vs):(!vs.isEmpty)=!kvs.isEmpty:=by
 cases r<;>rfl
theorem ajR{xs:List V}{its:dI}(r:Vals xs its):(!its.toArray.isEmpty)=!xs.isEmpty:=by
 cases r<;>simp
theorem Bo:(sizeLine:Nat)<2 ^ 63:=by rw[sizeLine_eq];decide
theorem asN:asx X (fun x H Q=>∃ k,abA X.K x H k/\Q k H):=by
 intro pins s σ H x v Q I cc h;obtain⟨k,e,q⟩:=h;have aF:=Bo;have aH:sizeLine=16777216:=sizeLine_eq;cases x with
 |non =>
  cases cc;have e':k=false:=e;subst e';exact truthy_none ⟨H,I,q⟩
 |bl b =>
  cases cc;have e':k=b:=e;subst e';exact wpAny_truthy_bool ⟨H,I,q⟩
 |int i =>
  obtain⟨t,rfl⟩:=cc;have e':k=(i != 0):=e;subst e';exact PySem.P.truthy_int ⟨H,I,q⟩
 |str y =>
  obtain⟨t,rfl⟩:=cc;obtain⟨aP,e'⟩:y.length<=sizeLine/\k=((y.length:Int) != 0):=e;subst e';exact PySem.P.truthy_str (by omega) ⟨H,I.tok _,q⟩
 |pH y =>
  obtain⟨t,rfl⟩:=cc;obtain⟨aP,e'⟩:y.size<=sizeLine/\k=((y.size:Int) != 0):=e;subst e';exact PySem.W.truthy_bytes (by omega) ⟨H,I.tok _,q⟩
 |ref p =>
  cases cc;have e':(∃ xs,aT X.K H p xs/\k=!xs.isEmpty)\/(∃ xs,fM X.K H p xs/\k=!xs.isEmpty)\/∃ kvs,H p=some (.dW kvs)/\k=!kvs.isEmpty:=e;rcases e' with⟨xs,aq,e'⟩|⟨xs,aq,e'⟩|⟨kvs,aq,e'⟩
  ·subst e';obtain⟨its,r,pl,hz⟩:=I.list aq;have hlen:=r.length;exact wpAny_truthy_list pl.isList (by simp only[iC];omega) ⟨H,I.tok _,by rw[ajR r];exact q⟩
  ·subst e';obtain⟨its,r,pl,hz⟩:=I.tuple aq;have hlen:=r.length;exact truthy_tuple pl (by simp only[iC];omega) ⟨H,I.tok _,by rw[ajR r];exact q⟩
  ·subst e';obtain⟨hz,dZ,vs,r,m⟩:kvs.length<=sizeLine/\(p == sysModules)=false/\∃ vs,KV kvs vs/\s.heap.DictOf (iR X.prog X.w) p vs:=I.bK p _ aq;have hlen:kvs.length=vs.length:=Paired.length r;exact wpAny_truthy_dict dZ m (by omega) ⟨H,I.tok _,by rw[asM r];exact q⟩
 |_=>exact(show False from e).elim
theorem Bp(aW:PE X a cN)(he:∀ whole,isTrue a X.env whole=(do let v ← whole;standAt a.pos;holding [v] (truthy v))) :
  pJ X a (fun σ H Q=>cN σ H fun x H'=>∃ k,abA X.K x H' k/\Q k H'):=by
 intro pins s σ H Q I h;exact isTrue_plain (cJ (aW pins s σ H _ I h) fun v s1 ⟨x,H1,bk,cH,bT⟩=>asN pins s1 σ H1 x v Q bk cH bT) (he _)
theorem vals1{x:V}{us:dI}(r:Vals [x] us):∃ u,us=[u]/\RelV x u:=by
 cases r with
 |cons cH dm=>cases dm;exact⟨_,Z,cH⟩
theorem vals2{x y:V}{us:dI}(r:Vals [x,y] us):∃ u w',us=[u,w']/\RelV x u/\RelV y w':=by
 cases r with
 |cons cH dm =>
  cases dm with
  |cons d2 jM=>cases jM;exact⟨_,_,Z,cH,d2⟩
end
structure Bq(h:Heap)(x dx C:au)(gF:g9):Prop where
 obj:h.get? x=some (PySem.W.instObj C dx)
 ns:h.Ns1 dx gF
 ne:dx≠x
theorem asO{h:Heap}{dx:au}{gF:g9}(n:h.Ns1 dx gF):∃ hP,h.get? dx=some hP/\∀ name,PySem.W.lookIn name hP=some (gF name):=by
 obtain⟨o,es,ep,bA,hd,aN,_,hm⟩:=n;refine⟨o,bA,fun name=>?_⟩;have e:=hm name;unfold nsFind findBy at e;rw[← Array.find?_toList]at e;unfold PySem.W.lookIn;rw[hd];dsimp only;split
 ·rename_i y q;rw[q]at e;exact congrArg some e
 ·rename_i q;rw[q]at e;have a:es.toList.any (·.refKey)=false:=by
   rw[List.any_eq_false];intro y aP;obtain⟨z,t,asQ⟩:=aN y (Array.mem_toList_iff.mp aP);simp[DictEntry.refKey,asQ]
  have a':¬ es.toList.any (·.refKey)=true:=by rw[a];exact jq
  rw[bw a'];exact congrArg some e
theorem Bq.look{h:Heap}{x dx C:au}{gF:g9}(I:Bq h x dx C gF):∃ hP,PySem.W.InstAt h x (PySem.W.instObj C dx) C (some hP)/\∀ name,PySem.W.lookIn name hP=some (gF name) :=
 let ⟨hP,bA,aF⟩:=asO I.ns
 ⟨hP,⟨I.obj,rfl,rfl,bA⟩,aF⟩
section
variable{prog:fw}{w:e3}{A:Around}{E:aO->aX->Prop}{s:aX}{K:cn}{x dx C f:au}{gF:g9}{name:Str}{v:aO}
theorem get_map{expr:Bool}{Q:aO->aX->Prop}(X:K.In s.heap)(I:Bq s.heap x dx C gF)(b5:PySem.W.plainGet K C name=true)(hh:PySem.W.hasDictIn K C=true)
  (aW:PySem.W.findIn K (.ref C) name=some none) (aZ:gF name=some v) (asR:PySem.W.handedIn v=true) (h:Q v { s with toks:=s.toks+1 }) :
  wpAny (model prog w) A (getAttr (.ref x) name expr) Q E s:=by
 obtain⟨hP,J,aF⟩:=I.look;exact PySem.W.get_value X J (PySem.W.plainGet_of b5).1 (PySem.W.findObj_own hh aW rfl (by rw[aF,aZ])) asR h
theorem asS{pl:Sem Bool}{Q:aO×dI->aX->Prop}(X:K.In s.heap)(I:Bq s.heap x dx C gF)(b5:PySem.W.plainGet K C name=true)
  (hf:PySem.W.findIn K (.ref C) name=some (some (.ref f))) (b_:PySem.W.isFn K (.ref f)=true) (aZ:gF name=none) (h:Q (.ref f,[.ref x]) s) :
  wpAny (model prog w) A (getMethod (.ref x) name pl) Q E s:=by
 obtain⟨hP,J,aF⟩:=I.look;exact PySem.W.method_fn X J (PySem.W.plainGet_of b5).1 (PySem.W.plainGet_of b5).2 hf (v9.mp b_) (by show(PySem.W.lookIn name hP).map (·.isSome)=some false;rw[aF,aZ];rfl) h
theorem asT{ns:List Str}{Q:Unit->aX->Prop}(X:K.In s.heap)(I:Bq s.heap x dx C gF)
  (aH:PySem.W.findIn K (.ref C) "__setattr__"=some (some (.builtin "object.__setattr__"))) (aL:PySem.W.plainOver K C=true) (b_:PySem.W.takerIn K C name=some none) (hh:PySem.W.hasDictIn K C=true)
  (hw:PySem.Within gF ns) (hsz:ns.length<=sizeLine)
  (h:∀ h',Bq h' x dx C (fun y=>if y=name then some v else gF y)->Heap.SameBut dx s.heap h'->Q () { s with heap:=h',toks:=s.toks+2 }) :
  wpAny (model prog w) A (setAttr (.ref x) name v) Q E s:=by
 obtain⟨hP,J,aF⟩:=I.look;refine PySem.W.set_plain X J aH (PySem.W.osa_open (s:={ s with toks:=s.toks+1 }) (r:=none) X J aL b_ fun b=>?_);obtain⟨cd,aU,lC⟩:=PySem.W.any_some hh;have aq:s.heap.get? x=some ⟨.ref C,some dx,.plain,#[]⟩:=I.obj;refine wpAny_bind (wpAny_pure (wpAny_bind (wpAny_bind (wpAny_loadPart aq (wpAny_bind (PySem.W.Looks.here (s:={ s with toks:=s.toks+1 }) (PySem.W.looks_clsIn X aU) ?_))))));rw[lC];refine wpAny_pure (a:=some dx) (wpAny_bind (wpAny_pure (wpAny_bind ?_)));refine wpAny_nsSet1 (s:={ s with toks:=s.toks+1 }) I.ns fun h' m8 lH=>?_;obtain⟨aG5,aG6,aG7,asU,asV,asW⟩:=m8.count (PySem.Within.cons name v hw);refine wpAny_bind (wpAny_lookBehind asU (by rw[asV];exact pastItsLine_dict (jf asW (by rw[ek];omega))) ?_);exact wpAny_pure (h _ ⟨(lH.2 _ (Ne.symm I.ne)).trans I.obj,m8,I.ne⟩ lH)
theorem asY{R:Result->aX->Prop}{vs:dI}{kw:List (Str×aO)}(X:K.In s.heap)(hm:PySem.W.makesIn K C=true)
  (hi:PySem.W.findIn K (.ref C) "__init__"=some (some (.ref f))) (hf:PySem.W.typeIn K (.ref f)=some (.type "function"))
  (h:codeAny (model prog w) (A.under (.builtin "type.__call__" ⟨.ref C::vs,kw⟩)) (.call (.ref f) ⟨.ref (s.heap.objs.size+1)::vs,kw⟩) (PySem.W.InitBack (s.heap.objs.size+1) R)
   { s with heap:=(s.heap.push PySem.W.emptyDict).push (PySem.W.instObj C s.heap.objs.size) }) :
  codeAny (model prog w) A (.call (.ref C) ⟨vs,kw⟩) R s:=by
 obtain⟨hh,g,d,t,os⟩:=s;exact PySem.W.make_core (PySem.W.makes_of X hm) (PySem.W.looks_findIn X hi) (fun self=>PySem.W.bind_fn X self hf) (.inl rfl) h
end
def cB(f:Str)(v:V):List (Str×V)->List (Str×V)
 | []=>[(f,v)]
 |(g,x)::r=>if g=f then(g,v)::r else(g,x)::cB f v r
theorem ajS(f g:Str)(v:V):∀ fs:List (Str×V),(cB f v fs).lookup g=if g=f then some v else fs.lookup g
 | []=>by
  show List.lookup g [(f,v)]=_;by_cases h:g=f
  ·have ak:(g == f)=true:=v9.mpr h
   simp only[List.lookup,ak,bL h]
  ·have ak:(g == f)=false:=beq_eq_false_iff_ne.mpr h
   simp only[List.lookup,ak,bw h]
 |(k,x)::r=>by
  have bU:=ajS f g v r;rw[show cB f v ((k,x)::r)=(if k=f then(k,v)::r else(k,x)::cB f v r) from rfl];by_cases aN:k=f
  ·rw[bL aN];by_cases h:g=k
   ·have ak:(g == k)=true:=v9.mpr h
    simp only[List.lookup,ak,bL (h.trans aN)]
   ·have ak:(g == k)=false:=beq_eq_false_iff_ne.mpr h
    simp only[List.lookup,ak,bw (fun e:g=f=>h (e.trans aN.symm))]
  ·rw[bw aN];by_cases h:g=k
   ·have ak:(g == k)=true:=v9.mpr h
    simp only[List.lookup,ak,bw (fun e:g=f=>aN (h.symm.trans e))]
   ·have ak:(g == k)=false:=beq_eq_false_iff_ne.mpr h
    simp only[List.lookup,ak];exact bU
theorem abB(f:Str)(v:V):∀ fs:List (Str×V),f∈(cB f v fs).map (·.1)/\∀ g,g∈fs.map (·.1)->g∈(cB f v fs).map (·.1)
 | []=>⟨by simp[cB],fun g h=>by simp at h⟩
 |(k,x)::r=>by
  obtain⟨i1,i2⟩:=abB f v r;rw[show cB f v ((k,x)::r)=(if k=f then(k,v)::r else(k,x)::cB f v r) from rfl];by_cases aN:k=f
  ·rw[bL aN];subst aN;exact⟨by simp,fun g h=>by simpa using h⟩
  ·rw[bw aN];refine⟨?_,fun g h=>?_⟩
   ·rw[fT];exact hZ _ i1
   ·rw[fT]at h ⊢;rcases gQ.mp h with e|e
    ·exact gQ.mpr (.inl e)
    ·exact hZ _ (i2 g e)
theorem ajT(f:Str)(v:V):∀ fs:List (Str×V),(cB f v fs).length<=fs.length+1
 | []=>by simp[cB]
 |(k,x)::r=>by
  have bU:=ajT f v r;rw[show cB f v ((k,x)::r)=(if k=f then(k,v)::r else(k,x)::cB f v r) from rfl];by_cases aN:k=f
  ·rw[bL aN,ek,ek];omega
  ·rw[bw aN,ek,ek];omega
theorem mZ.some_of{v:V}{o:Option aO}(r:mZ (some v) o):∃ u,o=some u/\RelV v u:=by
 cases o with
 |none=>exact(show False from r).elim
 |some u=>exact⟨u,Z,r⟩
theorem mZ.none_of{o:Option aO}(r:mZ none o):o=none:=by
 cases o with
 |none=>rfl
 |some u=>exact(show False from r).elim
theorem asZ{v:V}{u:aO}(r:RelV v u):PySem.W.handedIn u=true:=by
 cases v with
 |non=>cases (show u=Value.none from r);rfl
 |bl b=>cases (show u=Value.bool b from r);rfl
 |int i=>obtain⟨t,e⟩:=(show ∃ t,u=Value.int i t from r);cases e;rfl
 |str x=>obtain⟨t,e⟩:=(show ∃ t,u=Value.str x t from r);cases e;rfl
 |pH b=>obtain⟨t,e⟩:=(show ∃ t,u=Value.bytes b t from r);cases e;rfl
 |Jx b=>obtain⟨t,e⟩:=(show ∃ t,u=Value.float b t from r);cases e;rfl
 |ref a=>cases (show u=Value.ref a from r);rfl
 |ty n=>cases (show u=Value.type n from r);rfl
section
variable{P:fw}{w:e3}{H H':ao}{h h':Heap}{a C dx:au}{fs A_:List (Str×V)}
theorem abC(bK:hs P w H h)(e:H a=some (.ins C dx fs)):∃ gF,Bq h a dx C gF/\(∀ f,mZ (fs.lookup f) (gF f))/\PySem.Within gF (fs.map (·.1))/\fs.length<=1000/\H dx=some (.own a):=by
 obtain⟨d,z,ne,cX,gF,n,r,q⟩:=(show hO P w H h a (.ins C dx fs) from bK a _ e);exact⟨gF,⟨cX,n,ne⟩,r,q,z,d⟩
end
structure iT(K:cn)(C:au):Prop where
 yu:PySem.W.plainGet K C Str.empty=true
 hd:PySem.W.hasDictIn K C=true
 po:PySem.W.plainOver K C=true
 bF:PySem.W.findIn K (.ref C) "__setattr__"=some (some (.builtin "object.__setattr__"))
theorem iT.get{K:cn}{C:au}(c:iT K C)(f:Str):PySem.W.plainGet K C f=true:=c.yu
def cP(K:cn)(C:au)(f:Str):Prop:=PySem.W.findIn K (.ref C) f=some none
theorem cP.as3{K:cn}{C:au}{f:Str}(n:cP K C f):PySem.W.takerIn K C f=some none:=by
 unfold PySem.W.takerIn;rw[show PySem.W.findIn K (.ref C) f=some none from n];rfl
structure Meth(K:cn)(C:au)(m:Str)(f:au):Prop where
 at_:PySem.W.findIn K (.ref C) m=some (some (.ref f))
 fn:PySem.W.isFn K (.ref f)=true
 aG:PySem.W.keepIn K (.ref f)=true
section
variable{X:bR}{pins:List (au×Obj)}{σ:St}{H:ao}{s:aX}{a C dx:au}{fs:List (Str×V)}{f:Str}{v:V}{A:Around}{E:aO->aX->Prop}
theorem ajU{b:Bool}{Q:aO->aX->Prop}(I:Inv X pins σ H s)(e:H a=some (.ins C dx fs))(c:iT X.K C)(n:cP X.K C f)(l:fs.lookup f=some v)
  (h:∀ u s',Inv X pins σ H s'->RelV v u->Q u s'):wpAny (model X.prog X.w) A (getAttr (.ref a) f b) Q E s:=by
 obtain⟨gF,O,r,_,_,_⟩:=abC I.bK e;obtain⟨u,cD,hn⟩:=mZ.some_of (v:=v) (o:=gF f) (by rw[← l];exact r f);exact get_map I.jJ O (c.get f) c.hd n cD (asZ hn) (h u _ (I.tok _) hn)
theorem abD{m:Str}{g:au}{pl:Sem Bool}{Q:aO×dI->aX->Prop}(I:Inv X pins σ H s)(e:H a=some (.ins C dx fs))(c:iT X.K C)(k:Meth X.K C m g)(l:fs.lookup m=none)
  (h:Q (.ref g,[.ref a]) s):wpAny (model X.prog X.w) A (getMethod (.ref a) m pl) Q E s:=by
 obtain⟨gF,O,r,_,_,_⟩:=abC I.bK e;have aR:gF m=none:=mZ.none_of (by rw[← l];exact r m);exact asS I.jJ O (c.get m) k.at_ k.fn aR h
theorem ajV{y:V}{u:aO}{Q:Unit->aX->Prop}(I:Inv X pins σ H s)(e:H a=some (.ins C dx fs))(c:iT X.K C)(n:cP X.K C f)(aF:fs.length<1000)(b4:RelV y u)
  (h:∀ s',Inv X pins σ (upd H a (.ins C dx (cB f y fs))) s'->Q () s'):wpAny (model X.prog X.w) A (setAttr (.ref a) f u) Q E s:=by
 obtain⟨gF,O,r,kY,_,bA⟩:=abC I.bK e;have hz:(fs.map (·.1)).length<=sizeLine:=by rw[ew,sizeLine_eq];omega
 refine asT I.jJ O c.bF c.po n.as3 c.hd kY hz fun h' abE fV=>h _ ?_;have hd:∃ o,h'.get? dx=some o:=let ⟨o,_,_,e',_⟩:=abE.ns;⟨o,e'⟩
 refine I.write (x:=a) (e:=dx) (by rw[e];exact True.intro) (.inr bA) (fun b q ak z=>(fV.2 b ak).trans z) hd ?_;refine⟨by rw[a6 O.ne];exact bA,?_,O.ne,abE.obj,_,abE.ns,fun g=>?_,fun g b5=>?_⟩
 ·have:=ajT f y fs;omega
 ·show mZ ((cB f y fs).lookup g) (if g=f then some u else gF g);rw[ajS];by_cases q:g=f
  ·rw[bL q,bL q];exact b4
  ·rw[bw q,bw q];exact r g
 ·by_cases q:g=f
  ·rw[q];exact(abB f y fs).1
  ·refine(abB f y fs).2 g (kY g fun z=>b5 ?_);show(if g=f then some u else gF g)=none;rw[bw q];exact z
theorem Inv.made(I:Inv X pins σ H s):Inv X pins σ (upd (upd H s.heap.objs.size (.own (s.heap.objs.size+1))) (s.heap.objs.size+1) (.ins C s.heap.objs.size []))
  { s with heap:=(s.heap.push PySem.W.emptyDict).push (PySem.W.instObj C s.heap.objs.size) }:=by
 have bD:(s.heap.push PySem.W.emptyDict).get? s.heap.objs.size=some PySem.W.emptyDict:=lU s.heap rfl;have a8:((s.heap.push PySem.W.emptyDict).push (PySem.W.instObj C s.heap.objs.size)).get? (s.heap.objs.size+1)=some (PySem.W.instObj C s.heap.objs.size):=by
  have:=lU (s.heap.push PySem.W.emptyDict) (o:=PySem.W.instObj C s.heap.objs.size) rfl
  rwa [qZ]at this
 have dr:(s.heap.push PySem.W.emptyDict).Ns s.heap.objs.size (fun _=>none):=⟨PySem.W.emptyDict,#[],_,bD,rfl,(fun e he=>absurd he (by simp)),fun _=>rfl⟩;have bk:=I.laid (a:=s.heap.objs.size) (o:=.own (s.heap.objs.size+1)) (h':=s.heap.push PySem.W.emptyDict) (t':=s.toks) (fun b u q=>iB _ q) (cG _) ⟨_,bD⟩;refine bk.laid (a:=s.heap.objs.size+1) (o:=.ins C s.heap.objs.size []) (t':=s.toks) (fun b u q=>iB _ q) (Ai (qZ _ _)) ?_;have ne:s.heap.objs.size≠s.heap.objs.size+1:=gR (vX _);refine⟨by rw[a6 ne,a7],eY _,ne,a8,fun _=>none,(Heap.Ns1.of_empty dr).at fun o q=>iB _ q,fun _=>True.intro,fun y aP=>absurd rfl aP⟩
theorem as4{prog:fw}{w:e3}{env:Env}{e:Expr}{f:Str}{pos:Pos}{s:aX}{Q:aO->aX->Prop}(ak:attributeBase e f env (eval e env)=eval e env)
  (h:wpAny (model prog w) A (eval e env) (fun o fU=>wpAny (model prog w) A (getAttr o f true) Q E fU) E s):wpAny (model prog w) A (eval (.Attribute e f pos) env) Q E s :=
 Attribute_any_ h (by rw[arm_eval_Attribute,ak])
end
inductive as5(K:cn)(f:Str)(Q:bx)(x:V)(H:ao):Prop
 |mk (a C dx:au) (fs:List (Str×V)) (v:V) (ex:x=.ref a) (e:H a=some (.ins C dx fs)) (c:iT K C) (n:cP K C f) (l:fs.lookup f=some v) (q:Q v H)
def Vv(K:cn)(cN:TE)(f:Str):TE:=fun σ H Q=>cN σ H (as5 K f Q)
inductive as6(K:cn)(f:Str)(D:Ends)(σ:St)(y x:V)(H:ao):Prop
 |mk (a C dx:au) (fs:List (Str×V)) (ex:x=.ref a) (e:H a=some (.ins C dx fs)) (c:iT K C) (n:cP K C f) (l:fs.length<1000) (q:D.cT σ (upd H a (.ins C dx (cB f y fs))))
def as7(K:cn)(cN:TE)(f:Str)(D:Ends)(σ:St)(y:V)(H:ao):Prop:=cN σ H (as6 K f D σ y)
def as8(K:cn)(cN q_:TE)(f:Str):TS:=fun D σ H=>q_ σ H (as7 K cN f D σ)
def ajW(X:bR)(op:Operator)(rd:V->V->ao->bx->Prop):Prop :=
 ∀ (pins:List (au×Obj)) (s:aX) (σ:St) (H:ao) (x y:V) (u v:aO) (Q:bx),Inv X pins σ H s->RelV x u->RelV y v->rd x y H Q->wpAny (model X.prog X.w) X.A (inplaceOp op u v) (EP X pins σ Q) X.xe s
def as9(K:cn)(cN q_:TE)(rd:V->V->ao->bx->Prop)(f:Str):TS:=fun D σ H=>cN σ H fun x H1=>∃ a C dx fs v,x=.ref a/\H1 a=some (.ins C dx fs)/\iT K C/\cP K C f/\fs.lookup f=some v /\
 q_ σ H1 fun y aB=>rd v y aB fun z aJ=>∃ Br A_,aJ a=some (.ins C Br A_)/\A_.length<1000/\D.cT σ (upd aJ a (.ins C Br (cB f z A_)))
section
variable{X:bR}{o e value:Expr}{f:Str}{pos pos' r7:Pos}{cN q_:TE}
theorem bO(he:PE X e cN)(ak:attributeBase e f X.env (eval e X.env)=eval e X.env):PE X (.Attribute e f pos) (Vv X.K cN f):=by
 intro pins s σ H Q I h;refine as4 ak (cJ (he pins s σ H _ I h) fun u s1 ⟨x,H1,bk,cc,a,C,dx,fs,v,ex,ha,c,n,l,q⟩=>?_);subst ex;obtain rfl:u=Value.ref a:=cc;exact ajU bk ha c n l fun u' s2 dJ hn=>⟨v,H1,dJ,hn,q⟩
theorem eV(aW:PE X o cN)(aZ:PE X value q_)(aH:swapsWith value (some (.Attribute o f pos')) pos.line X.env=pure false):PS X (.Assign [.Attribute o f pos'] value pos) (as8 X.K cN q_ f):=by
 intro pins s σ H D I h;refine plainObj_wpAny_Assign_Attribute (cJ (aZ pins s σ H _ I h) fun u s1 ⟨y,H1,bk,b4,q⟩=>cJ (aW pins s1 σ H1 _ bk q) fun f3 s2 ⟨x,aB,dJ,cc,a,C,dx,fs,ex,ha,c,n,l,cA⟩=>?_) aH;subst ex;obtain rfl:f3=Value.ref a:=cc;exact ajV dJ ha c n l b4 fun s3 eU=>⟨σ,_,eU,cA⟩
theorem ajX{op:Operator}{rd:V->V->ao->bx->Prop}(aW:PE X o cN)(aZ:PE X value q_)(as_:ajW X op rd):PS X (.AugAssign (.Attribute o f r7) op value pos) (as9 X.K cN q_ rd f):=by
 intro pins s σ H D I h;refine wpAny_AugAssign_AttributeAny (cJ (aW pins s σ H _ I h) fun f3 s1 ⟨x,H1,bk,cc,a,C,dx,fs,v,ex,ha,c,n,l,q⟩=>?_);subst ex;obtain rfl:f3=Value.ref a:=cc;refine ajU bk ha c n l fun u s2 dJ hn=>cJ (aZ pins s2 σ H1 _ dJ q) fun w3 s3 ⟨y,aB,eU,b4,dY⟩=>cJ (as_ pins s3 σ aB v y u w3 _ eU hn b4 dY) fun aG8 s4 ⟨z,aJ,l0,Fv,Br,A_,ata,l',hG⟩=>?_;exact ajV l0 ata c n l' Fv fun s5 uX=>⟨σ,_,uX,hG⟩
inductive atb(x y:V)(H:ao)(Q:bx):Prop
 |mk (i j:Int) (ex:x=.int i) (gj:y=.int j) (q:Q (.int (i+j)) H)
theorem ajY:ajW X .Add atb:=by
 rintro pins s σ H x y u v Q I cc b4 ⟨i,j,rfl,rfl,q⟩;obtain⟨t,rfl⟩:=(show ∃ t,u=Value.int i t from cc);obtain⟨t',rfl⟩:=(show ∃ t',v=Value.int j t' from b4);exact PyProof.Rows.iadd_int ⟨.int (i+j),H,I.tok _,⟨_,rfl⟩,q⟩
theorem aG9{pl:Sem Bool}{m:Str}{apos:Pos}{args:List Expr}{pins:List (au×Obj)}{s:aX}{σ:St}{H:ao}{Q:aO->aX->Prop}{te:TE}(he:PE X e te)(I:Inv X pins σ H s)
  (h:te σ H fun x H1=>∃ a C dx fs g,x=.ref a/\H1 a=some (.ins C dx fs)/\iT X.K C/\Meth X.K C m g/\fs.lookup m=none /\
   ∀ s1,Inv X pins σ H1 s1->wpAny (model X.prog X.w) X.A (callWith pos (.ref g) [.ref a] (backTo pos (starEach args X.env)) (backToKw pos (keywordEach [] X.env))) Q X.xe s1)
  (b_:eval (.Call (.Attribute e m apos) args [] pos) X.env=(do
   let f3 ← eval e X.env
   standAt apos.atName
   let (f,first) ← holding [f3] (getMethod f3 m pl)
   callWith pos f first (backTo pos (starEach args X.env)) (backToKw pos (keywordEach [] X.env)))) :
  wpAny (model X.prog X.w) X.A (eval (.Call (.Attribute e m apos) args [] pos) X.env) Q X.xe s:=by
 refine PySem.W.methodCall_KW (pl:=pl) (cJ (he pins s σ H _ I h) fun u s1 ⟨x,H1,bk,cc,a,C,dx,fs,g,ex,ha,c,k,l,q⟩=>?_) b_;subst ex;obtain rfl:u=Value.ref a:=cc;exact abD bk ha c k l (q s1 bk)
end
structure hH(k:Nat)(A:Around):Prop where
 hd:A.handled=none
 Vw:A.depth+3 * k+5<recursionLimit
 un:A.units+16 * k+200<cLine
theorem hH.mono{j k:Nat}{A:Around}(r:hH k A)(h:j<=k):hH j A:=⟨r.hd,by have:=r.Vw;omega,by have:=r.un;omega⟩
theorem hH.deeper{k:Nat}{A:Around}(r:hH (k+1) A)(env:Env):hH k (A.deeper env) :=
 ⟨r.hd,by have:=r.Vw;show A.depth+1+3 * k+5<_;omega,by have:=r.un;show A.units+3+16 * k+200<_;omega⟩
theorem atc{A:Around}{C:au}{us:dI}{kw:List (Str×aO)}:(A.under (.builtin "type.__call__" ⟨.ref C::us,kw⟩)).depth=A.depth+1:=by
 first|rfl|simp[Around.under,Code.weight,Code.isCreation,Code.isGuard,Code.isCaller,Code.frames,Code.isFrame,guardIds]
theorem atd{A:Around}{C:au}{us:dI}{kw:List (Str×aO)}:(A.under (.builtin "type.__call__" ⟨.ref C::us,kw⟩)).units=A.units+1:=by
 first|rfl|simp[Around.under,Code.cUnits,Code.frames,Code.isFrame]
theorem hH.make{k:Nat}{A:Around}(r:hH (k+1) A)(C:au)(us:dI)(kw:List (Str×aO)):hH k (A.under (.builtin "type.__call__" ⟨.ref C::us,kw⟩)) :=
 ⟨r.hd,by have:=r.Vw;rw[atc];omega,by have:=r.un;rw[atd];omega⟩
theorem hH.depth{k:Nat}{A:Around}(r:hH k A):A.depth<recursionLimit:=by have:=r.Vw;omega
theorem hH.units{k:Nat}{A:Around}(r:hH k A):A.units+64<cLine:=by have:=r.un;omega
theorem hH.ate{k:Nat}{A:Around}(r:hH k A):A.units<cLine:=by have:=r.un;omega
def m9:TA:=fun _ H Q=>Q [] H
def atf(Q:List V->ao->Prop)(x:V)(xs:List V)(H:ao):Prop:=Q (x::xs) H
def atg(tr:TA)(σ:St)(Q:List V->ao->Prop)(x:V)(H:ao):Prop:=tr σ H (atf Q x)
def nR(cN:TE)(tr:TA):TA:=fun σ H Q=>cN σ H (atg tr σ Q)
section
variable{X:bR}{e:Expr}{es:List Expr}{te:TE}{t:TA}{pos:Pos}
theorem aM:PA X [] m9:=fun _ _ _ _ H Q I h=>Calls.spliced_nil ⟨[],H,I,.nil,h⟩
theorem aD(aW:PE X e te)(aA:PA X es t)(aH:starEach (e::es) X.env=(false,eval e X.env)::starEach es X.env:=by rfl):PA X (e::es) (nR te t):=by
 intro pos pins s σ H Q I h;rw[aH];show wpAny _ _ (spliced ((false,eval e X.env)::backTo pos (starEach es X.env))) _ _ s;refine Calls.spliced_cons (cJ (aW pins s σ H _ I h) fun u s1 ⟨x,H1,bk,cH,bT⟩=>?_);exact cJ (aA pos pins s1 σ H1 _ bk bT) fun us s2 ⟨xs,aB,dJ,dm,cA⟩=>⟨x::xs,aB,dJ,.cons cH dm,cA⟩
def ath(Q:bx)(xs:List V)(H:ao):Prop:=xs.length<=sizeLine/\∀ p,H p=none->Q (.ref p) (upd H p (.tup xs))
def ati(t:TA):TE:=fun σ H Q=>t σ H (ath Q)
def atj(Q:bx)(xs:List V)(H:ao):Prop:=xs.length<=sizeLine/\∀ p,H p=none->Q (.ref p) (upd H p (.lst xs))
def atk(t:TA):TE:=fun σ H Q=>t σ H (atj Q)
theorem r9{x1}(h:PA X es t):PE X (.Tuple es x1 pos) (ati t):=by
 intro pins s σ H Q I a0;refine wpAny_Tuple_spliced (cJ (h pos pins s σ H _ I a0) fun us s1 ⟨xs,H1,bk,r,z,q⟩=>⟨by rw[← r.length];exact z,?_⟩);have hf:H1 s1.heap.objs.size=none:=bk.bK.fresh (cG _);refine⟨.ref s1.heap.objs.size,upd H1 s1.heap.objs.size (.tup xs),bk.laid (t':=s1.toks) (fun b u e=>iB _ e) (cG _) ?_,Z,q _ hf⟩;exact⟨z,us,r,⟨_,lU _ rfl,Z,_,Z⟩⟩
theorem hb(h:PA X es t):PE X (.List es pos) (atk t):=by
 intro pins s σ H Q I a0;refine wpAny_List_spliced (cJ (h pos pins s σ H _ I a0) fun us s1 ⟨xs,H1,bk,r,z,q⟩=>⟨by rw[← r.length];exact z,?_⟩);have hf:H1 s1.heap.objs.size=none:=bk.bK.fresh (cG _);refine⟨.ref s1.heap.objs.size,upd H1 s1.heap.objs.size (.lst xs),bk.laid (t':=s1.toks) (fun b u e=>iB _ e) (cG _) ?_,Z,q _ hf⟩;exact⟨z,us,0,r,lU _ rfl⟩
end
abbrev eX:=List V->ao->bx->cM->Prop
abbrev tg:=List Env->ao->aX->cM->aO->aX->Prop
structure Bs(P:fw)(w:e3)(K:cn)(av:g9)(base:Heap)(A:Around)(outer:List Env)(s:aX)(H:ao):Prop where
 frames:A.frames=some outer
 mod:Mod K av base
 bs:∀ b o,base.get? b=some o->s.heap.get? b=some o/\H b=none
 qt:base.objs.size<=s.heap.objs.size
 nP:s.heap.FunFrames base outer
 sZ:∀ b∈nO outer,H b=none
 bK:hs P w H s.heap
 bare:AllBare s.gens
def CE(outer:List Env)(P:fw)(w:e3)(H:ao)(s:aX)(Q:bx)(u:aO)(s':aX):Prop :=
 ∃ v H',s'.os=s.os/\AllBare s'.gens/\jX (nO outer) [] H H' s.heap s'.heap/\hs P w H' s'.heap/\RelV v u/\Q v H'
def CR(gH:tg)(outer:List Env)(P:fw)(w:e3)(H:ao)(s:aX)(Q:bx)(E:cM)(r:Result)(s':aX):Prop :=
 match r with
 | .ok (.ret u)=>CE outer P w H s Q u s'
 | .ok _=>False
 | .error e=>gH outer H s E e s'
structure cI(P:fw)(w:e3)(K:cn)(av:g9)(base:Heap)(gH:tg)(k:Nat)(f:au)(fd:cF)(ps:List Str)(sp:eX):Prop where
 len:∀ vs H Q E,sp vs H Q E->vs.length=ps.length
 run:∀ (A:Around) (outer:List Env) (s:aX) (H:ao) (args:Args) (us:dI) (vs:List V) (Q:bx) (E:cM),hH k A->Bs P w K av base A outer s H->BindsTo s fd args (ps.zip us)->Vals vs us->sp vs H Q E ->
  codeAny (model P w) A (.call (.ref f) args) (CR gH outer P w H s Q E) s
theorem Bs.make{P:fw}{w:e3}{K:cn}{av:g9}{base:Heap}{A:Around}{outer:List Env}{s:aX}{H:ao}(e:Bs P w K av base A outer s H)(C:au)(us:dI)(kw:List (Str×aO)) :
  Bs P w K av base (A.under (.builtin "type.__call__" ⟨.ref C::us,kw⟩)) outer s H:=⟨by first|exact e.frames|(simpa [Around.under,Code.envs,Code.isFrame,pushEnvs]using e.frames),e.mod,e.bs,e.qt,e.nP,e.sZ,e.bK,e.bare⟩
section
variable{X:bR}{pins:List (au×Obj)}{σ:St}{H:ao}{s s':aX}
theorem Inv.mj(I:Inv X pins σ H s):Bs X.prog X.w X.K X.av X.base X.A X.stack s H :=
 ⟨I.ok.frames,I.ok.mod,I.bs,jf I.ok.qt I.EY,I.stack,I.aa1,I.bK,I.bare⟩
theorem Inv.after{Q:bx}{u:aO}(I:Inv X pins σ H s)(h:CE X.stack X.prog X.w H s Q u s'):EP X pins σ Q u s':=by
 obtain⟨v,H',os,bare,un,bK,r,q⟩:=h;obtain⟨hh,g,d,t,atl⟩:=s';obtain rfl:atl=s.os:=os;exact⟨v,H',I.call (h':=hh) (g':=g) (d':=d) (t':=t) (ch:=[]) un bK bare (fun b z=>absurd z (by simp)),r,q⟩
end
def atm(sp:eX)(hR:List V)(E:cM)(Q:bx)(vs:List V)(H:ao):Prop:=sp (vs++hR) H Q E
def Vx(sp:eX)(hR:List V)(E:cM)(t:TA):TE:=fun σ H Q=>t σ H (atm sp hR E Q)
def atn(sp:eX)(hR:List V)(E:cM)(Q:bx)(x:V)(vs:List V)(H:ao):Prop:=sp (x::(vs++hR)) H Q E
inductive ato(C:au)(m:Str)(sp:eX)(hR:List V)(E:cM)(t:TA)(σ:St)(Q:bx)(x:V)(H:ao):Prop
 |mk (a dx:au) (fs:List (Str×V)) (ex:x=.ref a) (e:H a=some (.ins C dx fs)) (l:fs.lookup m=none) (q:t σ H (atn sp hR E Q x))
def Fw(C:au)(m:Str)(sp:eX)(hR:List V)(E:cM)(cN:TE)(t:TA):TE:=fun σ H Q=>cN σ H (ato C m sp hR E t σ Q)
def atp(Q:bx)(x:au)(v:V)(H:ao):Prop:=v=.non/\Q (.ref x) H
def atq(C:au)(sp:eX)(hR:List V)(E:cM)(Q:bx)(vs:List V)(H:ao):Prop:=∀ x dx,H x=none->H dx=none->dx≠x ->
 sp (.ref x::(vs++hR)) (upd (upd H dx (.own x)) x (.ins C dx [])) (atp Q x) E
def ajZ(C:au)(sp:eX)(hR:List V)(E:cM)(t:TA):TE:=fun σ H Q=>t σ H (atq C sp hR E Q)
def Binds(K:cn)(fd:cF)(ps:List Str)(ds:dI):Prop :=
 ∀ (s:aX) (us:dI),K.In s.heap->(us++ds).length=ps.length->BindsTo s fd ⟨us,[]⟩ (ps.zip (us++ds))
theorem Binds.all{K:cn}{fd:cF}{ps:List Str}(h:∀ us:dI,us.length=ps.length->bindArgs fd ⟨us,[]⟩=pure (ps.zip us)):Binds K fd ps []:=fun s us _ aF=>by
 rw[List.append_nil]at aF ⊢;exact .of_eq (h us aF)
def Passes(gH:tg)(X:bR)(E:cM):Prop:=∀ (pins:List (au×Obj)) (σ:St) (H:ao) (s:aX) (e:aO) (s':aX),Inv X pins σ H s->gH X.stack H s E e s'->X.xe e s'
section
variable{X:bR}{gH:tg}{k:Nat}{f C:au}{fd:cF}{ps:List Str}{sp:eX}{hR:List V}{ds:dI}{E:cM}{x m:Str}{p pos apos:Pos}{e o:Expr}{es:List Expr}{cN:TE}{t:TA}
theorem abF{pins:List (au×Obj)}{σ:St}{H:ao}{s:aX}{Q:bx}{us:dI}{vs:List V}(F:cI X.prog X.w X.K X.av X.base gH k f fd ps sp)(aA:hH k X.A)(ak:Binds X.K fd ps ds)(hd:Vals hR ds)(aq:Passes gH X E)
  (I:Inv X pins σ H s) (r:Vals vs us) (h:sp (vs++hR) H Q E):wpAny (model X.prog X.w) X.A (call (.ref f) us) (EP X pins σ Q) X.xe s:=by
 have dm:Vals (vs++hR) (us++ds):=r.append hd;have aF:(us++ds).length=ps.length:=by rw[← dm.length];exact F.len _ _ _ _ h
 refine wpAny_call (codeAny_mono (F.run X.A X.stack s H ⟨us,[]⟩ (us++ds) (vs++hR) Q E aA I.mj (ak s us I.jJ aF) dm h) fun r s' a0=>?_);cases r with
 |error e=>exact aq pins σ H s e s' I a0
 |ok wA =>
  cases wA with
  |ret u=>exact I.after a0
  |next=>exact False.elim a0
  |brk=>exact False.elim a0
  |cont=>exact False.elim a0
theorem dG(F:cI X.prog X.w X.K X.av X.base gH k f fd ps sp)(aA:hH k X.A)(b5:qu X x)(hm:X.av x=some (.ref f))(aN:PySem.W.keepIn X.K (.ref f)=true)(ak:Binds X.K fd ps ds)(hd:Vals hR ds)(aq:Passes gH X E)
  (aW:PA X (e::es) t) (m_:(x == ("__debug__":Str))=false:=by decide) (he:starEach (e::es) X.env=(false,eval e X.env)::starEach es X.env:=by rfl) (g6:(backTo pos (starEach es X.env)).any (·.1)=false:=by rfl) :
  PE X (.Call (.Name x p) (e::es) [] pos) (Vx sp hR E t):=by
 intro pins s σ H Q I h;refine wpAny_Call_Name_kw (Fd I b5 hm ?_ m_);refine PySem.W.callWith_K (h₀:=X.base) I.ok.mod.Jz aN (cJ (aW pos pins s σ H _ I h) fun us s1 ⟨vs,H1,bk,r,q⟩=>⟨bk.jJ,?_⟩) he g6;exact abF F aA ak hd aq bk r q
theorem fj{pl:Sem Bool}(he:PE X o cN)(c:iT X.K C)(hm:Meth X.K C m f)(F:cI X.prog X.w X.K X.av X.base gH k f fd ps sp)(aA:hH k X.A)(ak:Binds X.K fd ps ds)(hd:Vals hR ds)(aq:Passes gH X E)(aW:PA X (e::es) t)
  (m1:starEach (e::es) X.env=(false,eval e X.env)::starEach es X.env:=by rfl) (g6:(backTo pos (starEach es X.env)).any (·.1)=false:=by rfl)
  (b_:eval (.Call (.Attribute o m apos) (e::es) [] pos) X.env=(do
   let f3 ← eval o X.env
   standAt apos.atName
   let (f,first) ← holding [f3] (getMethod f3 m pl)
   callWith pos f first (backTo pos (starEach (e::es) X.env)) (backToKw pos (keywordEach [] X.env))):=by rfl) :
  PE X (.Call (.Attribute o m apos) (e::es) [] pos) (Fw C m sp hR E cN t):=by
 intro pins s σ H Q I h;refine PySem.W.methodCall_KW (pl:=pl) (cJ (he pins s σ H _ I h) fun u s1 ⟨x,H1,bk,cc,a,dx,fs,ex,ha,l,q⟩=>?_) b_;subst ex;obtain rfl:u=Value.ref a:=cc;refine abD bk ha c hm l ?_;refine PySem.W.callWith_K (first:=[.ref a]) (h₀:=X.base) I.ok.mod.Jz hm.aG (cJ (aW pos pins s1 σ H1 _ bk q) fun us s2 ⟨vs,aB,dJ,r,cA⟩=>⟨dJ.jJ,?_⟩) m1 g6;exact abF (us:=.ref a::us) (vs:=.ref a::vs) F aA ak hd aq dJ (.cons rfl r) cA
theorem gu{pl:Sem Bool}(he:PE X o cN)(c:iT X.K C)(hm:Meth X.K C m f)(F:cI X.prog X.w X.K X.av X.base gH k f fd ps sp)(aA:hH k X.A)(ak:Binds X.K fd ps ds)(hd:Vals hR ds)(aq:Passes gH X E)
  (b_:eval (.Call (.Attribute o m apos) [] [] pos) X.env=(do
   let f3 ← eval o X.env
   standAt apos.atName
   let (f,first) ← holding [f3] (getMethod f3 m pl)
   callWith pos f first (backTo pos (starEach [] X.env)) (backToKw pos (keywordEach [] X.env))):=by rfl) :
  PE X (.Call (.Attribute o m apos) [] [] pos) (Fw C m sp hR E cN m9):=by
 intro pins s σ H Q I h;refine PySem.W.methodCall_KW (pl:=pl) (cJ (he pins s σ H _ I h) fun u s1 ⟨x,H1,bk,cc,a,dx,fs,ex,ha,l,q⟩=>?_) b_;subst ex;obtain rfl:u=Value.ref a:=cc;refine abD bk ha c hm l ?_;exact PySem.W.callWith_K0 (first:=[.ref a]) bk.jJ hm.aG (abF (us:=[.ref a]) (vs:=[.ref a]) F aA ak hd aq bk (.cons rfl .nil) q)
structure ml(K:cn)(C f:au):Prop where
 makes:PySem.W.makesIn K C=true
 init:PySem.W.findIn K (.ref C) "__init__"=some (some (.ref f))
 fn:PySem.W.isFn K (.ref f)=true
 aG:PySem.W.keepIn K (.ref C)=true
theorem aj0{pins:List (au×Obj)}{σ:St}{H:ao}{s:aX}{Q:bx}{us:dI}{vs:List V}(M:ml X.K C f)(F:cI X.prog X.w X.K X.av X.base gH k f fd ps sp)(aA:hH (k+1) X.A)(ak:Binds X.K fd ps ds)(hd:Vals hR ds)
  (aq:Passes gH X E) (I:Inv X pins σ H s) (r:Vals vs us)
  (h:∀ x dx,H x=none->H dx=none->dx≠x->sp (.ref x::(vs++hR)) (upd (upd H dx (.own x)) x (.ins C dx [])) (fun v aB=>v=.non/\Q (.ref x) aB) E) :
  wpAny (model X.prog X.w) X.A (call (.ref C) us) (EP X pins σ Q) X.xe s:=by
 have a0:=h (s.heap.objs.size+1) s.heap.objs.size (I.bK.fresh (Nat.le_succ _)) (I.bK.fresh (cG _)) (gR (vX _));have dJ:=Inv.made (C:=C) I;have dm:Vals (V.ref (s.heap.objs.size+1)::(vs++hR)) (Value.ref (s.heap.objs.size+1)::(us++ds)):=.cons rfl (r.append hd);have aF:(Value.ref (s.heap.objs.size+1)::us++ds).length=ps.length:=by
  have e:=dm.length;rw[F.len _ _ _ _ a0]at e;exact e.symm
 refine wpAny_call (asY (f:=f) I.jJ M.makes M.init (v9.mp M.fn) (codeAny_mono (F.run _ X.stack _ _ ⟨Value.ref (s.heap.objs.size+1)::us,[]⟩ (Value.ref (s.heap.objs.size+1)::(us++ds)) _ _ E (aA.make C us [])
  (dJ.mj.make C us []) (ak _ (Value.ref (s.heap.objs.size+1)::us) dJ.jJ aF) dm a0) fun r s' kk=>?_))
 cases r with
 |error e=>exact aq pins σ _ _ e s' dJ kk
 |ok wA =>
  cases wA with
  |ret u =>
   obtain⟨v,H',eU,eZ,ev,dY⟩:=dJ.after kk;subst ev;exact⟨eZ,⟨V.ref (s.heap.objs.size+1),H',eU,Z,dY⟩⟩
  |next=>exact False.elim kk
  |brk=>exact False.elim kk
  |cont=>exact False.elim kk
theorem qC(M:ml X.K C f)(F:cI X.prog X.w X.K X.av X.base gH k f fd ps sp)(aA:hH (k+1) X.A)(b5:qu X x)(hm:X.av x=some (.ref C))(ak:Binds X.K fd ps ds)(hd:Vals hR ds)(aq:Passes gH X E)
  (aW:PA X (e::es) t) (m_:(x == ("__debug__":Str))=false:=by decide) (he:starEach (e::es) X.env=(false,eval e X.env)::starEach es X.env:=by rfl) (g6:(backTo pos (starEach es X.env)).any (·.1)=false:=by rfl) :
  PE X (.Call (.Name x p) (e::es) [] pos) (ajZ C sp hR E t):=by
 intro pins s σ H Q I h;refine wpAny_Call_Name_kw (Fd I b5 hm ?_ m_);refine PySem.W.callWith_K (h₀:=X.base) I.ok.mod.Jz M.aG (cJ (aW pos pins s σ H _ I h) fun us s1 ⟨vs,H1,bk,r,q⟩=>⟨bk.jJ,?_⟩) he g6;exact aj0 M F aA ak hd aq bk r q
theorem aj1(M:ml X.K C f)(F:cI X.prog X.w X.K X.av X.base gH k f fd ps sp)(aA:hH (k+1) X.A)(b5:qu X x)(hm:X.av x=some (.ref C))(ak:Binds X.K fd ps ds)(hd:Vals hR ds)(aq:Passes gH X E)
  (m_:(x == ("__debug__":Str))=false:=by decide):PE X (.Call (.Name x p) [] [] pos) (ajZ C sp hR E m9):=by
 intro pins s σ H Q I h;refine wpAny_Call_Name_kw (Fd I b5 hm ?_ m_);exact PySem.W.callWith_K0 I.jJ M.aG (aj0 (us:=[]) M F aA ak hd aq I .nil h)
end
structure cV(N P:List Str)(sc:Scope):Prop where
 kind:sc.kind=.function:=by rfl
 co:sc.isCoroutine=false:=by rfl
 gen:sc.isGenerator=false:=by rfl
 nd:N.Nodup:=by decide +kernel
 pre:N.take P.length=P:=by rfl
 par:∀ x∈P,sc.names.lookup x=some .local\/sc.names.lookup x=some .cell:=by decide +kernel
 atr:∀ y∈sc.names,y.2≠.free:=by decide +kernel
theorem aj2{kindOf:Str->Option NameKind}{x:Str}:∀ {binds:List (Str×aO)} {m:g9},(∀ v,(x,v)∉binds)->bindL kindOf binds m x=m x
 | [],_,_=>rfl
 |(n,v)::r,m,h=>by
  unfold bindL;rw[aj2 fun w hw=>h w (hZ _ hw)];split
  ·have:x≠n:=by rintro rfl;exact h v h9
   simp[this]
  ·rfl
theorem aj3{kindOf:Str->Option NameKind}{x:Str}:∀ {binds:List (Str×aO)} {m:g9},(∀ v,(x,v)∉binds)->bindC kindOf binds m x=m x
 | [],_,_=>rfl
 |(n,v)::r,m,h=>by
  unfold bindC;rw[aj3 fun w hw=>h w (hZ _ hw)];split
  ·rfl
  ·have:x≠n:=by rintro rfl;exact h v h9
   simp[this]
theorem aj4{kindOf:Str->Option NameKind}{x:Str}{v:aO}:∀ {P:List Str} {vs:dI} {i:Nat} {m:g9},P.Nodup->P[i]?=some x->vs[i]?=some v->kindOf x=some .local ->
  bindL kindOf (P.zip vs) m x=some v
 | [],_,_,_,_,h,_,_=>by simp at h
 |_::_,[],_,_,_,_,h,_=>by simp at h
 |p::P,w::vs,0,m,nd,h1,aC,aN=>by
  simp at h1 aC;subst h1;subst aC;show bindL kindOf ((p,w)::P.zip vs) m p=_;unfold bindL;rw[aj2 fun v aZ=>(Af.mp nd).1 (List.of_mem_zip aZ).1,bL aN];simp
 |p::P,w::vs,i+1,m,nd,h1,aC,aN=>by
  show bindL kindOf ((p,w)::P.zip vs) m x=_;unfold bindL;exact aj4 (i:=i) (Af.mp nd).2 (by simpa using h1) (by simpa using aC) aN
theorem aj5{kindOf:Str->Option NameKind}{x:Str}{v:aO}:∀ {P:List Str} {vs:dI} {i:Nat} {m:g9},P.Nodup->P[i]?=some x->vs[i]?=some v->kindOf x≠some .local ->
  bindC kindOf (P.zip vs) m x=some v
 | [],_,_,_,_,h,_,_=>by simp at h
 |_::_,[],_,_,_,_,h,_=>by simp at h
 |p::P,w::vs,0,m,nd,h1,aC,aN=>by
  simp at h1 aC;subst h1;subst aC;show bindC kindOf ((p,w)::P.zip vs) m p=_;unfold bindC;rw[aj3 fun v aZ=>(Af.mp nd).1 (List.of_mem_zip aZ).1,bw aN];simp
 |p::P,w::vs,i+1,m,nd,h1,aC,aN=>by
  show bindC kindOf ((p,w)::P.zip vs) m x=_;unfold bindC;exact aj5 (i:=i) (Af.mp nd).2 (by simpa using h1) (by simpa using aC) aN
def start(N:List Str)(vs:List V):St:=vs.map some++List.replicate (N.length-vs.length) none
def sa(gH:tg)(P:fw)(w:e3)(K:cn)(av:g9)(base:Heap)(N:List Str)(qual:Str)(scope:Scope)(f:au)(cd:aO)(A:Around)(outer:List Env)(s:aX)(H:ao)(E:cM):bR where
 prog:=P
 w:=w
 K:=K
 av:=av
 base:=base
 A:=A.deeper (envOfC qual scope s.heap.objs.size f cd)
 N:=N
 jY:=s
 JB:=H
 env:=envOfC qual scope s.heap.objs.size f cd
 outer:=outer
 stack:=envOfC qual scope s.heap.objs.size f cd::outer
 ex:=[]
 calm:=true
 fn:=fun _=>true
 g_:=[]
 xe:=fun e s'=>wpAny (model P w) (A.deeper (envOfC qual scope s.heap.objs.size f cd)) (leaving (envOfC qual scope s.heap.objs.size f cd) e) (fun _ JV=>gH outer H s E e JV) (fun e' JV=>gH outer H s E e' JV) s'
theorem aj6{sc:Scope}{n:Nat}{x:Str}(h:sc.names.lookup x=some .cell):∃ c,(cellsFrom n sc.names []).lookup x=some c:=by
 have q:=PySem.W.cellsFrom_some sc.names n [] (.inl h);exact Option.isSome_iff_exists.mp q
theorem atu{gH:tg}{P:fw}{w:e3}{K:cn}{av:g9}{base:Heap}{N ps:List Str}{qual:Str}{scope:Scope}{f:au}{cd:aO}{A:Around}{outer:List Env}{s s1:aX}{H:ao}{E:cM}{us:dI}{vs:List V}
  (S:cV N ps scope) (hd:A.handled=none) (fy:Bs P w K av base A outer s H) (aF:vs.length=ps.length) (r:Vals vs us)
  (x:InCallC s s.heap.objs.size (bindL (envOfC qual scope s.heap.objs.size f cd).kindOf (ps.zip us) fun _=>none) (cellsFrom (s.heap.objs.size+1) scope.names []) (bindC (envOfC qual scope s.heap.objs.size f cd).kindOf (ps.zip us) fun _=>none) s1) :
  Inv (sa gH P w K av base N qual scope f cd A outer s H E) [] (start N vs) H s1:=by
 have g6:ps.length<=N.length:=by have:=congrArg List.length S.pre;rw[g0]at this;omega
 obtain⟨h1,tk,rfl,aN⟩:=x.done;have JW:∀ b:au,b∉(sa gH P w K av base N qual scope f cd A outer s H E).ex:=fun b z=>absurd (show b∈([]:d1) from z) (by simp);refine⟨⟨fy.mod,S.kind,Z,Z,cG _,fun y z c h1 aC=>?_,fun y aP=>?_,fun y c _ h=>?_,fun _=>hd,Around.frames_deeper fy.frames,.inr ⟨Z,Z⟩,fun b z=>absurd z (JW b),fy.bs,fy.qt,fun b _ _=>JW b,fun b z=>absurd z (JW b),fy.nP,fy.sZ⟩,
  Z,fy.bare,jX.kept aN,⟨_,x.toInCall.ns,fun i y v h1 aC bH=>?_⟩,fun y c h=>⟨_,x.cell y c h⟩,fy.bK.fresh (cG _),fun y c h=>?_,fun p aL=>absurd (show p∈([]:List (au×Obj)) from aL) (by simp),fy.bK.kept aN,?_⟩
 ·exact name_of_addr x.apart (pg h1) (pg aC)
 ·have aP:scope.names.lookup y=some .cell\/scope.names.lookup y=some .free:=aP
  rcases aP with aP|aP
  ·exact aj6 aP
  ·exact absurd rfl (S.atr _ (pg aP))
 ·exact z' (x.above y c (pg h))
 ·have hi:i<vs.length:=by
   unfold start at aC;by_cases hi:i<vs.length
   ·exact hi
   ·rw[I0 (by simpa using hi)]at aC;rw[List.getElem?_replicate]at aC;split at aC<;>cases aC
  have aW:vs[i]?=some v:=by
   unfold start at aC;rw[Uj (by simpa using hi),ei]at aC;cases e:vs[i]? with
   |none=>rw[e]at aC;cases aC
   |some a=>rw[e]at aC;cases aC;rfl
  obtain⟨u,cD,eZ⟩:=r.get aW;have aL:ps[i]?=some y:=by
   rw[← S.pre,x4 (by omega)];exact h1
  have aj7:ps.Nodup:=by rw[← S.pre];exact S.nd.sublist (List.take_sublist _ _)
  refine⟨u,eZ,?_⟩;rcases S.par y (f9 aL)with k|k
  ·exact .inl ⟨k,aj4 aj7 aL cD k⟩
  ·obtain⟨c,e⟩:=aj6 (n:=s.heap.objs.size+1) k;refine .inr ⟨.inl k,c,e,?_⟩;have q:=x.cell y c e;rw[aj5 aj7 aL cD (by show scope.names.lookup y≠_;rw[k];decide)]at q;exact q
 ·exact fy.bK.fresh (z' (x.above y c (pg h)))
 ·unfold start;show _=N.length;rw[gB,ew,List.length_replicate];omega
theorem atv{gH:tg}{P:fw}{w:e3}{K:cn}{av:g9}{base:Heap}{k:Nat}{f:au}{name qual:Str}{params:Arguments}{body:List Stmt}{scope:Scope}{abG c0 doc pm bJ ft jK:aO}{an hP:Option au}
  {pO:Array (Option aO)} {N ps:List Str} {sp:eX} (lk:K.lookup f=some ⟨jK,hP,.func (PySem.W.fnOf name qual params body scope abG c0 doc pm an bJ ft),pO⟩) (wJ:PySem.W.codeIn K bJ qual=true) (S:cV N ps scope)
  (len:∀ vs H Q E,sp vs H Q E->vs.length=ps.length)
  (abH:∀ (A:Around) (outer:List Env) (s:aX) (H:ao) (vs:List V) (Q:bx) (E:cM),hH k (A.deeper (envOfC qual scope s.heap.objs.size f bJ))->sp vs H Q E ->
   ∃ t,pK (sa gH P w K av base N qual scope f bJ A outer s H E) body t/\t { cT:=fun _ H'=>Q .non H',E':=Q } (start N vs) H) :
  cI P w K av base gH (k+1) f (PySem.W.fnOf name qual params body scope abG c0 doc pm an bJ ft) ps sp:=by
 refine⟨len,fun A outer s H args us vs Q E aA fy ak r yv=>?_⟩;have aF:=len _ _ _ _ yv;have hS:K.In s.heap:=fy.mod.Jz.keeps fun b o e=>(fy.bs b o e).1;have lim:s.heap.NoLimit:=fy.mod.nolimit.keeps fun b o e=>(fy.bs b o e).1;have atw:∀ y∈ps.zip us,scope.names.lookup y.1=some .local\/(scope.names.lookup y.1=some .cell/\((cellsFrom (s.heap.objs.size+1) scope.names []).lookup y.1).isSome=true):=fun⟨n,v⟩ aP=>by
  rcases S.par n (List.of_mem_zip aP).1 with q|q
  ·exact .inl q
  ·exact .inr ⟨q,PySem.W.cellsFrom_some _ _ _ (.inl q)⟩
 refine codeAny_call_function aA.depth (hS _ _ lk) rfl S.co S.gen rfl (PySem.W.codeRec_of hS wJ) (ak _ _ _ _ ?_);refine wpAny_newFunctionEnv_cells S.kind atw fun env he s1 x=>?_;subst he;refine⟨lim.keeps x.toInCall.keep,codeAny_func ?_⟩;obtain⟨t,b_,a0⟩:=abH A outer s H vs Q E (aA.deeper _) yv;have I:Inv (sa gH P w K av base N qual scope f bJ A outer s H E) [] (start N vs) H s1:=atu S aA.hd fy aF r x;refine wpAny_mono (b_ [] s1 (start N vs) H _ I a0) (fun wA s' aH=>?_) fun e s' aH=>aH;have fin:∀ {dc:St} {H':ao} {v:V} {u:aO},Inv (sa gH P w K av base N qual scope f bJ A outer s H E) [] dc H' s'->RelV v u->Q v H'->CE outer P w H s Q u s' :=
  fun{dc H' v u} J eZ q=>⟨v,H',J.os,J.bare,J.base,J.bK,eZ,q⟩
 cases wA with
 |ret u =>
  obtain⟨v,dc,H',J,eZ,q⟩:=aH;exact fin J eZ q
 |next =>
  obtain⟨dc,H',J,q⟩:=aH;exact fin (v:=V.non) (u:=Value.none) J rfl q
 |brk =>
  obtain⟨_,_,_,q⟩:=aH;exact False.elim q
 |cont =>
  obtain⟨_,_,_,q⟩:=aH;exact False.elim q
section
variable{X:bR}{x:Str}{p pos:Pos}{e:Expr}{es:List Expr}{t:TA}{id T:String}{r:List V->ao->bx->Prop}
def atx(r:List V->ao->bx->Prop)(Q:bx)(vs:List V)(H:ao):Prop:=r vs H Q
def abI(r:List V->ao->bx->Prop)(t:TA):TE:=fun σ H Q=>t σ H (atx r Q)
theorem hv(aU:q8 X (.builtin id) r)(b5:qu X x)(hm:X.av x=none)(aZ:bootBuiltins x=some (.builtin id))(aW:PA X (e::es) t)(aR:x≠"__name__":=by decide) (m_:(x == ("__debug__":Str))=false:=by decide)
  (he:starEach (e::es) X.env=(false,eval e X.env)::starEach es X.env:=by rfl) (g6:(backTo pos (starEach es X.env)).any (·.1)=false:=by rfl):PE X (.Call (.Name x p) (e::es) [] pos) (abI r t):=by
 intro pins s σ H Q I h;refine wpAny_Call_Name_kw (Fe I b5 hm aZ ?_ aR m_);exact PyProof.Rows.callWith_builtin1 (cJ (aW pos pins s σ H _ I h) fun us s1 ⟨vs,H1,bk,cH,bT⟩=>aU pins s1 σ H1 vs us Q bk cH bT) he g6
theorem q'(aU:q8 X (.type T) r)(b5:qu X x)(hm:X.av x=none)(aZ:bootBuiltins x=some (.type T))(aW:PA X (e::es) t)(aR:x≠"__name__":=by decide) (m_:(x == ("__debug__":Str))=false:=by decide)
  (he:starEach (e::es) X.env=(false,eval e X.env)::starEach es X.env:=by rfl) (g6:(backTo pos (starEach es X.env)).any (·.1)=false:=by rfl):PE X (.Call (.Name x p) (e::es) [] pos) (abI r t):=by
 intro pins s σ H Q I h;refine wpAny_Call_Name_kw (Fe I b5 hm aZ ?_ aR m_);exact PyProof.Rows.callWith_type1 (cJ (aW pos pins s σ H _ I h) fun us s1 ⟨vs,H1,bk,cH,bT⟩=>aU pins s1 σ H1 vs us Q bk cH bT) he g6
end
end L2
namespace HT
open PySem PyProof.Rows
def lexLt:List Int->List Int->Bool
 | [],[]=>false
 | [],_::_=>true
 |_::_,[]=>false
 |x::xs,y::bN=>if x=y then lexLt xs bN else decide (x<y)
theorem aty(x y:Int)(xs bN:List Int):lexLt (x::xs) (y::bN)=if x=y then lexLt xs bN else decide (x<y):=rfl
theorem atz:lexLt [] []=false:=rfl
theorem atA(y:Int)(bN:List Int):lexLt [] (y::bN)=true:=rfl
theorem atB(x:Int)(xs:List Int):lexLt (x::xs) []=false:=rfl
theorem atD(A:Around)(s:aX)(a:Int)(t:Tok)(c:Int)(u:Tok):∃ e,SeqAt.EqAt A s (.int a t) (.int c u) e/\(e=true↔a=c) :=
 ⟨(a == c),SeqAt.EqAt.int_int a t c u,by simp⟩
theorem atE(A:Around)(s:aX)(a:Int)(t:Tok)(c:Int)(u:Tok)(prog:fw)(w:e3)(E:aO->aX->Prop)(Q:aO->aX->Prop)(h:Q (.bool (decide (a<c))) s) :
  wpAny (model prog w) A (richCompare .Lt (.int a t) (.int c u)) Q E s :=
 (PyProof.Rows.lt_int h:wpAny (model prog w) A (compareOp .Lt (.int a t) (.int c u)) Q E s)
section
open PySem.SeqAt
open PySem.AutoSeq1 (wpAny_loadPart')
open PySem.MeetsSeq PySem.MeetsSeq2 PySem.MeetsSeq3
theorem atF(l b:au)(items u0:Array aO)(n n2:Nat)(dd abJ:Option au)(fL abK:Array (Option aO))(ns ms:List Int)(hi:IntsAre items.toList ns)(bM:IntsAre u0.toList ms) :
  Meets (Builtin.«tuple.__lt__» ⟨[.ref l,.ref b],[]⟩)
   (fun _ R s=>s.heap.get? l=some { cls:=.type "tuple",dict:=dd,data:=.seq items n,slots:=fL }/\s.heap.get? b=some { cls:=.type "tuple",dict:=abJ,data:=.seq u0 n2,slots:=abK } /\
    R (.ok (.ret (.bool (lexLt ns ms)))) s) :=
 .of_wp fun prog w A R s h=>by
  obtain⟨aL,g,d,tk,os⟩:=s;obtain⟨aF,ak,h⟩:=h;have f2:=AutoSeq1.sub_tuple_tuple;have gk:items.size=ns.length:=by rw[← hi.length];simp
  have eG:u0.size=ms.length:=by rw[← bM.length];simp
  wp_walk using wpAny_loadPart' aF,wpAny_loadPart' ak,wpAny_forIn_list _ (fun rest b s'=>b.1=none/\s'=⟨aL,g,d,tk,os⟩/\∃ (vs ws:dI) (oL Fx:List Int),rest=vs.zip ws /\
   IntsAre vs oL/\IntsAre ws Fx/\oL.length+u0.size=Fx.length+items.size/\R (.ok (.ret (.bool (lexLt oL Fx)))) ⟨aL,g,d,tk,os⟩) _
  case turn =>
   rintro⟨y,x⟩ rest b s' ⟨g8,rfl,vs,ws,oL,Fx,hz,abL,u5,hlen,mq⟩;cases abL with
   |nil=>rw[List.zip_nil_left]at hz;cases hz
   |cons a t atG =>
    cases u5 with
    |nil=>rw[List.zip_nil_right]at hz;cases hz
    |cons c u atH =>
     rw[List.zip_cons_cons]at hz;injection hz with atI atJ
     injection atI with aP aq
     subst aP aq;rw[aty]at mq;simp only[ek]at hlen;obtain⟨e,he,aj8⟩:=atD A.in1 ⟨aL,g,d,tk,os⟩ a t c u;refine wpAny_bind (he prog w _ _ ?_);cases e with
     |true =>
      rw[bL (aj8.mp rfl)]at mq
      wp_walk
      exact⟨Z,Z,_,_,_,_,atJ,atG,atH,by omega,mq⟩
     |false =>
      rw[bw (fun q=>absurd (aj8.mpr q) jq)]at mq;have atL:=atE A.in1 ⟨aL,g,d,tk,os⟩ a t c u prog w
      wp_walk using atL
      exact⟨_,Z,by simpa using mq⟩
  case fin =>
   rintro⟨b1,iu⟩ s' ⟨g8,rfl,vs,ws,oL,Fx,hz,abL,u5,hlen,mq⟩;simp only at g8;subst g8;have aZ:lexLt oL Fx=decide (items.size<u0.size):=by
    cases abL with
    |nil =>
     cases u5 with
     |nil =>
      simp only[rW]at hlen;rw[atz];exact(oo (by omega)).symm
     |cons c u hw =>
      simp only[rW,ek]at hlen;rw[atA];exact(fu (by omega)).symm
    |cons a t aZ =>
     cases u5 with
     |nil =>
      simp only[rW,ek]at hlen;rw[atB];exact(oo (by omega)).symm
     |cons c u hw =>
      rw[List.zip_cons_cons]at hz;cases hz
   rw[aZ]at mq
   wp_walk
   exact⟨_,Z,by simpa [Builtin.Tuple.tupleCompareSizes]using mq⟩
  case h =>
   exact⟨Z,Z,items.toList,u0.toList,ns,ms,Z,hi,bM,by omega,h⟩
end
section
variable{prog:fw}{w:e3}{A:Around}{E:aO->aX->Prop}{s:aX}
theorem atM{l b:au}{items u0:Array aO}{ns ms:List Int}{Q:aO->aX->Prop}(aF:IsTup s.heap l items)(ak:IsTup s.heap b u0)(hi:IntsAre items.toList ns)(bM:IntsAre u0.toList ms)
  (cD:A.units<cLine) (h:Q (.bool (lexLt ns ms)) s):wpAny (model prog w) A (compareOp .Lt (.ref l) (.ref b)) Q E s:=by
 obtain⟨⟨cls,dd,data,fL⟩,bA,aU,n,hd⟩:=id aF;obtain⟨⟨aG_,abJ,data2,abK⟩,abM,Vy,n2,hd2⟩:=id ak;simp only at aU hd Vy hd2;subst aU hd Vy hd2;exact richCompare_meets_room (op:=.Lt) ⟨_,bA,rfl⟩ ⟨_,abM,rfl⟩ PySem.F.slot_tuple_lt PySem.F.entry_tuple_lt (PySem.F.args_tuple_lt_2 _ _) (atF l b items u0 n n2 dd abJ fL abK ns ms hi bM)
  ⟨bA,abM,show Value.bool (lexLt ns ms)≠Value.notImplemented/\Q (.bool (lexLt ns ms)) s from⟨(fun x=>nomatch x),h⟩⟩ cD
def oM(n d:Nat):Option Int->Nat
 |none=>d
 |some v=>if v<0 then(v+(n:Int)).toNat else min v.toNat n
theorem Vz(n d k:Nat):oM n d (some (k:Int))=min k n:=by
 show(if(k:Int)<0 then((k:Int)+(n:Int)).toNat else min (k:Int).toNat n)=min k n;rw[bw (by omega),I8]
end
end HT
namespace L2
open PySem PySem.Spec PyProof.Rows
abbrev TO:=St->ao->(Option Int->ao->Prop)->Prop
def PO(X:bR)(e:Option Expr)(t:TO):Prop :=
 ∀ (pins:List (au×Obj)) (s:aX) (σ:St) (H:ao) (Q:Option Int->ao->Prop),Inv X pins σ H s->t σ H Q ->
  wpAny (model X.prog X.w) X.A (evalPart e X.env) (fun u s'=>∃ o H',Inv X pins σ H' s'/\IsPart u o/\Q o H') X.xe s
inductive atN(Q:Option Int->ao->Prop)(x:V)(H:ao):Prop
 |mk (i:Int) (e:x=.int i) (q:Q (some i) H)
def abN(t:TE):TO:=fun σ H Q=>t σ H (atN Q)
theorem intsAre_of{ns:List Int}:∀ {us:dI},Vals (ns.map V.int) us->IntsAre us ns:=by
 induction ns with
 |nil=>intro us r;rw[v5]at r;cases r;exact .nil
 |cons n ns bU =>
  intro us r;rw[fT]at r;cases r with
  |cons cH dm =>
   obtain⟨t,e⟩:=cH;subst e;exact .cons n t (bU dm)
section
variable{X:bR}{e:Expr}{te:TE}{lo hi:Option Expr}{tl th:TO}{pos nS:Pos}
theorem yw(h:PE X e te):PO X (some e) (abN te):=by
 intro pins s σ H Q I hw;rw[evalPart_some];refine cJ (h pins s σ H _ I hw) fun u s1 ⟨x,H1,bk,cH,bT⟩=>?_;obtain⟨i,rfl,q⟩:=bT;obtain⟨t,rfl⟩:=cH;exact⟨some i,H1,bk,.int i t,q⟩
def aj9(X:bR)(r:V->Option Int->Option Int->ao->bx->Prop):Prop :=
 ∀ (pins:List (au×Obj)) (s:aX) (σ:St) (H:ao) (x:V) (v yx fO:aO) (lo hi:Option Int) (fL:au) (Q:bx),Inv X pins σ H s->RelV x v->s.heap.IsSliceOf fL yx fO .none->IsPart yx lo->IsPart fO hi->r x lo hi H Q ->
  ∃ T id,typeLookup (.type T) "__getitem__"=pure (some (.builtin id))/\s.TypeIs v T/\wpAny (model X.prog X.w) X.A (getItem v (.ref fL)) (EP X pins σ Q) X.xe s
def aj_(r:V->Option Int->Option Int->ao->bx->Prop)(te:TE)(tl th:TO):TE:=fun σ H Q=>te σ H fun x H1=>tl σ H1 fun l aB=>th σ aB fun u aJ=>r x l u aJ Q
theorem VB{r:V->Option Int->Option Int->ao->bx->Prop}(aA:aj9 X r)(he:PE X e te)(aF:PO X lo tl)(cD:PO X hi th):PE X (.Subscript e (.Slice lo hi none nS) pos) (aj_ r te tl th):=by
 intro pins s σ H Q I h;refine Subscript_ (cJ (he pins s σ H _ I h) fun v s1 ⟨x,H1,bk,cH,bT⟩=>?_);refine wpAny_Slice (cJ (aF pins s1 σ H1 _ bk bT) fun yx s2 ⟨l,aB,dJ,pl,cA⟩=>cJ (cD pins s2 σ aB _ dJ cA) fun fO s3 ⟨u,aJ,eU,pu,dY⟩=>?_);rw[evalPart_none];refine wpAny_pure ?_;have l0:Inv X pins σ aJ { s3 with heap:=s3.heap.push { cls:=.type "slice",data:=.fields #[yx,fO,.none] } }:=eU.kept (t':=s3.toks) fun b cX q=>iB _ q;obtain⟨T,id,cv,b_,b5⟩:=aA pins { s3 with heap:=s3.heap.push { cls:=.type "slice",data:=.fields #[yx,fO,.none] } } σ aJ x v yx fO l u s3.heap.objs.size Q l0 cH (Heap.IsSliceOf.new ..) pl pu dY;show wpAny (model X.prog X.w) X.A (subscriptTail e (.Slice lo hi none nS) v (.ref s3.heap.objs.size)) (EP X pins σ Q) X.xe { s3 with heap:=s3.heap.push { cls:=.type "slice",data:=.fields #[yx,fO,.none] } };exact tail_any (ops:=[.ref s3.heap.objs.size,v]) b_ cv b5 (by with_unfolding_all rfl)
def ti(xs:List V)(lo hi:Option Int):List V:=(xs.drop (HT.oM xs.length 0 lo)).take (HT.oM xs.length xs.length hi-HT.oM xs.length 0 lo)
theorem atO(xs:List V)(lo hi:Option Int):(ti xs lo hi).length<=xs.length:=by
 unfold ti;rw[g0,oc];omega
def atP(K:cn):cO:=fun x y H Q=>∃ a b ns ms,x=.ref a/\y=.ref b/\fM K H a (ns.map V.int)/\fM K H b (ms.map V.int)/\Q (.bl (HT.lexLt ns ms)) H
theorem atQ(cD:X.A.units<cLine):h5 X (compareOp .Lt) (atP X.K):=by
 intro pins s σ H x y v u Q I cc b4 h;obtain⟨a,b,ns,ms,rfl,rfl,aW,ak,q⟩:=h;cases cc;cases b4;obtain⟨its,cH,u6,_⟩:=I.tuple aW;obtain⟨ra,dm,nS,_⟩:=I.tuple ak;have i1:IntsAre its.toArray.toList ns:=intsAre_of cH;have i2:IntsAre ra.toArray.toList ms:=intsAre_of dm;exact HT.atM u6 nS i1 i2 cD ⟨.bl (HT.lexLt ns ms),H,I,rfl,q⟩
end
def wN(n:Nat)(i:Int):Option Nat:=if 0<=i then(if i<n then some i.toNat else none)else if -(n:Int)<=i then some (i+n).toNat else none
def wO{α:Type}(xs:List α)(i:Int):Option α:=(wN xs.length i).bind fun j=>xs[j]?
theorem aj'{n:Nat}{i:Int}{j:Nat}(h:wN n i=some j):seqIndex? i n=some j/\j<n/\-(n:Int)<=i/\i<n:=by
 unfold wN at h;by_cases h0:0<=i
 ·rw[bL h0]at h;by_cases h1:i<n
  ·rw[bL h1]at h;have e:i.toNat=j:=Option.some.inj h;exact⟨by rw[seqIndex_of h0 h1,e],by omega,by omega,h1⟩
  ·rw[bw h1]at h;cases h
 ·rw[bw h0]at h;by_cases h1:-(n:Int)<=i
  ·rw[bL h1]at h;have e:(i+n).toNat=j:=Option.some.inj h;exact⟨by rw[seqIndex_neg (by omega) h1,e],by omega,h1,by omega⟩
  ·rw[bw h1]at h;cases h
theorem abO{α:Type}{xs:List α}{i:Int}{v:α}(h:wO xs i=some v):∃ j,seqIndex? i xs.length=some j/\xs[j]?=some v/\j<xs.length/\-(xs.length:Int)<=i/\i<xs.length:=by
 unfold wO at h;cases e:wN xs.length i with
 |none=>rw[e]at h;cases h
 |some j =>
  rw[e]at h;obtain⟨h1,aC,bH,dw⟩:=aj' e;exact⟨j,h1,h,aC,bH,dw⟩
theorem gM{α:Type}{xs:List α}{j:Nat}{v:α}(h:xs[j]?=some v):wO xs (j:Int)=some v:=by
 have bM:j<xs.length:=(eE.mp h).1;have e:wN xs.length (j:Int)=some j:=by
  unfold wN;rw[bL (by omega),bL (by omega)];simp
 unfold wO;rw[e];exact h
def atR(b:Expr):Prop:=∀ o i,subscripted b false o i=operate [o,i] (getItem o i)
def JX(X:bR)(r:cO):Prop :=
 ∀ (value slice:Expr) (pins:List (au×Obj)) (s:aX) (σ:St) (H:ao) (x y:V) (v u:aO) (Q:bx),Inv X pins σ H s->RelV x v->RelV y u->r x y H Q ->
  subscripted slice false v u=operate [v,u] (getItem v u)->wpAny (model X.prog X.w) X.A (subscriptTail value slice v u) (EP X pins σ Q) X.xe s
def abP(X:bR)(id:String)(r:V->List V->ao->bx->Prop):Prop :=
 ∀ (pins:List (au×Obj)) (s:aX) (σ:St) (H:ao) (x:V) (xs:List V) (v:aO) (us:dI) (Q:bx),Inv X pins σ H s->RelV x v->Vals xs us->r x xs H Q ->
  wpAny (model X.prog X.w) X.A (call (.builtin id) (v::us)) (EP X pins σ Q) X.xe s
section
variable{X:bR}{a b:Expr}{cN tb:TE}{pos:Pos}
theorem eN{r:cO}(aA:JX X r)(aW:PE X a cN)(ak:PE X b tb)(aH:atR b):PE X (.Subscript a b pos) (wM r cN tb):=by
 intro pins s σ H Q I h;exact Subscript_ (abt aW ak I h fun v u s2 x y aB dJ cc b4 q=>aA a b pins s2 σ aB x y v u Q dJ cc b4 q (aH _ _))
inductive JZ(K:cn)(x y:V)(H:ao)(Q:bx):Prop
 |mk (p:au) (xs:List V) (i:Int) (v:V) (ex:x=.ref p) (gj:y=.int i) (h:aT K H p xs) (l:wO xs i=some v) (q:Q v H)
inductive J0(K:cn)(x y:V)(H:ao)(Q:bx):Prop
 |mk (p:au) (xs:List V) (i:Int) (v:V) (ex:x=.ref p) (gj:y=.int i) (h:fM K H p xs) (l:wO xs i=some v) (q:Q v H)
theorem gx:JX X (JZ X.K):=by
 intro value slice pins s σ H x y v u Q I cc b4 h aH;obtain⟨p,xs,i,z,rfl,rfl,a0,he,q⟩:=h;cases cc;obtain⟨t,rfl⟩:=b4;obtain⟨its,r,pl,hz⟩:=I.list a0;obtain⟨j,h1,aC,bH,dw,jr⟩:=abO he;obtain⟨w,Bt,nT⟩:=r.get aC;have aF:=r.length;have aR:=Bo;have fin:EP X pins σ Q w s:=⟨z,H,I,nT,q⟩;by_cases h0:0<=i
 ·have bM:i.toNat=j:=by
   rw[seqIndex_of h0 jr]at h1;exact Option.some.inj h1
  exact item_listR pl.isList h0 (by omega) (by rw[bM];simpa using Bt) fin aH
 ·have bM:(i+(its.toArray.size:Int)).toNat=j:=by
   rw[seqIndex_neg (by omega) dw]at h1;rw[iC,← aF];exact Option.some.inj h1
  exact subscriptTail_builtinR (x:=w) pl.isList.typeIs slot_list_getitem.lookup
   (wpAny_getItem_list_neg (Q:=fun r s'=>r=w/\EP X pins σ Q r s') pl.isList (by omega) (by rw[iC]<;>omega) (by omega) (by rw[bM];simpa using Bt) ⟨rfl,fin⟩) aH
theorem Bu:JX X (J0 X.K):=by
 intro value slice pins s σ H x y v u Q I cc b4 h aH;obtain⟨p,xs,i,z,rfl,rfl,a0,he,q⟩:=h;cases cc;obtain⟨t,rfl⟩:=b4;obtain⟨its,r,pl,hz⟩:=I.tuple a0;obtain⟨j,h1,aC,bH,dw,jr⟩:=abO he;obtain⟨w,Bt,nT⟩:=r.get aC;have aF:=r.length;have aR:=Bo;have fin:EP X pins σ Q w s:=⟨z,H,I,nT,q⟩;exact subscriptTail_builtinR (x:=w) pl.typeIs slot_tuple_getitem.lookup
  (getItem_tuple (j:=j) (Q:=fun r s'=>r=w/\EP X pins σ Q r s') pl (by omega) (by omega) (by rw[iC,← aF];exact h1) (by simpa using Bt) ⟨rfl,fin⟩) aH
theorem atU(its:dI)(n j:Nat)(u:aO):Obj.mapSeq (·.setIfInBounds j u) { cls:=.type "list",data:=.seq its.toArray n }={ cls:=.type "list",data:=.seq (its.set j u).toArray n }:=by
 simp[Obj.mapSeq]
theorem Inv.lst{pins:List (au×Obj)}{σ:St}{H:ao}{s:aX}{p:au}{xs:List V}(I:Inv X pins σ H s)(h:H p=some (.lst xs)) :
  ∃ (its:dI) (n:Nat),Vals xs its/\s.heap.get? p=some { cls:=.type "list",data:=.seq its.toArray n }/\xs.length<=sizeLine:=by
 obtain⟨z,its,n,r,e⟩:=I.bK p _ h;exact⟨its,n,r,e,z⟩
theorem Inv.atV{pins:List (au×Obj)}{σ:St}{H:ao}{s:aX}{p:au}{xs bN:List V}{its its':dI}{n n':Nat}{f:Obj->Obj}(I:Inv X pins σ H s)(h:H p=some (.lst xs))
  (bA:s.heap.get? p=some { cls:=.type "list",data:=.seq its.toArray n }) (hf:f { cls:=.type "list",data:=.seq its.toArray n }={ cls:=.type "list",data:=.seq its'.toArray n' }) (r:Vals bN its') (hz:bN.length<=sizeLine) (t:Nat) :
  Inv X pins σ (upd H p (.lst bN)) { s with heap:=s.heap.update p f,toks:=t }:=by
 have e:(s.heap.update p f).get? p=some { cls:=.type "list",data:=.seq its'.toArray n' }:=by
  rw[Heap.get?_update_self f bA (by rw[hf]<;>rfl),hf]
 refine I.write (x:=p) (e:=p) (by rw[h];trivial) (.inl rfl) (fun b u ak q=>(Aj _ _ (Ne.symm ak)).trans q) ⟨_,e⟩ ?_;exact⟨hz,its',n',r,e⟩
inductive atX(o i v:V)(H:ao)(Q:ao->Prop):Prop
 |mk (p:au) (xs:List V) (k:Int) (j:Nat) (aG':o=.ref p) (u9:i=.int k) (h:H p=some (.lst xs)) (l:wN xs.length k=some j) (q:Q (upd H p (.lst (xs.set j v))))
theorem set_list:abj X atX:=by
 intro pins s σ H o i v f3 hQ u Q I atY VD eZ h;obtain⟨p,xs,k,j,rfl,rfl,aL,bM,q⟩:=h;cases atY;obtain⟨t,rfl⟩:=VD;obtain⟨its,n,r,bA,hz⟩:=I.lst aL;obtain⟨h1,aC,bH,dw⟩:=aj' bM;have aF:=r.length;have aR:=Bo;have ih:Inv X pins σ (upd H p (.lst (xs.set j v))) { s with heap:=s.heap.update p (Obj.mapSeq (·.setIfInBounds j u)) } :=
  I.atV aL bA (atU its n j u) (r.set eZ j) (by rw[List.length_set];exact hz) s.toks
 by_cases h0:0<=k
 ·have aN:k.toNat=j:=by
   rw[seqIndex_of h0 dw]at h1;exact Option.some.inj h1
  exact PySem.W.ki_setAt bA h0 (by omega) (by rw[iC,← aF];exact dw) (by rw[aN];exact⟨_,ih,q⟩)
 ·have aN:(k+(its.toArray.size:Int)).toNat=j:=by
   rw[seqIndex_neg (by omega) bH]at h1;rw[iC,← aF];exact Option.some.inj h1
  exact PySem.W.ki_setBack bA (by omega) (by rw[iC,← aF];exact bH) (by omega) (by rw[aN];exact⟨_,ih,q⟩)
theorem atZ(lo hi:Option Int)(n:Nat):(sliceBounds lo hi none n).1=((HT.oM n 0 lo:Nat):Int)/\(sliceBounds lo hi none n).2.1=((HT.oM n n hi:Nat):Int)/\(sliceBounds lo hi none n).2.2=1:=by
 refine⟨?_,?_,Z⟩
 ·cases lo with
  |none=>simp[sliceBounds,HT.oM]
  |some i =>
   simp only[sliceBounds,HT.oM,Option.getD_none,show(1:Int) > 0 by decide,if_true];by_cases h:i<0
   ·simp only[h,if_true]<;>omega
   ·simp only[h,if_false]<;>omega
 ·cases hi with
  |none=>simp[sliceBounds,HT.oM]
  |some i =>
   simp only[sliceBounds,HT.oM,Option.getD_none,show(1:Int) > 0 by decide,if_true];by_cases h:i<0
   ·simp only[h,if_true]<;>omega
   ·simp only[h,if_false]<;>omega
theorem at3(its:dI)(lo hi:Option Int):slicePick its.toArray lo hi none=((its.drop (HT.oM its.length 0 lo)).take (HT.oM its.length its.length hi-HT.oM its.length 0 lo)).toArray:=by
 obtain⟨h1,aC,bH⟩:=atZ lo hi its.toArray.size;unfold slicePick;rw[h1,aC,bH];simp only[sliceRange_one,pick_run,iC]<;>rfl
def akb(K:cn):V->Option Int->Option Int->ao->bx->Prop:=fun x lo hi H Q=>∃ a xs,x=.ref a/\aT K H a xs/\∀ p,H p=none->Q (.ref p) (upd H p (.lst (ti xs lo hi)))
theorem VF:aj9 X (akb X.K):=by
 intro pins s σ H x v yx fO lo hi fL Q I cc aH pl pu h;obtain⟨a,xs,rfl,aq,q⟩:=h;cases cc;obtain⟨its,r,b_,hz⟩:=I.list aq;have hlen:=r.length;refine⟨"list",_,slot_list_getitem.lookup,b_.isList.typeIs,?_⟩;refine wpAny_getItem_list_slice b_.isList aH pl pu .none (by simp) ?_ (by rw[iC]<;>omega);rw[at3,← hlen];refine⟨.ref s.heap.objs.size,_,I.laid (t':=s.toks) (o:=.lst (ti xs lo hi)) (fun b cX q=>iB _ q) (cG _) ?_,Z,q _ (I.bK.fresh (cG _))⟩;exact⟨jf (atO xs lo hi) hz,_,0,(r.drop (HT.oM xs.length 0 lo)).take (HT.oM xs.length xs.length hi-HT.oM xs.length 0 lo),lU _ rfl⟩
def u_:V->Bool
 | .non=>true
 | .bl _=>true
 | .int _=>true
 | .str _=>true
 |_=>false
def va:V->V->Bool
 | .non,.non=>true
 | .bl a,.bl b=>a == b
 | .bl a,.int b=>(if a then 1 else 0) == b
 | .int a,.bl b=>a == (if b then 1 else 0)
 | .int a,.int b=>a == b
 | .str a,.str b=>a == b
 |_,_=>false
theorem at4{A:Around}{s:aX}{y x:V}{u v:aO}(b4:RelV y u)(cc:RelV x v)(at5:u_ y=true)(vb:u_ x=true):SeqAt.EqAt A s u v (va y x):=by
 cases y with
 |non =>
  cases b4;cases x with
  |non=>cases cc;exact SeqAt.EqAt.same _
  |bl b=>cases cc;exact SeqAt.EqAt.none_bool b
  |int b=>obtain⟨t,rfl⟩:=cc;exact SeqAt.EqAt.none_int b t
  |str b=>obtain⟨t,rfl⟩:=cc;exact SeqAt.EqAt.none_str b t
  |_=>exact absurd (show false=true from vb) jq
 |bl a =>
  cases b4;cases x with
  |non=>cases cc;exact SeqAt.EqAt.bool_none a
  |bl b=>cases cc;exact SeqAt.EqAt.bool_bool a b
  |int b=>obtain⟨t,rfl⟩:=cc;exact SeqAt.EqAt.bool_int a b t
  |str b=>obtain⟨t,rfl⟩:=cc;exact SeqAt.EqAt.bool_str a b t
  |_=>exact absurd (show false=true from vb) jq
 |int a =>
  obtain⟨t',rfl⟩:=b4;cases x with
  |non=>cases cc;exact SeqAt.EqAt.int_none a t'
  |bl b=>cases cc;exact SeqAt.EqAt.int_bool a t' b
  |int b=>obtain⟨t,rfl⟩:=cc;exact SeqAt.EqAt.int_int a t' b t
  |str b=>obtain⟨t,rfl⟩:=cc;exact SeqAt.EqAt.int_str a t' b t
  |_=>exact absurd (show false=true from vb) jq
 |str a =>
  obtain⟨t',rfl⟩:=b4;cases x with
  |non=>cases cc;exact SeqAt.EqAt.str_none a t'
  |bl b=>cases cc;exact SeqAt.EqAt.str_bool a t' b
  |int b=>obtain⟨t,rfl⟩:=cc;exact SeqAt.EqAt.str_int a t' b t
  |str b=>obtain⟨t,rfl⟩:=cc;exact SeqAt.EqAt.str_str a t' b t
  |_=>exact absurd (show false=true from vb) jq
 |_=>exact absurd (show false=true from at5) jq
def wQ(x:V)(u:aO):Bool:=match u with
 | .none=>va .non x
 | .bool b=>va (.bl b) x
 | .int i _=>va (.int i) x
 | .str z _=>va (.str z) x
 |_=>false
theorem akc{x y:V}{u:aO}(r:RelV y u)(f:u_ y=true):wQ x u=va y x:=by
 cases y with
 |non=>cases r;rfl
 |bl b=>cases r;rfl
 |int i=>obtain⟨t,rfl⟩:=r;rfl
 |str z=>obtain⟨t,rfl⟩:=r;rfl
 |_=>exact absurd (show false=true from f) jq
theorem abQ{x:V}:∀ {xs:List V} {us:dI},Vals xs us->xs.all u_=true->us.any (wQ x)=xs.any fun y=>va y x
 |_,_,.nil,_=>rfl
 |y::xs,u::us,.cons r t,f=>by
  rw[List.all_cons,je]at f;rw[Ak,Ak,akc r f.1,abQ t f.2]
theorem abR{A:Around}{s:aX}{x:V}{v:aO}(cc:RelV x v)(vb:u_ x=true):∀ {xs:List V} {us:dI},Vals xs us->xs.all u_=true->∀ u∈us,SeqAt.EqAt A s u v (wQ x u)
 |_,_,.nil,_=>fun u cD=>by cases cD
 |y::xs,u::us,.cons r t,f=>fun u' cD=>by
  rw[List.all_cons,je]at f;rcases gQ.mp cD with rfl|cD
  ·rw[akc r f.1];exact at4 r cc f.1 vb
  ·exact abR cc vb t f.2 u' cD
def J1(x:V)(xs:List V):Bool:=xs.any fun y=>va y x
def at6(K:cn)(neg:Bool):cO:=fun x y H Q=>∃ p xs,y=.ref p/\(aT K H p xs\/fM K H p xs)/\u_ x=true/\xs.all u_=true/\Q (.bl (if neg then !J1 x xs else J1 x xs)) H
theorem at7:h5 X (compareOp .NotIn) (at6 X.K true):=by
 intro pins s σ H x y v u Q I cc b4 h;obtain⟨p,xs,rfl,a0,vb,fs,q⟩:=h;cases b4;rcases a0 with a0|a0
 ·obtain⟨its,r,pl,hz⟩:=I.list a0;refine SeqAt.notIn_listAt (wQ x) pl.isList (fun w hw=>abR cc vb r fs w (by simpa using hw)) ⟨.bl _,H,I,rfl,?_⟩;rw[show its.toArray.any (wQ x)=its.any (wQ x) by simp,abQ r fs];exact q
 ·obtain⟨its,r,pl,hz⟩:=I.tuple a0;refine SeqAt.notIn_tupleAt (wQ x) pl (fun w hw=>abR cc vb r fs w (by simpa using hw)) ⟨.bl _,H,I,rfl,?_⟩;rw[show its.toArray.any (wQ x)=its.any (wQ x) by simp,abQ r fs];exact q
theorem iG:q8 X (.builtin "len") (fun xs H Q=>∃ p bN,xs=[.ref p]/\(aT X.K H p bN\/fM X.K H p bN)/\Q (.int bN.length) H):=by
 intro pins s σ H xs us Q I r h;obtain⟨p,bN,rfl,a0,q⟩:=h;obtain⟨u,rfl,cc⟩:=vals1 r;cases cc;have aR:=Bo;rcases a0 with a0|a0
 ·obtain⟨its,r',pl,hz⟩:=I.list a0;have hlen:=r'.length;exact Calls.call_len_list pl.isList (by simp only[iC]<;>omega) ⟨.int bN.length,H,I.tok _,⟨s.toks+1,by rw[iC,hlen]⟩,q⟩
 ·obtain⟨its,r',pl,hz⟩:=I.tuple a0;have hlen:=r'.length;exact len_tuple pl (by simp only[iC]<;>omega) ⟨.int bN.length,H,I.tok _,⟨s.toks+1,by rw[iC,hlen]⟩,q⟩
theorem abS:q8 X (.type "list") (fun xs H Q=>∃ p bN,xs=[.ref p]/\(aT X.K H p bN\/fM X.K H p bN)/\∀ l,H l=none->Q (.ref l) (upd H l (.lst bN))):=by
 intro pins s σ H xs us Q I r h;obtain⟨p,bN,rfl,a0,q⟩:=h;obtain⟨u,rfl,cc⟩:=vals1 r;cases cc;have fin:∀ (its:dI),Vals bN its->bN.length<=sizeLine->∀ (h':Heap) (c':Nat),(∀ b hF,s.heap.get? b=some hF->h'.get? b=some hF) ->
   h'.get? s.heap.objs.size=some { cls:=.type "list",dict:=none,data:=.seq its.toArray c',slots:=#[] }->EP X pins σ Q (.ref s.heap.objs.size) { s with heap:=h' }:=fun its r' hz h' c' aG e =>
  ⟨.ref s.heap.objs.size,_,I.laid (t':=s.toks) aG (cG _) (show hO X.prog X.w _ h' _ (.lst bN) from⟨hz,its,c',r',e⟩),rfl,q _ (I.bK.fresh (cG _))⟩
 rcases a0 with a0|a0
 ·obtain⟨its,r',pl,hz⟩:=I.list a0;have hlen:=r'.length;obtain⟨o,bA,aU,n,hd⟩:=pl.isList;exact call_list_seq p (.inl rfl) bA aU hd (fun h' c' aG e=>fin its r' hz h' c' aG e) (by simp only[iC]<;>omega)
 ·obtain⟨its,r',pl,hz⟩:=I.tuple a0;have hlen:=r'.length;obtain⟨o,bA,aU,n,hd⟩:=pl;exact call_list_seq p (.inr rfl) bA aU hd (fun h' c' aG e=>fin its r' hz h' c' aG e) (by simp only[iC]<;>omega)
theorem akd:q8 X (.type "tuple") (fun xs H Q=>∃ p bN,xs=[.ref p]/\((aT X.K H p bN/\∀ l,H l=none->Q (.ref l) (upd H l (.tup bN)))\/(fM X.K H p bN/\Q (.ref p) H))):=by
 intro pins s σ H xs us Q I r h;obtain⟨p,bN,rfl,h⟩:=h;obtain⟨u,rfl,cc⟩:=vals1 r;cases cc;rcases h with⟨a0,q⟩|⟨a0,q⟩
 ·obtain⟨its,r',pl,hz⟩:=I.list a0;have hlen:=r'.length;refine call_tuple_list pl.isList (fun h' aG=>?_) (by simp only[iC]<;>omega);have bk:Inv X pins σ H { s with heap:=h' }:=I.kept (t':=s.toks) aG;have dJ:Inv X pins σ (upd H h'.objs.size (.tup bN)) { s with heap:=h'.push { cls:=.type "tuple",data:=.seq its.toArray } } :=
   bk.laid (t':=s.toks) (fun b o e=>iB _ e) (cG _) (show hO X.prog X.w _ _ _ (.tup bN) from⟨hz,its,r',IsTup.new _ _⟩)
  exact⟨.ref h'.objs.size,_,dJ,Z,q _ (bk.bK.fresh (cG _))⟩
 ·obtain⟨its,r',pl,hz⟩:=I.tuple a0;exact call_tuple_same pl ⟨.ref p,H,I,rfl,q⟩
def abT(K:cn)(T:String)(x:V)(H:ao):Prop:=match x with
 | .str _=>T="str"
 | .int _=>T="int"
 | .ref p=>(T="list"/\∃ xs,aT K H p xs)\/(T="tuple"/\∃ o,K.lookup p=some o/\o.cls=.type "tuple"/\o.dict=none) \/
   (T="dict"/\((∃ kvs,H p=some (.dW kvs))\/∃ kvs,H p=some (.gD kvs)))\/(T="set"/\∃ S n,H p=some (.set S n))
 |_=>False
theorem ake{pins:List (au×Obj)}{σ:St}{H:ao}{s:aX}{T:String}{x:V}{v:aO}(I:Inv X pins σ H s)(r:RelV x v)(ty:abT X.K T x H) :
  s.TypeIs v T/\∀ a,v=.ref a->∃ cX,s.heap.get? a=some cX/\cX.dict=none:=by
 cases x with
 |str z =>
  obtain⟨t,rfl⟩:=r;cases (show T="str" from ty);exact⟨typeIs_str s z t,fun _ e=>nomatch e⟩
 |int i =>
  obtain⟨t,rfl⟩:=r;cases (show T="int" from ty);exact⟨typeIs_int s i t,fun _ e=>nomatch e⟩
 |ref p =>
  cases r;rcases ty with⟨rfl,xs,a0⟩|⟨rfl,o,aN,aU,hd⟩|⟨rfl,aN⟩|⟨rfl,S,n,aN⟩
  ·obtain⟨its,_,pl,_⟩:=I.list a0;refine⟨pl.isList.typeIs,fun a e=>?_⟩;cases e;obtain⟨o,n,e,c,hd,_⟩:=pl;exact⟨o,e,hd⟩
  ·refine⟨⟨o,I.jJ p o aN,aU⟩,fun a e=>?_⟩;cases e;exact⟨o,I.jJ _ o aN,hd⟩
  ·have z:∃ o,s.heap.get? p=some o/\o.ExactDict:=by
    rcases aN with⟨kvs,aN⟩|⟨kvs,aN⟩
    ·obtain⟨_,_,_,_,o,_,_,e,ex,_⟩:=I.bK p _ aN;exact⟨o,e,ex⟩
    ·obtain⟨_,_,_,_,o,_,_,e,ex,_⟩:=I.bK p _ aN;exact⟨o,e,ex⟩
   obtain⟨o,e,ex⟩:=z;refine⟨⟨o,e,ex.1⟩,fun a a8=>?_⟩;cases a8;exact⟨o,e,ex.2.1⟩
  ·obtain⟨o,_,_,_,e,ex,_⟩:=I.bK p _ aN;refine⟨⟨o,e,ex.1⟩,fun a a8=>?_⟩;cases a8;exact⟨o,e,ex.2.1⟩
 |_=>exact False.elim ty
def at8(K:cn)(T:String)(r:V->List V->ao->bx->Prop)(to:TE):TE:=fun σ H Q=>to σ H fun x H1=>abT K T x H1/\r x [] H1 Q
def at9(r:V->List V->ao->bx->Prop)(Q:bx)(x:V)(xs:List V)(H:ao):Prop:=r x xs H Q
def aua(K:cn)(T:String)(r:V->List V->ao->bx->Prop)(t:TA)(σ:St)(Q:bx)(x:V)(H:ao):Prop:=abT K T x H/\t σ H (at9 r Q x)
def yC(K:cn)(T:String)(r:V->List V->ao->bx->Prop)(to:TE)(t:TA):TE:=fun σ H Q=>to σ H (aua K T r t σ Q)
variable{o e:Expr}{es:List Expr}{to:TE}{t:TA}{name:Str}{apos h7:Pos}{T id:String}{r:V->List V->ao->bx->Prop}
theorem aub(m':PlainAttrs T)(slot:Slot T name id)(hty:typeOf (.builtin id)=pure (.type "method_descriptor")) (hm:abP X id r) (bA:PE X o to)
  (abU:attributeBase o name X.env (eval o X.env)=eval o X.env:=by rfl) (hline:(apos.endLine == h7.line)=true:=by rfl):PE X (.Call (.Attribute o name apos) [] [] h7) (at8 X.K T r to):=by
 intro pins s σ H Q I h;refine wpAny_Call_method0_late abU hline (cJ (bA pins s σ H _ I h) fun v s1 ⟨x,H1,bk,cH,ty,bT⟩=>?_);obtain⟨h1,aC⟩:=ake bk cH ty;exact⟨T,id,m',slot,hty,h1,aC,Calls.callWith_builtin rfl (PySem.evalArgs_none (hm pins s1 σ H1 x [] v [] Q bk cH .nil bT))⟩
theorem mz(m':PlainAttrs T)(slot:Slot T name id)(hty:typeOf (.builtin id)=pure (.type "method_descriptor")) (hm:abP X id r) (bA:PE X o to) (aW:PA X (e::es) t)
  (abU:attributeBase o name X.env (eval o X.env)=eval o X.env:=by rfl)
  (auc:((backTo h7 (starEach (e::es) X.env)).all (fun x=>!x.1) && (backToKw h7 (keywordEach [] X.env)).all (fun x=>x.1.isSome)
   && decide ((e::es).length+([]:List Keyword).length+(if([]:List Keyword).isEmpty then 0 else 1)<30))=true:=by rfl)
  (hline:(apos.endLine == h7.line)=true:=by rfl) (aH:starEach (e::es) X.env=(false,eval e X.env)::starEach es X.env:=by rfl) (aud:(backTo h7 (starEach es X.env)).any (·.1)=false:=by rfl) :
  PE X (.Call (.Attribute o name apos) (e::es) [] h7) (yC X.K T r to t):=by
 intro pins s σ H Q I h;refine wpAny_Call_method_late abU auc hline rfl (cJ (bA pins s σ H _ I h) fun v s1 ⟨x,H1,bk,cH,ty,bT⟩=>?_);obtain⟨h1,aC⟩:=ake bk cH ty;refine⟨T,id,m',slot,hty,h1,aC,?_⟩;have mA:=aW h7 pins s1 σ H1 _ bk bT;rw[aH]at mA ⊢;refine Calls.callWith_builtin (by show(false || (backTo h7 (starEach es X.env)).any (·.1))=false;rw[aud]<;>rfl) (Calls.evalArgs_plain ?_);exact cJ mA fun us s2 ⟨vs,aB,dJ,dm,cA⟩=>hm pins s2 σ aB x vs v us Q dJ cH dm cA
end
def akf(X:bR)(id:String)(r:V->List V->ao->bx->Prop):Prop :=
 ∀ (pins:List (au×Obj)) (s:aX) (σ:St) (H:ao) (x:V) (xs:List V) (v:aO) (us:dI) (Q:bx),Inv X pins σ H s->RelV x v->Vals xs us->r x xs H Q ->
  wpAny (model X.prog X.w) X.A (call (.builtin id) (v::us)) (EP X pins σ Q) X.xe s
theorem Vals.one:∀ {x:V} {us:dI},Vals [x] us->∃ u,us=[u]/\RelV x u
 |_,_,.cons r .nil=>⟨_,rfl,r⟩
section
variable{X:bR}{pins:List (au×Obj)}{σ:St}{H:ao}{s:aX}{l b:au}{xs bN zs:List V}
theorem Inv.akg{its its':dI}{n:Nat}{f:Array aO->Array aO}{t':Nat}(I:Inv X pins σ H s)(tu:H l=some (.lst xs))
  (e:s.heap.get? l=some { cls:=.type "list",data:=.seq its.toArray n }) (hf:f its.toArray=its'.toArray) (aZ:Vals bN its') (hz:bN.length<=sizeLine) :
  Inv X pins σ (upd H l (.lst bN)) { s with heap:=s.heap.update l (Obj.mapSeq f),toks:=t' }:=by
 have q:=PySem.IsL.update e f;rw[hf]at q;refine I.write (x:=l) (e:=l) (by rw[tu];exact trivial) (.inl rfl) (fun b' u ak cD=>(Aj s.heap (Obj.mapSeq f) (Ne.symm ak)).trans cD) ⟨_,q⟩ ?_;exact⟨hz,its',_,aZ,q⟩
theorem Inv.aue{its:dI}{t':Nat}(I:Inv X pins σ H s)(aZ:Vals bN its)(hz:bN.length<=sizeLine) :
  Inv X pins σ (upd H s.heap.objs.size (.lst bN)) { s with heap:=s.heap.push { cls:=.type "list",data:=.seq its.toArray },toks:=t' } :=
 I.laid (fun _ _ q=>iB _ q) (cG _) ⟨hz,its,0,aZ,lU _ rfl⟩
theorem Inv.fresh(I:Inv X pins σ H s):H s.heap.objs.size=none:=I.bK.fresh (cG _)
theorem Inv.J2(I:Inv X pins σ H s)(tu:H l=some (.lst xs)):xs.length<=sizeLine/\∃ (its:dI) (n:Nat),Vals xs its/\xs.length=its.length/\s.heap.get? l=some { cls:=.type "list",data:=.seq its.toArray n }:=by
 obtain⟨z,its,n,r,e⟩:=I.bK l _ tu;exact⟨z,its,n,r,r.length,e⟩
theorem auf{n:Nat}(h:n<=sizeLine):Builtin.List.listTooLong n=false:=by
 unfold Builtin.List.listTooLong;exact oo (by omega)
end
section
variable{X:bR}
inductive auh(x:V)(vs:List V)(H:ao)(Q:bx):Prop
 |mk (l:au) (xs:List V) (y:V) (ex:x=.ref l) (ev:vs=[y]) (h:H l=some (.lst xs)) (z:xs.length<sizeLine) (q:Q .non (upd H l (.lst (xs++[y]))))
theorem pP:akf X "list.append" auh:=by
 intro pins s σ H x vs v us Q I cc eZ h;obtain⟨l,xs,y,rfl,rfl,tu,hz,q⟩:=h;cases cc;obtain⟨u,rfl,hn⟩:=eZ.one;obtain⟨z,its,n,r,aF,e⟩:=I.J2 tu;refine call_meets F.slot_list_append ⟨_,e,rfl⟩ F.entry_list_append (F.args_list_append_2 _ _) (PySem.list_append l its.toArray n u (by rw[iC];omega)) ⟨e,?_⟩;refine⟨.non,_,I.akg (its':=its++[u]) tu e (by simp) (r.append (.cons hn .nil)) ?_,Z,q⟩;rw[gB,List.length_singleton];omega
def yD:V->List V->ao->bx->Prop:=fun x vs H Q=>∃ l b xs zs,x=.ref l/\vs=[.ref b]/\H l=some (.lst xs)/\H b=some (.lst zs)/\xs.length+zs.length<=sizeLine/\Q .non (upd H l (.lst (xs++zs)))
theorem VG:akf X "list.extend" yD:=by
 intro pins s σ H x vs v us Q I cc eZ h;obtain⟨l,b,xs,zs,rfl,rfl,tu,lJ,hz,q⟩:=h;cases cc;obtain⟨u,rfl,hn⟩:=eZ.one;cases hn;obtain⟨z,its,n,r,aF,e⟩:=I.J2 tu;obtain⟨eG,ra,n2,dm,oN,a8⟩:=I.J2 lJ;have hsz:its.toArray.size+ra.toArray.size<=sizeLine:=by rw[iC,iC];omega
 have aui:¬ (!its.toArray.isEmpty && Builtin.List.listTooLong (its.toArray.size+ra.toArray.size))=true:=by
  rw[auf hsz,Bool.and_false];exact jq
 refine call_meets F.slot_list_extend ⟨_,e,rfl⟩ F.entry_list_extend (F.args_list_extend_2 _ _)
  (AutoSeq1.list_extend_list_list_0 l its.toArray n b ra.toArray n2 aui (by rw[iC];omega) (by omega)) ⟨e,a8,?_⟩
 refine⟨.non,_,I.akg (its':=its++ra) tu e (by simp) (r.append dm) ?_,Z,q⟩;rw[gB];omega
def auj:cO:=fun x y H Q=>∃ l b xs zs,x=.ref l/\y=.ref b/\H l=some (.lst xs)/\H b=some (.lst zs)/\xs.length+zs.length<=sizeLine/\∀ p,H p=none->Q (.ref p) (upd H p (.lst (xs++zs)))
theorem akh:h5 X (binaryOp .Add) auj:=by
 intro pins s σ H x y v u Q I cc b4 h;obtain⟨l,b,xs,zs,rfl,rfl,tu,lJ,hz,q⟩:=h;cases cc;cases b4;obtain⟨z,its,n,r,aF,e⟩:=I.J2 tu;obtain⟨eG,ra,n2,dm,oN,a8⟩:=I.J2 lJ;refine PySem.P.add_list e a8 ?_ (by rw[iC,iC];omega);have ha:its.toArray++ra.toArray=(its++ra).toArray:=by simp
 rw[ha];exact⟨.ref _,_,I.aue (t':=s.toks) (r.append dm) (by rw[gB];omega),Z,q _ I.fresh⟩
end
theorem Vals.ints:∀ {ns:List Int} {us:dI},Vals (ns.map V.int) us->IntsAre us ns
 | [],us,h=>by
  rw[v5]at h;cases h;exact IntsAre.nil
 |n::ns,us,h=>by
  rw[fT]at h;cases h with
  |cons r t =>
   obtain⟨k,rfl⟩:=r;exact IntsAre.cons n k (Vals.ints t)
theorem aki:∀ {us:dI} {ns:List Int},IntsAre us ns->Vals (ns.map V.int) us
 |_,_,.nil=>by rw[v5];exact Paired.nil
 |_,_,.cons n t h=>by rw[fT];exact Paired.cons (show RelV (V.int n) (Value.int n t) from⟨t,rfl⟩) (aki h)
theorem Vals.auk{a:au}{us:dI}(r:Vals [V.ref a] us):us=[Value.ref a]:=by
 cases r with
 |cons r t =>
  cases t;cases r;rfl
section
variable{prog:fw}{w:e3}{A:Around}{E:aO->aX->Prop}{s:aX}{l:au}{its:dI}{ns:List Int}{Q:aO->aX->Prop}
theorem aul(hh:A.handled=none)(aF:s.heap.IsList l its.toArray)(hi:IntsAre its ns)(mX:0<ns.length)
  (h:∀ h' tk M t',(∀ b o,s.heap.get? b=some o->h'.get? b=some o)->M∈ns->(∀ a,a∈ns->a<=M)->Q (.int M t') { s with heap:=h',toks:=tk }):wpAny (model prog w) A (call (.builtin "max") [.ref l]) Q E s:=by
 obtain⟨xs,e⟩:=hi.allInts.items;have aR:numsOf (intItems xs).toList=ns:=by rw[← e];exact hi.numsOf
 rw[nums_intItems]at aR;subst aR;rw[e]at aF;have hsz:0<xs.size:=by simpa using mX
 refine PySem.max_intList hh aF hsz fun v h' tk aZ aN=>?_;obtain⟨t,rfl⟩:=intItems_at aZ;obtain⟨h1,aC⟩:=argBest_gt (numAt xs) (xs.size-1);refine h h' tk _ t aN ?_ fun a aW=>?_
 ·rw[numAt_eq];exact PySem.getD_mem (by rw[ew,I6];omega)
 ·obtain⟨j,bM,rfl⟩:=mem_getD aW;rw[ew,I6]at bM;rw[← numAt_eq];exact aC j (by omega)
end
section
variable{X:bR}
def aum(K:cn):List V->ao->bx->Prop:=fun vs H Q=>∃ (a:au) (ns:List Int),vs=[V.ref a]/\aT K H a (ns.map V.int)/\0<ns.length/\∀ m,m∈ns->(∀ y,y∈ns->y<=m)->Q (.int m) H
theorem aun(aU:X.calm=true):q8 X (.builtin "max") (aum X.K):=by
 intro pins s σ H vs us Q I r h;obtain⟨a,ns,rfl,aH,mX,q⟩:=h;obtain⟨its,eZ,aF,_⟩:=I.list aH;rw[Vals.auk r];exact aul (I.ok.hd aU) aF.isList eZ.ints mX fun h' tk m t' aN h1 aC=>⟨.int _,H,I.kept aN,⟨_,rfl⟩,q m h1 aC⟩
end
abbrev akj(h:Heap)(c:au)(v:Option aO):Prop:=h.IsCell c v
def auo(scope sc:Scope):Scope :=
 { scope with names:=scope.names.map fun(n,k)=>if(k == .free && sc.kind == .function && sc.names.lookup n == some .cell)then(n,.cell)else(n,k) }
def kZ(cells:List (Str×au)):List (Str×NameKind)->List (Str×au)->List (Str×au)
 | [],acc=>acc
 |(n,k)::r,acc=>if k == .free then kZ cells r ((n,(cells.lookup n).getD 0)::acc)else kZ cells r acc
theorem akk(env:Env)(f:Str×NameKind->List (Str×au)->Sem (ForInStep (List (Str×au))))
  (hf:∀ n k c,f (n,k) c=if k == .free then(do let a ← cellOf env n;pure (.yield ((n,a)::c)))else pure (.yield c)) :
  ∀ (names:List (Str×NameKind)) (acc:List (Str×au)),(∀ y∈names,y.2=.free->∃ c,env.cells.lookup y.1=some c)->forIn names acc f=pure (kZ env.cells names acc)
 | [],acc,_=>by rw[List.forIn_nil];rfl
 |(n,k)::r,acc,h=>by
  rw[List.forIn_cons,hf];have bU:=fun acc=>akk env f hf r acc fun y aP=>h y (hZ _ aP);unfold kZ;by_cases aN:(k == NameKind.free)=true
  ·rw[bL aN,bL aN];obtain⟨c,aU⟩:=h (n,k) h9 (by simpa using aN);have e:cellOf env n=pure c:=by unfold cellOf;rw[aU]
   rw[e];have a8:(env.cells.lookup n).getD 0=c:=by rw[aU];rfl
   rw[a8];exact bU _
  ·rw[bw aN,bw aN];exact bU _
theorem aup{scope:Scope}{env:Env}(h:∀ y∈scope.names,y.2=.free->∃ c,env.cells.lookup y.1=some c):closureFor scope env=pure (kZ env.cells scope.names []):=by
 simp only[closureFor];rw[akk env _ (fun n k c=>rfl) scope.names [] h];rfl
theorem mem_lookup{α:Type}:∀ {l:List (Str×α)} {n:Str} {c:α},(n,c)∈l->∃ c',l.lookup n=some c'
 |(k,v)::r,n,c,h=>by
  rw[uG];cases ak:n == k with
  |true=>exact⟨_,Z⟩
  |false =>
   rcases gQ.mp h with e|h
   ·cases e;simp at ak
   ·exact mem_lookup h
theorem VH{cells:List (Str×au)}:∀ {names:List (Str×NameKind)} {acc:List (Str×au)} {n:Str} {c:au},(n,c)∈kZ cells names acc->(n,c)∈acc\/((n,.free)∈names/\c=(cells.lookup n).getD 0)
 | [],_,_,_,h=>.inl h
 |(m,k)::r,acc,n,c,h=>by
  unfold kZ at h;split at h
  ·rename_i aN;have aN:k=.free:=by simpa using aN
   rcases VH h with h|⟨h1,aC⟩
   ·rcases gQ.mp h with e|h
    ·cases e;exact .inr ⟨aN▸h9,rfl⟩
    ·exact .inl h
   ·exact .inr ⟨hZ _ h1,aC⟩
  ·rcases VH h with h|⟨h1,aC⟩
   ·exact .inl h
   ·exact .inr ⟨hZ _ h1,aC⟩
theorem abV{cells:List (Str×au)}:∀ {names:List (Str×NameKind)} {acc:List (Str×au)} {p:Str×au},p∈acc->p∈kZ cells names acc
 | [],_,_,h=>h
 |(m,k)::r,acc,p,h=>by
  unfold kZ;split
  ·exact abV (hZ _ h)
  ·exact abV h
theorem abW{cells:List (Str×au)}:∀ {names:List (Str×NameKind)} {acc:List (Str×au)} {n:Str},(n,.free)∈names->(n,(cells.lookup n).getD 0)∈kZ cells names acc
 |(m,k)::r,acc,n,h=>by
  unfold kZ;rcases gQ.mp h with e|h
  ·cases e;exact abV h9
  ·split
   ·exact abW h
   ·exact abW h
theorem J3:∀ {names:List (Str×NameKind)} {h:Heap} {acc:List (Str×au)} {x:Str} {c:au},(x,c)∈cellsFrom h.objs.size names acc ->
  (x,c)∈acc\/((x,.cell)∈names/\h.objs.size<=c/\akj (pushCells h names) c none)
 | [],_,_,_,_,h=>.inl h
 |(n,k)::r,h,acc,x,c,hm=>by
  unfold cellsFrom at hm;unfold pushCells;split at hm
  ·rename_i aN;rw[bL aN];have aN:k=.cell:=by simpa using aN
   rw[← qZ h { cls:=.type "cell",data:=.cell none }]at hm;rcases J3 hm with hm|⟨h1,aC,bH⟩
   ·rcases gQ.mp hm with e|hm
    ·cases e;exact .inr ⟨aN▸h9,cG _,_,pushCells_keeps r _ _ _ (lU _ rfl),rfl⟩
    ·exact .inl hm
   ·rw[qZ]at aC;exact .inr ⟨hZ _ h1,Nat.le_of_succ_le aC,bH⟩
  ·rename_i aN;rw[bw aN];rcases J3 hm with hm|⟨h1,aC,bH⟩
   ·exact .inl hm
   ·exact .inr ⟨hZ _ h1,aC,bH⟩
theorem VJ:∀ {names:List (Str×NameKind)} {n:Nat} {acc:List (Str×au)} {p:Str×au},p∈acc->p∈cellsFrom n names acc
 | [],_,_,_,h=>h
 |(m,k)::r,n,acc,p,h=>by
  unfold cellsFrom;split
  ·exact VJ (hZ _ h)
  ·exact VJ h
theorem abX:∀ {names:List (Str×NameKind)} {n:Nat} {acc:List (Str×au)} {x:Str},(x,.cell)∈names->∃ c,(x,c)∈cellsFrom n names acc
 |(m,k)::r,n,acc,x,h=>by
  unfold cellsFrom;rcases gQ.mp h with e|h
  ·cases e;exact⟨n,VJ h9⟩
  ·split
   ·exact abX h
   ·exact abX h
theorem abY:∀ {names:List (Str×NameKind)} {h:Heap} {acc:List (Str×au)} {x y:Str} {c:au},(∀ p∈acc,p.2<h.objs.size)->(∀ x y c,(x,c)∈acc->(y,c)∈acc->x=y) ->
  (x,c)∈cellsFrom h.objs.size names acc->(y,c)∈cellsFrom h.objs.size names acc->x=y
 | [],_,_,_,_,_,_,hi,h1,aC=>hi _ _ _ h1 aC
 |(n,k)::r,h,acc,x,y,c,aF,hi,h1,aC=>by
  unfold cellsFrom at h1 aC;split at h1
  ·rename_i aN;rw[bL aN]at aC;rw[← qZ h { cls:=.type "cell",data:=.cell none }]at h1 aC;refine abY (h:=h.push _) (fun p aL=>?_) (fun x y c a b=>?_) h1 aC
   ·rw[qZ];rcases gQ.mp aL with rfl|aL
    ·exact vX _
    ·exact Nat.lt_succ_of_lt (aF p aL)
   ·rcases gQ.mp a with e|a<;>rcases gQ.mp b with e'|b
    ·cases e;cases e';rfl
    ·cases e;exact absurd (aF _ b) (uJ _)
    ·cases e';exact absurd (aF _ a) (uJ _)
    ·exact hi _ _ _ a b
  ·rename_i aN;rw[bw aN]at aC;exact abY aF hi h1 aC
theorem auq{M:Model}{A:Around}{E:aO->aX->Prop}{s:aX}{scope:Scope}{globals:au}{closure:List (Str×au)}{qual:Str}{func:Option au}{code:aO}{around:Env}{builtins:au}{Q:Env->aX->Prop}
  (h:Q (newEnv scope s.heap.objs.size globals (cellsFrom (s.heap.objs.size+1) scope.names closure) qual func code (some around) builtins)
   { s with heap:=pushCells (s.heap.push { cls:=.type "dict",data:=.dict #[] }) scope.names }) :
  wpAny M A (newFunctionEnv scope globals closure [] qual func code (some around) builtins) Q E s:=by
 simp only[newFunctionEnv,Option.isSome_some,if_true];refine wpAny_bind (wpAny_alloc ?_);refine wpAny_bind (wpAny_layCells _ (fun n k c=>rfl) scope.names closure _ _ ?_);rw[show({ s with heap:=s.heap.push { cls:=.type "dict",data:=.dict #[] } }:aX).heap.objs.size=s.heap.objs.size+1 from qZ ..];rw[List.forIn_nil];exact wpAny_bind (wpAny_pure (wpAny_pure h))
theorem abZ{sc:Scope}:∀ {names:List (Str×NameKind)} {x:Str} {k:NameKind},
  (names.map fun(n,k)=>if(k == NameKind.free && sc.kind == .function && sc.names.lookup n == some .cell)then(n,NameKind.cell)else(n,k)).lookup x=some k ->
  ∃ k',names.lookup x=some k'/\(k=k'\/(k'=.free/\k=.cell))
 | [],_,_,h=>by simp at h
 |(n,J4)::r,x,k,h=>by
  have bU:=@abZ sc r x k;have h':List.lookup x ((if(J4 == NameKind.free && sc.kind == .function && sc.names.lookup n == some .cell)=true then(n,NameKind.cell)else(n,J4))::(r.map _))=some k:=h;cases aq:x == n with
  |true =>
   simp only[uG,aq];by_cases aU:(J4 == NameKind.free && sc.kind == .function && sc.names.lookup n == some .cell)=true
   ·rw[bL aU]at h';simp only[uG,aq]at h';cases h';simp only[je,v9]at aU;exact⟨J4,Z,.inr ⟨aU.1.1,Z⟩⟩
   ·rw[bw aU]at h';simp only[uG,aq]at h';cases h';exact⟨_,Z,.inl rfl⟩
  |false =>
   simp only[uG,aq];by_cases aU:(J4 == NameKind.free && sc.kind == .function && sc.names.lookup n == some .cell)=true
   ·rw[bL aU]at h';simp only[uG,aq]at h';exact bU h'
   ·rw[bw aU]at h';simp only[uG,aq]at h';exact bU h'
structure J5(N:List Str)(sc scope:Scope)(own:List (Str×Nat)):Prop where
 kind:scope.kind=.function
 uniq:∀ y∈scope.names,scope.names.lookup y.1=some y.2
 tv:∀ p∈own,N[p.2]?=some p.1
 free:∀ y∈scope.names,y.2=.free->sc.names.lookup y.1=some .cell\/sc.names.lookup y.1=some .free
 own:∀ y∈scope.names,y.2=.local\/y.2=.cell->y.1∈own.map (·.1)\/y.1∉N
def wipe(σ:St):aK->St
 | []=>σ
 |v::vs=>(wipe σ vs).set v none
theorem ab0(σ:St):∀ vs:aK,(wipe σ vs).length=σ.length
 | []=>rfl
 |v::vs=>by unfold wipe;rw[List.length_set,ab0 σ vs]
theorem ab1{σ:St}{i:Nat}{x:V}:∀ {vs:aK},(wipe σ vs)[i]?=some (some x)->σ[i]?=some (some x)/\i∉vs
 | [],h=>⟨h,by simp⟩
 |v::vs,h=>by
  unfold wipe at h;by_cases hi:v=i
  ·subst hi;by_cases aZ:v<(wipe σ vs).length
   ·rw[Iz aZ]at h;cases h
   ·rw[qY (by simpa using aZ)]at h;cases h
  ·rw[I5 hi]at h;obtain⟨h1,aC⟩:=ab1 h;exact⟨h1,by simp only[gQ,not_or];exact⟨fun e=>hi e.symm,aC⟩⟩
abbrev bR.js(X:bR)(s:aX)(H:ao)(scope:Scope)(hI:Env)(fp:d1):bR:={ X with jY:=s,JB:=H,env:=hI,outer:=X.stack,ex:=fp,fn:=fun x=>scope.names.lookup x == some .cell,g_:=[],xe:=fun _ _=>False }
section
variable{X:bR}{pins:List (au×Obj)}{σ:St}{H:ao}{s:aX}
theorem aur{scope:Scope}{own:List (Str×Nat)}{fp:d1}(I:Inv X pins σ H s)(ok:J5 X.N X.env.scope scope own)(hl:X.N.Nodup)(Fy:∀ b∈fp,q7 X pins H b/\b<s.heap.objs.size) :
  Inv (X.js s H scope (compEnvC scope (cellsFrom (s.heap.objs.size+1) scope.names (kZ X.env.cells scope.names [])) s.heap.objs.size X.env) fp) [] (wipe σ (own.map (·.2))) H { s with heap:=pushCells (s.heap.push { cls:=.type "dict",data:=.dict #[] }) scope.names }:=by
 have s6:∀ y∈scope.names,y.2=.free->∃ c,X.env.cells.lookup y.1=some c:=fun y aP e=>by
  rcases ok.free y aP e with k|k
  ·exact I.ok.has _ (.inl k)
  ·exact I.ok.has _ (.inr k)
 generalize J6:compEnvC scope (cellsFrom (s.heap.objs.size+1) scope.names (kZ X.env.cells scope.names [])) s.heap.objs.size X.env=hI;have aG:∀ b o,s.heap.get? b=some o->(pushCells (s.heap.push { cls:=.type "dict",data:=.dict #[] }) scope.names).get? b=some o:=fun b o e=>pushCells_keeps _ _ _ _ (iB _ e);have c4:hI.locals=s.heap.objs.size:=by rw[← J6];rfl
 have iU:hI.cells=cellsFrom (s.heap.objs.size+1) scope.names (kZ X.env.cells scope.names []):=by rw[← J6];rfl
 have ab2:hI.scope=auo scope X.env.scope:=by rw[← J6];rfl
 rw[← qZ s.heap { cls:=.type "dict",data:=.dict #[] }]at iU;have cm:∀ {y c},(y,c)∈kZ X.env.cells scope.names []->X.env.cells.lookup y=some c/\c<s.heap.objs.size:=fun{y c} hm=>by
  rcases VH hm with hm|⟨h1,rfl⟩
  ·cases hm
  ·obtain⟨c,aU⟩:=s6 _ h1 rfl;rw[aU];obtain⟨w,z⟩:=I.cell _ _ aU;exact⟨Z,z.lt⟩
 have mem:∀ {y c},hI.cells.lookup y=some c->(X.env.cells.lookup y=some c/\c<s.heap.objs.size)\/(s.heap.objs.size+1<=c/\akj (pushCells (s.heap.push { cls:=.type "dict",data:=.dict #[] }) scope.names) c none):=fun{y c} e=>by
  rw[iU]at e;rcases J3 (pg e)with hm|⟨_,aC,bH⟩
  ·exact .inl (cm hm)
  ·rw[qZ]at aC;exact .inr ⟨aC,bH⟩
 have look:∀ {y},scope.names.lookup y=some .free->∃ c,hI.cells.lookup y=some c/\X.env.cells.lookup y=some c:=fun{y} aF=>by
  have aP:(y,NameKind.free)∈scope.names:=pg aF;obtain⟨c',e'⟩:=mem_lookup (VJ (names:=scope.names) (n:=(s.heap.push { cls:=.type "dict",data:=.dict #[] }).objs.size) (abW (cells:=X.env.cells) (acc:=[]) aP));rw[← iU]at e';refine⟨c',e',?_⟩;rw[iU]at e';rcases J3 (pg e')with hm|⟨h1,_,_⟩
  ·exact(cm hm).1
  ·have:=ok.uniq _ h1
   rw[aF]at this;cases this
 have aus:(X.js s H scope hI fp).Ok:=by
  refine⟨I.ok.mod,by show hI.scope.kind=_;rw[ab2];exact ok.kind,by show hI.globals=_;rw[← J6];exact I.ok.glob,by show hI.builtins=_;rw[← J6];exact I.ok.blt,by show s.heap.objs.size<=hI.locals;rw[c4];exact cG _,
   fun y z c bD a8=>?_,fun y aP=>?_,fun y c z e=>?_,I.ok.hd,I.ok.frames,.inl rfl,fun b ak=>⟨?_,fun y c e z=>?_⟩,I.bs,jf I.ok.qt I.EY,fun b o e ak=>?_,fun b ak z=>?_,I.stack,I.aa1⟩
  ·have bD:hI.cells.lookup y=some c:=bD
   have a8:hI.cells.lookup z=some c:=a8;rw[iU]at bD a8;refine abY (fun p aL=>?_) (fun y z c a b=>I.ok.inj y z c (cm a).1 (cm b).1) (pg bD) (pg a8);rw[qZ];exact Nat.lt_succ_of_lt (cm (y:=p.1) (c:=p.2) aL).2
  ·show ∃ c,hI.cells.lookup y=some c;have key:∀ k,hI.kindOf y=some k->(k=.cell\/k=.free)->∃ c,hI.cells.lookup y=some c:=fun k aN Bv=>by
    unfold Env.kindOf at aN;rw[ab2]at aN;obtain⟨k',e,r⟩:=abZ aN;have:k'=.cell\/k'=.free:=by
     rcases r with rfl|⟨rfl,_⟩
     ·exact Bv
     ·exact .inr rfl
    rcases this with rfl|rfl
    ·obtain⟨c,hm⟩:=abX (n:=(s.heap.push { cls:=.type "dict",data:=.dict #[] }).objs.size) (acc:=kZ X.env.cells scope.names []) (pg e);obtain⟨c',e'⟩:=mem_lookup hm;exact⟨c',by rw[iU];exact e'⟩
    ·obtain⟨c,h1,_⟩:=look e;exact⟨c,h1⟩
   rcases aP with aP|aP
   ·exact key _ aP (.inl rfl)
   ·exact key _ aP (.inr rfl)
  ·have z:(scope.names.lookup y == some NameKind.cell)=true:=z
   have z:scope.names.lookup y=some .cell:=by simpa using z
   have e:hI.cells.lookup y=some c:=e;rw[iU]at e;rcases J3 (pg e)with hm|⟨_,aC,_⟩
   ·rcases VH hm with hm|⟨h1,_⟩
    ·cases hm
    ·have q:=ok.uniq _ h1
     rw[z]at q;cases q
   ·rw[qZ]at aC;exact Nat.le_of_succ_le aC
  ·show b≠hI.locals;rw[c4];exact gR (Fy b ak).2
  ·have e:hI.cells.lookup y=some c:=e
   rcases mem e with⟨h1,_⟩|⟨h1,_⟩
   ·exact(Fy b ak).1.2.2.2.2.1 y c h1 z
   ·have aC:s.heap.objs.size+1<=b:=by rw[← z];exact h1
    exact absurd (ll (Fy b ak).2 (Nat.le_of_succ_le aC)) (uJ _)
  ·rcases (Fy b ak).1.2.2.2.1 with z|z
   ·exact I.ok.wH b o e z
   ·exact absurd (ll (fG e) (jf I.ok.qt z)) (uJ _)
  ·rcases gQ.mp (I.Vd b z)with z|z
   ·exact(Fy b ak).1.2.1 z
   ·exact(Fy b ak).1.2.2.1 z
 refine⟨aus,Z,I.bare,jX.kept aG,⟨fun _=>none,?_,fun i y bG bD a8 dr=>?_⟩,fun y c e=>?_,?_,fun y c e=>?_,fun p aL=>?_,I.bK.kept aG,by rw[ab0];exact I.len⟩
 ·show Heap.Ns _ hI.locals _;rw[c4];exact Heap.Ns.keeps (Heap.Ns.new ..) fun b o e=>pushCells_keeps _ _ _ _ e
 ·obtain⟨a8,mX⟩:=ab1 a8;have yE:scope.names.lookup y=some .free/\(hI.kindOf y=some .cell\/hI.kindOf y=some .free):=by
   have key:∀ k,hI.scope.names.lookup y=some k->k=.local\/k=.cell\/k=.free->scope.names.lookup y=some .free/\(hI.kindOf y=some .cell\/hI.kindOf y=some .free):=fun k aN Bv=>by
    have Uz:=aN;rw[ab2]at aN;obtain⟨k',e,r⟩:=abZ aN;have no:¬ (k'=.local\/k'=.cell):=fun hh=>by
     rcases ok.own _ (pg e) hh with e'|e'
     ·obtain⟨p,aL,aut⟩:=g5.mp e';have dr:=ok.tv p aL;have:p.1=y:=aut;rw[this]at dr;exact mX (g5.mpr ⟨p,aL,aa6 hl dr bD⟩)
     ·exact e' (f9 bD)
    rcases r with rfl|⟨rfl,rfl⟩
    ·rcases Bv with rfl|rfl|rfl
     ·exact absurd (.inl rfl) no
     ·exact absurd (.inr rfl) no
     ·exact⟨e,.inr Uz⟩
    ·exact⟨e,.inl Uz⟩
   have dr:Ez hI.scope y:=dr;rcases dr with dr|dr|dr
   ·exact key _ dr (.inl rfl)
   ·exact key _ dr (.inr (.inl rfl))
   ·exact key _ dr (.inr (.inr rfl))
  obtain⟨m,aR,aF⟩:=I.loc;have auu:Ez X.env.scope y:=(ok.free _ (pg yE.1) rfl).elim (fun k=>.inr (.inl k)) (fun k=>.inr (.inr k));obtain⟨w,r,q⟩:=aF i y bG bD a8 auu;refine⟨w,r,.inr ⟨yE.2,?_⟩⟩;obtain⟨c,h1,aC⟩:=look yE.1;rcases q with⟨k,_⟩|⟨_,c',e',z⟩
  ·have k:X.env.scope.names.lookup y=some .local:=k
   rcases ok.free _ (pg yE.1) rfl with k'|k'<;>rw[show X.env.scope.names.lookup y=_ from k']at k<;>cases k
  ·rw[aC]at e';cases e';exact⟨c,h1,z.keeps aG⟩
 ·have e:hI.cells.lookup y=some c:=e
  rcases mem e with⟨h1,_⟩|⟨_,z⟩
  ·obtain⟨w,z⟩:=I.cell y c h1;exact⟨w,z.keeps aG⟩
  ·exact⟨_,z⟩
 ·show H hI.locals=none;rw[c4];exact I.bK.fresh (cG _)
 ·have e:hI.cells.lookup y=some c:=e
  rcases mem e with⟨h1,_⟩|⟨h1,_⟩
  ·exact I.oH y c h1
  ·exact I.bK.fresh (Nat.le_of_succ_le h1)
 ·exact absurd (show p∈([]:List (au×Obj))++[] from aL) (by simp)
theorem auv{E:aO->aX->Prop}{D:au}{xs:List V}{y:V}{v:aO}{Q:aO->aX->Prop}(I:Inv X pins σ H s)(bp:H D=some (.lst xs))(hz:xs.length<sizeLine)(r:RelV y v)
  (h:∀ s',Inv X pins σ (upd H D (.lst (xs++[y]))) s'->Q .none s'):wpAny (model X.prog X.w) X.A (call (.builtin "list.append") [.ref D,v]) Q E s:=by
 obtain⟨U7,its,n,VD,e⟩:=I.bK D _ bp;have aF:=VD.length;refine append_at (hsz:=by rw[iC];omega) e fun h' fV uV=>?_;refine h { s with heap:=h' } (I.write (t':=s.toks) (by rw[bp];trivial) (.inl rfl) (fun b u ak q=>(fV.2 b ak).trans q) ⟨_,uV⟩ ⟨by rw[gB];exact hz,its++[v],n+1,VD.append (.cons r .nil),?_⟩);rw[uV];simp
def J7(X:bR)(ifs:List Expr)(t:TT):Prop :=
 ∀ (pins:List (au×Obj)) (s:aX) (σ:St) (H:ao) (Q:Bool->ao->Prop),Inv X pins σ H s->t σ H Q ->
  wpAny (model X.prog X.w) X.A (forIn ifs true fun c r=>if r=true then do let ok ← isTrue c X.env (eval c X.env);pure (ForInStep.yield ok)else pure (ForInStep.yield r)) (Vf X pins σ Q) X.xe s
def sb:TT:=fun _ H Q=>Q true H
theorem hx:J7 X [] sb:=fun _ _ _ H _ I h=>wpAny_tests_nil ⟨H,I,h⟩
theorem VK{c:Expr}{t:TT}(h:pJ X c t):J7 X [c] t:=fun pins s σ H Q I hw=>wpAny_tests_one (h pins s σ H Q I hw)
end
theorem ab3{α:Type}{t:Sem α}{Q eo:α->aX->Prop}{M:Model}{A:Around}{E:aO->aX->Prop}{s:aX}(h:wpAny M A t Q (fun _ _=>False) s)(Bd:∀ a s,Q a s->eo a s):wpAny M A t eo E s:=wpAny_mono h Bd fun _ _ z=>False.elim z
theorem auw{prog:fw}{w:e3}{A:Around}{R:Result->aX->Prop}{s:aX}{elt target iter:Expr}{ifs:List Expr}{scope:Scope}{pos:Pos}{it acc:aO}{env:Env}(I:Nat->aX->Prop)
  (turn:∀ n s,I n s->wpAny (model prog w) A (pyNext it) (fun r fU=>match r with
   |none=>R (.ok .next) fU
   |some v=>wpAny (model prog w) A (letOwnedTupleGo target it v) (fun _ akl=>wpAny (model prog w) A (assign target env v) (fun _ lY =>
     wpAny (model prog w) A (forIn ifs true fun c r=>if r=true then do let ok ← isTrue c env (eval c env);pure (ForInStep.yield ok)else pure (ForInStep.yield r)) (fun ok yr =>
      if ok=true then wpAny (model prog w) A (eval elt env) (fun x akm =>
       wpAny (model prog w) A (call (.builtin "list.append") [acc,x]) (fun _ akn=>∃ m,m<n/\I m akn) (notedBy (model prog w) A env fun e s'=>R (.error e) s') akm) (notedBy (model prog w) A env fun e s'=>R (.error e) s') yr
      else ∃ m,m<n/\I m yr) (notedBy (model prog w) A env fun e s'=>R (.error e) s') lY) (notedBy (model prog w) A env fun e s'=>R (.error e) s') akl) (notedBy (model prog w) A env fun e s'=>R (.error e) s') fU) (notedBy (model prog w) A env fun e s'=>R (.error e) s') s)
  (n:Nat) (h:I n s) :
  codeAny (model prog w) A (.compLoop (.ListComp elt [⟨target,iter,ifs,0⟩] scope pos) 0 it acc env) R s:=by
 refine codeAny_loop rfl I (fun n s wR=>?_) n h;show wpAny _ A ((compTurn (.ListComp elt [⟨target,iter,ifs,0⟩] scope pos) 0 it acc env).onRaise (fun x=>do noteFrame x env;theTreesLotGoes x)) _ _ s;refine wpAny_noted ?_;rw[compTurn_list];refine wpAny_bind (wpAny_standAt (wpAny_bind (wpAny_mono (turn n s wR) (fun r fU VL=>?_) fun _ _ h'=>h')));cases r with
 |none=>exact wpAny_pure VL
 |some v =>
  refine wpAny_bind (wpAny_mono VL (fun _ akl auy=>?_) fun _ _ h'=>h');refine wpAny_bind (wpAny_mono auy (fun _ lY J8=>wpAny_bind (wpAny_mono J8 (fun ok yr VN=>?_) fun _ _ h'=>h')) fun _ _ h'=>h');cases ok with
  |false=>exact wpAny_pure ⟨rfl,VN⟩
  |true =>
   exact wpAny_bind (wpAny_bind (wpAny_mono VN (fun x akm auz=>wpAny_bind (wpAny_mono auz (fun _ akn auA=>wpAny_pure (wpAny_pure ⟨rfl,auA⟩)) fun _ _ h'=>h')) fun _ _ h'=>h'))
section
variable{X:bR}
def wU(kY:TI)(g:lG)(tt:TT)(te:TE)(vs:aK):TE:=fun σ H Q=>kY σ H fun J H1=>∀ D,H1 D=none->∃ W:Nat->Nat->ao->Prop,(∃ m,W 0 m (upd H1 D (.lst [])))/\∀ i m H,W i m H ->
 (J.stop i H/\Q (.ref D) H)\/(J.go i H/\∃ fP:ao->Prop,(∀ H',fP H'->∃ dT,dT<m/\W (i+1) dT H')/\∀ x H',J.mc i H x H'->g x (wipe σ vs) H' fun dV aB=>wipe dV vs=wipe σ vs/\tt dV aB fun b aJ =>
  if b=true then te dV aJ fun y bB=>∃ acc,bB D=some (.lst acc)/\acc.length<sizeLine/\fP (upd bB D (.lst (acc++[y])))else fP aJ)
theorem wV{elt:Expr}{auB:List Comprehension}{scope:Scope}{pos py:Pos}{y:Str}{l:Nat}{env:Env}(aN:env.scope.kind=.function)(aP:env.scope.names.lookup y=some .local)(aF:(py.line == pos.line)=true)
  (aW:(scope.names.any fun(n,k)=>n == y && (k == .local || k == .cell))=false):swapsWith (.ListComp elt auB scope pos) (some (.Name y py)) l env=pure true:=by
 have auC:env.kindOf y=some .local:=aP;have ak:env.blockKind=.function:=by unfold Env.blockKind;rw[aN];rfl
 unfold swapsWith;simp only[ak,auC,aW,Expr.pos,aF];rfl
end
theorem ab4{lo:Int}{n:Nat}{g:lG}{tt:TT}{te:TE}{vs:aK}{σ:St}{H1:ao}{D:au}{gv:ao->Prop}(Pv:Nat->ao->Prop)(h0:Pv 0 (upd H1 D (.lst [])))
  (aH:∀ i H,i<n->Pv i H->g (.int (lo+i)) (wipe σ vs) H fun dV aB=>wipe dV vs=wipe σ vs/\tt dV aB fun b aJ =>
   if b=true then te dV aJ fun y bB=>∃ acc,bB D=some (.lst acc)/\acc.length<sizeLine/\Pv (i+1) (upd bB D (.lst (acc++[y])))else Pv (i+1) aJ) (hd:∀ H,Pv n H->gv H) :
  ∃ W:Nat->Nat->ao->Prop,(∃ m,W 0 m (upd H1 D (.lst [])))/\∀ i m H,W i m H ->
   ((oK lo n).stop i H/\gv H)\/((oK lo n).go i H/\∃ fP:ao->Prop,(∀ H',fP H'->∃ dT,dT<m/\W (i+1) dT H')/\∀ x H',(oK lo n).mc i H x H'->g x (wipe σ vs) H' fun dV aB=>wipe dV vs=wipe σ vs/\tt dV aB fun b aJ =>
    if b=true then te dV aJ fun y bB=>∃ acc,bB D=some (.lst acc)/\acc.length<sizeLine/\fP (upd bB D (.lst (acc++[y])))else fP aJ):=by
 refine⟨fun i m H=>m=n-i/\i<=n/\Pv i H,⟨n,by simp,eY _,h0⟩,?_⟩;rintro i m H ⟨rfl,hi,p⟩;by_cases cZ:i<n
 ·refine .inr ⟨cZ,Pv (i+1),fun H' p'=>⟨n-(i+1),by omega,rfl,cZ,p'⟩,fun x H' y=>?_⟩;obtain⟨e,y⟩:=y;subst e y;exact aH i _ cZ p
 ·have e:i=n:=by omega
  subst e;exact .inl ⟨cG _,hd H p⟩
theorem ab5{K:cn}{a:au}{xs:List V}{g:lG}{tt:TT}{te:TE}{vs:aK}{σ:St}{H1:ao}{D:au}{gv:ao->Prop}(Pv:Nat->ao->Prop)(h0:Pv 0 (upd H1 D (.lst [])))(aF:∀ i H,i<=xs.length->Pv i H->aT K H a xs)
  (aH:∀ i x H,xs[i]?=some x->Pv i H->g x (wipe σ vs) H fun dV aB=>wipe dV vs=wipe σ vs/\tt dV aB fun b aJ =>
   if b=true then te dV aJ fun y bB=>∃ acc,bB D=some (.lst acc)/\acc.length<sizeLine/\Pv (i+1) (upd bB D (.lst (acc++[y])))else Pv (i+1) aJ) (hd:∀ H,Pv xs.length H->gv H) :
  ∃ W:Nat->Nat->ao->Prop,(∃ m,W 0 m (upd H1 D (.lst [])))/\∀ i m H,W i m H ->
   ((jj K a).stop i H/\gv H)\/((jj K a).go i H/\∃ fP:ao->Prop,(∀ H',fP H'->∃ dT,dT<m/\W (i+1) dT H')/\∀ x H',(jj K a).mc i H x H'->g x (wipe σ vs) H' fun dV aB=>wipe dV vs=wipe σ vs/\tt dV aB fun b aJ =>
    if b=true then te dV aJ fun y bB=>∃ acc,bB D=some (.lst acc)/\acc.length<sizeLine/\fP (upd bB D (.lst (acc++[y])))else fP aJ):=by
 refine⟨fun i m H=>m=xs.length-i/\i<=xs.length/\Pv i H,⟨xs.length,by simp,eY _,h0⟩,?_⟩;rintro i m H ⟨rfl,hi,p⟩;have q:=aF i H hi p;by_cases cZ:i<xs.length
 ·refine .inr ⟨⟨xs,xs[i],q,by simp[cZ]⟩,Pv (i+1),fun H' p'=>⟨xs.length-(i+1),by omega,rfl,cZ,p'⟩,fun x H' y=>?_⟩;obtain⟨e,y⟩:=y;subst e;exact aH i x _ (y xs q) p
 ·have e:i=xs.length:=by omega
  subst e;exact .inl ⟨⟨xs,q,cG _⟩,hd H p⟩
def ako(N:List Str)(sc scope:Scope)(own:List (Str×Nat)):Bool :=
 (match scope.kind with | .function=>true|_=>false) && (scope.names.all fun y=>decide (scope.names.lookup y.1=some y.2)) && (own.all fun p=>decide (N[p.2]?=some p.1)) &&
  (scope.names.all fun y=>match y.2 with
   | .free=>(match sc.names.lookup y.1 with|some .cell=>true|some .free=>true|_=>false)
   | .local=>decide (y.1∈own.map (·.1)) || decide (y.1∉N)
   | .cell=>decide (y.1∈own.map (·.1)) || decide (y.1∉N)
   |_=>true)
theorem gW{N:List Str}{sc scope:Scope}{own:List (Str×Nat)}(h:ako N sc scope own=true):J5 N sc scope own:=by
 unfold ako at h;simp only[je,rT,pe]at h;obtain⟨⟨⟨h1,aC⟩,bH⟩,dw⟩:=h;refine⟨?_,aC,bH,fun y aP e=>?_,fun y aP e=>?_⟩
 ·split at h1
  ·assumption
  ·cases h1
 ·have q:=dw y aP
  simp only[e]at q;split at q<;>first|exact .inl (by assumption)|exact .inr (by assumption)|cases q
 ·have q:=dw y aP
  rcases e with e|e<;>(simp only[e,Bool.or_eq_true,pe]at q;exact q)
section
variable{eF:Type}[DecidableEq eF]
def dX(kvs:List (eF×V))(k:eF):Option V:=(kvs.find? fun bC=>decide (bC.1=k)).map (·.2)
def putK(kvs:List (eF×V))(k:eF)(v:V):List (eF×V) :=
 if(kvs.any fun bC=>decide (bC.1=k))=true then kvs.map (fun bC=>if bC.1=k then(bC.1,v)else bC)else kvs++[(k,v)]
theorem oO{p:eF×V}{r:List (eF×V)}{k:eF}(e:p.1=k):dX (p::r) k=some p.2:=by simp[dX,kg,e]
theorem oR{p:eF×V}{r:List (eF×V)}{k:eF}(e:¬ p.1=k):dX (p::r) k=dX r k:=by simp[dX,kg,e]
theorem Fz(k:eF):∀ kvs:List (eF×V),(kvs.any fun bC=>decide (bC.1=k))=(dX kvs k).isSome
 | []=>rfl
 |p::r=>by
  rw[Ak];by_cases e:p.1=k
  ·simp only[oO e,fu e,Bool.true_or,Option.isSome_some]
  ·rw[oR e,oo e,Bool.false_or];exact Fz k r
theorem akp(k j:eF)(y:V):∀ kvs:List (eF×V),dX (kvs.map fun bC=>if bC.1=k then(bC.1,y)else bC) j=(dX kvs j).map fun x=>if j=k then y else x
 | []=>rfl
 |p::r=>by
  have bU:=akp k j y r;rw[fT];by_cases h:p.1=k
  ·rw[bL h];by_cases e:p.1=j
   ·rw[oO (p:=(p.1,y)) e,oO e,gd,bL (e.symm.trans h)]
   ·rw[oR (p:=(p.1,y)) e,oR e,bU]
  ·rw[bw h];by_cases e:p.1=j
   ·rw[oO (p:=p) e,oO e,gd,bw (fun z=>h (e.trans z))]
   ·rw[oR (p:=p) e,oR e,bU]
theorem akq(k j:eF)(y:V):∀ kvs:List (eF×V),dX kvs k=none->dX (kvs++[(k,y)]) j=if j=k then some y else dX kvs j
 | [],_=>by
  by_cases e:k=j
  ·rw[bL e.symm];exact oO (p:=(k,y)) e
  ·rw[bw (fun z=>e z.symm)];exact oR (p:=(k,y)) e
 |p::r,aR=>by
  rw[List.cons_append];have aN:¬ p.1=k:=fun z=>by rw[oO z]at aR;cases aR
  rw[oR aN]at aR;have bU:=akq k j y r aR;by_cases e:p.1=j
  ·rw[oO e,oO e,bw (fun z=>aN (e.trans z))]
  ·rw[oR e,oR e,bU]
theorem VP(kvs:List (eF×V))(k j:eF)(y:V):dX (putK kvs k y) j=if j=k then some y else dX kvs j:=by
 unfold putK;by_cases a:(kvs.any fun bC=>decide (bC.1=k))=true
 ·rw[bL a,akp];rw[Fz]at a;by_cases e:j=k
  ·obtain⟨x,aq⟩:=Option.isSome_iff_exists.mp a;rw[bL e,e,aq,gd,bL rfl]
  ·rw[bw e];cases dX kvs j with
   |none=>rfl
   |some x=>rw[gd,bw e]
 ·rw[bw a];refine akq k j y kvs ?_;rw[Fz]at a;cases q:dX kvs k with
  |none=>rfl
  |some x=>rw[q]at a;exact(a rfl).elim
theorem Bw(kvs:List (eF×V))(k:eF)(v:V):(putK kvs k v).length<=kvs.length+1:=by
 unfold putK;split
 ·rw[ew];omega
 ·rw[gB,ek,rW];omega
theorem VR{kvs:List (eF×V)}{k:eF}(v:V)(h:dX kvs k=none):putK kvs k v=kvs++[(k,v)]:=by
 unfold putK;rw[Fz,h];exact bw (by decide)
theorem mZ.J9{o:Option V}{u:Option aO}(r:mZ o u):o.isSome=u.isSome:=by
 cases o with
 |none=>cases u with
  |none=>rfl
  |some _=>exact(show False from r).elim
 |some _=>cases u with
  |none=>exact(show False from r).elim
  |some _=>rfl
theorem mZ.getD{o:Option V}{u:Option aO}{d:V}{d':aO}(r:mZ o u)(rd:RelV d d'):RelV (o.getD d) (u.getD d'):=by
 cases o with
 |none=>cases u with
  |none=>exact rd
  |some _=>exact(show False from r).elim
 |some _=>cases u with
  |none=>exact(show False from r).elim
  |some _=>exact r
theorem KV.val{kvs:List (eF×V)}{vs:List (eF×aO)}(r:KV kvs vs)(k:eF):mZ (dX kvs k) (valueAt vs k):=by
 unfold KV at r;induction r with
 |nil=>exact True.intro
 | @cons p q ps oT h t bU =>
  obtain⟨h1,aC⟩:=h;by_cases e:p.1=k
  ·have e':q.1=k:=h1.symm.trans e
   have b:valueAt (q::oT) k=some q.2:=by simp[valueAt,kg,e']
   rw[oO e,b];exact aC
  ·have e':¬ q.1=k:=fun z=>e (h1.trans z)
   have b:valueAt (q::oT) k=valueAt oT k:=by simp[valueAt,kg,e']
   rw[oR e,b];exact bU
theorem KV.any{kvs:List (eF×V)}{vs:List (eF×aO)}(r:KV kvs vs)(k:eF):(kvs.any fun bC=>decide (bC.1=k))=vs.any fun bC=>decide (bC.1=k):=by
 unfold KV at r;induction r with
 |nil=>rfl
 |cons h t bU=>rw[Ak,Ak,bU,h.1]
theorem KV.repl{kvs:List (eF×V)}{vs:List (eF×aO)}(r:KV kvs vs)(k:eF){y:V}{u:aO}(b4:RelV y u) :
  KV (kvs.map fun bC=>if bC.1=k then(bC.1,y)else bC) (vs.map fun bC=>if bC.1=k then(bC.1,u)else bC):=by
 unfold KV at r ⊢;induction r with
 |nil=>exact .nil
 | @cons p q ps oT h t bU =>
  rw[fT,fT];refine .cons ?_ bU;obtain⟨h1,aC⟩:=h;by_cases e:p.1=k
  ·rw[bL e,bL (h1.symm.trans e)];exact⟨h1,b4⟩
  ·rw[bw e,bw (fun z=>e (h1.trans z))];exact⟨h1,aC⟩
theorem KV.put{kvs:List (eF×V)}{vs:List (eF×aO)}(r:KV kvs vs)(k:eF){y:V}{u:aO}(b4:RelV y u):KV (putK kvs k y) (stored vs k u):=by
 unfold putK stored;rw[r.any k];by_cases e:(vs.any fun bC=>decide (bC.1=k))=true
 ·rw[bL e,bL e];exact r.repl k b4
 ·rw[bw e,bw e];exact Paired.snoc r ⟨rfl,b4⟩
theorem KV.keys{kvs:List (eF×V)}{vs:List (eF×aO)}(r:KV kvs vs):kvs.map (·.1)=vs.map (·.1):=by
 unfold KV at r;induction r with
 |nil=>rfl
 |cons h t bU=>rw[fT,fT,bU,h.1]
theorem KV.length{kvs:List (eF×V)}{vs:List (eF×aO)}(r:KV kvs vs):kvs.length=vs.length:=Paired.length r
end
theorem wW{P:fw}{w:e3}{k:Key}{u:aO}(r:RelV (c0 k) u):(iR P w).is k u=true:=by
 cases k with
 |inl i=>obtain⟨t,e⟩:=(show ∃ t,u=Value.int i t from r);subst e;exact arE P w i t
 |inr x=>obtain⟨t,e⟩:=(show ∃ t,u=Value.str x t from r);subst e;exact arF P w x t
theorem akr{P:fw}{w:e3}:∀ {ks:List Key} {us:dI},Vals (ks.map c0) us->ItemsAre (iR P w) ks us
 | [],_,r=>by rw[v5]at r;cases r;exact .nil
 |k::ks,_,r=>by
  rw[fT]at r;cases r with
  |cons h t=>exact .cons (wW h) (akr t)
abbrev KT(H:ao):List (List Key×V)->List (List Key×au×aO)->Prop:=Paired fun p q=>p.1=q.1/\H q.2.1=some (.tup (p.1.map c0))/\RelV p.2 q.2.2
theorem KT.val{H:ao}{kvs:List (List Key×V)}{xs:List (List Key×au×aO)}(r:KT H kvs xs)(k:List Key):mZ (dX kvs k) ((atKey xs k).map (·.2)):=by
 induction r with
 |nil=>exact True.intro
 | @cons p q ps oT h t bU =>
  obtain⟨h1,_,aC⟩:=h;by_cases e:p.1=k
  ·have e':q.1=k:=h1.symm.trans e
   have b:atKey (q::oT) k=some q.2:=by simp[atKey,kg,e']
   rw[oO e,b];exact aC
  ·have e':¬ q.1=k:=fun z=>e (h1.trans z)
   have b:atKey (q::oT) k=atKey oT k:=by simp[atKey,kg,e']
   rw[oR e,b];exact bU
theorem KT.repl{H:ao}{kvs:List (List Key×V)}{xs:List (List Key×au×aO)}(r:KT H kvs xs)(k:List Key){y:V}{u:aO}(b4:RelV y u) :
  KT H (kvs.map fun bC=>if bC.1=k then(bC.1,y)else bC) (xs.map (putAt k u)):=by
 induction r with
 |nil=>exact .nil
 | @cons p q ps oT h t bU =>
  rw[fT,fT];refine .cons ?_ bU;obtain⟨h1,aC,bH⟩:=h;unfold putAt;by_cases e:p.1=k
  ·rw[bL e,bL (h1.symm.trans e)];exact⟨h1,aC,b4⟩
  ·rw[bw e,bw (fun z=>e (h1.trans z))];exact⟨h1,aC,bH⟩
theorem KT.put{H:ao}{kvs:List (List Key×V)}{xs:List (List Key×au×aO)}(r:KT H kvs xs)(k:List Key){b:au}{y:V}{u:aO}(ak:H b=some (.tup (k.map c0)))(b4:RelV y u) :
  KT H (putK kvs k y) (storedH xs k b u):=by
 have e:(kvs.any fun bC=>decide (bC.1=k))=(atKey xs k).isSome:=by
  rw[Fz,(r.val k).J9,Option.isSome_map]
 unfold putK storedH;rw[e];by_cases q:(atKey xs k).isSome=true
 ·rw[bL q,bL q];exact r.repl k b4
 ·rw[bw q,bw q];exact Paired.snoc r ⟨rfl,ak,b4⟩
theorem KT.keeps{H H':ao}{kvs:List (List Key×V)}{xs:List (List Key×au×aO)}(r:KT H kvs xs)(b_:∀ b bN,H b=some (.tup bN)->H' b=some (.tup bN)):KT H' kvs xs :=
 Paired.d7 r fun _ _ z=>⟨z.1,b_ _ _ z.2.1,z.2.2⟩
section
variable{P:fw}{w:e3}{H:ao}{h:Heap}{a:au}
theorem aks{u:HO}(ok:hs P w H h)(e:sX H a u):hO P w H h a u:=e.ok ok
theorem yF{kvs:List (Key×V)}(ok:hs P w H h)(e:sX H a (.dW kvs)):kvs.length<=sizeLine/\(a == sysModules)=false/\∃ vs,KV kvs vs/\h.DictOf (iR P w) a vs :=
 show hO P w H h a (.dW kvs) from aks ok e
theorem ab6{kvs:List (Key×V)}(ok:hs P w H h)(e:H a=some (.dW kvs)):kvs.length<=sizeLine/\(a == sysModules)=false/\∃ vs,KV kvs vs/\h.DictOf (iR P w) a vs:=yF ok (.inl e)
theorem yG{ks:List Key}(ok:hs P w H h)(e:H a=some (.tup (ks.map c0))):(tupleKind (iR P w)).is h ks a:=by
 obtain⟨_,its,r,o,h1,aC,n,bH⟩:=(show hO P w H h a (.tup (ks.map c0)) from ok a _ e);exact⟨o,its.toArray,n,h1,aC,bH,by simpa using akr r⟩
theorem yH{kvs:List (List Key×V)}(ok:hs P w H h)(e:sX H a (.gD kvs)):kvs.length<=sizeLine/\(a == sysModules)=false /\
  ∃ xs,KT H kvs xs/\h.DictOfH (tupleKind (iR P w)) a xs:=by
 obtain⟨z,y,xs,r,o,es,ep,h1,aC,bH,dw,jr⟩:=(show hO P w H h a (.gD kvs) from aks ok e);refine⟨z,y,xs,r,o,es,ep,h1,aC,bH,dw,fun x aq=>?_,jr⟩;have all:∀ {l:List (List Key×V)} {m:List (List Key×au×aO)},KT H l m->∀ x∈m,(tupleKind (iR P w)).is h x.1 x.2.1:=by
  intro l m q;induction q with
  |nil=>intro x aq;exact nomatch aq
  | @cons p q ps oT a0 t bU =>
   intro x aq;rcases gQ.mp aq with e|aq
   ·subst e;exact yG ok (by rw[← a0.1];exact a0.2.1)
   ·exact bU x aq
 exact all r x aq
theorem akt{kvs:List (List Key×V)}(ok:hs P w H h)(e:H a=some (.gD kvs)):kvs.length<=sizeLine/\(a == sysModules)=false /\
  ∃ xs,KT H kvs xs/\h.DictOfH (tupleKind (iR P w)) a xs:=yH ok (.inl e)
end
def hT(H:ao)(a:au)(y:V)(r:Option V):Prop :=
 (∃ kvs k,sX H a (.dW kvs)/\y=c0 k/\r=dX kvs k)\/∃ kvs k b,sX H a (.gD kvs)/\y=.ref b/\H b=some (.tup (k.map c0))/\r=dX kvs k
def tA(H:ao)(a:au)(y v:V)(H':ao):Prop :=
 (∃ kvs k,H a=some (.dW kvs)/\y=c0 k/\kvs.length<sizeLine/\H'=upd H a (.dW (putK kvs k v))) \/
 ∃ kvs k b,H a=some (.gD kvs)/\y=.ref b/\H b=some (.tup (k.map c0))/\kvs.length<sizeLine/\H'=upd H a (.gD (putK kvs k v))
theorem hT.k{H:ao}{a:au}{kvs:List (Key×V)}{k:Key}(e:H a=some (.dW kvs)):hT H a (c0 k) (dX kvs k):=.inl ⟨kvs,k,.inl e,rfl,rfl⟩
theorem hT.t{H:ao}{a b:au}{kvs:List (List Key×V)}{k:List Key}(e:H a=some (.gD kvs))(dM:H b=some (.tup (k.map c0))):hT H a (.ref b) (dX kvs k):=.inr ⟨kvs,k,b,.inl e,rfl,dM,rfl⟩
theorem tA.k{H:ao}{a:au}{kvs:List (Key×V)}{k:Key}{v:V}(e:H a=some (.dW kvs))(aF:kvs.length<sizeLine):tA H a (c0 k) v (upd H a (.dW (putK kvs k v))):=.inl ⟨kvs,k,e,rfl,aF,rfl⟩
theorem tA.t{H:ao}{a b:au}{kvs:List (List Key×V)}{k:List Key}{v:V}(e:H a=some (.gD kvs))(dM:H b=some (.tup (k.map c0)))(aF:kvs.length<sizeLine) :
  tA H a (.ref b) v (upd H a (.gD (putK kvs k v))):=.inr ⟨kvs,k,b,e,rfl,dM,aF,rfl⟩
section
variable{X:bR}{pins:List (au×Obj)}{σ:St}{H:ao}{s:aX}{a:au}{y v:V}{u r:aO}{o:Option V}{A:Around}{E:aO->aX->Prop}
theorem Inv.big(I:Inv X pins σ H s):sysModules<s.heap.objs.size:=by
 have h:mainGlobals<s.heap.objs.size:=(I.mod.glob.keeps I.jH).lt;exact rY (by decide) h
theorem auD{Q:aO->aX->Prop}(cD:A.units+1<cLine)(I:Inv X pins σ H s)(g:hT H a y (some v))(b4:RelV y u)(h:∀ w' s',Inv X pins σ H s'->RelV v w'->Q w' s') :
  wpAny (model X.prog X.w) A (getItem (.ref a) u) Q E s:=by
 rcases g with⟨kvs,k,e,gj,l⟩|⟨kvs,k,b,e,gj,dM,l⟩
 ·subst gj;obtain⟨z,hd,vs,rel,dd⟩:=yF I.bK e;obtain⟨w',hw,nT⟩:=mZ.some_of (v:=v) (o:=valueAt vs k) (by rw[l];exact rel.val k);exact wpAny_getItem_of (wW b4) dd.mapOf hw (h w' _ (I.tok _) nT)
 ·subst gj;cases (show u=Value.ref b from b4);obtain⟨z,hd,xs,rel,dd⟩:=yH I.bK e;obtain⟨w',hw,nT⟩:=mZ.some_of (v:=v) (o:=(atKey xs k).map (·.2)) (by rw[l];exact rel.val k);obtain⟨p,aL,V0⟩:=qX.mp hw;refine wpAny_getItem_heap (tupleKind_room_in1 cD) (yG I.bK dM) dd aL ?_;rw[V0];exact h w' _ (I.tok _) nT
theorem auE{Q:aO->aX->Prop}(cD:A.units+1<cLine)(I:Inv X pins σ H s)(g:hT H a y o)(b4:RelV y u)(h:∀ s',Inv X pins σ H s'->Q (.bool o.isSome) s') :
  wpAny (model X.prog X.w) A (compareOp .In u (.ref a)) Q E s:=by
 rcases g with⟨kvs,k,e,gj,l⟩|⟨kvs,k,b,e,gj,dM,l⟩
 ·subst gj;obtain⟨z,hd,vs,rel,dd⟩:=yF I.bK e;refine wpAny_in_of (wW b4) hd dd.mapOf ?_;rw[← (rel.val k).J9,← l];exact h _ (I.tok _)
 ·subst gj;cases (show u=Value.ref b from b4);obtain⟨z,hd,xs,rel,dd⟩:=yH I.bK e;refine wpAny_in_heap (tupleKind_room_in1 cD) (yG I.bK dM) hd dd ?_;have q:=(rel.val k).J9;rw[Option.isSome_map]at q;rw[← q,← l];exact h _ (I.tok _)
theorem auF{Q:aO->aX->Prop}(cD:A.units+1<cLine)(I:Inv X pins σ H s)(g:hT H a y o)(b4:RelV y u)(h:∀ s',Inv X pins σ H s'->Q (.bool (!o.isSome)) s') :
  wpAny (model X.prog X.w) A (compareOp .NotIn u (.ref a)) Q E s:=by
 rcases g with⟨kvs,k,e,gj,l⟩|⟨kvs,k,b,e,gj,dM,l⟩
 ·subst gj;obtain⟨z,hd,vs,rel,dd⟩:=yF I.bK e;refine wpAny_notIn_of (wW b4) hd dd.mapOf ?_;rw[← (rel.val k).J9,← l];exact h _ (I.tok _)
 ·subst gj;cases (show u=Value.ref b from b4);obtain⟨z,hd,xs,rel,dd⟩:=yH I.bK e;refine wpAny_notIn_heap (tupleKind_room_in1 cD) (yG I.bK dM) hd dd ?_;have q:=(rel.val k).J9;rw[Option.isSome_map]at q;rw[← q,← l];exact h _ (I.tok _)
theorem ab7{h':Heap}{t':Nat}{cX:HO}(I:Inv X pins σ H s)(mu:Jy (H a))(aH:Heap.SameBut a s.heap h')(he:∃ q,h'.get? a=some q)(new:hO X.prog X.w (upd H a cX) h' a cX) :
  Inv X pins σ (upd H a cX) { s with heap:=h',toks:=t' } :=
 I.write (x:=a) (e:=a) mu (.inl rfl) (fun b q ak z=>(aH.2 b ak).trans z) he new
theorem aku{P:fw}{w:e3}{H':ao}{h':Heap}{kvs:List (Key×V)}{vs:List (Key×aO)}(z:kvs.length<=sizeLine)(hd:(a == sysModules)=false)(rel:KV kvs vs)(dd:h'.DictOf (iR P w) a vs) :
  hO P w H' h' a (.dW kvs):=⟨z,hd,vs,rel,dd⟩
theorem auG{H':ao}{Q:Unit->aX->Prop}(cD:A.units+1<cLine)(I:Inv X pins σ H s)(g:tA H a y v H')(b4:RelV y u)(eZ:RelV v r)(h:∀ s',Inv X pins σ H' s'->Q () s') :
  wpAny (model X.prog X.w) A (setItem (.ref a) u r) Q E s:=by
 rcases g with⟨kvs,k,e,gj,l,ab8⟩|⟨kvs,k,b,e,gj,dM,l,ab8⟩
 ·subst gj ab8;obtain⟨z,hd,vs,rel,dd⟩:=ab6 I.bK e;have hz:vs.length<=sizeLine:=by rw[← rel.length];exact z
  have aF:(putK kvs k v).length<=sizeLine:=by have:=Bw kvs k v;omega
  refine wpAny_setItem_pairs (hsz:=hz) (wW b4) dd fun h' Bx aH=>h _ ?_;have he:∃ q,h'.get? a=some q:=let ⟨q,_,_,a0,_⟩:=Bx;⟨q,a0⟩
  exact ab7 I (by rw[e];exact True.intro) aH he (aku aF hd (rel.put k eZ) Bx)
 ·subst gj ab8;cases (show u=Value.ref b from b4);obtain⟨z,hd,xs,rel,dd⟩:=akt I.bK e;have hz:xs.length<=sizeLine:=by rw[← Paired.length rel];exact z
  have aF:(putK kvs k v).length<=sizeLine:=by have:=Bw kvs k v;omega
  refine wpAny_setItem_heap (hsz:=hz) (tupleKind_room_in1 cD) (yG I.bK dM) dd fun h' Bx aH=>h _ ?_;obtain⟨q,es,ep,a0,aC,bH,dw,_,jr⟩:=Bx;refine ab7 I (by rw[e];exact True.intro) aH ⟨q,a0⟩ ⟨aF,hd,_,(rel.put k dM eZ).keeps fun c bN ec=>?_,q,es,ep,a0,aC,bH,dw,jr⟩;rw[a6 (hN ec e (fun z=>nomatch z))];exact ec
end
def akv(i:Expr):Prop:=∀ f3 hQ,subscripted i false f3 hQ=operate [f3,hQ] (getItem f3 hQ)
theorem auH{prog:fw}{w:e3}{A:Around}{E:aO->aX->Prop}{s:aX}{env:Env}{value slice:Expr}{pos:Pos}{T id:String}{Q:aO->aX->Prop}
  (aF:typeLookup (.type T) "__getitem__"=pure (some (.builtin id))) (aH:akv slice)
  (h:wpAny (model prog w) A (eval value env) (fun o fU=>wpAny (model prog w) A (eval slice env) (fun i lY=>lY.TypeIs o T/\wpAny (model prog w) A (getItem o i) Q E lY) E fU) E s) :
  wpAny (model prog w) A (eval (.Subscript value slice pos) env) Q E s:=by
 refine Subscript_ (wpAny_mono h (fun o fU VL=>wpAny_mono VL (fun i lY J8=>?_) fun _ _ x=>x) fun _ _ x=>x);obtain⟨cv,J8⟩:=J8;unfold subscriptTail;refine wpAny_bind ?_;rw[getitemInPython_of_ne cv.not_modules];refine wpAny_bind (wpAny_specialOf cv aF ?_);have fin:wpAny (model prog w) A (subscripted slice false o i) (fun r yr=>wpAny (model prog w) A (letTemporaryGo value o r >>= fun _=>pure r) Q E yr) E lY:=by
  rw[aH o i];exact wpAny_operating (wpAny_mono J8 (fun r yr VN=>wpAny_bind (wpAny_letTemporaryGo (wpAny_pure VN))) fun _ _ x=>x)
 first
  |exact wpAny_pure (wpAny_bind fin)
  |exact wpAny_bind (wpAny_pure (wpAny_bind fin))
  |exact wpAny_bind fin
theorem auI{X:bR}{pins:List (au×Obj)}{σ:St}{H:ao}{s:aX}{a:au}{y:V}{o:Option V}(I:Inv X pins σ H s)(g:hT H a y o):s.TypeIs (.ref a) "dict":=by
 rcases g with⟨kvs,k,e,_,_⟩|⟨kvs,k,b,e,_,_,_⟩
 ·obtain⟨_,_,vs,_,dd⟩:=yF I.bK e;exact dd.typeIs
 ·obtain⟨_,_,xs,_,dd⟩:=yH I.bK e;exact dd.typeIs
inductive auJ(Q:bx)(x y:V)(H:ao):Prop
 |mk (a:au) (v:V) (ex:x=.ref a) (g:hT H a y (some v)) (q:Q v H)
def auK(ty:TE)(σ:St)(Q:bx)(x:V)(H:ao):Prop:=ty σ H (auJ Q x)
def auL(td ty:TE):TE:=fun σ H Q=>td σ H (auK ty σ Q)
inductive auM(Q:bx)(y x:V)(H:ao):Prop
 |mk (a:au) (o:Option V) (ex:x=.ref a) (g:hT H a y o) (q:Q (.bl o.isSome) H)
def auN(td:TE)(σ:St)(Q:bx)(y:V)(H:ao):Prop:=td σ H (auM Q y)
def auO(ty td:TE):TE:=fun σ H Q=>ty σ H (auN td σ Q)
inductive auP(Q:bx)(y x:V)(H:ao):Prop
 |mk (a:au) (o:Option V) (ex:x=.ref a) (g:hT H a y o) (q:Q (.bl (!o.isSome)) H)
def auQ(td:TE)(σ:St)(Q:bx)(y:V)(H:ao):Prop:=td σ H (auP Q y)
def auR(ty td:TE):TE:=fun σ H Q=>ty σ H (auQ td σ Q)
inductive auS(D:Ends)(σ:St)(v x y:V)(H:ao):Prop
 |mk (a:au) (bB:ao) (ex:x=.ref a) (p:tA H a y v bB) (q:D.cT σ bB)
def auT(ty:TE)(D:Ends)(σ:St)(v x:V)(H:ao):Prop:=ty σ H (auS D σ v x)
def auU(td ty:TE)(D:Ends)(σ:St)(v:V)(H:ao):Prop:=td σ H (auT ty D σ v)
def auV(td ty q_:TE):TS:=fun D σ H=>q_ σ H (auU td ty D σ)
section
variable{X:bR}{o i e value:Expr}{pos pos' r7:Pos}{td ty q_:TE}
theorem auW(cD:X.A.units+1<cLine)(bA:PE X o td)(hi:PE X i ty)(aH:akv i):PE X (.Subscript o i pos) (auL td ty):=by
 intro pins s σ H Q I h;refine auH PySem.F.slot_dict_getitem.lookup aH (cJ (bA pins s σ H _ I h) fun u s1 ⟨x,H1,bk,cc,bT⟩=>cJ (hi pins s1 σ H1 _ bk bT) fun hQ s2 ⟨y,aB,dJ,b4,a,v,ex,g,cA⟩=>?_);subst ex;obtain rfl:u=Value.ref a:=cc;exact⟨auI dJ g,auD cD dJ g b4 fun w' s3 eU nT=>⟨v,aB,eU,nT,cA⟩⟩
theorem ab9(cD:X.A.units+1<cLine)(hi:PE X i ty)(bA:PE X o td):PC X .In i o (auO ty td):=by
 intro pins s σ H Q I h;refine cJ (hi pins s σ H _ I h) fun hQ s1 ⟨y,H1,bk,b4,bT⟩=>cJ (bA pins s1 σ H1 _ bk bT) fun u s2 ⟨x,aB,dJ,cc,a,f3,ex,g,cA⟩=>?_;subst ex;obtain rfl:u=Value.ref a:=cc;exact auE cD dJ g b4 fun s3 eU=>⟨.bl f3.isSome,aB,eU,rfl,cA⟩
theorem auX(cD:X.A.units+1<cLine)(hi:PE X i ty)(bA:PE X o td):PC X .NotIn i o (auR ty td):=by
 intro pins s σ H Q I h;refine cJ (hi pins s σ H _ I h) fun hQ s1 ⟨y,H1,bk,b4,bT⟩=>cJ (bA pins s1 σ H1 _ bk bT) fun u s2 ⟨x,aB,dJ,cc,a,f3,ex,g,cA⟩=>?_;subst ex;obtain rfl:u=Value.ref a:=cc;exact auF cD dJ g b4 fun s3 eU=>⟨.bl (!f3.isSome),aB,eU,rfl,cA⟩
theorem J_(cD:X.A.units+1<cLine)(bA:PE X o td)(hi:PE X i ty)(aZ:PE X value q_)(aH:swapsWith value (some (.Subscript o i pos')) pos.line X.env=pure false) :
  PS X (.Assign [.Subscript o i pos'] value pos) (auV td ty q_):=by
 intro pins s σ H D I h;refine wpAny_Assign_Subscript (cJ (aZ pins s σ H _ I h) fun r s1 ⟨v,H1,bk,eZ,bT⟩=>cJ (bA pins s1 σ H1 _ bk bT) fun u s2 ⟨x,aB,dJ,cc,cA⟩=>cJ (hi pins s2 σ aB _ dJ cA) fun hQ s3 ⟨y,aJ,eU,b4,a,bB,ex,g,dY⟩=>?_) aH;subst ex;obtain rfl:u=Value.ref a:=cc;exact auG cD eU g b4 eZ fun s4 l0=>⟨σ,bB,l0,dY⟩
end
theorem auY{P:fw}{w:e3}{H:ao}(h:Heap)(ak:sysModules<h.objs.size):hO P w H (h.push { cls:=.type "dict",data:=.dict #[] }) h.objs.size (.dW []) :=
 ⟨eY _,beq_eq_false_iff_ne.mpr (Ne.symm (gR ak)),[],.nil,Heap.DictOf.new h⟩
theorem auZ{P:fw}{w:e3}{H:ao}(h:Heap)(ak:sysModules<h.objs.size):hO P w H (h.push { cls:=.type "dict",data:=.dict #[] }) h.objs.size (.gD []) :=
 ⟨eY _,beq_eq_false_iff_ne.mpr (Ne.symm (gR ak)),[],.nil,_,#[],0,lU _ rfl,⟨rfl,rfl,rfl⟩,rfl,rfl,List.nodup_nil⟩
def au0:TE:=fun _ H Q=>∀ p,H p=none->Q (.ref p) (upd H p (.dW []))
def au1:TE:=fun _ H Q=>∀ p,H p=none->Q (.ref p) (upd H p (.gD []))
section
variable{X:bR}{pos:Pos}
theorem FJ:PE X (.Dict [] [] pos) au0:=fun pins s σ H Q I h =>
 wpAny_Dict_empty ⟨.ref s.heap.objs.size,_,I.laid (a:=s.heap.objs.size) (o:=.dW []) (t':=s.toks) (fun _ _ q=>iB _ q) (cG _) (auY s.heap I.big),rfl,h _ (I.bK.fresh (cG _))⟩
theorem au2:PE X (.Dict [] [] pos) au1:=fun pins s σ H Q I h =>
 wpAny_Dict_empty ⟨.ref s.heap.objs.size,_,I.laid (a:=s.heap.objs.size) (o:=.gD []) (t':=s.toks) (fun _ _ q=>iB _ q) (cG _) (auZ s.heap I.big),rfl,h _ (I.bK.fresh (cG _))⟩
end
def mC(kvs more:List (Key×V)):List (Key×V):=more.foldl (fun acc bC=>putK acc bC.1 bC.2) kvs
theorem KV.merge:∀ {more:List (Key×V)} {rs:List (Key×aO)} {kvs:List (Key×V)} {vs:List (Key×aO)},KV more rs->KV kvs vs->KV (mC kvs more) (merged vs rs):=by
 intro more rs kvs vs r;unfold KV at r;induction r generalizing kvs vs with
 |nil=>intro q;exact q
 | @cons p q ps oT h t bU =>
  intro ky;have e:KV (putK kvs p.1 p.2) (stored vs q.1 q.2):=by
   have:=ky.put p.1 h.2;rw[← h.1];exact this
  exact bU e
theorem ab_:∀ (more kvs:List (Key×V)),(mC kvs more).length<=kvs.length+more.length
 | [],kvs=>by show kvs.length<=kvs.length+0;omega
 |p::r,kvs=>by
  have h1:=ab_ r (putK kvs p.1 p.2);have aC:=Bw kvs p.1 p.2;show(mC (putK kvs p.1 p.2) r).length<=_;rw[ek];omega
structure M1(X:bR)(o:Expr)(m:Str)(apos:Pos)(e:Expr)(h7:Pos):Prop where
 base:attributeBase o m X.env (eval o X.env)=eval o X.env
 few:((backTo h7 (starEach [e] X.env)).all (fun x=>!x.1) && (backToKw h7 (keywordEach [] X.env)).all (fun x=>x.1.isSome)
  && decide (([e]:List Expr).length+([]:List Keyword).length+(if([]:List Keyword).isEmpty then 0 else 1)<30))=true
 line:(apos.endLine == h7.line)=true
 trees:backTo h7 (starEach [e] X.env)=[(false,eval e X.env)]
structure M2(X:bR)(o:Expr)(m:Str)(apos:Pos)(e f:Expr)(h7:Pos):Prop where
 base:attributeBase o m X.env (eval o X.env)=eval o X.env
 few:((backTo h7 (starEach [e,f] X.env)).all (fun x=>!x.1) && (backToKw h7 (keywordEach [] X.env)).all (fun x=>x.1.isSome)
  && decide (([e,f]:List Expr).length+([]:List Keyword).length+(if([]:List Keyword).isEmpty then 0 else 1)<30))=true
 line:(apos.endLine == h7.line)=true
 trees:backTo h7 (starEach [e,f] X.env)=[(false,eval e X.env),(false,eval f X.env)]
def V1(H:ao)(a:au):Prop:=(∃ kvs,sX H a (.dW kvs))\/∃ kvs,sX H a (.gD kvs)
theorem ab'{X:bR}{pins:List (au×Obj)}{σ:St}{H:ao}{s:aX}{a:au}(I:Inv X pins σ H s)(d:V1 H a) :
  s.TypeIs (.ref a) "dict"/\(∀ b,Value.ref a=.ref b->∃ cX,s.heap.get? b=some cX/\cX.dict=none)/\(a == sysModules)=false:=by
 rcases d with⟨kvs,e⟩|⟨kvs,e⟩
 ·obtain⟨_,hd,vs,_,dd⟩:=yF I.bK e;refine⟨dd.typeIs,fun b q=>?_,hd⟩;cases q;obtain⟨cX,_,_,h1,aC,_⟩:=dd;exact⟨cX,h1,aC.2.1⟩
 ·obtain⟨_,hd,xs,_,dd⟩:=yH I.bK e;refine⟨dd.typeIs,fun b q=>?_,hd⟩;cases q;obtain⟨cX,_,_,h1,aC,_⟩:=dd;exact⟨cX,h1,aC.2.1⟩
section
variable{X:bR}{pins:List (au×Obj)}{σ:St}{H:ao}{s:aX}{a:au}{y d:V}{u r:aO}{o:Option V}{A:Around}{E:aO->aX->Prop}
theorem au3{Q:aO->aX->Prop}(cD:A.units+1<cLine)(I:Inv X pins σ H s)(g:hT H a y o)(b4:RelV y u)(h:∀ w' s',Inv X pins σ H s'->RelV (o.getD .non) w'->Q w' s') :
  wpAny (model X.prog X.w) A (call (.builtin "dict.get") [.ref a,u]) Q E s:=by
 rcases g with⟨kvs,k,e,gj,l⟩|⟨kvs,k,b,e,gj,dM,l⟩
 ·subst gj;obtain⟨z,hd,vs,rel,dd⟩:=yF I.bK e;refine call_meetsIn Ec dd.typeIs Um (PySem.F.args_dict_get_2 _ _) (meets_dict_get (iR X.prog X.w) a (wW b4) hd) ⟨_,dd.mapOf,h _ _ (I.tok _) ?_⟩;rw[l];exact(rel.val k).getD rfl
 ·subst gj;cases (show u=Value.ref b from b4);obtain⟨z,hd,xs,rel,dd⟩:=yH I.bK e;refine call_meetsIn Ec dd.typeIs Um (PySem.F.args_dict_get_2 _ _) (meetsH_dict_get (tupleKind (iR X.prog X.w)) a b hd) ⟨tupleKind_room_in1 cD,k,xs,yG I.bK dM,dd,h _ _ (I.tok _) ?_⟩;rw[l];exact(rel.val k).getD rfl
theorem au4{Q:aO->aX->Prop}(cD:A.units+1<cLine)(I:Inv X pins σ H s)(g:hT H a y o)(b4:RelV y u)(rd:RelV d r)(h:∀ w' s',Inv X pins σ H s'->RelV (o.getD d) w'->Q w' s') :
  wpAny (model X.prog X.w) A (call (.builtin "dict.get") [.ref a,u,r]) Q E s:=by
 rcases g with⟨kvs,k,e,gj,l⟩|⟨kvs,k,b,e,gj,dM,l⟩
 ·subst gj;obtain⟨z,hd,vs,rel,dd⟩:=yF I.bK e;refine call_meetsIn Ec dd.typeIs Um (PySem.F.args_dict_get_3 _ _ _) (meets_dict_get_default (iR X.prog X.w) a (wW b4) hd r) ⟨_,dd.mapOf,h _ _ (I.tok _) ?_⟩;rw[l];exact(rel.val k).getD rd
 ·subst gj;cases (show u=Value.ref b from b4);obtain⟨z,hd,xs,rel,dd⟩:=yH I.bK e;refine call_meetsIn Ec dd.typeIs Um (PySem.F.args_dict_get_3 _ _ _) (meetsH_dict_get_default (tupleKind (iR X.prog X.w)) a b hd r) ⟨tupleKind_room_in1 cD,k,xs,yG I.bK dM,dd,h _ _ (I.tok _) ?_⟩;rw[l];exact(rel.val k).getD rd
end
inductive au5(Q:bx)(a:au)(y:V)(H:ao):Prop
 |mk (o:Option V) (g:hT H a y o) (q:Q (o.getD .non) H)
inductive au6(ty:TE)(σ:St)(Q:bx)(x:V)(H:ao):Prop
 |mk (a:au) (ex:x=.ref a) (d:V1 H a) (q:ty σ H (au5 Q a))
def au7(td ty:TE):TE:=fun σ H Q=>td σ H (au6 ty σ Q)
inductive au8(Q:bx)(a:au)(y z:V)(H:ao):Prop
 |mk (o:Option V) (g:hT H a y o) (q:Q (o.getD z) H)
def au9(tx:TE)(σ:St)(Q:bx)(a:au)(y:V)(H:ao):Prop:=tx σ H (au8 Q a y)
inductive au_(ty tx:TE)(σ:St)(Q:bx)(x:V)(H:ao):Prop
 |mk (a:au) (ex:x=.ref a) (d:V1 H a) (q:ty σ H (au9 tx σ Q a))
def au'(td ty tx:TE):TE:=fun σ H Q=>td σ H (au_ ty tx σ Q)
section
variable{X:bR}{o e f:Expr}{apos h7:Pos}{td ty tx:TE}
theorem Ka(cD:X.A.units+1<cLine)(bA:PE X o td)(he:PE X e ty)(m:M1 X o "get" apos e h7):PE X (.Call (.Attribute o "get" apos) [e] [] h7) (au7 td ty):=by
 intro pins s σ H Q I h;refine wpAny_Call_method m.base m.few m.line PySem.F.plainAttrs_dict Ec PySem.F.type_dict_get (cJ (bA pins s σ H _ I h) fun u s1 ⟨x,H1,bk,cc,a,ex,d,bT⟩=>?_);subst ex;obtain rfl:u=Value.ref a:=cc;obtain⟨t1,t2,_⟩:=ab' bk d;refine⟨t1,t2,?_⟩;rw[m.trees];refine Calls.callWith_builtin rfl (Calls.evalArgs_plain (Calls.spliced_cons (cJ (he pins s1 σ H1 _ bk bT) fun hQ s2 ⟨y,aB,dJ,b4,f3,g,cA⟩=>Calls.spliced_nil ?_)));exact au3 cD dJ g b4 fun w' s3 eU nT=>⟨_,aB,eU,nT,cA⟩
theorem FN(cD:X.A.units+1<cLine)(bA:PE X o td)(he:PE X e ty)(hf:PE X f tx)(m:M2 X o "get" apos e f h7):PE X (.Call (.Attribute o "get" apos) [e,f] [] h7) (au' td ty tx):=by
 intro pins s σ H Q I h;refine wpAny_Call_method m.base m.few m.line PySem.F.plainAttrs_dict Ec PySem.F.type_dict_get (cJ (bA pins s σ H _ I h) fun u s1 ⟨x,H1,bk,cc,a,ex,d,bT⟩=>?_);subst ex;obtain rfl:u=Value.ref a:=cc;obtain⟨t1,t2,_⟩:=ab' bk d;refine⟨t1,t2,?_⟩;rw[m.trees];refine Calls.callWith_builtin rfl (Calls.evalArgs_plain (Calls.spliced_cons (cJ (he pins s1 σ H1 _ bk bT) fun hQ s2 ⟨y,aB,dJ,b4,cA⟩ =>
  Calls.spliced_cons (cJ (hf pins s2 σ aB _ dJ cA) fun fv s3 ⟨z,aJ,eU,Fv,f3,g,dY⟩=>Calls.spliced_nil ?_))))
 exact au4 cD eU g b4 Fv fun w' s4 l0 nT=>⟨_,aJ,l0,nT,dY⟩
end
theorem ava:typeLookup (.type "list") "keys"=pure none:=am_miss_of_fast (by first|decide +kernel|rfl)
theorem V2:entryFor table "dict.update.loop"=some Builtin.«dict.update.loop»:=entryFor_of_tree (by kernel_rfl)
theorem vd:plainId "dict.update.loop"=true:=by decide +kernel
section
variable{prog:fw}{w:e3}{A:Around}{E:aO->aX->Prop}
theorem akx{s:aX}{a:au}{o:Obj}{xs:Array aO}{k:Nat}{Q:Option aO->aX->Prop}(aq:s.heap.get? a=some o)(aU:o.cls=.type "list") (se:o.data=.seq xs k) (hd:o.dict=none) (mA:A.handled=none)
  (h:∀ h' tk,(∀ b cX,s.heap.get? b=some cX->h'.get? b=some cX)->Q none { s with heap:=h',toks:=tk }):wpAny (model prog w) A (getAttr? (.ref a) "keys") Q E s:=by
 obtain⟨c,dct,dat,fL⟩:=o;simp only at aU se hd;subst aU se hd;obtain⟨aL,g,d,tk,os⟩:=s;have cv:∀ aky,(⟨aL,g,d,aky,os⟩:aX).TypeIs (.ref a) "list":=fun _=>⟨_,aq,rfl⟩;have avb:=ava;have avc:(["__module__","__name__","__qualname__","__doc__","__annotations__"]:List Str).contains "keys"=false:=by decide +kernel
 have hsz:("keys":Str).length+100<=sizeLine:=by first|size_fits|decide +kernel
 have f1:=sub_AttributeError;have fJ:=PySem.F.slot_list_getattribute.lookup;have f4:=PySem.F.slot_list_getattribute.bind (.ref a);have m5:=am_list_getattr_none;unfold getAttr? getAttrBy? getAttrBy
 repeat (any_goals (first|assumption|exact cv _|((with_reducible show wpAny _ _ (call (Value.builtin "list.__getattribute__") _ _) _ _ _);refine call_meets PySem.F.slot_list_getattribute (cv _) am_entry_list_getattribute (PySem.F.args_list_getattribute_2 _ _) (meets_getattribute_miss_list a xs k fL "keys" _ avb avc hsz) ⟨aq,mA,fun h' aky e Kc=>?_⟩)|wp_step))
 obtain⟨t',u',he⟩:=Kc.there;show wpAny _ _ (getattributeRaised _ _ _ _ _ _ _) _ _ _;unfold getattributeRaised
 repeat (any_goals (first|assumption|wp_step))
 all_goals first|exact h _ _ Kc.keeps|(dsimp only;repeat (any_goals (first|assumption|exact h _ _ Kc.keeps|wp_step)))
theorem akz{R:Result->aX->Prop}{S I l:au}{items:Array aO}{res:aO}(hh:A.handled=none)(Kd:l≠I)(wX:S≠I)(Ke:S≠l) :
  ∀ (rest:List (Key×aO)) (i:Nat) (acc:List (Key×aO)) (tv:Int) (t:Tok) (s:aX),items.size=i+rest.length->acc.length+rest.length<=sizeLine ->
   (∀ (j:Nat) (q:Key×aO),rest[j]?=some q->∃ (b:au) (u:aO),items[i+j]?=some (.ref b)/\b≠S/\b≠I/\IsTup s.heap b #[u,q.2]/\uR q.1 u=true) ->
   s.heap.IsListIter I l i->s.heap.IsList l items->s.heap.DictOf (iR prog w) S acc ->
   (∀ h' tk,h'.DictOf (iR prog w) S (merged acc rest)->(∀ b o,b≠S->b≠I->s.heap.get? b=some o->h'.get? b=some o)->R (.ok (.ret res)) { s with heap:=h',toks:=tk }) ->
   codeAny (model prog w) A (.builtin "dict.update.loop" ⟨[.ref S,.ref I,.int tv t,res],[]⟩) R s
 | [],i,acc,tv,t,s,hsz,ji,b_,hit,aF,hm,mq=>by
  refine codeAny_builtin V2 ?_;rw[Around.under_plainId vd _];show wpAny _ A.in1 (pyNext (.ref I) >>= _) _ _ s;refine wpAny_bind (wpAny_pyNext_list_end (A:=A.in1) hh hit aF (by first|exact Array.getElem?_eq_none (Ai hsz)|(simp at hsz;simp;omega)) fun h' he=>?_);show wpAny _ A.in1 (Builtin.Dict.addKeywords S [] >>= _) _ _ _;refine wpAny_bind (wpAny_pure (wpAny_pure ?_));exact mq h' s.toks (hm.extBut he wX) fun b o _ ak e=>he b o ak e
 |q::rest,i,acc,tv,t,s,hsz,ji,b_,hit,aF,hm,mq=>by
  obtain⟨b,u,ak,avd,acd,ace,aN⟩:=b_ 0 q rfl;rw[ek]at hsz ji;refine codeAny_builtin V2 ?_;rw[Around.under_plainId vd _];show wpAny _ A.in1 (pyNext (.ref I) >>= _) _ _ s;refine wpAny_bind (wpAny_pyNext_list_item (x:=.ref b) hit aF (by simpa using ak) fun h1 acf pB=>?_);have Jm:IsTup h1 b #[u,q.2]:=ace.extBut pB.extBut acd;have kB:h1.IsList l items:=aF.extBut pB.extBut Kd;have Kf:h1.DictOf (iR prog w) S acc:=hm.extBut pB.extBut wX;obtain⟨o,bA,aU,n,hd⟩:=id Jm;show wpAny _ A.in1 (holding [Value.ref b] _ >>= _) _ _ _;refine wpAny_bind (wpAny_holding ?_);refine wpAny_bind (wpAny_tryCatch ?_);unfold Builtin.Dict.pairItems;refine wpAny_bind (wpAny_typeOf (T:="tuple") ⟨o,bA,aU⟩ ?_);rw[bL (by first|decide|rfl|simp)];refine wpAny_bind (wpAny_seqItems bA hd (wpAny_pure ?_));show wpAny _ A.in1 (holding [u,q.2] (dictSet S u q.2)) _ _ _;refine wpAny_holding (wpAny_dictSet_pairs (knd:=iR prog w) (k:=q.1) aN Kf (fun aC yI lH=>?_) (by omega));refine wpAny_pure ⟨plainId_quiet vd _,akz (items:=items) hh Kd wX Ke rest (i+1) (stored acc q.1 q.2) (tv+1) 0 _ (show items.size=i+1+rest.length by omega) ?_ (fun j d8 e=>?_) ?_ ?_ yI fun h' tk lC k=>?_⟩
  ·have z:=stored_length_le acc q.1 q.2
   omega
  ·obtain⟨b',u',g8,Kg,Kh,acg,Bv⟩:=b_ (j+1) d8 (by simpa using e);refine⟨b',u',?_,Kg,Kh,(acg.extBut pB.extBut Kh).extBut lH.extBut Kg,Bv⟩;rw[show i+1+j=i+(j+1) by omega];exact g8
  ·exact acf.at fun hF e=>lH.extBut I hF (Ne.symm wX) e
  ·exact kB.extBut lH.extBut (Ne.symm Ke)
  ·exact mq h' tk lC fun c jK bH dw e=>k c jK bH dw (lH.extBut c jK bH (pB.extBut c jK dw e))
theorem ave{s:aX}{l:au}{ol:Obj}{items:Array aO}{n:Nat}{prs:List (Key×aO)}{Q:aO->aX->Prop}(hh:A.handled=none)(aF:s.heap.get? l=some ol)(aU:ol.cls=.type "list") (hd:ol.dict=none)
  (se:ol.data=.seq items n) (hsz:items.size=prs.length) (ji:prs.length<=sizeLine)
  (b_:∀ (j:Nat) (q:Key×aO),prs[j]?=some q->∃ (b:au) (u:aO),items[j]?=some (.ref b)/\IsTup s.heap b #[u,q.2]/\uR q.1 u=true)
  (h:∀ h' tk,h'.DictOf (iR prog w) s.heap.objs.size (merged [] prs)->(∀ b o,s.heap.get? b=some o->h'.get? b=some o)->Q (.ref s.heap.objs.size) { s with heap:=h',toks:=tk }) :
  wpAny (model prog w) A (call (.type "dict") [.ref l]) Q E s:=by
 refine callType_codes (Q₁:=fun obj fU=>obj=.ref s.heap.objs.size/\fU={ s with heap:=s.heap.push { cls:=.type "dict",data:=.dict #[] } }) PySem.F.kt_called_dict (PySem.F.kt_typeCall_dict_1 _) PySem.F.entry_dict_init (kt_code_dict_new _ ⟨rfl,rfl⟩) ?_;rintro obj fU ⟨rfl,rfl⟩;have BJ:(s.heap.push { cls:=.type "dict",data:=.dict #[] }).DictOf (iR prog w) s.heap.objs.size []:=Heap.DictOf.new s.heap;have k0:∀ b o,s.heap.get? b=some o->(s.heap.push { cls:=.type "dict",data:=.dict #[] }).get? b=some o:=fun b o e=>iB _ e;refine⟨BJ.typeIs,PySem.F.args_dict_init_2 _ _,?_⟩;unfold Builtin.«dict.__init__»;refine wpAny_bind ?_;unfold Builtin.Dict.selfAndRest;refine wpAny_bind (wpAny_notOrdered_dict BJ.typeIs ?_);show wpAny _ _ (pure (s.heap.objs.size,[Value.ref l])) _ _ _;refine wpAny_pure ?_;show wpAny _ _ (Builtin.Dict.updateFrom "dict.__init__" s.heap.objs.size (.ref l) [] .none) _ _ _;unfold Builtin.Dict.updateFrom;refine wpAny_bind (wpAny_typeOf (T:="list") ⟨ol,k0 _ _ aF,aU⟩ ?_);rw[bL (by first|decide|rfl|simp)];refine wpAny_bind (akx (k0 _ _ aF) aU se hd hh fun h1 ach nc=>?_);rw[bL (show(none:Option aO).isNone=true from rfl)];refine wpAny_bind (wpAny_rule ?_);have kB:h1.IsList l items:=⟨ol,nc _ _ (k0 _ _ aF),aU,n,se⟩;have jZ:s.heap.objs.size<h1.objs.size:=by
  have e:(s.heap.push { cls:=.type "dict",data:=.dict #[] }).get? s.heap.objs.size=some { cls:=.type "dict",data:=.dict #[] }:=lU _ rfl;exact fG (nc _ _ e)
 refine wpAny_bind (wpAny_pyIter_list kB ?_);have k2:∀ b o,h1.get? b=some o->(h1.push { cls:=.type "list_iterator",data:=.fields #[.ref l,.int 0 0] }).get? b=some o:=fun b o e=>iB _ e;have cZ:l<s.heap.objs.size:=fG aF;have key:=akz (prog:=prog) (w:=w) (A:=A.in1) (R:=wants (fun r lY=>r=.none/\Q (.ref s.heap.objs.size) lY) E) (S:=s.heap.objs.size) (I:=h1.objs.size) (l:=l) (items:=items) (res:=Value.none) hh
  (gR (rY cZ jZ)) (gR jZ) (v7 cZ) prs 0 [] 0 0
  { s with heap:=h1.push { cls:=.type "list_iterator",data:=.fields #[.ref l,.int 0 0] },toks:=ach } (by rw[hsz,p7]) (by rw[rW,p7];exact ji)
  (fun j q e=>by
   obtain⟨b,u,bD,a8,dr⟩:=b_ j q e;have ak:b<s.heap.objs.size:=a8.lt;exact⟨b,u,by rw[p7];exact bD,gR ak,gR (rY ak jZ),a8.keeps fun c o z=>k2 _ _ (nc _ _ (k0 _ _ z)),dr⟩)
  ⟨_,lU _ rfl,rfl,rfl⟩ (kB.at fun o e=>k2 _ _ e) ((BJ.at fun o e=>nc _ _ e).at fun o e=>k2 _ _ e)
  (fun h' tk lC k=>⟨rfl,h h' tk lC fun b o e=>k b o (gR (fG e)) (gR (rY (fG e) jZ)) (k2 _ _ (nc _ _ (k0 _ _ e)))⟩)
 first
  |exact wpAny_pure ⟨plainId_quiet vd _,key⟩
  |exact wpAny_bind (wpAny_pure (wpAny_pure ⟨plainId_quiet vd _,key⟩))
end
section
variable{X:bR}
theorem akA{pins:List (au×Obj)}{σ:St}{H:ao}{s:aX}(I:Inv X pins σ H s):∀ {ps:d1} {kvs:List (Key×V)},Paired (fun p bC=>fM X.K H p [c0 bC.1,bC.2]) ps kvs ->
  ∃ prs:List (Key×aO),KV kvs prs/\prs.length=ps.length/\∀ (j:Nat) (q:Key×aO),prs[j]?=some q->∃ (b:au) (u:aO),ps[j]?=some b/\IsTup s.heap b #[u,q.2]/\uR q.1 u=true
 |_,_,.nil=>⟨[],.nil,rfl,fun j q e=>by simp at e⟩
 |_,_,.cons (a:=p) (b:=bC) h t=>by
  obtain⟨prs,r,aF,aL⟩:=akA I t;obtain⟨its,eZ,b_,_⟩:=I.tuple h;obtain⟨u,y,u9,hn,b4⟩:=vals2 eZ;subst u9;refine⟨(bC.1,y)::prs,.cons ⟨rfl,b4⟩ r,by rw[ek,ek,aF],fun j q e=>?_⟩;cases j with
  |zero =>
   have e':(bC.1,y)=q:=Option.some.inj e;subst e';exact⟨p,u,Z,b_,wW (P:=X.prog) (w:=X.w) hn⟩
  |succ j =>
   obtain⟨b,u',bD,a8,dr⟩:=aL j q (by simpa using e);exact⟨b,u',by simpa using bD,a8,dr⟩
theorem aci:∀ {ps:d1} {us:dI},Vals (ps.map V.ref) us->us=ps.map Value.ref
 | [],us,r=>by
  rw[v5]at r;cases r;rfl
 |p::ps,us,r=>by
  rw[fT]at r;cases r with
  |cons h t =>
   cases h;rw[fT,← aci t]
theorem V3(acj:X.calm=true):q8 X (.type "dict") (fun xs H Q=>∃ (a:au) (ps:d1) (kvs:List (Key×V)),xs=[.ref a]/\aT X.K H a (ps.map V.ref)/\Paired (fun p bC=>fM X.K H p [c0 bC.1,bC.2]) ps kvs /\
  ∀ p,H p=none->Q (.ref p) (upd H p (.dW (mC [] kvs)))):=by
 intro pins s σ H xs us Q I r q;obtain⟨a,ps,kvs,ex,a0,aL,q⟩:=q;subst ex;obtain⟨u,acn,cc⟩:=vals1 r;subst acn;cases cc;obtain⟨its,eZ,pl,hz⟩:=I.list a0;have u9:=aci eZ;subst u9;rw[ew]at hz;obtain⟨prs,rel,aF,jO⟩:=akA I aL;obtain⟨o,n,bA,aU,hd,se⟩:=pl;refine ave (prs:=prs) (I.ok.hd acj) bA aU hd se (by simp[aF]) (by rw[aF];exact hz) (fun j d8 e=>?_) fun h' tk lC k=>?_
 ·obtain⟨b,u,bD,a8,dr⟩:=jO j d8 e;exact⟨b,u,by simp[bD],a8,dr⟩
 ·have hm:(s.heap.objs.size == sysModules)=false:=beq_eq_false_iff_ne.mpr (v7 I.big)
  have hlen:(mC [] kvs).length<=sizeLine:=by
   refine jf (ab_ kvs []) ?_;rw[rW,p7,rel.length,aF];exact hz
  exact⟨.ref s.heap.objs.size,upd H s.heap.objs.size (.dW (mC [] kvs)),I.laid (t':=tk) k (cG _) (show hO X.prog X.w _ _ _ (.dW (mC [] kvs)) from⟨hlen,hm,merged [] prs,KV.merge rel .nil,lC⟩),Z,q _ (I.bK.fresh (cG _))⟩
end
section
variable{X:bR}{pins:List (au×Obj)}{σ:St}{H:ao}{s:aX}{h':Heap}
theorem Inv.avf{t':Nat}{ch:d1}(I:Inv X pins σ H s)(k:∀ b o,b∉ch->s.heap.get? b=some o->h'.get? b=some o)(hf:∀ b∈ch,q7 X pins H b):Inv X pins σ H { s with heap:=h',toks:=t' }:=by
 have ym:∀ b u,H b=some u->b∉ch:=fun b u e z=>by
  have q:=(hf b z).1;rw[q]at e;cases e
 refine I.step (g':=s.gens) (d':=s.drawn) (ch:=ch) (fun b ak=>⟨(hf b ak).2.2.2.1,(hf b ak).2.1,(hf b ak).2.2.2.2.1,(hf b ak).2.2.2.2.2⟩) (fun b o _ _ aU e _=>k b o aU e) (fun b o _ _ aU e _=>⟨o.slots,k b o aU e⟩)
  (fun _ _ _ _ n=>n) (fun b o aU e=>⟨o,k b o aU e⟩) (fun _ _ e=>e) (fun _ _ _ e=>e) (fun b ps e=>⟨#[],by rw[e];simp⟩) (fun m hm=>?_) (fun b u e=>?_) I.bare
 ·obtain⟨o,es,ep,bA,r⟩:=hm;exact⟨o,es,ep,k _ o (fun z=>(hf _ z).2.1 rfl) bA,r⟩
 ·refine(I.bK b u e).stay (fun c v aU q=>k c v ?_ q) (fun _ q=>q) fun _ _ q=>q;rcases aU with z|z
  ·rw[z];exact ym b u e
  ·exact ym c _ z
theorem Inv.akB{t':Nat}{ch:d1}{T:au}{cX:HO}(I:Inv X pins σ H s)(k:∀ b o,b∉ch->s.heap.get? b=some o->h'.get? b=some o)(hf:∀ b∈ch,q7 X pins H b)(cv:s.heap.objs.size<=T)
  (new:hO X.prog X.w (upd H T cX) h' T cX):Inv X pins σ (upd H T cX) { s with heap:=h',toks:=t' }:=by
 have aR:H T=none:=I.bK.fresh cv;have ym:∀ b u,H b=some u->b∉ch:=fun b u e z=>by
  have q:=(hf b z).1;rw[q]at e;cases e
 refine I.step (g':=s.gens) (d':=s.drawn) (ch:=ch) (fun b ak=>⟨(hf b ak).2.2.2.1,(hf b ak).2.1,(hf b ak).2.2.2.2.1,(hf b ak).2.2.2.2.2⟩) (fun b o _ _ aU e _=>k b o aU e) (fun b o _ _ aU e _=>⟨o.slots,k b o aU e⟩)
  (fun b o _ e n=>?_) (fun b o aU e=>⟨o,k b o aU e⟩) (fun b xs e=>?_) (fun b o u e=>?_) (fun b ps e=>⟨#[],?_⟩) (fun m hm=>?_) (fun b u e=>?_) I.bare
 ·rw[a6 (gR (ll (fG e) cv))];exact n
 ·rw[a6 (bQ e aR)];exact e
 ·rw[a6 (bQ e aR)];exact e
 ·rw[a6 (bQ e aR),e];simp
 ·obtain⟨o,es,ep,bA,r⟩:=hm;exact⟨o,es,ep,k _ o (fun z=>(hf _ z).2.1 rfl) bA,r⟩
 ·by_cases ak:b=T
  ·subst ak;rw[a7]at e;cases e;exact new
  ·rw[a6 ak]at e;refine(I.bK b u e).stay (fun c v aU q=>k c v ?_ q) (fun c q=>by rw[a6 (bQ q aR)];exact q) fun c xs q=>by rw[a6 (bQ q aR)];exact q
   rcases aU with z|z
   ·rw[z];exact ym b u e
   ·exact ym c _ z
end
def yJ(K:cn)(a:au):It :=
 ⟨fun i H=>∃ (xs:List V) (x:V),aT K H a xs/\xs[i]?=some x,fun i H v H'=>∃ T x,v=.ref T/\H T=none/\H'=upd H T (.tup [.int (i:Nat),x])/\∀ xs,aT K H a xs->xs[i]?=some x,fun i H=>∃ xs:List V,aT K H a xs/\xs.length<=i⟩
theorem avh{P:fw}{w:e3}{K:cn}{elts:List Expr}{dA:Nat}{r7:Pos}(a e it:au) :
  Turn P w K (.Tuple elts dA r7) (yJ K a) [e,it] e (fun i h=>(∃ old,IsEnum h e it ((i:Nat):Int) old)/\h.IsListIter it a i/\e≠it) where
 mem:=by simp
 obj:=fun i h st b ak=>by
  obtain⟨⟨old,he⟩,⟨o,bA,aU,hd⟩,_⟩:=st;have e':b=e\/b=it:=by simpa using ak
  rcases e' with z|z
  ·rw[z];exact⟨_,he,fun v q=>nomatch q⟩
  ·rw[z];exact⟨o,bA,fun v q=>by rw[hd]at q;cases q⟩
 keep:=fun i h h' st k=>let ⟨⟨old,he⟩,hi,mX⟩:=st;⟨⟨old,k e (by simp) _ he⟩,hi.at fun o q=>k it (by simp) o q,mX⟩
 item:=by
  intro X gJ hw hu aU i pins s σ H E I hf st b5;subst gJ hw hu;obtain⟨⟨old,he⟩,hit,mX⟩:=st;obtain⟨xs,x,a0,aq⟩:=b5;obtain⟨its,eZ,p,hz⟩:=I.list a0;obtain⟨u,cD,hn⟩:=eZ.get aq;have V4:e<s.heap.objs.size:=fG he;have Kl:it<s.heap.objs.size:=by obtain⟨_,q,_⟩:=hit;exact fG q
  refine wpAny_pyNext_enum_item he hit p.isList (x:=u) (by simpa using cD) mX fun h' bA avi cv hsz aN=>?_;refine⟨_,Z,wpAny_letOwnedTupleGo_enum (s:={ s with heap:=h',toks:=s.toks+1 }) bA fun yK avj fV=>?_⟩;have aco:yK.get? s.heap.objs.size=some { cls:=.type "tuple",data:=.seq #[.int i s.toks,u] }:=(fV.2 _ (v7 V4)).trans cv;have new:hO X.prog X.w (upd H s.heap.objs.size (.tup [.int (i:Nat),x])) yK s.heap.objs.size (.tup [.int (i:Nat),x]) :=
   ⟨by show 2<=sizeLine;decide,[.int i s.toks,u],.cons ⟨_,rfl⟩ (.cons hn .nil),⟨_,aco,rfl,_,rfl⟩⟩
  have bk:Inv X pins σ (upd H s.heap.objs.size (.tup [.int (i:Nat),x])) { s with heap:=yK,toks:=s.toks+1 } :=
   I.akB (ch:=[e,it]) (fun b cX ak q=>(fV.2 b (fun z=>ak (by simp[z]))).trans (aN b cX (fun z=>ak (by simp[z])) (fun z=>ak (by simp[z])) q)) hf (cG _) new
  refine⟨.ref s.heap.objs.size,_,bk,Z,⟨_,x,Z,I.bK.fresh (cG _),Z,fun bN aP=>by rw[I.Vj aP a0];exact aq⟩,⟨⟨u,?_⟩,avi.at fun o q=>(fV.2 it (Ne.symm mX)).trans q,mX⟩,fun b ak=>?_⟩
  ·have bD:((i+1:Nat):Int)=(i:Int)+1:=by omega
   rw[bD];exact avj
  ·have g8:b<s.heap.objs.size:=by
    have e':b=e\/b=it:=by simpa using ak
    rcases e' with z|z
    ·rw[z];exact V4
    ·rw[z];exact Kl
   rw[a6 (gR g8)];exact(hf b ak).1
 done:=by
  intro X gJ hw hu aU i pins s σ H E I hf st b5;subst gJ hw hu;obtain⟨⟨old,he⟩,hit,mX⟩:=st;obtain⟨xs,a0,aq⟩:=b5;obtain⟨its,eZ,p,hz⟩:=I.list a0;obtain⟨f0,f1,f2,fJ,f4,m5⟩:=hf it (by simp);have aF:=eZ.length;exact wpAny_pyNext_enum_end (I.ok.hd aU) he hit p.isList (by simp;omega) fun h' dM=>⟨rfl,I.turned (t':=s.toks) (fun b o ak q=>dM b o ak q) f0 f1 fJ f4 m5⟩
 self:=fun A i s Q E st h=>let ⟨⟨_,he⟩,_⟩:=st;wpAny_pyIter_enum he h
def avk(K:cn)(cN:TA):TI:=fun σ H R=>cN σ H fun vs H1=>∃ a xs,vs=[.ref a]/\aT K H1 a xs/\R (yJ K a) H1
theorem BK{X:bR}{e:Expr}{cN:TA}{p pos r7:Pos}{elts:List Expr}{dA:Nat}(b5:qu X "enumerate") (hm:X.av "enumerate"=none) (aW:PA X [e] cN) (aH:starEach [e] X.env=[(false,eval e X.env)]:=by rfl) :
  PI X (.Tuple elts dA r7) (.Call (.Name "enumerate" p) [e] [] pos) (avk X.K cN):=by
 intro pins s σ H R I h;refine Call_ (Fe I b5 hm boot_enumerate (PyProof.Rows.callWith_type1 (cJ (aW pos pins s σ H _ I h) fun us s1 ⟨vs,H1,bk,cH,bT⟩=>?_) aH rfl));obtain⟨a,xs,ex,a0,q⟩:=bT;subst ex;cases cH with
 |cons r lZ =>
  cases lZ;cases r;obtain⟨its,eZ,p',hz⟩:=bk.list a0;refine call_enumerate_list p'.isList fun h' he hit hsz aN=>wpAny_pyIter_enum he ?_;have dJ:Inv X pins σ H1 { s1 with heap:=h' }:=bk.kept (t':=s1.toks) aN;refine⟨s1.heap.objs.size+1,[s1.heap.objs.size+1,s1.heap.objs.size],_,_,H1,Z,dJ,avh a (s1.heap.objs.size+1) s1.heap.objs.size,⟨⟨.none,he⟩,hit,Nat.succ_ne_self _⟩,fun b ak=>?_,q⟩;have e':b=s1.heap.objs.size+1\/b=s1.heap.objs.size:=by simpa using ak
  have hle:s1.heap.objs.size<=b:=by
   rcases e' with z|z
   ·rw[z];exact I9 _ _
   ·rw[z];exact cG _
  exact bk.Bh hle (bk.bK.fresh hle)
theorem avl:bootBuiltins "zip"=some (.type "zip"):=by decide +kernel
def Km(K:cn)(a b:au):It :=
 ⟨fun i H=>∃ (xs bN:List V) (x y:V),aT K H a xs/\aT K H b bN/\xs[i]?=some x/\bN[i]?=some y,
  fun i H v H'=>∃ T x y,v=.ref T/\H T=none/\H'=upd H T (.tup [x,y])/\(∀ xs,aT K H a xs->xs[i]?=some x)/\∀ bN,aT K H b bN->bN[i]?=some y,
  fun i H=>∃ xs bN:List V,aT K H a xs/\aT K H b bN/\(xs.length<=i\/bN.length<=i)⟩
theorem avm{P:fw}{w:e3}{K:cn}{elts:List Expr}{dA:Nat}{r7:Pos}{a b z TI TO i1 i2:au}(D:ZipApart z TI TO i1 i2 a b) :
  Turn P w K (.Tuple elts dA r7) (Km K a b) [z,TI,TO,i1,i2] z (fun i h=>IsZip h z TI TO .none/\IsPair h TI (.ref i1) (.ref i2)/\(∃ x y,IsPair h TO x y)/\h.IsListIter i1 a i/\h.IsListIter i2 b i) where
 mem:=by simp
 obj:=fun i h st c aU=>by
  obtain⟨hz,tB,⟨x,y,ve⟩,⟨avn,bD,_,JH⟩,⟨avo,a8,_,avp⟩⟩:=st;have e':c=z\/c=TI\/c=TO\/c=i1\/c=i2:=by simpa using aU
  rcases e' with q|q|q|q|q
  ·rw[q];exact⟨_,hz,fun v q=>nomatch q⟩
  ·rw[q];exact⟨_,tB,fun v q=>nomatch q⟩
  ·rw[q];exact⟨_,ve,fun v q=>nomatch q⟩
  ·rw[q];exact⟨avn,bD,fun v q=>by rw[JH]at q;cases q⟩
  ·rw[q];exact⟨avo,a8,fun v q=>by rw[avp]at q;cases q⟩
 keep:=fun i h h' st k=>by
  obtain⟨hz,tB,⟨x,y,ve⟩,h1,aC⟩:=st;exact⟨k z (by simp) _ hz,k TI (by simp) _ tB,⟨x,y,k TO (by simp) _ ve⟩,h1.at fun o q=>k i1 (by simp) o q,aC.at fun o q=>k i2 (by simp) o q⟩
 item:=by
  intro X gJ hw hu aU i pins s σ H E I hf st b5;subst gJ hw hu;obtain⟨hz,tB,⟨x0,avq,ve⟩,h1,aC⟩:=st;obtain⟨xs,bN,x,y,FP,FQ,aq,aP⟩:=b5;obtain⟨its,eZ,p,_⟩:=I.list FP;obtain⟨ra,V5,nS,_⟩:=I.list FQ;obtain⟨u,cD,hn⟩:=eZ.get aq;obtain⟨u2,avr,avs⟩:=V5.get aP;have V6:z<s.heap.objs.size:=fG hz;refine wpAny_pyNext_zip_item D hz tB ve h1 aC p.isList nS.isList (x:=u) (y:=u2) (by simpa using cD) (by simpa using avr) fun h' lF avt Ao Aq cv hsz aN=>?_;refine⟨_,Z,wpAny_letOwnedTupleGo_zip (s:={ s with heap:=h' }) lF fun yK avu fV=>?_⟩;have aco:yK.get? s.heap.objs.size=some { cls:=.type "tuple",data:=.seq #[u,u2] }:=(fV.2 _ (v7 V6)).trans cv;have new:hO X.prog X.w (upd H s.heap.objs.size (.tup [x,y])) yK s.heap.objs.size (.tup [x,y]) :=
   ⟨by show 2<=sizeLine;decide,[u,u2],.cons hn (.cons avs .nil),⟨_,aco,rfl,_,rfl⟩⟩
  have bk:Inv X pins σ (upd H s.heap.objs.size (.tup [x,y])) { s with heap:=yK } :=
   I.akB (t':=s.toks) (ch:=[z,TI,TO,i1,i2]) (fun c o ak q=>(fV.2 c (fun d8=>ak (by simp[d8]))).trans (aN c o (fun d8=>ak (by simp[d8])) (fun d8=>ak (by simp[d8])) (fun d8=>ak (by simp[d8])) (fun d8=>ak (by simp[d8])) q)) hf (cG _) new
  refine⟨.ref s.heap.objs.size,_,bk,Z,⟨_,x,y,Z,I.bK.fresh (cG _),Z,fun l aF=>by rw[I.Vj aF FP];exact aq,fun l aF=>by rw[I.Vj aF FQ];exact aP⟩,⟨avu,?_,⟨u,u2,?_⟩,?_,?_⟩,fun c Jp=>?_⟩
  ·exact(fV.2 _ D.TIz).trans (aN _ _ D.TIz D.TITO D.TIi1 D.TIi2 tB)
  ·exact(fV.2 _ D.TOz).trans avt
  ·exact Ao.at fun o q=>(fV.2 _ D.i1z).trans q
  ·exact Aq.at fun o q=>(fV.2 _ D.i2z).trans q
  ·have cZ:c<s.heap.objs.size:=by
    have e':c=z\/c=TI\/c=TO\/c=i1\/c=i2:=by simpa using Jp
    rcases e' with q|q|q|q|q
    ·rw[q];exact V6
    ·rw[q];exact fG tB
    ·rw[q];exact fG ve
    ·rw[q];obtain⟨_,bD,_⟩:=h1;exact fG bD
    ·rw[q];obtain⟨_,a8,_⟩:=aC;exact fG a8
   rw[a6 (gR cZ)];exact(hf c Jp).1
 done:=by
  intro X gJ hw hu aU i pins s σ H E I hf st b5;subst gJ hw hu;obtain⟨hz,tB,⟨x0,avq,ve⟩,h1,aC⟩:=st;obtain⟨xs,bN,FP,FQ,U3⟩:=b5;obtain⟨its,eZ,p,_⟩:=I.list FP;obtain⟨ra,V5,nS,_⟩:=I.list FQ;have l1:=eZ.length;have l2:=V5.length;have he:its.toArray[i]?=none\/ra.toArray[i]?=none:=by
   rcases U3 with q|q
   ·exact .inl (by simp;omega)
   ·exact .inr (by simp;omega)
  exact wpAny_pyNext_zip_end (I.ok.hd aU) D hz tB ve h1 aC p.isList nS.isList he fun h' aN=>⟨rfl,I.avf (t':=s.toks) (ch:=[z,TI,TO,i1,i2]) (fun c o ak q =>
   aN c o (fun d8=>ak (by simp[d8])) (fun d8=>ak (by simp[d8])) (fun d8=>ak (by simp[d8])) (fun d8=>ak (by simp[d8])) q) hf⟩
 self:=fun A i s Q E st h=>wpAny_pyIter_zip st.1 h
def avv(K:cn)(cN:TA):TI:=fun σ H R=>cN σ H fun vs H1=>∃ a b xs bN,vs=[.ref a,.ref b]/\aT K H1 a xs/\aT K H1 b bN/\R (Km K a b) H1
theorem akC{X:bR}{e a8:Expr}{cN:TA}{p pos r7:Pos}{elts:List Expr}{dA:Nat}(b5:qu X "zip") (hm:X.av "zip"=none) (aW:PA X [e,a8] cN)
  (aH:starEach [e,a8] X.env=(false,eval e X.env)::starEach [a8] X.env:=by rfl) (g6:(backTo pos (starEach [a8] X.env)).any (·.1)=false:=by rfl) :
  PI X (.Tuple elts dA r7) (.Call (.Name "zip" p) [e,a8] [] pos) (avv X.K cN):=by
 intro pins s σ H R I h;refine Call_ (Fe I b5 hm avl (PyProof.Rows.callWith_type1 (cJ (aW pos pins s σ H _ I h) fun us s1 ⟨vs,H1,bk,cH,bT⟩=>?_) aH g6));obtain⟨a,b,xs,bN,ex,FP,FQ,q⟩:=bT;subst ex;cases cH with
 |cons r lZ =>
  cases lZ with
  |cons r' lZ =>
   cases lZ;cases r;cases r';obtain⟨its,eZ,u6,_⟩:=bk.list FP;obtain⟨ra,V5,nS,_⟩:=bk.list FQ;have avw:a<s1.heap.objs.size:=u6.lt;have avx:b<s1.heap.objs.size:=nS.lt;refine call_zip_2 u6.isList nS.isList fun h' hz tB ve h1 aC hsz aN=>wpAny_pyIter_zip hz ?_;have dJ:Inv X pins σ H1 { s1 with heap:=h' }:=bk.kept (t':=s1.toks) aN;refine⟨s1.heap.objs.size+4,[s1.heap.objs.size+4,s1.heap.objs.size+2,s1.heap.objs.size+3,s1.heap.objs.size,s1.heap.objs.size+1],_,_,H1,Z,dJ,avm (PySem.W.ktu_apart s1.heap.objs.size a b avw avx),⟨hz,tB,⟨_,_,ve⟩,h1,aC⟩,fun c Jp=>?_,q⟩;have e':c=s1.heap.objs.size+4\/c=s1.heap.objs.size+2\/c=s1.heap.objs.size+3\/c=s1.heap.objs.size\/c=s1.heap.objs.size+1:=by simpa using Jp
   have hle:s1.heap.objs.size<=c:=by
    rcases e' with z|z|z|z|z
    ·rw[z];exact I9 _ _
    ·rw[z];exact I9 _ _
    ·rw[z];exact I9 _ _
    ·rw[z];exact cG _
    ·rw[z];exact I9 _ _
   exact bk.Bh hle (bk.bK.fresh hle)
end L2
section
namespace akD
open PySem PyProof.Rows
theorem avy{x y:Int}(aq:0<=x)(aP:0<=y):Builtin.bitOr x y=((x.toNat ||| y.toNat:Nat):Int):=by
 have e:=nat_or_add_and x.toNat y.toNat;rw[bitOr_and,bitAnd_pp aq aP];omega
end akD
end
namespace L2
open PySem PySem.Spec PyProof.Rows
def inClass(s:Stmt)(j:Nat):Stmt:=match s with
 | .ClassDef _ _ _ body _ _ _ _ _ _ _=>body.getD j (.Pass ⟨0,0,0,0⟩)
 |_=>.Pass ⟨0,0,0,0⟩
def sg(s:Stmt):Arguments:=match s with
 | .FunctionDef _ a _ _ _ _ _ _ _ _=>a
 |_=>{ posonlyargs:=[],args:=[],vararg:=none,kwonlyargs:=[],kw_defaults:=[],kwarg:=none,defaults:=[] }
def rh(s:Stmt):List Stmt:=match s with
 | .FunctionDef _ _ b _ _ _ _ _ _ _=>b
 |_=>[]
def cx(s:Stmt):Scope:=match s with
 | .FunctionDef _ _ _ _ _ _ sc _ _ _=>sc
 |_=>{ kind:=.function,names:=[],isGenerator:=false,isCoroutine:=false }
structure ct(K:cn)(x qual:Str)(st:Stmt)(f:au)(fd:cF):Prop where
 ex:∃ (jK:aO) (hP:Option au) (c0 doc pm:aO) (an:Option au) (bJ ft:aO) (pO:Array (Option aO)),
  fd=PySem.W.fnOf x qual (sg st) (rh st) (cx st) .none c0 doc pm an bJ ft/\K.lookup f=some ⟨jK,hP,.func fd,pO⟩/\PySem.W.codeIn K bJ qual=true
 aG:PySem.W.keepIn K (.ref f)=true
section
variable{P:fw}{w:e3}{K:cn}{av:g9}{base:Heap}
theorem ct.binds{x qual:Str}{st:Stmt}{f:au}{fd:cF}{ps:List Str}(F:ct K x qual st f fd)
  (h:∀ (c0 doc pm:aO) (an:Option au) (bJ ft:aO) (us:dI),us.length=ps.length->bindArgs (PySem.W.fnOf x qual (sg st) (rh st) (cx st) .none c0 doc pm an bJ ft) ⟨us,[]⟩=pure (ps.zip us)):Binds K fd ps []:=by
 obtain⟨jK,hP,c0,doc,pm,an,bJ,ft,pO,rfl,lk,wJ⟩:=F.ex;exact .all (h c0 doc pm an bJ ft)
theorem acp{x qual:Str}{st:Stmt}{f:au}{jK:aO}{hP an:Option au}{pO:Array (Option aO)}{c0 doc pm bJ ft:aO}(l:K.lookup f=some ⟨jK,hP,.func (PySem.W.fnOf x qual (sg st) (rh st) (cx st) .none c0 doc pm an bJ ft),pO⟩)
  (c:PySem.W.codeIn K bJ qual=true) (k:PySem.W.keepIn K (.ref f)=true):ct K x qual st f (PySem.W.fnOf x qual (sg st) (rh st) (cx st) .none c0 doc pm an bJ ft):=⟨⟨jK,hP,c0,doc,pm,an,bJ,ft,pO,rfl,l,c⟩,k⟩
end
theorem hH.bf{A:Around}{j k:Nat}(h:hH k A)(aN:j<=k:=by decide):hH j A:=h.mono aN
theorem k4{A:Around}{k:Nat}(aA:hH k A):A.units+1<cLine:=Nat.lt_of_le_of_lt (Nat.add_le_add_left (by decide:1<=64) _) aA.units
section
variable{X:bR}
theorem aj(i:Nat){x:Str}{pos:Pos}(hl:X.N[i]?=some x:=by rfl)(aZ:Ez X.env.scope x:=by first|exact Or.inl rfl|exact Or.inr (Or.inl rfl)|exact Or.inr (Or.inr rfl))(hd:(x == ("__debug__":Str))=false:=by decide)
  (wJ:(x == ("__classdict__":Str))=false:=by decide):PE X (.Name x pos) (gg i):=arR hl aZ hd wJ
end
theorem FT{A B:Prop}(h:B):if false=true then A else B:=by
 rw[bw jq];exact h
theorem FW{A B:Prop}(h:A):if true=true then A else B:=by
 rw[bL rfl];exact h
theorem dD{c A B:Prop}[Decidable c](h1:c->A)(aC:¬ c->B):if c then A else B:=by
 by_cases h:c
 ·rw[bL h];exact h1 h
 ·rw[bw h];exact aC h
def aQ(H H':ao):Prop:=∀ b o,H b=some o->H' b=some o
theorem aQ.refl(H:ao):aQ H H:=fun _ _ h=>h
theorem aQ.trans{H H1 aB:ao}(a:aQ H H1)(b:aQ H1 aB):aQ H aB:=fun c o h=>b c o (a c o h)
theorem aQ.free{H H':ao}(e:aQ H H'){l:au}(h:H' l=Option.none):H l=Option.none:=by
 cases q:H l with
 |none=>rfl
 |some o =>
  rw[e l o q]at h;cases h
theorem aQ.seq{K:cn}{H H':ao}{a:au}{xs:List V}(e:aQ H H')(h:aT K H a xs):aT K H' a xs:=by
 rcases h with(h|⟨o,h⟩)|h
 ·exact .inl (.inl (e _ _ h))
 ·exact .inl (.inr ⟨o,e _ _ h⟩)
 ·exact .inr h
section
variable{eF:Type}[DecidableEq eF]
theorem acq{kvs:List (eF×V)}{k:eF}{v:V}(h:dX kvs k=some v):k∈kvs.map (·.1):=by
 have q:(kvs.any fun bC=>decide (bC.1=k))=true:=by
  rw[Fz,h]
  all_goals rfl
 obtain⟨p,aL,e⟩:=sS.mp q;exact g5.mpr ⟨p,aL,h2 e⟩
theorem akE:∀ {l:List eF} {k:eF},l.Nodup->¬ k∈l->(l++[k]).Nodup
 | [],k,_,_=>by simp
 |a::r,k,h,aN=>by
  obtain⟨h1,aC⟩:=Af.mp h;show(a::(r++[k])).Nodup;refine Af.mpr ⟨fun m=>?_,akE aC fun m=>aN (gQ.mpr (Or.inr m))⟩;rcases pa.mp m with q|q
  ·exact h1 q
  ·exact aN (gQ.mpr (Or.inl (g4.mp q).symm))
end
theorem at_of{xs:List V}{z:Int}{j:Nat}{v:V}(e:z=(j:Int))(h:xs[j]?=some v):wO xs z=some v:=by
 rw[e];exact gM h
theorem avz{α:Type}{l:List α}(hl:l.Nodup){i j:Nat}{x:α}(a:l[i]?=some x)(b:l[j]?=some x):i=j:=by
 obtain⟨h1,bD⟩:=eE.mp a;obtain⟨aC,a8⟩:=eE.mp b;exact(List.getElem_inj hl).mp (bD.trans a8.symm)
structure wY(X:bR)(H:ao)(b:au):Prop where
 no:H b=none
 nl:b≠X.env.locals
 kl:b∉X.fs
 acr:b∈X.ex\/X.jY.heap.get? b=none
 acs:∀ x c,X.env.cells.lookup x=some c->c≠b
 np:∀ p∈X.g_,p.1≠b
def akF(X:bR)(H:ao)(h:Heap)(e:au)(vs:Array aO):Prop :=
 ∃ T lK ts,vs[1]?=some (.ref T)/\wY X H T/\T≠e/\h.get? T=some lK/\lK.data=.fields ts/\3<ts.size
def acu(X:bR)(H:ao)(h:Heap)(e:au)(c:aO):Prop :=
 wY X H e/\∃ oe vs,h.get? e=some oe/\oe.cls=c/\oe.data=.fields vs/\(vs[1]?=some .none\/akF X H h e vs)
def wZ(X:bR)(H:ao)(h:Heap)(e:au)(c:aO):Prop :=
 wY X H e/\∃ oe vs,h.get? e=some oe/\oe.cls=c/\oe.data=.fields vs/\akF X H h e vs
theorem wZ.any{X:bR}{H:ao}{h:Heap}{e:au}{c:aO}(x:wZ X H h e c):acu X H h e c:=by
 obtain⟨f,oe,vs,h1,aC,bH,dw⟩:=x;exact⟨f,oe,vs,h1,aC,bH,.inr dw⟩
def sl(X:bR):Prop:=∃ mj outer L,X.stack=mj::outer/\mj.frame=some L/\X.env.frame=some L
section
variable{X:bR}{pins:List (au×Obj)}{σ:St}{H H':ao}{s:aX}{h':Heap}{b e:au}{c:aO}
theorem FZ(I:Inv X pins σ H s)(ak:s.heap.get? b=none)(aR:H' b=none):wY X H' b:=by
 refine⟨aR,fun z=>?_,fun z=>?_,?_,fun x c q z=>?_,fun p aL z=>?_⟩
 ·obtain⟨m,⟨o,_,_,bA,_⟩,_⟩:=I.loc;rw[← z,ak]at bA;cases bA
 ·obtain⟨_,o,bA,_⟩:=I.nP.mem z;rw[ak]at bA;cases bA
 ·by_cases aq:b∈X.ex
  ·exact .inl aq
  ·right
   cases q:X.jY.heap.get? b with
   |none=>rfl
   |some o =>
    obtain⟨hF,e'⟩:=I.base.there b o q aq;rw[ak]at e';cases e'
 ·obtain⟨v,o,bA,_⟩:=I.cell x c q;rw[z,ak]at bA;cases bA
 ·have w:=(I.pin p (uI _ aL)).1
  rw[z,ak]at w;cases w
theorem Inv.exc(I:Inv X pins σ H s)(ch:au->Prop)(oJ:∀ b,ch b->wY X H b)(acv:∀ p∈pins,¬ ch p.1)
  (k:∀ b o,¬ ch b->b∉nO X.stack->s.heap.get? b=some o->h'.get? b=some o)
  (fL:∀ b o,¬ ch b->s.heap.get? b=some o->∃ q,h'.get? b=some { o with slots:=q }):Inv X pins σ H { s with heap:=h' }:=by
 have sY:∀ b,b≠X.env.locals->b∉X.fs->b∉nO X.stack:=fun b h1 aC ak=>(gQ.mp (I.Vd b ak)).elim h1 aC;have young:∀ b o,X.jY.heap.get? b=some o->b∉X.ex->¬ ch b:=fun b o q aq z=>(oJ b z).acr.elim aq fun w=>by
  rw[w]at q;cases q
 have below:∀ b o,X.jY.heap.get? b=some o->b≠X.env.locals:=fun b o q=>gR (ll (fG q) I.ok.above);have cellK:∀ x c,X.env.cells.lookup x=some c->∀ v,s.heap.IsCell c v->h'.IsCell c v:=fun x c q v ⟨o,bA,hd⟩=>by
  obtain⟨cA,a8⟩:=fL c o (fun z=>(oJ c z).acs x c q rfl) bA;exact⟨_,a8,hd⟩
 refine⟨I.ok,I.os,I.bare,⟨fun b o q n ak aq=>?_,fun b o q n ak aq=>?_,fun b o q n aq=>I.base.free b o q n aq,fun b o q aq=>?_,I.base.wC,I.base.uU,I.base.wD⟩,?_,fun x c q=>?_,I.free,I.oH,fun p aL=>?_,fun b u q=>?_,I.len⟩
 ·exact k b o (young b o q aq) (sY b (below b o q) ak) (I.base.keep b o q n ak aq)
 ·obtain⟨bT,bD⟩:=I.base.slot b o q n ak aq;obtain⟨cA,a8⟩:=fL b _ (young b o q aq) bD;exact⟨cA,a8⟩
 ·obtain⟨hF,bD⟩:=I.base.there b o q aq;obtain⟨cA,a8⟩:=fL b hF (young b o q aq) bD;exact⟨_,a8⟩
 ·obtain⟨m,⟨o,es,ep,bA,r⟩,aF⟩:=I.loc;obtain⟨cA,a8⟩:=fL _ o (fun z=>(oJ _ z).nl rfl) bA;refine⟨m,⟨_,es,ep,a8,r⟩,fun i x v gk eG nf=>?_⟩;obtain⟨u,r',l⟩:=aF i x v gk eG nf;refine⟨u,r',?_⟩;rcases l with l|⟨kd,c,q,z⟩
  ·exact .inl l
  ·exact .inr ⟨kd,c,q,cellK x c q _ z⟩
 ·obtain⟨v,z⟩:=I.cell x c q;exact⟨v,cellK x c q v z⟩
 ·obtain⟨q,n,ne,kl,d⟩:=I.pin p aL;have Bc:¬ ch p.1:=by
   rcases pa.mp aL with z|z
   ·exact fun w=>(oJ p.1 w).np p z rfl
   ·exact acv p z
  exact⟨k p.1 p.2 Bc (sY _ ne kl) q,n,ne,kl,d⟩
 ·have nn:∀ c v,H c=some v->¬ ch c/\c∉nO X.stack:=fun c v z=>⟨fun w=>(by rw[(oJ c w).no]at z;cases z),fun w=>(by rw[I.aa1 c w]at z;cases z)⟩
  refine(I.bK b u q).stay (fun c v aU r=>?_) (fun _ z=>z) fun _ _ z=>z;rcases aU with z|z
  ·rw[z]at r ⊢;exact k b v (nn b u q).1 (nn b u q).2 r
  ·exact k c v (nn c _ z).1 (nn c _ z).2 r
end
section
variable{M:Model}{A:Around}{Gd:aO->aX->Prop}{s:aX}{Q:Unit->aX->Prop}
theorem akG{base:Heap}{env mj:Env}{outer:List Env}{L e:au}{oe:Obj}{vs:Array aO}{head:aO}{cT:Bool}
  (yE:A.frames=some (mj::outer)) (jt:env.frame=mj.frame) (aF:s.heap.FunFrames base (mj::outer)) (hf:mj.frame=some L)
  (he:s.heap.get? e=some oe) (hd:oe.data=.fields vs) (h1:1<vs.size)
  (k:∀ h' T,(∀ b o,b≠e->b∉nO (mj::outer)->s.heap.get? b=some o->h'.get? b=some o)->(∀ b o,b≠e->s.heap.get? b=some o->∃ fL,h'.get? b=some { o with slots:=fL }) ->
   s.heap.objs.size<=T->(∃ BL Ge,h'.get? e=some BL/\BL.cls=oe.cls/\BL.data=.fields Ge/\Ge[1]?=some (.ref T))->(∃ lK ts,h'.get? T=some lK/\lK.data=.fields ts/\3<ts.size)->Q () { s with heap:=h' }) :
  wpAny M A (do let a ← PySem.frameOf env;let pl ← entryPlaceOf L cT;let b ← EntryCells.newEntry head a .none (rawInt L) .none pl;setField (.ref e) 1 b) Q Gd s:=by
 have V7:PySem.frameOf env=PySem.frameOf mj:=by
  unfold PySem.frameOf;rw[jt]
 have ne:e∉nO (mj::outer):=fun hm=>by
  obtain⟨_,o,bA,acw⟩:=aF.mem hm;rw[he]at bA;cases bA;exact acw vs hd
 rw[V7];refine wpAny_bind (wpAny_frameOf_fun yE aF hf fun g1 V8=>?_);refine wpAny_bind (wpAny_entryPlaceOf fun pl g6=>?_);unfold EntryCells.newEntry newFields;refine wpAny_bind (wpAny_newObj_type ?_ (g6.sizeOk5 _ _ _ _ _));have bD:g1.get? e=some oe:=(V8.2.1 e ne).trans he;generalize akH:({ cls:=.type "traceback",dict:=none,data:=.fields ([head,.ref L,.none,rawInt L,.none]++(if pl.isEmpty then List.replicate 6 Value.none else pl)).toArray }:Obj)=cX;have a8:=iB (h:=g1) cX bD;refine wpAny_setField a8 hd h1 ?_;have cZ:e<g1.objs.size:=fG bD;have ri:=Obj.data_mapFields hd (·.setIfInBounds 1 (Value.ref g1.objs.size));refine k _ g1.objs.size (fun b o ak aR q=>?_) (fun b o ak q=>?_) (Ai V8.1.symm) ⟨_,_,Heap.get?_update_self _ a8 (Obj.isFreed_of_fields ri),Obj.cls_mapFields _ _,ri,by simp[h1]⟩ ⟨cX,_,?_,by rw[← akH],?_⟩
 ·rw[Aj _ _ (Ne.symm ak)];exact iB _ ((V8.2.1 b aR).trans q)
 ·obtain⟨fL,z⟩:=V8.2.2 b o q;refine⟨fL,?_⟩;rw[Aj _ _ (Ne.symm ak)];exact iB _ z
 ·rw[Aj _ _ (gR cZ)];exact lU g1 (by rw[← akH];rfl)
 ·simp only[iC,gB,ek,rW];omega
variable{X:bR}{σ:St}{H:ao}{e:au}{c:aO}
theorem avA{env:Env}(dZ:sl X)(mA:A.frames=some X.stack)(hf:env.frame=X.env.frame)(I:Inv X [] σ H s)(x:acu X H s.heap e c)
  (k:∀ s',Inv X [] σ H s'->wZ X H s'.heap e c->Q () s'):wpAny M A (noteFrame (.ref e) env) Q Gd s:=by
 obtain⟨b0,oe,vs,he,aU,hd,b_⟩:=x;obtain⟨mj,outer,L,m1,yL,avB⟩:=dZ;have acy:env.frame=some L:=hf.trans avB;have akI:A.frames=some (mj::outer):=by rw[mA,m1]
 unfold noteFrame;simp only[acy];rcases b_ with h1|⟨T,lK,ts,h1,sm,rk,cv,qD,bH⟩
 ·refine wpAny_bind (wpAny_field he hd h1 ?_);rw[bw (by decide)];have aF:s.heap.FunFrames X.base (mj::outer):=m1▸I.stack;refine akG akI (acy.trans yL.symm) aF yL he hd (Array.getElem?_eq_some_iff.mp h1).1 fun h' T k1 k2 cv ⟨BL,Ge,a1,a2,a3,a4⟩ ⟨lK,ts,t1,t2,t3⟩=>?_;have ih:=I.exc (h':=h') (fun b=>b=e) (fun b z=>z▸b0) (fun p aL=>nomatch aL) (fun b o z w q=>k1 b o z (m1▸w) q) (fun b o z q=>k2 b o z q);exact k _ ih ⟨b0,BL,Ge,a1,a2.trans aU,a3,T,lK,ts,a4,FZ I (Ul cv) (I.bK.fresh cv),v7 (ll (fG he) cv),t1,t2,t3⟩
 ·refine wpAny_bind (wpAny_field he hd h1 ?_);rw[bL (show(Value.ref T != Value.none)=true by simp)];obtain⟨z,hz⟩:∃ z,ts[3]?=some z:=⟨_,Array.getElem?_eq_getElem bH⟩;refine wpAny_bind (wpAny_field cv qD hz ?_);by_cases a0:(z == rawInt L)=true
  ·rw[bL a0];exact wpAny_pure (k s I ⟨b0,oe,vs,he,aU,hd,T,lK,ts,h1,sm,rk,cv,qD,bH⟩)
  ·rw[bw a0];refine wpAny_bind (wpAny_setField cv qD bH ?_);have other:∀ b,b≠T->(s.heap.update T (Obj.mapFields (·.setIfInBounds 3 Value.none))).get? b=s.heap.get? b:=fun b ak=>Aj _ _ (Ne.symm ak);have bk:=I.exc (h':=s.heap.update T (Obj.mapFields (·.setIfInBounds 3 Value.none))) (fun b=>b=T) (fun b z=>z▸sm) (fun p aL=>nomatch aL) (fun b o z _ q=>(other b z).trans q) (fun b o z q=>⟨o.slots,(other b z).trans q⟩);have aF:(s.heap.update T (Obj.mapFields (·.setIfInBounds 3 Value.none))).FunFrames X.base (mj::outer):=m1▸bk.stack;refine akG (s:={ s with heap:=s.heap.update T (Obj.mapFields (·.setIfInBounds 3 Value.none)) }) akI (acy.trans yL.symm) aF yL ((other e (Ne.symm rk)).trans he) hd (Array.getElem?_eq_some_iff.mp h1).1 fun h' ey k1 k2 acz ⟨BL,Ge,a1,a2,a3,a4⟩ ⟨avC,avD,t1,t2,t3⟩=>?_;have ih:=bk.exc (h':=h') (fun b=>b=e) (fun b z=>z▸b0) (fun p aL=>nomatch aL) (fun b o z w q=>k1 b o z (m1▸w) q) (fun b o z q=>k2 b o z q);exact k _ ih ⟨b0,BL,Ge,a1,a2.trans aU,a3,ey,avC,avD,a4,FZ bk (Ul acz) (bk.bK.fresh acz),v7 (ll (fG ((other e (Ne.symm rk)).trans he)) acz),t1,t2,t3⟩
theorem acA{fr:Option au}(I:Inv X [] σ H s)(x:wZ X H s.heap e c)(k:∀ s',Inv X [] σ H s'->wZ X H s'.heap e c->Q () s'):wpAny M A (setFlight (.ref e) fr) Q Gd s:=by
 obtain⟨b0,oe,vs,he,aU,hd,T,lK,ts,h1,sm,rk,cv,qD,bH⟩:=x;unfold setFlight;refine wpAny_bind (wpAny_field he hd h1 ?_);rw[bL (show(Value.ref T != Value.none)=true by simp)];refine wpAny_setField cv qD bH ?_;have other:∀ b,b≠T->(s.heap.update T (Obj.mapFields (·.setIfInBounds 3 (fr.elim Value.none fun f=>rawInt f)))).get? b=s.heap.get? b:=fun b ak=>Aj _ _ (Ne.symm ak);have bk:=I.exc (h':=s.heap.update T (Obj.mapFields (·.setIfInBounds 3 (fr.elim Value.none fun f=>rawInt f)))) (fun b=>b=T) (fun b z=>z▸sm) (fun p aL=>nomatch aL) (fun b o z _ q=>(other b z).trans q) (fun b o z q=>⟨o.slots,(other b z).trans q⟩);exact k _ bk ⟨b0,oe,vs,(other e (Ne.symm rk)).trans he,aU,hd,T,_,_,h1,sm,rk,Heap.get?_update_self _ cv (Obj.isFreed_of_fields (Obj.data_mapFields qD _)),Obj.data_mapFields qD _,by simpa using bH⟩
theorem wZ.head{h:Heap}(x:wZ X H h e c):∃ oe vs T,h.get? e=some oe/\oe.data=.fields vs/\vs[1]?=some (.ref T):=by
 obtain⟨b0,oe,vs,he,aU,hd,T,lK,ts,h1,sm,rk,cv,qD,bH⟩:=x;exact⟨oe,vs,T,he,hd,h1⟩
end
def nU(X:bR)(E:cM)(x:aO)(s:aX):Prop:=∃ σ H e c,x=.ref e/\Inv X.q5 [] σ H s/\acu X.q5 H s.heap e c/\E c none H
def RaisedH(X:bR)(E:cM)(x:aO)(s:aX):Prop:=∃ σ H e c,x=.ref e/\Inv X.q5 [] σ H s/\wZ X.q5 H s.heap e c/\E c none H
theorem RaisedH.any{X:bR}{E:cM}{x:aO}{s:aX}(h:RaisedH X E x s):nU X E x s:=by
 obtain⟨σ,H,e,c,h1,aC,bH,dw⟩:=h;exact⟨σ,H,e,c,h1,aC,bH.any,dw⟩
abbrev bR.exc(X:bR)(E:cM):bR:=X.wish (nU X E)
section
variable{X:bR}{E:cM}{x:aO}{s:aX}{M:Model}{A:Around}{Gd:aO->aX->Prop}
theorem V9{env:Env}{Q:Unit->aX->Prop}(dZ:sl X)(mA:A.frames=some X.stack)(hf:env.frame=X.env.frame)(r:nU X E x s)(k:∀ s',RaisedH X E x s'->Q () s'):wpAny M A (noteFrame x env) Q Gd s:=by
 obtain⟨σ,H,e,c,rfl,I,aq,hE⟩:=r;exact avA (X:=X.q5) dZ mA hf I aq fun s' ih x'=>k s' ⟨σ,H,e,c,rfl,ih,x',hE⟩
theorem acB{fr:Option au}{Q:Unit->aX->Prop}(r:RaisedH X E x s)(k:∀ s',RaisedH X E x s'->Q () s'):wpAny M A (setFlight x fr) Q Gd s:=by
 obtain⟨σ,H,e,c,rfl,I,aq,hE⟩:=r;exact acA (X:=X.q5) I aq fun s' ih x'=>k s' ⟨σ,H,e,c,rfl,ih,x',hE⟩
theorem avE{env:Env}{BP:aO->aX->Prop}(r:RaisedH X E x s)(k:∀ s',RaisedH X E x s'->BP x s'):cameBackBy M A env BP x s:=by
 unfold cameBackBy;obtain⟨σ,H,e,c,rfl,I,aq,hE⟩:=r;obtain⟨oe,vs,T,he,hd,h1⟩:=aq.head;have step:wpAny M A (setFlight (.ref e) env.frame) (fun _ JV=>BP (.ref e) JV) BP s:=acB (X:=X) ⟨σ,H,e,c,rfl,I,aq,hE⟩ fun s' r'=>k s' r';refine wpAny_bind (wpAny_field he hd h1 ?_);rw[bw (show ¬ ((Value.ref T == Value.none)=true) by simp)];first
  |exact step
  |exact wpAny_bind (wpAny_pure step)
theorem nU.frames(r:nU X E x s):X.A.frames=some X.stack:=by
 obtain⟨σ,H,e,c,_,I,_,_⟩:=r;exact I.ok.frames
theorem gO{env:Env}(dZ:sl X)(hf:env.frame=X.env.frame):PassesOwn M X.A env (nU X E):=by
 intro e s' r;unfold notedBy;exact V9 dZ r.frames hf r fun s1 cH=>avE cH fun s2 dm=>dm.any
end
def avF(h0:Heap)(H:ao)(h:Heap)(e:au)(c:aO):Prop :=
 h0.get? e=none/\H e=none/\∃ oe vs,h.get? e=some oe/\oe.cls=c/\oe.data=.fields vs /\
  ∃ T lK ts,vs[1]?=some (.ref T)/\h0.get? T=none/\H T=none/\T≠e/\h.get? T=some lK/\lK.data=.fields ts/\3<ts.size
def cL(P:fw)(w:e3):tg:=fun outer H s E x s'=>∃ e c H',x=.ref e/\s'.os=s.os/\AllBare s'.gens/\jX (nO outer) [] H H' s.heap s'.heap/\hs P w H' s'.heap/\avF s.heap H' s'.heap e c/\E c none H'
theorem avG{X:bR}{E:cM}(h:∀ e s,nU X E e s->X.xe e s):Passes (cL X.prog X.w) X E:=by
 intro pins σ H s x s' I q;obtain⟨e,c,H',rfl,avH,b5,un,bK,⟨n0,n1,oe,vs,he,aU,hd,T,lK,ts,h1,t0,t1,rk,cv,qD,bH⟩,hE⟩:=q;refine h _ _ ?_;have ih:Inv X pins σ H' s':=I.call' (ch:=[]) avH un bK b5 fun b ak=>nomatch ak;have dJ:Inv X [] σ H' s':=ih.JC fun p aL=>nomatch aL;exact⟨σ,H',e,c,Z,dJ.wish _,⟨FZ (I.wish _) n0 n1,oe,vs,he,aU,hd,.inr ⟨T,lK,ts,h1,FZ (I.wish _) t0 t1,rk,cv,qD,bH⟩⟩,hE⟩
theorem bh{X:bR}{E:cM}:Passes (cL X.prog X.w) (X.exc E) E:=avG fun _ _ h=>h
theorem avI{gH:tg}{P:fw}{w:e3}{K:cn}{av:g9}{base:Heap}{N:List Str}{qual:Str}{scope:Scope}{f:au}{cd:aO}{A:Around}{outer:List Env}{s:aX}{H:ao}{E:cM} :
  sl (sa gH P w K av base N qual scope f cd A outer s H E):=⟨_,_,_,rfl,rfl,rfl⟩
theorem avJ{P:fw}{w:e3}{K:cn}{av:g9}{base:Heap}{N:List Str}{qual:Str}{scope:Scope}{f:au}{cd:aO}{A:Around}{outer:List Env}{s:aX}{H:ao}{E:cM}{x:aO}{s':aX}
  (r:nU (sa (cL P w) P w K av base N qual scope f cd A outer s H E) E x s'):(sa (cL P w) P w K av base N qual scope f cd A outer s H E).xe x s':=by
 show wpAny (model P w) (A.deeper (envOfC qual scope s.heap.objs.size f cd)) (leaving (envOfC qual scope s.heap.objs.size f cd) x) _ _ s';have yE:(A.deeper (envOfC qual scope s.heap.objs.size f cd)).frames=some (sa (cL P w) P w K av base N qual scope f cd A outer s H E).stack:=by
  obtain⟨σ,H',e,c,_,I,_,_⟩:=r;exact I.ok.frames
 unfold leaving;refine wpAny_bind (V9 avI yE rfl r fun s1 cH=>acB cH fun s2 dm=>?_);obtain⟨σ,H',e,c,rfl,I,⟨b0,oe,vs,he,aU,hd,T,lK,ts,h1,sm,rk,cv,qD,bH⟩,hE⟩:=dm;have g:∀ b,wY (sa (cL P w) P w K av base N qual scope f cd A outer s H E).q5 H' b->s.heap.get? b=none:=fun b z=>z.acr.elim (fun y=>nomatch y) id;exact⟨e,c,H',Z,I.os,I.bare,I.base,I.bK,⟨g e b0,b0.no,oe,vs,he,aU,hd,T,lK,ts,h1,g T sm,sm.no,rk,cv,qD,bH⟩,hE⟩
section
variable{X:bR}{BP:aO->aX->Prop}
theorem pK.avK{st:List Stmt}{t:TS}(h:pK (X.wish BP) st t)(aq:∀ e s,BP e s->X.xe e s):pK X st t:=fun pins s σ H D I hw =>
 wpAny_mono (h pins s σ H D (I.wish _) hw) (fun _ _ q=>q.q6) aq
end
section
variable{P:fw}{w:e3}{K:cn}{av:g9}{base:Heap}
theorem ct.cY{x qual:Str}{st:Stmt}{f:au}{fd:cF}{N ps:List Str}{k:Nat}{sp:eX}(F:ct K x qual st f fd)(S:cV N ps (cx st))(len:∀ vs H Q E,sp vs H Q E->vs.length=ps.length)
  (abH:∀ (bJ:aO) (A:Around) (outer:List Env) (s:aX) (H:ao) (vs:List V) (Q:bx) (E:cM),hH k (A.deeper (envOfC qual (cx st) s.heap.objs.size f bJ))->sp vs H Q E ->
   ∃ t,pK ((sa (cL P w) P w K av base N qual (cx st) f bJ A outer s H E).exc E) (rh st) t/\t { cT:=fun _ H'=>Q .non H',E':=Q } (start N vs) H):cI P w K av base (cL P w) (k+1) f fd ps sp:=by
 obtain⟨jK,hP,c0,doc,pm,an,bJ,ft,pO,rfl,lk,wJ⟩:=F.ex;refine atv lk wJ S len fun A outer s H vs Q E aA yv=>?_;obtain⟨t,h,q⟩:=abH bJ A outer s H vs Q E aA yv;exact⟨t,h.avK fun e s' r=>avJ r,q⟩
end
def yM(K:cn)(C:au):Prop:=PySem.W.excIn K C [.type "Exception",.type "BaseException",.type "object"] "Exception.__new__"=true
theorem yM.k{K:cn}{C:au}(q:yM K C):∃ bm N nm qn bs hdct sn sub ab col dd k0 k1 k2 k3 k5,
  K.lookup C=some (excClassObj nm qn C N bs bm hdct sn sub ab col dd k0 k1 k2 k3 k5 "Exception.__new__")/\(∃ acC,K.lookup N=some acC)/\PySem.W.nsOkIn K N=true/\PySem.W.nsIn K N "__init__"=some none /\
   PySem.W.tailIn K [.type "Exception",.type "BaseException",.type "object"] bm=true:=by
 unfold yM PySem.W.excIn at q;split at q
 ·rename_i dd cd fL bA;split at q
  ·rename_i C' bm k0 k1 k2 k3 n k5 hm aH;simp only[je,v9,Bool.not_eq_true']at q;obtain⟨⟨⟨⟨⟨gk,eG⟩,akJ⟩,b_⟩,bK⟩,Ko⟩:=q;subst gk eG;obtain⟨nm,bs,mro,ns,qn,hd,sn,sub,ab,col,del⟩:=cd;dsimp only at hm akJ bK Ko;subst hm akJ;obtain⟨l⟩:=fL;simp only at aH;subst aH;refine⟨bm,ns,nm,qn,bs,hd,sn,sub,ab,col,dd,k0,k1,k2,k3,k5,bA,?_,bK,Ko,b_⟩;unfold PySem.W.nsOkIn at bK;split at bK
   ·rename_i z;exact⟨_,z⟩
   ·cases bK
  ·cases q
 ·cases q
theorem hO.there{P:fw}{w:e3}{H:ao}{h:Heap}{a:au}{o:HO}(x:hO P w H h a o):∃ cX,h.get? a=some cX:=by
 cases o with
 |lst xs=>obtain⟨_,_,_,_,z⟩:=x;exact⟨_,z⟩
 |tup xs=>obtain⟨_,_,_,cX,z,_⟩:=x;exact⟨_,z⟩
 |dW kvs=>obtain⟨_,_,_,_,cX,_,_,z,_⟩:=x;exact⟨_,z⟩
 |gD kvs=>obtain⟨_,_,_,_,cX,_,_,z,_⟩:=x;exact⟨_,z⟩
 |set S n=>obtain⟨cX,_,_,_,z,_⟩:=x;exact⟨_,z⟩
 |ins C dx fs=>obtain⟨_,_,_,z,_⟩:=x;exact⟨_,z⟩
 |own y=>obtain⟨_,z⟩:=x;exact⟨_,z⟩
 |Vb fs=>obtain⟨_,⟨_,_,_,z,_⟩,_⟩:=x;exact⟨_,z⟩
 |uT lo hi=>obtain⟨_,_,_,z⟩:=x;exact⟨_,z⟩
 |sW cX u=>obtain⟨z,_⟩:=x;exact⟨_,z⟩
 |yh ps=>exact⟨_,(show h.get? a=some _ from x)⟩
 |met f y=>exact⟨_,(show h.get? a=some _ from x)⟩
 |ext Ay=>obtain⟨_,⟨_,z⟩,_⟩:=x;exact⟨_,z⟩
theorem hs.free{P:fw}{w:e3}{H:ao}{h:Heap}{a:au}(x:hs P w H h)(n:h.get? a=none):H a=none:=by
 cases z:H a with
 |none=>rfl
 |some u =>
  obtain⟨cX,q⟩:=(x a u z).there;rw[n]at q;cases q
def avL(C:au)(E:cM):TS:=fun _ _ H=>E (.ref C) none H
theorem akK{X:bR}{E:cM}{C:au}{y:Str}{x:Str}{j:Nat}{np Gf h7 pos:Pos}(aU:X.calm=true)(aq:∀ e s,nU X E e s->X.xe e s)(b5:qu X x)(hm:X.av x=some (.ref C))(q:yM X.K C)(m_:(x == ("__debug__":Str))=false:=by decide) :
  PS X (.Raise (some (.Call (.Name x np) [.Constant (.str y) j Gf] [] h7)) none pos) (avL C E):=by
 intro pins s σ H D I h;obtain⟨bm,N,nm,qn,bs,hdct,sn,sub,ab,col,dd,k0,k1,k2,k3,k5,vf,⟨acC,acD⟩,bK,Ko,b_⟩:=q.k;have hl:s.heap.Ns N (s.heap.nsMap N):=.of_isNs (PySem.W.isNs_of_in I.jJ bK);have cv:OwnTail s.heap [.type "Exception",.type "BaseException",.type "object"] bm:=PySem.W.tail_of_in I.jJ b_;refine wpAny_Raise_call_subT (bm:=bm) (C:=C) (N:=N) (nm:=nm) (q:=qn) (bs:=bs) (hdct:=hdct) (sn:=sn) (sub:=sub) (ab:=ab) (col:=col) (dd:=dd) (k0:=k0) (k1:=k1) (k2:=k2) (k3:=k3) (k5:=k5) (mN:=s.heap.nsMap N) PySem.F.excBase_Exception (cv.hasType (by decide)) (I.ok.hd aU) rfl (PySem.W.nsMap_none_of_in I.jJ bK Ko) ?_;refine Fd I b5 hm ⟨rfl,?_⟩ m_;have m':PA X [.Constant (.str y) j Gf] (nR (uW (.str y)) m9):=aD arS aM;refine Calls.evalArgs_plain (cJ (m' h7 pins s σ H (fun vs H1=>H1=H/\vs.length<=1) I ⟨rfl,cG _⟩) fun us s1 ⟨vs,H1,bk,r,bD,aF⟩=>?_);subst bD;have hlen:us.length<=sizeLine:=by
  rw[← r.length];exact jf aF (by decide)
 have avM:s1.heap.Ns N (s.heap.nsMap N):=by
  obtain⟨o,es,ep,bA,lZ⟩:=hl;have z:=I.jJ _ _ acD;rw[bA]at z;cases z;exact⟨_,es,ep,bk.jJ _ _ acD,lZ⟩
 refine⟨Z,hlen,bk.jJ _ _ vf,avM,PySem.W.tail_of_in bk.jJ b_,fun h' e rm=>aq _ _ ?_⟩;obtain⟨t,he,Kp,_⟩:=rm.there;have dJ:Inv X pins σ H1 { s1 with heap:=h' }:=bk.kept (t':=s1.toks) rm.keeps;have eU:Inv X [] σ H1 { s1 with heap:=h' }:=dJ.JC fun p aL=>nomatch aL;have aR:H1 e=none:=bk.bK.free rm.new;exact⟨σ,H1,e,.ref C,Z,eU.wish _,⟨FZ (bk.wish _) rm.new aR,_,_,he,Z,Z,.inl rfl⟩,h⟩
theorem avN{X:bR}(dZ:sl X){s:aX}{H:ao}{scope:Scope}{cl:List (Str×au)}{C:au}{fp:d1}:sl (X.js s H scope (compEnvC scope cl C X.env) fp):=by
 obtain⟨mj,outer,L,h1,aC,bH⟩:=dZ;exact⟨mj,outer,L,h1,aC,bH⟩
section
variable{X:bR}{E:cM}
theorem avO{pins:List (au×Obj)}{σ:St}{aJ:ao}{s3:aX}{scope:Scope}{cl:List (Str×au)}{fp:d1}{use:Option (aO->Sem Unit)}{w0:aO->aX->Prop}{D:aO}{x:aO}{s':aX}
  (dZ:sl X) (aq:∀ e s,nU X E e s->X.xe e s) (eU:Inv X pins σ aJ s3) (fJ:∀ b∈fp,q7 X pins aJ b)
  (r:nU (X.js s3 aJ scope (compEnvC scope cl s3.heap.objs.size X.env) fp) E x s') :
  notedBy (model X.prog X.w) X.A (compEnvC scope cl s3.heap.objs.size X.env) (fun e s'=>compPost (model X.prog X.w) X.A X.xe use w0 D s3.heap.objs.size (.error e) s') x s':=by
 unfold notedBy;refine V9 (avN dZ) r.frames rfl r fun s1 cH=>?_;obtain⟨Bg,H1,e,c,rfl,bk,⟨b0,oe,vs,he,aU,hd,T,lK,ts,h1,sm,rk,cv,qD,bH⟩,hE⟩:=cH;have m6:Inv X pins σ H1 s1:=eU.call' (ch:=fp) bk.os bk.base bk.bK bk.bare fun b ak=>⟨(fJ b ak).2.2.2.1,(fJ b ak).2.1,(fJ b ak).2.2.2.2.1,(fJ b ak).2.2.2.2.2⟩;have acE:Inv X [] σ H1 s1:=m6.JC fun p aL=>nomatch aL;obtain⟨m,aR,_⟩:=bk.loc;have acF:H1 s3.heap.objs.size=none:=bk.free;have avP:=eU.Bh (H':=H1) (cG _) acF;have up:∀ b,wY (X.js s3 aJ scope (compEnvC scope cl s3.heap.objs.size X.env) fp).q5 H1 b->wY X.q5 H1 b:=fun b z=>by
  rcases z.acr with y|y
  ·obtain⟨akL,g1,g2,g3,Jv,acG⟩:=fJ b y;exact⟨z.no,g1,g2,g3.elim .inl fun w=>.inr (Ul w),Jv,fun p aL=>acG p (uI _ aL)⟩
  ·exact FZ (eU.wish _) y z.no
 refine⟨m,aR,fun h' fV hI aa8=>?_⟩;have Bb:∀ b,wY (X.js s3 aJ scope (compEnvC scope cl s3.heap.objs.size X.env) fp).q5 H1 b->b≠s3.heap.objs.size:=fun b z=>z.nl;obtain⟨akL,g1,g2,g3,Jv,acG⟩:=avP;have V_:Inv X [] σ H1 { s1 with heap:=h' }:=acE.turned (t':=s1.toks) (fun b o ak q=>(fV.2 b ak).trans q) akL g1 g3 Jv fun p aL=>acG p (by
  rcases pa.mp aL with w|w
  ·exact uI _ w
  ·exact nomatch w)
 have Wa:wZ X.q5 H1 h' e c:=⟨up e b0,oe,vs,(fV.2 e (Bb e b0)).trans he,aU,hd,T,lK,ts,h1,up T sm,rk,(fV.2 T (Bb T sm)).trans cv,qD,bH⟩;unfold PySem.passOn;obtain⟨aHa,aHb,avQ,avR,avS,avT⟩:=Wa.head;refine wpAny_bind (wpAny_field avR avS avT ?_);rw[bw (show ¬ ((Value.ref avQ == Value.none)=true) by simp)];have step:wpAny (model X.prog X.w) X.A (do setFlight (.ref e) hI.frame;(throw (.ref e):Sem aO)) (fun _ _=>False) X.xe { s1 with heap:=h' } :=
  wpAny_bind (acA (X:=X.q5) (s:={ s1 with heap:=h' }) (V_.wish _) Wa fun s2 dJ iD=>wpAny_throw (aq _ _ ⟨σ,H1,e,c,rfl,dJ,iD.any,hE⟩))
 first
  |exact step
  |exact wpAny_bind (wpAny_pure step)
theorem akM{pins:List (au×Obj)}{s:aX}{σ:St}{H:ao}{Q:bx}{elt e0 iter:Expr}{ifs:List Expr}{scope:Scope}{own:List (Str×Nat)}{pos pos':Pos}{kY:TI}{g:lG}{tt:TT}{te:TE}{use:Option (aO->Sem Unit)}{w0:aO->aX->Prop}
  (dZ:sl X) (aq:∀ e s,nU X E e s->X.xe e s)
  (aU:X.calm=true) (hl:X.N.Nodup) (I:Inv X pins σ H s) (hi:PI X e0 iter kY) (ok:J5 X.N X.env.scope scope own)
  (b5:∀ (s:aX) (H:ao) (C:au) (cl:List (Str×au)) (fp:d1),PG ((X.js s H scope (compEnvC scope cl C X.env) fp).exc E) e0 g) (b_:∀ (s:aX) (H:ao) (C:au) (cl:List (Str×au)) (fp:d1),J7 ((X.js s H scope (compEnvC scope cl C X.env) fp).exc E) ifs tt)
  (he:∀ (s:aX) (H:ao) (C:au) (cl:List (Str×au)) (fp:d1),PE ((X.js s H scope (compEnvC scope cl C X.env) fp).exc E) elt te) (aH:∀ x,foldedSetIterable iter X.env x=pure x)
  (h:wU kY g tt te (own.map (·.2)) σ H Q)
  (avU:∀ D C s' m H',Inv X pins σ H' s'->Q (.ref D) H'->s'.heap.Ns C m->q7 X pins H' C->compPost (model X.prog X.w) X.A X.xe use w0 (.ref D) C (.ok .next) s') :
  wpAny (model X.prog X.w) X.A (comprehension (.ListComp elt [⟨e0,iter,ifs,0⟩] scope pos) scope X.env pos' (newList []) false (eval iter X.env) use) w0 X.xe s:=by
 have s6:∀ y∈scope.names,y.2=.free->∃ c,X.env.cells.lookup y.1=some c:=fun y aP e=>by
  rcases ok.free y aP e with k|k
  ·exact I.ok.has _ (.inl k)
  ·exact I.ok.has _ (.inr k)
 refine wpAny_comprehension_free (use:=use) rfl aH (aup s6) ok.kind (fun y aP e=>by rw[ok.uniq y aP,e])
  (cJ (hi pins s σ H _ I h) fun aHc s1 avV=>cJ avV fun abm s2 aC=>?_)
 obtain⟨it,fp,tn,J,aB,e,dJ,T,Vq,f2,q⟩:=aC;subst e;refine wpAny_newObj_type (auq ?_) (by show 0<=sizeLine;decide);generalize bp:s2.heap.objs.size=D;have w1:aB D=none:=dJ.bK.fresh (Ai bp);obtain⟨W,⟨m0,Fo⟩,turn⟩:=q D w1;generalize akN:({ s2 with heap:=s2.heap.push { cls:=.type "list",data:=.seq ([]:dI).toArray } }:aX)=s3;have eU:Inv X pins σ (upd aB D (.lst [])) s3:=by
  rw[← akN];refine dJ.laid (t':=s2.toks) (fun b o e=>iB _ e) (Ai bp) ⟨eY _,[],0,.nil,?_⟩;rw[← bp];exact lU _ rfl
 have bH:s3.heap=s2.heap.push { cls:=.type "list",data:=.seq ([]:dI).toArray }:=by rw[← akN]
 have EY:∀ b∈fp,b<s2.heap.objs.size:=fun b ak=>by
  obtain⟨o,e,_⟩:=T.obj _ _ Vq b ak;exact fG e
 have fJ:∀ b∈fp,q7 X pins (upd aB D (.lst [])) b/\b<s3.heap.objs.size:=fun b ak=>by
  have cZ:=EY b ak;refine⟨⟨?_,(f2 b ak).2⟩,by rw[bH,qZ];exact Nat.lt_succ_of_lt cZ⟩;rw[a6 (by rw[← bp];exact gR cZ)];exact(f2 b ak).1
 have Vr:tn 0 s3.heap:=T.keep _ _ _ Vq fun b _ o e=>by rw[bH];exact iB _ e
 have l0:=aur eU ok hl fJ;have yu:=b5 s3 (upd aB D (.lst [])) s3.heap.objs.size (cellsFrom (s3.heap.objs.size+1) scope.names (kZ X.env.cells scope.names [])) fp;have pt:=b_ s3 (upd aB D (.lst [])) s3.heap.objs.size (cellsFrom (s3.heap.objs.size+1) scope.names (kZ X.env.cells scope.names [])) fp;have hy:=he s3 (upd aB D (.lst [])) s3.heap.objs.size (cellsFrom (s3.heap.objs.size+1) scope.names (kZ X.env.cells scope.names [])) fp;show codeAny _ _ (.compStart (.ListComp elt [⟨e0,iter,ifs,0⟩] scope pos) 0 (.ref it) (.ref D) (compEnvC scope (cellsFrom (s3.heap.objs.size+1) scope.names (kZ X.env.cells scope.names [])) s3.heap.objs.size X.env)) (compPost (model X.prog X.w) X.A X.xe use w0 (.ref D) s3.heap.objs.size) { s3 with heap:=pushCells (s3.heap.push { cls:=.type "dict",data:=.dict #[] }) scope.names };have akO:∀ b∈fp,(upd aB D (.lst [])) b=none:=fun b ak=>(fJ b ak).1.1;generalize iU:cellsFrom (s3.heap.objs.size+1) scope.names (kZ X.env.cells scope.names [])=cl at l0 yu pt hy ⊢;have out:∀ e s',nU (X.js s3 (upd aB D (.lst [])) scope (compEnvC scope cl s3.heap.objs.size X.env) fp) E e s'->notedBy (model X.prog X.w) X.A (compEnvC scope cl s3.heap.objs.size X.env) (fun e s'=>compPost (model X.prog X.w) X.A X.xe use w0 (.ref D) s3.heap.objs.size (.error e) s') e s' :=
  fun e s' r=>avO dZ aq eU (fun b ak=>(fJ b ak).1) r
 generalize avW:compEnvC scope cl s3.heap.objs.size X.env=ce at l0 yu pt hy out ⊢;have akP:ce.locals=s3.heap.objs.size:=by subst avW;rfl
 generalize aHd:upd aB D (.lst [])=aJ at eU l0 yu pt hy Fo akO fJ out;generalize avX:({ s3 with heap:=pushCells (s3.heap.push { cls:=.type "dict",data:=.dict #[] }) scope.names }:aX)=s4 at l0 ⊢;have akQ:tn 0 s4.heap:=T.keep _ _ _ Vr fun b _ o e=>by rw[← avX];exact pushCells_keeps _ _ _ _ (iB _ e)
 have stat:∀ {dc:St} {H':ao} {s':aX},Inv (X.js s3 aJ scope ce fp) [] dc H' s'->(∀ b∈fp,H' b=none)->∀ b∈fp,q7 (X.js s3 aJ scope ce fp) [] H' b:=fun{dc H' s'} ih aR b ak =>
  ⟨aR b ak,(ih.ok.yj b ak).1,ih.ok.wI b ak,.inl ak,fun x c e=>(ih.ok.yj b ak).2 x c e,fun p aL=>absurd (show p∈([]:List (au×Obj))++[] from aL) (by simp)⟩
 have acH:∀ {α:Type} {t:Sem α} {R k6:α->aX->Prop} {s:aX},wpAny (model X.prog X.w) X.A t R (nU (X.js s3 aJ scope ce fp) E) s->(∀ a s,R a s->k6 a s)->wpAny (model X.prog X.w) X.A t k6 (notedBy (model X.prog X.w) X.A ce (fun e s'=>compPost (model X.prog X.w) X.A X.xe use w0 (.ref D) s3.heap.objs.size (.error e) s')) s :=
  fun h1 aC=>wpAny_mono h1 aC out
 have loop:codeAny (model X.prog X.w) X.A (.compLoop (.ListComp elt [⟨e0,iter,ifs,0⟩] scope pos) 0 (.ref it) (.ref D) ce) (compPost (model X.prog X.w) X.A X.xe use w0 (.ref D) s3.heap.objs.size) s4:=by
  refine auw (fun n s'=>∃ i H',Inv (X.js s3 aJ scope ce fp) [] (wipe σ (own.map (·.2))) H' s'/\tn i s'.heap/\(∀ b∈fp,H' b=none)/\W i n H') ?_ m0 ⟨0,aJ,l0,akQ,akO,Fo⟩;rintro n s5 ⟨i,b2,uX,Fq,akR,avY⟩;rcases turn i n b2 avY with⟨stop,tC⟩|⟨go,fP,avZ,step⟩
  ·have td:=T.done (X.js s3 aJ scope ce fp) rfl rfl rfl aU i [] s5 _ b2 (fun _ _=>False) uX (stat uX akR) Fq stop
   refine ab3 td fun r cU ⟨aA,uY⟩=>?_;subst aA;have m6:Inv X pins σ b2 cU:=eU.call' (ch:=fp) uY.os uY.base uY.bK uY.bare fun b ak=>⟨(fJ b ak).1.2.2.2.1,(fJ b ak).1.2.1,(fJ b ak).1.2.2.2.2.1,(fJ b ak).1.2.2.2.2.2⟩;have acF:b2 s3.heap.objs.size=none:=by
    have z:b2 ce.locals=none:=uY.free;rw[akP]at z;exact z
   obtain⟨m,aR,_⟩:=uY.loc;have aR:cU.heap.Ns ce.locals m:=aR;rw[akP]at aR;exact avU D s3.heap.objs.size cU m b2 m6 tC aR (eU.Bh (cG _) acF)
  ·have m2:=T.item (X.js s3 aJ scope ce fp) rfl rfl rfl aU i [] s5 _ b2 (fun _ _=>False) uX (stat uX akR) Fq go
   refine ab3 m2 fun r cU ⟨u,aA,tD⟩=>?_;subst aA;refine ab3 tD fun _ fx ⟨x,dB,m6,ys,av0,acI,Bj⟩=>?_;have av1:=m6.pinned (stat m6 Bj) (T.obj _ _ acI);refine acH (yu _ fx _ dB x u _ (av1.wish _) ys (step x dB av0)) fun _ kE ⟨Wb,mD,acE,Kr,Gg⟩=>?_;refine acH (pt _ kE Wb mD _ acE Gg) fun b yN ⟨iV,V_,Wc⟩=>?_;have fin:∀ {s':aX} {H':ao},Inv (X.js s3 aJ scope ce fp) ([]++JN fp fx.heap) Wb H' s'->fP H'->∃ m,m<n/\∃ i H',Inv (X.js s3 aJ scope ce fp) [] (wipe σ (own.map (·.2))) H' s'/\tn i s'.heap/\(∀ b∈fp,H' b=none)/\W i m H':=fun{s' H'} ih cT=>by
    obtain⟨dT,hm,w'⟩:=avZ H' cT;have akS:∀ b∈fp,∀ o,fx.heap.get? b=some o->s'.heap.get? b=some o/\H' b=none:=fun b ak o e =>
     let z:=ih.pin (b,o) (v8 _ (v8 _ (abp ak e)))
     ⟨z.1,z.2.1⟩
    have aF:(wipe σ (own.map (·.2))).length=Wb.length:=by rw[← Kr,ab0]
    refine⟨dT,hm,i+1,H',(ih.Vp (pins:=[])).weak aF (fun j v e=>?_),T.keep _ _ _ acI fun b ak o e=>(akS b ak o e).1,fun b ak=>?_,w'⟩
    ·rw[← Kr]at e;exact(ab1 e).1
    ·obtain⟨o,e,_⟩:=T.obj _ _ acI b ak;exact(akS b ak o e).2
   cases b with
   |false =>
    simp only[kf,if_false]at Wc ⊢;exact fin V_.q6 Wc
   |true =>
    simp only[if_true]at Wc ⊢;refine acH (hy _ yN Wb iV _ V_ Wc) fun z tE ⟨aHe,Ks,av2,av3,acc,acJ,av4,cT⟩=>?_;exact auv (X:=X.js s3 aJ scope ce fp) av2.q6 acJ av4 av3 fun BR av5=>fin av5 cT
 exact codeAny_compStart_list loop (T.self X.A 0 _ _ _ akQ loop)
theorem iH{elt e0 iter:Expr}{ifs:List Expr}{scope:Scope}{own:List (Str×Nat)}{pos:Pos}{kY:TI}{g:lG}{tt:TT}{te:TE}(dZ:sl X)(aq:∀ e s,nU X E e s->X.xe e s)(aU:X.calm=true)(hl:X.N.Nodup)(hi:PI X e0 iter kY)(ok:J5 X.N X.env.scope scope own)
  (b5:∀ (s:aX) (H:ao) (C:au) (cl:List (Str×au)) (fp:d1),PG ((X.js s H scope (compEnvC scope cl C X.env) fp).exc E) e0 g) (b_:∀ (s:aX) (H:ao) (C:au) (cl:List (Str×au)) (fp:d1),J7 ((X.js s H scope (compEnvC scope cl C X.env) fp).exc E) ifs tt)
  (he:∀ (s:aX) (H:ao) (C:au) (cl:List (Str×au)) (fp:d1),PE ((X.js s H scope (compEnvC scope cl C X.env) fp).exc E) elt te) (aH:∀ x,foldedSetIterable iter X.env x=pure x:=by intro _;rfl) :
  PE X (.ListComp elt [⟨e0,iter,ifs,0⟩] scope pos) (wU kY g tt te (own.map (·.2))):=by
 intro pins s σ H Q I h;rw[eval_ListComp];refine akM dZ aq aU hl I hi ok b5 b_ he aH h fun D C s' m H' ih q aR f=>⟨m,aR,fun yK fV=>?_⟩;obtain⟨f0,f1,f2,fJ,f4,m5⟩:=f;exact⟨.ref D,H',ih.turned (t':=s'.toks) (fun b o ak e=>(fV.2 b ak).trans e) f0 f1 fJ f4 m5,Z,q⟩
theorem w2{i:Nat}{y:Str}{py:Pos}{elt e0 iter:Expr}{ifs:List Expr}{scope:Scope}{own:List (Str×Nat)}{pos akT:Pos}{kY:TI}{g:lG}{tt:TT}{te:TE}(dZ:sl X)(aq:∀ e s,nU X E e s->X.xe e s)(aU:X.calm=true)(hl:X.N.Nodup)(aP:X.N[i]?=some y)(Wd:X.env.scope.names.lookup y=some .local)
  (av6:swapsWith (.ListComp elt [⟨e0,iter,ifs,0⟩] scope pos) (some (.Name y py)) akT.line X.env=pure true) (hi:PI X e0 iter kY) (ok:J5 X.N X.env.scope scope own)
  (b5:∀ (s:aX) (H:ao) (C:au) (cl:List (Str×au)) (fp:d1),PG ((X.js s H scope (compEnvC scope cl C X.env) fp).exc E) e0 g) (b_:∀ (s:aX) (H:ao) (C:au) (cl:List (Str×au)) (fp:d1),J7 ((X.js s H scope (compEnvC scope cl C X.env) fp).exc E) ifs tt)
  (he:∀ (s:aX) (H:ao) (C:au) (cl:List (Str×au)) (fp:d1),PE ((X.js s H scope (compEnvC scope cl C X.env) fp).exc E) elt te) (aH:∀ x,foldedSetIterable iter X.env x=pure x:=by intro _;rfl) :
  PS X (.Assign [.Name y py] (.ListComp elt [⟨e0,iter,ifs,0⟩] scope pos) akT) (Fi (wU kY g tt te (own.map (·.2))) (kW i)):=by
 intro pins s σ H D I h;rw[exec_Assign_Name_used _ _ _ _ av6];refine wpAny_bind (wpAny_standAt (wpAny_bind ?_));show wpAny _ X.A (do let _ ← comprehension (.ListComp elt [⟨e0,iter,ifs,0⟩] scope pos) scope X.env (firstIterPos [⟨e0,iter,ifs,0⟩] pos) (newList []) false (eval iter X.env) (some (assign (.Name y py) X.env))) _ _ s;have h:wU kY g tt te (own.map (·.2)) σ H (fun x H1=>kW i x σ H1 D.cT):=h;refine wpAny_bind (cJ (akM (w0:=fun _ s'=>SP X pins D .next s') dZ aq aU hl I hi ok b5 b_ he aH h fun L C s' m H' ih q aR f=>?_) fun _ s' a0=>wpAny_pure (wpAny_pure a0));show wpAny _ _ (assign (.Name y py) X.env (.ref L)) _ _ _;refine wpAny_assign_Name (ajs (v:=V.ref L) ih hl aP (.inl Wd) rfl (fun s2 dJ ⟨a,fV,aW⟩=>?_) (.inr Wd));obtain⟨f0,f1,f2,fJ,f4,m5⟩:=f;have av7:C≠a:=by
  rcases aW with z|z
  ·rw[z];exact f1
  ·exact fun e=>f4 y a z e.symm
 refine⟨m,aR.sameBut fV av7,fun bH av8=>?_⟩;exact⟨_,H',dJ.turned (t':=s2.toks) (fun b o ak e=>(av8.2 b ak).trans e) f0 f1 fJ f4 m5,q⟩
end
abbrev bR.rn(X:bR)(g_:List (au×Obj)):bR:={ X with g_:=g_ }
abbrev bR.BW(X:bR)(e:aO):bR:={ X with A:=X.A.mark (some e),calm:=false,xe:=fun _ _=>False }
section
variable{X:bR}{pins:List (au×Obj)}{σ:St}{H:ao}{s:aX}
theorem Inv.rn(I:Inv X pins σ H s):Inv (X.rn (X.g_++pins)) [] σ H s :=
 ⟨⟨I.ok.mod,I.ok.kind,I.ok.glob,I.ok.blt,I.ok.above,I.ok.inj,I.ok.has,I.ok.wG,I.ok.hd,I.ok.frames,I.ok.sY,I.ok.yj,I.ok.bs,I.ok.qt,I.ok.wH,I.ok.wI,I.ok.nP,I.ok.sZ⟩,I.os,I.bare,I.base,I.loc,I.cell,I.free,I.oH,fun p aL=>I.pin p (by simpa using aL),I.bK,I.len⟩
theorem Inv.av9(I:Inv (X.rn (X.g_++pins)) [] σ H s):Inv X pins σ H s :=
 ⟨⟨I.ok.mod,I.ok.kind,I.ok.glob,I.ok.blt,I.ok.above,I.ok.inj,I.ok.has,I.ok.wG,I.ok.hd,I.ok.frames,I.ok.sY,I.ok.yj,I.ok.bs,I.ok.qt,I.ok.wH,I.ok.wI,I.ok.nP,I.ok.sZ⟩,I.os,I.bare,I.base,I.loc,I.cell,I.free,I.oH,fun p aL=>I.pin p (by simpa using aL),I.bK,I.len⟩
theorem Inv.BW(I:Inv X pins σ H s)(e:aO):Inv (X.BW e) pins σ H s :=
 ⟨⟨I.ok.mod,I.ok.kind,I.ok.glob,I.ok.blt,I.ok.above,I.ok.inj,I.ok.has,I.ok.wG,(fun z=>nomatch z),I.ok.frames,I.ok.sY,I.ok.yj,I.ok.bs,I.ok.qt,I.ok.wH,I.ok.wI,I.ok.nP,I.ok.sZ⟩,I.os,I.bare,I.base,I.loc,I.cell,I.free,I.oH,I.pin,I.bK,I.len⟩
theorem Inv.uncaught{e:aO}(hd:X.calm=true->X.A.handled=none)(I:Inv (X.BW e) pins σ H s):Inv X pins σ H s :=
 ⟨⟨I.ok.mod,I.ok.kind,I.ok.glob,I.ok.blt,I.ok.above,I.ok.inj,I.ok.has,I.ok.wG,hd,I.ok.frames,I.ok.sY,I.ok.yj,I.ok.bs,I.ok.qt,I.ok.wH,I.ok.wI,I.ok.nP,I.ok.sZ⟩,I.os,I.bare,I.base,I.loc,I.cell,I.free,I.oH,I.pin,I.bK,I.len⟩
theorem SP.re{X Y:bR}{pins JD:List (au×Obj)}{D:Ends}{f:Flow}{s':aX}(wR:∀ σ H s,Inv X pins σ H s->Inv Y JD σ H s)(h:SP X pins D f s'):SP Y JD D f s':=by
 unfold SP at *;cases f with
 |next=>obtain⟨a,b,i,q⟩:=h;exact⟨a,b,wR _ _ _ i,q⟩
 |brk=>obtain⟨a,b,i,q⟩:=h;exact⟨a,b,wR _ _ _ i,q⟩
 |cont=>obtain⟨a,b,i,q⟩:=h;exact⟨a,b,wR _ _ _ i,q⟩
 |ret u=>obtain⟨v,a,b,i,r,q⟩:=h;exact⟨v,a,b,wR _ _ _ i,r,q⟩
end
def av_(C:au)(tb:cM->TS)(th:TS):TS:=fun D σ H=>tb (fun c _ H'=>c=.ref C/\∀ dc,th D dc H') D σ H
theorem akU{X:bR}{C:au}{x:Str}{np UW pos:Pos}{body:List Stmt}{vg:Stmt}{suite:List Stmt}{tb:cM->TS}{th:TS}(dZ:sl X)(b5:qu X x)(hm:X.av x=some (.ref C))(q:yM X.K C)
  (ak:∀ (g_:List (au×Obj)) (E:cM),pK ((X.rn g_).exc E) body (tb E)) (hh:∀ (g_:List (au×Obj)) (e:aO),pK ((X.rn g_).BW e) (vg::suite) th) (m_:(x == ("__debug__":Str))=false:=by decide) :
  PS X (.Try body [.ExceptHandler (some (.Name x np)) none (vg::suite) UW] [] [] pos) (av_ C tb th):=by
 intro pins s σ H D I h;have hd:=I.ok.hd;generalize Wf:X.g_++pins=g_;have av':Inv (X.rn g_) [] σ H s:=Wf▸I.rn;have back:∀ σ H s,Inv (X.rn g_) [] σ H s->Inv X pins σ H s:=fun σ H s i=>by
  subst Wf;exact i.av9
 refine wpAny_Try_except (wpAny_mono (ak g_ _ [] s σ H D (av'.wish _) h) (fun f s1 z=>?_) fun e s1 r=>?_)
 ·have lF:SP X pins D f s1:=SP.re back z.q6
  cases f with
  |next=>exact wpAny_execs_nil lF
  |brk=>exact lF
  |cont=>exact lF
  |ret u=>exact lF
 ·have r:nU (X.rn g_) (fun c _ H'=>c=.ref C/\∀ dc,th D dc H') e s1:=r
  refine V9 (X:=X.rn g_) dZ r.frames rfl r fun s2 dm=>acB dm fun s3 d2=>?_;obtain⟨pN,aJ,a,c,rfl,eU,kp,rfl,b_⟩:=d2;have eU:Inv (X.rn g_) [] pN aJ s3:=eU.q6;obtain⟨b0,oe,vs,he,iU,Wg,aHf⟩:=id kp;obtain⟨bm,N,nm,qn,bs,hdct,sn,sub,ab,col,dd,k0,k1,k2,k3,k5,vf,⟨acC,acD⟩,bK,Ko,vh⟩:=q.k;refine wpAny_handleBy_cons (codeAny_handlers_test ?_) (by intro z;cases z);refine Fd (X:=(X.rn g_).BW (.ref a)) (eU.BW _) b5 hm ?_ m_;have cv:OwnTail s3.heap [.type "Exception",.type "BaseException",.type "object"] bm:=PySem.W.tail_of_in eU.jJ vh;obtain⟨aL,aHg,d,tk,os⟩:=s3;refine wpAny_excMatches_sub_self (eU.jJ _ _ vf) he iU (cv.hasType (by decide)) ?_;refine codeAny_handlers_suite ?_;refine acA (X:=(X.rn g_).q5) (eU.wish _) kp fun s4 l0 qw=>?_;refine wpAny_mono (hh g_ (.ref a) [] s4 pN aJ D ((l0.q6).BW _) (b_ pN)) (fun f s5 z=>?_) fun _ _ z=>z.elim;exact SP.re (fun σ H s i=>back σ H s (Inv.uncaught hd i)) z
section
variable{prog:fw}{w:e3}{A:Around}{E:aO->aX->Prop}
abbrev qF(prog:fw)(w:e3):HeapKind prog w (List Key):=tupleKind (iR prog w)
theorem Ku{h h':Heap}{ks:List Key}{a d:au}(x:(qF prog w).is h ks a)(ne:a≠d)(k:∀ b o,b≠d->h.get? b=some o->h'.get? b=some o):(qF prog w).is h' ks a:=by
 obtain⟨o,its,n,z,r⟩:=x;exact⟨o,its,n,k a o ne z,r⟩
theorem akV{h h':Heap}{S d:au}{xs:List (List Key×au×aO)}(x:h.DictOfH (qF prog w) S xs)(ne:S≠d)(aao:∀ q∈xs,q.2.1≠d)(k:∀ b o,b≠d->h.get? b=some o->h'.get? b=some o):h'.DictOfH (qF prog w) S xs:=by
 obtain⟨o,es,ep,z,gk,eG,nf,Gh,BX⟩:=x;exact⟨o,es,ep,k S o ne z,gk,eG,nf,fun q a0=>Ku (Gh q a0) (aao q a0) k,BX⟩
def Kv(acc rest:List (List Key×au×aO)):List (List Key×au×aO):=rest.foldl (fun acc q=>storedH acc q.1 q.2.1 q.2.2) acc
theorem awa(xs:List (List Key×au×aO))(k:List Key)(a:au)(v:aO):(storedH xs k a v).length<=xs.length+1:=by
 unfold storedH;split<;>simp
theorem awb{xs:List (List Key×au×aO)}{k:List Key}{a:au}{v:aO}{q:List Key×au×aO}(h:q∈storedH xs k a v):q.2.1=a\/∃ d8∈xs,d8.2.1=q.2.1:=by
 unfold storedH at h;split at h
 ·obtain⟨d8,kk,rfl⟩:=g5.mp h;refine .inr ⟨d8,kk,?_⟩;unfold putAt;split<;>rfl
 ·rcases pa.mp h with h|h
  ·exact .inr ⟨q,h,rfl⟩
  ·rw[g4.mp h];exact .inl rfl
theorem akW{R:Result->aX->Prop}{S I l:au}{items:Array aO}{res:aO}(hh:A.handled=none)(cD:A.in1.units<cLine)(Kd:l≠I)(wX:S≠I)(Ke:S≠l) :
  ∀ (rest:List (List Key×au×aO)) (i:Nat) (acc:List (List Key×au×aO)) (tv:Int) (t:Tok) (s:aX),items.size=i+rest.length->acc.length+rest.length<=sizeLine->(∀ q∈acc,q.2.1≠I) ->
   (∀ (j:Nat) (q:List Key×au×aO),rest[j]?=some q->∃ (b:au),items[i+j]?=some (.ref b)/\b≠S/\b≠I/\q.2.1≠S/\q.2.1≠I/\IsTup s.heap b #[.ref q.2.1,q.2.2]/\(qF prog w).is s.heap q.1 q.2.1) ->
   s.heap.IsListIter I l i->s.heap.IsList l items->s.heap.DictOfH (qF prog w) S acc ->
   (∀ h' tk,h'.DictOfH (qF prog w) S (Kv acc rest)->(∀ b o,b≠S->b≠I->s.heap.get? b=some o->h'.get? b=some o)->R (.ok (.ret res)) { s with heap:=h',toks:=tk }) ->
   codeAny (model prog w) A (.builtin "dict.update.loop" ⟨[.ref S,.ref I,.int tv t,res],[]⟩) R s
 | [],i,acc,tv,t,s,hsz,ji,ro,b_,hit,aF,hm,mq=>by
  refine codeAny_builtin V2 ?_;rw[Around.under_plainId vd _];show wpAny _ A.in1 (pyNext (.ref I) >>= _) _ _ s;refine wpAny_bind (wpAny_pyNext_list_end (A:=A.in1) hh hit aF (by first|exact Array.getElem?_eq_none (Ai hsz)|(simp at hsz;simp;omega)) fun h' he=>?_);show wpAny _ A.in1 (Builtin.Dict.addKeywords S [] >>= _) _ _ _;refine wpAny_bind (wpAny_pure (wpAny_pure ?_));exact mq h' s.toks (akV hm wX ro fun b o ak e=>he b o ak e) fun b o _ ak e=>he b o ak e
 |q::rest,i,acc,tv,t,s,hsz,ji,ro,b_,hit,aF,hm,mq=>by
  obtain⟨b,ak,avd,acd,aHh,akX,ace,aN⟩:=b_ 0 q rfl;rw[ek]at hsz ji;refine codeAny_builtin V2 ?_;rw[Around.under_plainId vd _];show wpAny _ A.in1 (pyNext (.ref I) >>= _) _ _ s;refine wpAny_bind (wpAny_pyNext_list_item (x:=.ref b) hit aF (by simpa using ak) fun h1 acf pB=>?_);have Jm:IsTup h1 b #[.ref q.2.1,q.2.2]:=ace.extBut pB.extBut acd;have kB:h1.IsList l items:=aF.extBut pB.extBut Kd;have k1:∀ b o,b≠I->s.heap.get? b=some o->h1.get? b=some o:=fun b o ak e=>pB.extBut b o ak e;have Kf:h1.DictOfH (qF prog w) S acc:=akV hm wX ro k1;have nc:(qF prog w).is h1 q.1 q.2.1:=Ku aN akX k1;obtain⟨o,bA,aU,n,hd⟩:=id Jm;show wpAny _ A.in1 (holding [Value.ref b] _ >>= _) _ _ _;refine wpAny_bind (wpAny_holding ?_);refine wpAny_bind (wpAny_tryCatch ?_);unfold Builtin.Dict.pairItems;refine wpAny_bind (wpAny_typeOf (T:="tuple") ⟨o,bA,aU⟩ ?_);rw[bL (by first|decide|rfl|simp)];refine wpAny_bind (wpAny_seqItems bA hd (wpAny_pure ?_));show wpAny _ A.in1 (holding [.ref q.2.1,q.2.2] (dictSet S (.ref q.2.1) q.2.2)) _ _ _;refine wpAny_holding (wpAny_dictSet_heap (knd:=qF prog w) (k:=q.1) cD nc Kf (fun aC yI lH=>?_) (by omega));have k2:∀ b o,b≠S->h1.get? b=some o->aC.get? b=some o:=fun b o ak e=>lH.extBut b o ak e;refine wpAny_pure ⟨plainId_quiet vd _,akW (items:=items) hh cD Kd wX Ke rest (i+1) (storedH acc q.1 q.2.1 q.2.2) (tv+1) 0 _ (show items.size=i+1+rest.length by omega) ?_ (fun d8 kk=>?_) (fun j d8 e=>?_) ?_ ?_ yI fun h' tk lC k=>?_⟩
  ·have z:=awa acc q.1 q.2.1 q.2.2
   omega
  ·rcases awb kk with z|⟨cA,gk,eG⟩
   ·rw[z];exact akX
   ·rw[← eG];exact ro cA gk
  ·obtain⟨b',g8,Kg,Kh,akY,akZ,acg,Bv⟩:=b_ (j+1) d8 (by simpa using e);refine⟨b',?_,Kg,Kh,akY,akZ,(acg.extBut pB.extBut Kh).extBut lH.extBut Kg,Ku (Ku Bv akZ k1) akY k2⟩;rw[show i+1+j=i+(j+1) by omega];exact g8
  ·exact acf.at fun hF e=>lH.extBut I hF (Ne.symm wX) e
  ·exact kB.extBut lH.extBut (Ne.symm Ke)
  ·exact mq h' tk lC fun c jK bH dw e=>k c jK bH dw (lH.extBut c jK bH (pB.extBut c jK dw e))
theorem awc{s:aX}{l:au}{ol:Obj}{items:Array aO}{n:Nat}{prs:List (List Key×au×aO)}{Q:aO->aX->Prop}(hh:A.handled=none)(cD:A.in1.in1.units<cLine)(aF:s.heap.get? l=some ol)(aU:ol.cls=.type "list") (hd:ol.dict=none)
  (se:ol.data=.seq items n) (hsz:items.size=prs.length) (ji:prs.length<=sizeLine)
  (b_:∀ (j:Nat) (q:List Key×au×aO),prs[j]?=some q->∃ (b:au),items[j]?=some (.ref b)/\IsTup s.heap b #[.ref q.2.1,q.2.2]/\(qF prog w).is s.heap q.1 q.2.1)
  (h:∀ h' tk,h'.DictOfH (qF prog w) s.heap.objs.size (Kv [] prs)->(∀ b o,s.heap.get? b=some o->h'.get? b=some o)->Q (.ref s.heap.objs.size) { s with heap:=h',toks:=tk }) :
  wpAny (model prog w) A (call (.type "dict") [.ref l]) Q E s:=by
 refine callType_codes (Q₁:=fun obj fU=>obj=.ref s.heap.objs.size/\fU={ s with heap:=s.heap.push { cls:=.type "dict",data:=.dict #[] } }) PySem.F.kt_called_dict (PySem.F.kt_typeCall_dict_1 _) PySem.F.entry_dict_init (kt_code_dict_new _ ⟨rfl,rfl⟩) ?_;rintro obj fU ⟨rfl,rfl⟩;have BJ:(s.heap.push { cls:=.type "dict",data:=.dict #[] }).DictOfH (qF prog w) s.heap.objs.size []:=Heap.DictOfH.new s.heap;have k0:∀ b o,s.heap.get? b=some o->(s.heap.push { cls:=.type "dict",data:=.dict #[] }).get? b=some o:=fun b o e=>iB _ e;refine⟨BJ.typeIs,PySem.F.args_dict_init_2 _ _,?_⟩;unfold Builtin.«dict.__init__»;refine wpAny_bind ?_;unfold Builtin.Dict.selfAndRest;refine wpAny_bind (wpAny_notOrdered_dict BJ.typeIs ?_);show wpAny _ _ (pure (s.heap.objs.size,[Value.ref l])) _ _ _;refine wpAny_pure ?_;show wpAny _ _ (Builtin.Dict.updateFrom "dict.__init__" s.heap.objs.size (.ref l) [] .none) _ _ _;unfold Builtin.Dict.updateFrom;refine wpAny_bind (wpAny_typeOf (T:="list") ⟨ol,k0 _ _ aF,aU⟩ ?_);rw[bL (by first|decide|rfl|simp)];refine wpAny_bind (akx (k0 _ _ aF) aU se hd hh fun h1 ach nc=>?_);rw[bL (show(none:Option aO).isNone=true from rfl)];refine wpAny_bind (wpAny_rule ?_);have kB:h1.IsList l items:=⟨ol,nc _ _ (k0 _ _ aF),aU,n,se⟩;have jZ:s.heap.objs.size<h1.objs.size:=by
  have e:(s.heap.push { cls:=.type "dict",data:=.dict #[] }).get? s.heap.objs.size=some { cls:=.type "dict",data:=.dict #[] }:=lU _ rfl;exact fG (nc _ _ e)
 refine wpAny_bind (wpAny_pyIter_list kB ?_);have k2:∀ b o,h1.get? b=some o->(h1.push { cls:=.type "list_iterator",data:=.fields #[.ref l,.int 0 0] }).get? b=some o:=fun b o e=>iB _ e;have cZ:l<s.heap.objs.size:=fG aF;have up:∀ b o,b≠(1+h1.objs.size+1)->s.heap.get? b=some o->(h1.push { cls:=.type "list_iterator",data:=.fields #[.ref l,.int 0 0] }).get? b=some o:=fun b o _ z=>k2 _ _ (nc _ _ (k0 _ _ z));have key:=akW (prog:=prog) (w:=w) (A:=A.in1) (R:=wants (fun r lY=>r=.none/\Q (.ref s.heap.objs.size) lY) E) (S:=s.heap.objs.size) (I:=h1.objs.size) (l:=l) (items:=items) (res:=Value.none) hh cD
  (gR (rY cZ jZ)) (gR jZ) (v7 cZ) prs 0 [] 0 0
  { s with heap:=h1.push { cls:=.type "list_iterator",data:=.fields #[.ref l,.int 0 0] },toks:=ach } (by rw[hsz,p7]) (by rw[rW,p7];exact ji) (fun q a0=>nomatch a0)
  (fun j q e=>by
   obtain⟨b,bD,a8,dr⟩:=b_ j q e;have ak:b<s.heap.objs.size:=a8.lt;have a0:q.2.1<s.heap.objs.size:=by
    obtain⟨o,_,_,z,_⟩:=dr;exact fG z
   exact⟨b,by rw[p7];exact bD,gR ak,gR (rY ak jZ),gR a0,gR (rY a0 jZ),a8.keeps fun c o z=>k2 _ _ (nc _ _ (k0 _ _ z)),Ku (d:=1+h1.objs.size+1) dr (gR (show q.2.1<1+h1.objs.size+1 from rY (rY a0 jZ) (by omega))) up⟩)
  ⟨_,lU _ rfl,rfl,rfl⟩ (kB.at fun o e=>k2 _ _ e) (by
   obtain⟨o,es,ep,z,gk,eG,nf,Gh,BX⟩:=BJ;exact⟨o,es,ep,k2 _ _ (nc _ _ z),gk,eG,nf,fun q a0=>(nomatch a0),BX⟩)
  (fun h' tk lC k=>⟨rfl,h h' tk lC fun b o e=>k b o (gR (fG e)) (gR (rY (fG e) jZ)) (k2 _ _ (nc _ _ (k0 _ _ e)))⟩)
 first
  |exact wpAny_pure ⟨plainId_quiet vd _,key⟩
  |exact wpAny_bind (wpAny_pure (wpAny_pure ⟨plainId_quiet vd _,key⟩))
end
def qG(kvs more:List (List Key×V)):List (List Key×V):=more.foldl (fun acc bC=>putK acc bC.1 bC.2) kvs
theorem ak0:∀ (more kvs:List (List Key×V)),(qG kvs more).length<=kvs.length+more.length
 | [],kvs=>cG _
 |bC::more,kvs=>by
  have h1:=ak0 more (putK kvs bC.1 bC.2);have aC:=Bw kvs bC.1 bC.2;have e:qG kvs (bC::more)=qG (putK kvs bC.1 bC.2) more:=rfl;rw[e,ek];omega
theorem KT.merge{H:ao}:∀ {more:List (List Key×V)} {rs:List (List Key×au×aO)} {kvs:List (List Key×V)} {xs:List (List Key×au×aO)},KT H more rs->KT H kvs xs->KT H (qG kvs more) (Kv xs rs)
 |_,_,_,_,.nil,r=>r
 |_,_,_,_,.cons (a:=bC) (b:=q) h t,r=>by
  obtain⟨bD,a8,dr⟩:=h;have z:=r.put bC.1 a8 dr;rw[bD]at z;show KT H (qG (putK _ bC.1 bC.2) _) (Kv (storedH _ q.1 q.2.1 q.2.2) _);rw[← bD]at z ⊢;exact KT.merge t z
section
variable{X:bR}
theorem ak1{pins:List (au×Obj)}{σ:St}{H:ao}{s:aX}(I:Inv X pins σ H s):∀ {ps:d1} {kvs:List (List Key×V)},Paired (fun p bC=>∃ a,fM X.K H p [.ref a,bC.2]/\H a=some (.tup (bC.1.map c0))) ps kvs ->
  ∃ prs:List (List Key×au×aO),KT H kvs prs/\prs.length=ps.length/\∀ (j:Nat) (q:List Key×au×aO),prs[j]?=some q->∃ (b:au),ps[j]?=some b/\IsTup s.heap b #[.ref q.2.1,q.2.2]/\(qF X.prog X.w).is s.heap q.1 q.2.1
 |_,_,.nil=>⟨[],.nil,rfl,fun j q e=>by simp at e⟩
 |_,_,.cons (a:=p) (b:=bC) h t=>by
  obtain⟨prs,r,aF,aL⟩:=ak1 I t;obtain⟨a,aW,aN⟩:=h;obtain⟨its,eZ,b_,_⟩:=I.tuple aW;obtain⟨u,y,u9,hn,b4⟩:=vals2 eZ;subst u9;cases hn;refine⟨(bC.1,a,y)::prs,.cons ⟨rfl,aN,b4⟩ r,by rw[ek,ek,aF],fun j q e=>?_⟩;cases j with
  |zero =>
   have e':(bC.1,a,y)=q:=Option.some.inj e;subst e';exact⟨p,Z,b_,yG I.bK aN⟩
  |succ j =>
   obtain⟨b,bD,a8,dr⟩:=aL j q (by simpa using e);exact⟨b,by simpa using bD,a8,dr⟩
theorem ak2(acj:X.calm=true)(cD:X.A.units+2<cLine):q8 X (.type "dict") (fun xs H Q=>∃ (a:au) (ps:d1) (kvs:List (List Key×V)),xs=[.ref a]/\aT X.K H a (ps.map V.ref) /\
  Paired (fun p bC=>∃ a,fM X.K H p [.ref a,bC.2]/\H a=some (.tup (bC.1.map c0))) ps kvs/\∀ p,H p=none->Q (.ref p) (upd H p (.gD (qG [] kvs)))):=by
 intro pins s σ H xs us Q I r q;obtain⟨a,ps,kvs,ex,a0,aL,q⟩:=q;subst ex;obtain⟨u,acn,cc⟩:=vals1 r;subst acn;cases cc;obtain⟨its,eZ,pl,hz⟩:=I.list a0;have u9:=aci eZ;subst u9;rw[ew]at hz;obtain⟨prs,rel,aF,jO⟩:=ak1 I aL;obtain⟨o,n,bA,aU,hd,se⟩:=pl;refine awc (prs:=prs) (I.ok.hd acj) (by show X.A.units+1+1<cLine;omega) bA aU hd se (by simp[aF]) (by rw[aF];exact hz) (fun j d8 e=>?_) fun h' tk lC k=>?_
 ·obtain⟨b,bD,a8,dr⟩:=jO j d8 e;exact⟨b,by simp[bD],a8,dr⟩
 ·have hm:(s.heap.objs.size == sysModules)=false:=beq_eq_false_iff_ne.mpr (v7 I.big)
  have hf:=I.bK.fresh (cG s.heap.objs.size);have hlen:(qG [] kvs).length<=sizeLine:=by
   refine jf (ak0 kvs []) ?_;rw[rW,p7,Paired.length rel,aF];exact hz
  obtain⟨awd,es,ep,z,gk,eG,nf,Gh,BX⟩:=lC;exact⟨.ref s.heap.objs.size,upd H s.heap.objs.size (.gD (qG [] kvs)),I.laid (t':=tk) k (cG _) (show hO X.prog X.w _ _ _ (.gD (qG [] kvs)) from
   ⟨hlen,hm,Kv [] prs,(KT.merge rel .nil).keeps fun c bN ec=>by rw[a6 (bQ ec hf)];exact ec,awd,es,ep,z,gk,eG,nf,BX⟩),Z,q _ hf⟩
end
section
variable{X:bR}{pins:List (au×Obj)}{σ:St}{H:ao}{s:aX}{h':Heap}
theorem Inv.awe{a:au}{o:HO}{t':Nat}(I:Inv X pins σ H s)(k:∀ b u,s.heap.get? b=some u->h'.get? b=some u)(aL:s.heap.get? a=none)(new:hO X.prog X.w (upd H a o) h' a o) :
  Inv X pins σ (upd H a o) { s with heap:=h',toks:=t' }:=by
 have aR:H a=none:=I.bK.free aL;have ne:∀ b u,s.heap.get? b=some u->b≠a:=fun b u q z=>by
  rw[z,aL]at q;cases q
 refine I.un ⟨fun b u q _ _ _=>k b u q,fun b u q _ _ _=>⟨u.slots,k b u q⟩,fun b u q n _=>by rw[a6 (ne b u q)];exact n,fun b u q _=>⟨u,k b u q⟩,fun b xs q=>by rw[a6 (bQ q aR)];exact q,
  fun b u v q=>by rw[a6 (bQ q aR)];exact q,fun b ps q=>⟨#[],by rw[a6 (bQ q aR),q];simp⟩⟩ fun b u q=>?_
 by_cases ak:b=a
 ·subst ak;rw[a7]at q;cases q;exact new
 ·rw[a6 ak]at q;exact(I.bK b u q).stay (fun c v _ r=>k c v r) (fun c r=>by rw[a6 (bQ r aR)];exact r) fun c xs r=>by rw[a6 (bQ r aR)];exact r
end
section
variable{X:bR}
theorem awf{prog:fw}{w:e3}{d:au}(n:Nat)(lo:(d == sysModules)=false) :
  MeetsIn prog w (Builtin.«dict.__len__» ⟨[.ref d],[]⟩) (fun _ R s=>∃ o es ep,s.heap.get? d=some o/\o.data=.dict es ep/\es.size=n/\R (.ok (.ret (.int n s.toks))) { s with toks:=s.toks+1 }) :=
 .of_wp fun A R s ⟨o,es,ep,bA,Wg,aR,k⟩=>by
  show wpAny _ _ (dictSize d >>= _) _ _ s;unfold dictSize;refine wpAny_bind (wpAny_bind (wpAny_dictEntries bA Wg (wpAny_pure ?_)));show wpAny _ _ (Builtin.Dict.pendingCount d >>= _) _ _ s;refine wpAny_bind (wpAny_pendingCount_other lo (wpAny_ret_mkInt ?_));rw[Nat.add_zero,aR];exact k
theorem awg:q8 X (.builtin "len") (fun xs H Q=>∃ a kvs,xs=[V.ref a]/\H a=some (.gD kvs)/\Q (.int kvs.length) H):=by
 intro pins s σ H xs us Q I r h;obtain⟨a,kvs,rfl,aW,q⟩:=h;obtain⟨u,rfl,hn⟩:=vals1 r;cases hn;obtain⟨z,lo,xs,rel,dd⟩:=akt I.bK aW;obtain⟨o,es,ep,bA,hex,Wg,awh,aHi,Wh⟩:=id dd;have hsz:es.size=kvs.length:=by
  rw[size_of_entries awh,← Paired.length rel]
 have q3:(kvs.length:Int)<2 ^ 63:=by
  have:=Bo;omega
 refine Calls.call_function_entry kind_len plain_len entry_len (args_len1 _) ?_;unfold Builtin.«len»;refine wpAny_bind (m:=oneArg "len" _) (wpAny_pure (wpAny_bind (m:=callSpecial? (.ref a) (Str.ofString "__len__")) ?_));refine wpAny_callSpecial?_slot (name:=Str.ofString "__len__") dd.typeIs F.slot_dict_len (call_meetsIn F.slot_dict_len dd.typeIs F.entry_dict_len (F.args_dict_len_1 _) (awf kvs.length lo) ⟨o,es,ep,bA,Wg,hsz,?_⟩);refine wpAny_bind (wpAny_holding (wpAny_pure (wpAny_bind (wpAny_letGo ?_))));show wpAny _ _ (if((kvs.length:Nat):Int)<0 then _ else _) _ _ _;rw[bw (show ¬ ((kvs.length:Nat):Int)<0 by omega)];show wpAny _ _ (if((kvs.length:Nat):Int) ≥ 2 ^ 63 then _ else _) _ _ _;rw[bw (show ¬ ((kvs.length:Nat):Int) ≥ 2 ^ 63 by omega)];exact wpAny_bind (wpAny_mkInt (wpAny_pure ⟨_,rfl,.int kvs.length,H,I.tok _,⟨_,rfl⟩,q⟩))
theorem awi:q8 X (.type "range") (fun xs H Q=>∃ j:Int,xs=[.int j]/\∀ p,H p=none->Q (.ref p) (upd H p (.uT 0 j))):=by
 intro pins s σ H xs us Q I r h;obtain⟨j,rfl,q⟩:=h;obtain⟨u,rfl,t,rfl⟩:=vals1 r;refine call_range_1 ?_;exact⟨.ref s.heap.objs.size,upd H s.heap.objs.size (.uT 0 j),I.laid (fun b o e=>iB _ e) (cG _) ⟨_,_,_,lU _ rfl⟩,Z,q _ (I.bK.fresh (cG _))⟩
theorem awj{acc:Array aO}{n:Nat}(h:ItemsOf (fun i v=>∃ t,v=Value.int ((0:Int)+(i:Nat) * 1) t) acc n):Vals ((List.range n).map fun i=>V.int (i:Nat)) acc.toList:=by
 obtain⟨aF,aZ⟩:=h;have key:∀ (m:Nat),m<=n->Vals (((List.range n).take m).map fun i=>V.int (i:Nat)) (acc.toList.take m):=by
  intro m;induction m with
  |zero=>intro _;exact .nil
  |succ m bU =>
   intro hm;have rm:m<acc.size:=by omega
   have bD:acc.toList[m]?=some acc[m]:=by simp[rm]
   rw[vW,vW,od,bD];have a8:(List.range n)[m]?=some m:=List.getElem?_range (by omega);rw[a8];refine Vals.append (bU (by omega)) (.cons ?_ .nil);obtain⟨t,b_⟩:=aZ m acc[m] (by simp[rm]);exact⟨t,by rw[b_];congr 1;omega⟩
 have:=key n (cG _);rw[fZ (by simp),fZ (by simp[aF])]at this;exact this
theorem awk(aU:X.calm=true):q8 X (.type "list") (fun xs H Q=>∃ (a:au) (n:Nat),xs=[.ref a]/\H a=some (.uT 0 n)/\n<=65536/\∀ p,H p=none->Q (.ref p) (upd H p (.lst ((List.range n).map fun i=>V.int (i:Nat))))):=by
 intro pins s σ H xs us Q I r h;obtain⟨a,n,rfl,aW,aR,q⟩:=h;obtain⟨u,rfl,hn⟩:=vals1 r;cases hn;obtain⟨t,u,v,bA⟩:=I.bK a _ aW;have hsz:Builtin.Range.rangeSize 0 (n:Int) 1=((n:Nat):Int):=by
  rw[rangeSize_one];split<;>omega
 refine call_list_range (I.ok.hd aU) (show IsRange s.heap a 0 (n:Int) 1 t u v from bA) (small_one (by omega) (by omega) (by omega) (by omega)) hsz (by omega) fun h' tk acc c' aN dZ ro=>?_;have hlen:((List.range n).map fun i=>V.int (i:Nat)).length<=sizeLine:=by
  rw[ew,List.length_range];exact jf aR (by decide)
 exact⟨.ref s.heap.objs.size,upd H s.heap.objs.size (.lst ((List.range n).map fun i=>V.int (i:Nat))),I.laid (t':=tk) aN (cG _) ⟨hlen,acc.toList,c',awj ro,by simpa using dZ⟩,Z,q _ (I.bK.fresh (cG _))⟩
def awl:V->List V->ao->bx->Prop:=fun x xs H Q=>∃ i:Int,x=.int i/\xs=[]/\Q (.int ((Builtin.Int.intBits i:Nat):Int)) H
theorem awm:abP X "int.bit_length" awl:=by
 intro pins s σ H x xs v us Q I cc r h;obtain⟨i,rfl,rfl,q⟩:=h;obtain⟨t,rfl⟩:=cc;cases r;exact call_int_bit_length ⟨.int ((Builtin.Int.intBits i:Nat):Int),H,I.tok _,⟨_,rfl⟩,q⟩
theorem Wi:ajE X (JZ X.K):=by
 intro pins s σ H x y v u Q I cc b4 h;obtain⟨p,xs,i,z,rfl,rfl,a0,he,q⟩:=h;cases cc;obtain⟨t,rfl⟩:=b4;obtain⟨its,r,pl,hz⟩:=I.list a0;obtain⟨j,h1,aC,bH,dw,jr⟩:=abO he;obtain⟨w,Bt,nT⟩:=r.get aC;have aF:=r.length;have aR:=Bo;have fin:EP X pins σ Q w s:=⟨z,H,I,nT,q⟩;by_cases h0:0<=i
 ·have bM:i.toNat=j:=by
   rw[seqIndex_of h0 jr]at h1;exact Option.some.inj h1
  exact wpAny_getItem_list pl.isList h0 (by omega) (by rw[bM];simpa using Bt) fin
 ·have bM:(i+(its.toArray.size:Int)).toNat=j:=by
   rw[seqIndex_neg (by omega) dw]at h1;rw[iC,← aF];exact Option.some.inj h1
  exact wpAny_getItem_list_neg pl.isList (by omega) (by rw[iC]<;>omega) (by omega) (by rw[bM];simpa using Bt) fin
theorem awn{kvs:List (Key×aO)}{ns:List Int}(aN:kvs.map (·.1)=ns.map Sum.inl){acc:Array aO}(h:ItemsOf (fun i v=>∃ k x,kvs[i]?=some (k,x)/\uR k v=true) acc kvs.length):IntsAre acc.toList ns:=by
 obtain⟨aF,aZ⟩:=h;have hlen:ns.length=kvs.length:=by
  have:=congrArg List.length aN;simpa using this.symm
 refine Vals.ints ?_;have key:∀ (m:Nat),m<=ns.length->Vals ((ns.take m).map V.int) (acc.toList.take m):=by
  intro m;induction m with
  |zero=>intro _;exact .nil
  |succ m bU =>
   intro hm;have rm:m<acc.size:=by omega
   have ak3:m<ns.length:=by omega
   have bD:acc.toList[m]?=some acc[m]:=by simp[rm]
   rw[vW,vW,od,bD,dR ak3];refine Vals.append (bU (by omega)) (.cons ?_ .nil);obtain⟨k,x,acK,awo⟩:=aZ m acc[m] (by simp[rm]);have dr:(kvs.map (·.1))[m]?=some k:=by rw[ei,acK];rfl
   rw[aN,ei,dR ak3]at dr;have ov:k=Sum.inl ns[m]:=(Option.some.inj dr).symm;subst ov;exact Value.isInt_shape awo
 have:=key ns.length (cG _);rw[fZ (cG _),fZ (by simp;omega)]at this;exact this
theorem awp(aU:X.calm=true):q8 X (.builtin "sorted") (fun vs H Q=>∃ (a:au) (kvs:List (Key×V)) (ns:List Int),vs=[.ref a]/\H a=some (.dW kvs)/\kvs.map (·.1)=ns.map Sum.inl /\
  ∀ (oL:List Int) (p:au),oL.Perm ns->oL.Pairwise (·<=·)->H p=none->Q (.ref p) (upd H p (.lst (oL.map V.int)))):=by
 intro pins s σ H vs us Q I r h;obtain⟨a,kvs,ns,rfl,aW,aN,q⟩:=h;obtain⟨u,rfl,hn⟩:=vals1 r;cases hn;obtain⟨z,hd,xs,rel,dd⟩:=ab6 I.bK aW;obtain⟨ep,kV⟩:=dd.dictAt;have Gi:xs.length<=sizeLine:=by rw[← rel.length];exact z
 refine Calls.call_function_entry kind_sorted plain_sorted entry_sorted (args_sorted1 _) ?_;unfold Builtin.«sorted»;refine wpAny_bind (m:=checkCount "sorted" 1 1 _) (wpAny_pure ?_);refine wpAny_bind (PySem.W.kdu_collect (A:=X.A.in1) (PySem.W.kdl_dict (knd:=iR X.prog X.w) (kvs:=xs) (ep:=ep) hd) (I.ok.hd aU) kV Gi fun h1 tk acc ak4 ro=>?_);have wR:IntsAre acc.toList ns:=awn (by rw[← rel.keys];exact aN) ro;have yO:acc.toList.length<=sizeLine:=by
  rw[I6,ro.1];exact Gi
 refine wpAny_bind (wpAny_newList ?_ yO);have JF:(h1.push { cls:=.type "list",data:=.seq acc.toList.toArray }).get? h1.objs.size=some (seqObj "list" acc.toList.toArray 0):=lU _ rfl;refine wpAny_bind (wpAny_holding (wpAny_call_entry slot_list_sort ⟨_,JF,rfl⟩ entry_list_sort (list_sort_treeAny JF wR yO fun out oL a1 a2 a3=>⟨_,rfl,?_⟩) (args_list_sort _)));refine wpAny_pure ⟨_,rfl,?_⟩;obtain⟨a8,awq⟩:=sortedHeap_at (out:=out) JF;have qH:s.heap.get? h1.objs.size=none:=by
  cases z:s.heap.get? h1.objs.size with
  |none=>rfl
  |some o=>exact absurd (fG (ak4 _ _ z)) (uJ _)
 have hlen:(oL.map V.int).length<=sizeLine:=by
  rw[ew,a2.length_eq,← wR.length];exact yO
 have keep:∀ b o,s.heap.get? b=some o->(sortedHeap (h1.push { cls:=.type "list",data:=.seq acc.toList.toArray }) h1.objs.size acc.toList out).get? b=some o:=fun b o e=>by
  have ak:=ak4 b o e;have cZ:=fG ak;rw[sortedHeap_old (gR cZ) (by rw[qZ];exact Nat.lt_succ_of_lt cZ)];exact iB _ ak
 exact⟨.ref h1.objs.size,upd H h1.objs.size (.lst (oL.map V.int)),I.awe (t':=tk) keep qH ⟨hlen,out.toList,a8,aki a1,by simpa using awq⟩,Z,q oL _ a2 a3 (I.bK.free qH)⟩
def awr(td ty tx:TE):TE:=fun σ H Q=>td σ H fun x H1=>∃ a,x=.ref a/\V1 H1 a/\ty σ H1 fun y aB=>tx σ aB fun z aJ=>∃ kvs k,aJ a=some (.dW kvs)/\y=c0 k/\kvs.length<sizeLine /\
 (∀ v,dX kvs k=some v->Q v aJ)/\(dX kvs k=none->Q z (upd aJ a (.dW (putK kvs k z))))
theorem aws{o e f:Expr}{apos h7:Pos}{td ty tx:TE}(bA:PE X o td)(he:PE X e ty)(hf:PE X f tx)(m:M2 X o "setdefault" apos e f h7):PE X (.Call (.Attribute o "setdefault" apos) [e,f] [] h7) (awr td ty tx):=by
 intro pins s σ H Q I h;refine wpAny_Call_method m.base m.few m.line PySem.F.plainAttrs_dict PySem.F.slot_dict_setdefault PySem.F.type_dict_setdefault (cJ (bA pins s σ H _ I h) fun u s1 ⟨x,H1,bk,cc,a,ex,d,bT⟩=>?_);subst ex;obtain rfl:u=Value.ref a:=cc;obtain⟨t1,t2,_⟩:=ab' bk d;refine⟨t1,t2,?_⟩;rw[m.trees];refine Calls.callWith_builtin rfl (Calls.evalArgs_plain (Calls.spliced_cons (cJ (he pins s1 σ H1 _ bk bT) fun hQ s2 ⟨y,aB,dJ,b4,cA⟩ =>
  Calls.spliced_cons (cJ (hf pins s2 σ aB _ dJ cA) fun fv s3 ⟨z,aJ,eU,Fv,kvs,k,aW,aP,aF,g1,g2⟩=>Calls.spliced_nil ?_))))
 subst aP;obtain⟨awt,hd,vs,rel,dd⟩:=ab6 eU.bK aW;have awu:vs.length<=sizeLine:=by rw[← rel.length];exact awt
 have hval:=rel.val k;refine call_meetsIn PySem.F.slot_dict_setdefault dd.typeIs PySem.F.entry_dict_setdefault (PySem.F.args_dict_setdefault_3 _ _ _) (kt_meets_setdefault (iR X.prog X.w) a (wW b4) hd fv) ⟨vs,dd,awu,fun v aZ=>?_,fun aR h' Bx aH=>?_⟩
 ·rw[aZ]at hval;cases aN:dX kvs k with
  |none=>rw[aN]at hval;exact False.elim hval
  |some w=>rw[aN]at hval;exact⟨w,aJ,eU.tok _,hval,g1 w aN⟩
 ·rw[aR]at hval;cases aN:dX kvs k with
  |some w=>rw[aN]at hval;exact False.elim hval
  |none =>
   have g6:(putK kvs k z).length<=sizeLine:=by have:=Bw kvs k z;omega
   have hex:∃ q,h'.get? a=some q:=let ⟨q,_,_,a0,_⟩:=Bx;⟨q,a0⟩
   exact⟨z,_,ab7 eU (by rw[aW];exact True.intro) aH hex (aku g6 hd (rel.put k Fv) Bx),Fv,g2 aN⟩
end
end L2
namespace Sg
open PySem L2 Sr
open Sw28 (Item Font passed times many signAt rising Rule u16 within asked byte setOn begun s16 Anchor mapped word)
def top(i:Nat):Stmt:=PySem.Challenge.pw_signrow_s01_answers.main.body.getD i (.Pass ⟨0,0,0,0⟩)
abbrev acL:Stmt:=inClass (top 1) 0
abbrev acM:Stmt:=inClass (top 2) 0
abbrev acN:Stmt:=inClass (top 2) 1
abbrev acO:Stmt:=inClass (top 5) 0
abbrev acP:Stmt:=inClass (top 5) 1
abbrev acQ:Stmt:=inClass (top 9) 0
abbrev acR:Stmt:=inClass (top 10) 0
abbrev acS:Stmt:=inClass (top 11) 0
abbrev acT:Stmt:=inClass (top 11) 1
abbrev acU:Stmt:=inClass (top 11) 2
abbrev acV:Stmt:=inClass (top 11) 3
abbrev acW:Stmt:=inClass (top 11) 4
abbrev acX:Stmt:=inClass (top 13) 0
abbrev acY:Stmt:=inClass (top 14) 0
abbrev acZ:Stmt:=inClass (top 14) 1
abbrev ac0:Stmt:=inClass (top 14) 2
abbrev ac1:Stmt:=inClass (top 20) 0
abbrev ac2:Stmt:=inClass (top 20) 1
abbrev ac3:Stmt:=inClass (top 20) 2
abbrev ac4:Stmt:=inClass (top 20) 3
abbrev ac5:Stmt:=inClass (top 20) 4
abbrev ac6:Stmt:=inClass (top 20) 5
abbrev ac7:Stmt:=inClass (top 20) 6
abbrev ac8:Stmt:=inClass (top 20) 7
abbrev ac9:Stmt:=inClass (top 20) 8
abbrev ac_:Stmt:=inClass (top 52) 0
abbrev ac':Stmt:=inClass (top 53) 0
abbrev ada:Stmt:=inClass (top 54) 0
abbrev adb:Stmt:=inClass (top 85) 0
abbrev ade:Stmt:=inClass (top 85) 1
abbrev adf:Stmt:=inClass (top 85) 2
abbrev adg:Stmt:=inClass (top 101) 0
abbrev adh:Stmt:=inClass (top 101) 1
abbrev adi:Stmt:=inClass (top 101) 2
abbrev adk:Stmt:=inClass (top 101) 3
abbrev adl:Stmt:=inClass (top 101) 4
abbrev adn:Stmt:=inClass (top 101) 5
abbrev ado:Stmt:=inClass (top 102) 0
abbrev adp:Stmt:=inClass (top 102) 1
abbrev adq:Stmt:=inClass (top 102) 2
abbrev adt:Stmt:=inClass (top 102) 3
abbrev adu:Stmt:=top 3
abbrev adv:Stmt:=top 4
abbrev adw:Stmt:=top 17
abbrev adx:Stmt:=top 18
abbrev ady:Stmt:=top 19
abbrev adz:Stmt:=top 26
abbrev adA:Stmt:=top 27
abbrev adB:Stmt:=top 28
abbrev adC:Stmt:=top 29
abbrev adD:Stmt:=top 30
abbrev adE:Stmt:=top 31
abbrev adF:Stmt:=top 32
abbrev adG:Stmt:=top 33
abbrev adH:Stmt:=top 34
abbrev adI:Stmt:=top 36
abbrev adJ:Stmt:=top 38
abbrev adK:Stmt:=top 39
abbrev adL:Stmt:=top 41
abbrev adM:Stmt:=top 42
abbrev adN:Stmt:=top 43
abbrev adO:Stmt:=top 44
abbrev adP:Stmt:=top 45
abbrev adQ:Stmt:=top 46
abbrev adR:Stmt:=top 55
abbrev adS:Stmt:=top 56
abbrev adT:Stmt:=top 57
abbrev adU:Stmt:=top 58
abbrev adV:Stmt:=top 59
abbrev adW:Stmt:=top 60
abbrev adX:Stmt:=top 61
abbrev adY:Stmt:=top 63
abbrev adZ:Stmt:=top 65
abbrev ad0:Stmt:=top 69
abbrev ad1:Stmt:=top 70
abbrev ad2:Stmt:=top 71
abbrev ad3:Stmt:=top 72
abbrev ad4:Stmt:=top 73
abbrev ad5:Stmt:=top 74
abbrev ad6:Stmt:=top 76
abbrev ad7:Stmt:=top 77
abbrev ad8:Stmt:=top 78
abbrev ad9:Stmt:=top 79
abbrev ad_:Stmt:=top 80
abbrev ad':Stmt:=top 81
abbrev aea:Stmt:=top 97
abbrev aeb:Stmt:=top 98
abbrev aec:Stmt:=top 99
abbrev aed:Stmt:=top 100
abbrev aee:Stmt:=top 103
abbrev aef:Stmt:=top 104
set_option genInjectivity false in
set_option genSizeOf false in
structure bW where
 rp:au
 Kw:au
 Ky:cF
 tG:au
 Kz:au
 KC:cF
 KD:au
 KH:cF
 ju:au
 KJ:au
 KN:cF
 KQ:au
 KR:cF
 rq:au
 KX:au
 KY:cF
 qI:au
 KZ:au
 K4:cF
 et:au
 K5:au
 K6:cF
 K7:au
 K8:cF
 K9:au
 K_:cF
 La:au
 Lb:cF
 Ld:au
 Le:cF
 ni:au
 Lf:au
 Lg:cF
 sq:au
 Lh:au
 Li:cF
 Lj:au
 Lk:cF
 Ln:au
 Lp:cF
 jk:au
 iI:au
 Lq:au
 Lr:cF
 Ls:au
 Lw:cF
 Lx:au
 Ly:cF
 Lz:au
 LC:cF
 LK:au
 LQ:cF
 LR:au
 L1:cF
 L_:au
 Ma:cF
 Mf:au
 Mg:cF
 Mh:au
 Mi:cF
 qJ:au
 Mj:au
 Mk:cF
 rr:au
 Ml:au
 Mp:cF
 vl:au
 Mq:au
 Mr:cF
 BZ:au
 fB:au
 Ms:au
 Mt:cF
 Mu:au
 Mv:cF
 Mw:au
 Mx:cF
 jw:au
 Mz:au
 MF:cF
 MJ:au
 MK:cF
 MN:au
 MP:cF
 M4:au
 M5:cF
 M6:au
 M7:cF
 M8:au
 M9:cF
 iW:au
 M_:au
 Nb:cF
 Nf:au
 Ng:cF
 Nh:au
 Ni:cF
 Nj:au
 Nk:cF
 Nm:au
 Np:cF
 Nq:au
 Nr:cF
 Nt:au
 Nu:cF
 Nv:au
 Nx:cF
 Ny:au
 Nz:cF
 NK:au
 NP:cF
 NQ:au
 NT:cF
 NZ:au
 N5:cF
 N6:au
 N7:cF
 N8:au
 N_:cF
 Oa:au
 Ob:cF
 Oc:au
 Od:cF
 Oe:au
 Og:cF
 Oh:au
 Oi:cF
 Oj:au
 Ol:cF
 Om:au
 Oo:cF
 Oq:au
 Ot:cF
 Ou:au
 Ov:cF
 Ow:au
 Ox:cF
 Oz:au
 OD:cF
 OJ:au
 O1:cF
 O2:au
 O3:cF
 O4:au
 O5:cF
 O6:au
 O7:cF
 O8:au
 O9:cF
 O_:au
 O':cF
 Pa:au
 Pb:cF
 Pg:au
 Ph:cF
 Pj:au
 Pk:cF
 Pn:au
 Pq:cF
 Pr:au
 Pu:cF
 Px:au
 Py:cF
 Pz:au
 PB:cF
 PJ:au
 PK:cF
 PL:au
 PN:cF
 PT:au
 PX:cF
 P0:au
 P1:cF
 P4:au
 P_:cF
 P':au
 Qa:cF
 Qc:au
 Qd:cF
 Qe:au
 Qf:cF
 Qg:au
 Qh:cF
 Qi:au
 Qj:cF
 Qk:au
 Ql:cF
 Qm:au
 Qn:cF
 Qo:au
 Qp:cF
 Qq:au
 Qs:cF
 Qt:au
 Qu:cF
 Qv:au
 Qw:cF
 Qx:au
 Wj:cF
 Gj:au
 Gk:au
structure Txt(K:cn)(av:g9)(t:bW):Prop where
 aeg:av "Context"=some (.ref t.rp)
 su:iT K t.rp
 aeh:ml K t.rp t.Kw
 Wk:cP K t.rp "before"
 Qy:cP K t.rp "there"
 Wl:cP K t.rp "behind"
 Qz:cP K t.rp "acts"
 Wm:ct K "__init__" "Context.__init__" acL t.Kw t.Ky
 aei:av "Slot"=some (.ref t.tG)
 vm:iT K t.tG
 aej:ml K t.tG t.Kz
 Gl:cP K t.tG "free"
 Wn:cP K t.tG "allowed"
 Wo:ct K "__init__" "Slot.__init__" acM t.Kz t.KC
 Wq:ct K "bits_at" "Slot.bits_at" acN t.KD t.KH
 Wr:Meth K t.tG "bits_at" t.KD
 aek:av "Contexts"=some (.ref t.ju)
 tH:iT K t.ju
 ael:ml K t.ju t.KJ
 Gm:cP K t.ju "entries"
 Ws:cP K t.ju "onward"
 Wt:cP K t.ju "backward"
 Wu:ct K "__init__" "Contexts.__init__" acO t.KJ t.KN
 Wv:ct K "first_fitting" "Contexts.first_fitting" acP t.KQ t.KR
 aem:Meth K t.ju "first_fitting" t.KQ
 Ww:av "Rule"=some (.ref t.rq)
 jx:iT K t.rq
 Wx:ml K t.rq t.KX
 tK:cP K t.rq "kind"
 QB:cP K t.rq "passes"
 rt:cP K t.rq "body"
 Wy:ct K "__init__" "Rule.__init__" acQ t.KX t.KY
 aen:av "Feature"=some (.ref t.qI)
 Gn:iT K t.qI
 aeo:ml K t.qI t.KZ
 Wz:cP K t.qI "change_numbers"
 WD:cP K t.qI "place_numbers"
 WK:ct K "__init__" "Feature.__init__" acR t.KZ t.K4
 aep:av "Font"=some (.ref t.et)
 gn:iT K t.et
 aer:ml K t.et t.K5
 B_:cP K t.et "pieces"
 QC:cP K t.et "classes"
 WL:cP K t.et "widths"
 QD:cP K t.et "passing"
 Ca:cP K t.et "changes"
 Gp:cP K t.et "places"
 Cd:cP K t.et "features"
 WM:ct K "__init__" "Font.__init__" acS t.K5 t.K6
 WQ:ct K "sign_of" "Font.sign_of" acT t.K7 t.K8
 WR:Meth K t.et "sign_of" t.K7
 WT:ct K "is_mark" "Font.is_mark" acU t.K9 t.K_
 WW:Meth K t.et "is_mark" t.K9
 WX:ct K "passes_over" "Font.passes_over" acV t.La t.Lb
 QF:Meth K t.et "passes_over" t.La
 WY:ct K "left_places" "Font.left_places" acW t.Ld t.Le
 yP:Meth K t.et "left_places" t.Ld
 aes:av "Joining"=some (.ref t.ni)
 vo:iT K t.ni
 aeu:ml K t.ni t.Lf
 QG:cP K t.ni "order"
 QH:cP K t.ni "length"
 W0:cP K t.ni "joined"
 W2:ct K "__init__" "Joining.__init__" acX t.Lf t.Lg
 aev:av "Joinings"=some (.ref t.sq)
 sv:iT K t.sq
 aew:ml K t.sq t.Lh
 Ce:cP K t.sq "by_signs"
 QJ:cP K t.sq "lengths"
 W3:ct K "__init__" "Joinings.__init__" acY t.Lh t.Li
 W4:ct K "tell" "Joinings.tell" acZ t.Lj t.Lk
 aex:Meth K t.sq "tell" t.Lj
 W5:ct K "first_fitting" "Joinings.first_fitting" ac0 t.Ln t.Lp
 aey:Meth K t.sq "first_fitting" t.Ln
 W6:av "WrongFile"=some (.ref t.jk)
 W7:yM K t.jk
 aez:av "Reader"=some (.ref t.iI)
 dU:iT K t.iI
 aeA:ml K t.iI t.Lq
 Gq:cP K t.iI "content"
 Cg:cP K t.iI "at"
 yQ:cP K t.iI "sign_count"
 W8:ct K "__init__" "Reader.__init__" ac1 t.Lq t.Lr
 W9:ct K "byte" "Reader.byte" ac2 t.Ls t.Lw
 Gs:Meth K t.iI "byte" t.Ls
 W_:ct K "number" "Reader.number" ac3 t.Lx t.Ly
 w4:Meth K t.iI "number" t.Lx
 Xa:ct K "long_number" "Reader.long_number" ac4 t.Lz t.LC
 QK:Meth K t.iI "long_number" t.Lz
 Xb:ct K "signed_number" "Reader.signed_number" ac5 t.LK t.LQ
 yR:Meth K t.iI "signed_number" t.LK
 Xc:ct K "within" "Reader.within" ac6 t.LR t.L1
 jy:Meth K t.iI "within" t.LR
 Xd:ct K "sign" "Reader.sign" ac7 t.L_ t.Ma
 ru:Meth K t.iI "sign" t.L_
 Xe:ct K "many_signs" "Reader.many_signs" ac8 t.Mf t.Mg
 QL:Meth K t.iI "many_signs" t.Mf
 Xf:ct K "require_end" "Reader.require_end" ac9 t.Mh t.Mi
 aeB:Meth K t.iI "require_end" t.Mh
 aeC:av "Anchor"=some (.ref t.qJ)
 tL:iT K t.qJ
 aeD:ml K t.qJ t.Mj
 QM:cP K t.qJ "mark_class"
 QS:cP K t.qJ "right"
 QT:cP K t.qJ "up"
 Xg:ct K "__init__" "Anchor.__init__" ac_ t.Mj t.Mk
 aeE:av "Anchors"=some (.ref t.rr)
 Gu:iT K t.rr
 aeF:ml K t.rr t.Ml
 Xh:cP K t.rr "marks"
 Xi:cP K t.rr "bases"
 Xj:ct K "__init__" "Anchors.__init__" ac' t.Ml t.Mp
 aeG:av "Move"=some (.ref t.vl)
 yS:iT K t.vl
 aeH:ml K t.vl t.Mq
 Xk:cP K t.vl "right"
 Xl:cP K t.vl "up"
 Xm:cP K t.vl "wider"
 Xn:ct K "__init__" "Move.__init__" ada t.Mq t.Mr
 Xo:av "TooLong"=some (.ref t.BZ)
 Xp:yM K t.BZ
 aeI:av "Row"=some (.ref t.fB)
 eA:iT K t.fB
 aeJ:ml K t.fB t.Ms
 iv:cP K t.fB "signs"
 w5:cP K t.fB "characters"
 vp:cP K t.fB "widths"
 yU:cP K t.fB "rights"
 yV:cP K t.fB "ups"
 Xq:ct K "__init__" "Row.__init__" adb t.Ms t.Mt
 Xr:ct K "become" "Row.become" ade t.Mu t.Mv
 Ci:Meth K t.fB "become" t.Mu
 Xu:ct K "begin_placing" "Row.begin_placing" adf t.Mw t.Mx
 aeK:Meth K t.fB "begin_placing" t.Mw
 aeL:av "Session"=some (.ref t.jw)
 oU:iT K t.jw
 aeM:ml K t.jw t.Mz
 tM:cP K t.jw "font"
 Xv:ct K "__init__" "Session.__init__" adg t.Mz t.MF
 Xw:ct K "start" "Session.start" adh t.MJ t.MK
 aeN:Meth K t.jw "start" t.MJ
 Xx:ct K "take_file" "Session.take_file" adi t.MN t.MP
 aeO:Meth K t.jw "take_file" t.MN
 Xy:ct K "tell_sign" "Session.tell_sign" adk t.M4 t.M5
 aeP:Meth K t.jw "tell_sign" t.M4
 Xz:ct K "tell_feature" "Session.tell_feature" adl t.M6 t.M7
 aeQ:Meth K t.jw "tell_feature" t.M6
 XC:ct K "tell_set" "Session.tell_set" adn t.M8 t.M9
 aeR:Meth K t.jw "tell_set" t.M8
 aeS:av "Feed"=some (.ref t.iW)
 kG:iT K t.iW
 aeT:ml K t.iW t.M_
 Cj:cP K t.iW "calls"
 w6:cP K t.iW "at"
 XD:ct K "__init__" "Feed.__init__" ado t.M_ t.Nb
 XF:ct K "has_more" "Feed.has_more" adp t.Nf t.Ng
 aeU:Meth K t.iW "has_more" t.Nf
 XH:ct K "take" "Feed.take" adq t.Nh t.Ni
 Gv:Meth K t.iW "take" t.Nh
 XJ:ct K "take_list" "Feed.take_list" adt t.Nj t.Nk
 QV:Meth K t.iW "take_list" t.Nj
 QW:ct K "make_slot" "make_slot" adu t.Nm t.Np
 aeV:av "make_slot"=some (.ref t.Nm)
 Gw:ct K "make_slots" "make_slots" adv t.Nq t.Nr
 XK:av "make_slots"=some (.ref t.Nq)
 nj:ct K "require" "require" adw t.Nt t.Nu
 oV:av "require"=some (.ref t.Nt)
 rv:ct K "require_rising" "require_rising" adx t.Nv t.Nx
 tO:av "require_rising"=some (.ref t.Nv)
 QX:ct K "require_not_falling" "require_not_falling" ady t.Ny t.Nz
 aeW:av "require_not_falling"=some (.ref t.Ny)
 QZ:ct K "read_exchanges" "read_exchanges" adz t.NK t.NP
 aeX:av "read_exchanges"=some (.ref t.NK)
 Q0:ct K "read_spreads" "read_spreads" adA t.NQ t.NT
 aeY:av "read_spreads"=some (.ref t.NQ)
 Q5:ct K "read_joinings" "read_joinings" adB t.NZ t.N5
 aeZ:av "read_joinings"=some (.ref t.NZ)
 Q6:ct K "read_set" "read_set" adC t.N6 t.N7
 ae0:av "read_set"=some (.ref t.N6)
 Ck:ct K "read_sets" "read_sets" adD t.N8 t.N_
 Q7:av "read_sets"=some (.ref t.N8)
 Q8:ct K "read_act" "read_act" adE t.Oa t.Ob
 ae1:av "read_act"=some (.ref t.Oa)
 Q9:ct K "read_context" "read_context" adF t.Oc t.Od
 ae2:av "read_context"=some (.ref t.Oc)
 Q_:ct K "read_contexts" "read_contexts" adG t.Oe t.Og
 ae3:av "read_contexts"=some (.ref t.Oe)
 Q':ct K "read_body" "read_body" adH t.Oh t.Oi
 ae4:av "read_body_changefile"=some (.ref t.Oh)
 Ra:ct K "read_rule" "read_rule" adI t.Oj t.Ol
 ae5:av "read_rule_changefile"=some (.ref t.Oj)
 Rb:ct K "require_acts" "require_acts" adJ t.Om t.Oo
 ae6:av "require_acts"=some (.ref t.Om)
 Rd:ct K "read_change_rules" "read_change_rules" adK t.Oq t.Ot
 ae7:av "read_change_rules"=some (.ref t.Oq)
 Rf:ct K "exchange_signs" "exchange_signs" adL t.Ou t.Ov
 ae8:av "exchange_signs"=some (.ref t.Ou)
 Rg:ct K "spread_signs" "spread_signs" adM t.Ow t.Ox
 ae9:av "spread_signs"=some (.ref t.Ow)
 Rh:ct K "join_signs" "join_signs" adN t.Oz t.OD
 ae_:av "join_signs"=some (.ref t.Oz)
 Ri:ct K "do_acts" "do_acts" adO t.OJ t.O1
 ae':av "do_acts"=some (.ref t.OJ)
 Rj:ct K "change_around" "change_around" adP t.O2 t.O3
 afa:av "change_around"=some (.ref t.O2)
 Rk:ct K "change_by" "change_by" adQ t.O4 t.O5
 afb:av "change_by"=some (.ref t.O4)
 Rm:ct K "read_move" "read_move" adR t.O6 t.O7
 afc:av "read_move"=some (.ref t.O6)
 Rn:ct K "read_moves" "read_moves" adS t.O8 t.O9
 afd:av "read_moves"=some (.ref t.O8)
 Ro:ct K "read_pairs" "read_pairs" adT t.O_ t.O'
 afe:av "read_pairs"=some (.ref t.O_)
 Rp:ct K "read_anchor" "read_anchor" adU t.Pa t.Pb
 afg:av "read_anchor"=some (.ref t.Pa)
 Gx:ct K "read_anchor_list" "read_anchor_list" adV t.Pg t.Ph
 XM:av "read_anchor_list"=some (.ref t.Pg)
 Rq:ct K "read_anchors" "read_anchors" adW t.Pj t.Pk
 afh:av "read_anchors"=some (.ref t.Pj)
 Rr:ct K "read_body" "read_body" adX t.Pn t.Pq
 afi:av "read_body_placefile"=some (.ref t.Pn)
 Rt:ct K "read_rule" "read_rule" adY t.Pr t.Pu
 afj:av "read_rule_placefile"=some (.ref t.Pr)
 Ru:ct K "read_place_rules" "read_place_rules" adZ t.Px t.Py
 afk:av "read_place_rules"=some (.ref t.Px)
 Rv:ct K "read_piece" "read_piece" ad0 t.Pz t.PB
 afl:av "read_piece"=some (.ref t.Pz)
 Rw:ct K "read_pieces" "read_pieces" ad1 t.PJ t.PK
 afm:av "read_pieces"=some (.ref t.PJ)
 Rx:ct K "read_class" "read_class" ad2 t.PL t.PN
 afn:av "read_class"=some (.ref t.PL)
 Gy:ct K "read_rule_numbers" "read_rule_numbers" ad3 t.PT t.PX
 XP:av "read_rule_numbers"=some (.ref t.PT)
 Ry:ct K "read_features" "read_features" ad4 t.P0 t.P1
 afo:av "read_features"=some (.ref t.P0)
 Rz:ct K "read_font" "read_font" ad5 t.P4 t.P_
 afp:av "read_font"=some (.ref t.P4)
 RB:ct K "move_signs" "move_signs" ad6 t.P' t.Qa
 afq:av "move_signs"=some (.ref t.P')
 RC:ct K "widen_pairs" "widen_pairs" ad7 t.Qc t.Qd
 afr:av "widen_pairs"=some (.ref t.Qc)
 Gz:ct K "attach" "attach" ad8 t.Qe t.Qf
 XQ:av "attach"=some (.ref t.Qe)
 RD:ct K "attach_to_bases" "attach_to_bases" ad9 t.Qg t.Qh
 afs:av "attach_to_bases"=some (.ref t.Qg)
 RG:ct K "attach_to_marks" "attach_to_marks" ad_ t.Qi t.Qj
 aft:av "attach_to_marks"=some (.ref t.Qi)
 RJ:ct K "place_by" "place_by" ad' t.Qk t.Ql
 afu:av "place_by"=some (.ref t.Qk)
 RK:ct K "asked_features" "asked_features" aea t.Qm t.Qn
 afv:av "asked_features"=some (.ref t.Qm)
 GC:ct K "rules_in_order" "rules_in_order" aeb t.Qo t.Qp
 XR:av "rules_in_order"=some (.ref t.Qo)
 RL:ct K "set_characters" "set_characters" aec t.Qq t.Qs
 afw:av "set_characters"=some (.ref t.Qq)
 RM:ct K "tell_row" "tell_row" aed t.Qt t.Qu
 afx:av "tell_row"=some (.ref t.Qt)
 RN:ct K "answer_call" "answer_call" aee t.Qv t.Qw
 afy:av "answer_call"=some (.ref t.Qv)
 XS:ct K "answers" "answers" aef t.Qx t.Wj
 afz:av "answers"=some (.ref t.Qx)
 k_MARK:∃ u,av "MARK"=some u/\RelV (.int (3)) u
 k_EXCHANGE:∃ u,av "EXCHANGE"=some u/\RelV (.int (1)) u
 k_SPREAD:∃ u,av "SPREAD"=some u/\RelV (.int (2)) u
 k_JOIN:∃ u,av "JOIN"=some u/\RelV (.int (3)) u
 k_LOOK_AROUND:∃ u,av "LOOK_AROUND"=some u/\RelV (.int (4)) u
 k_MOVE:∃ u,av "MOVE"=some u/\RelV (.int (1)) u
 k_PAIR:∃ u,av "PAIR"=some u/\RelV (.int (2)) u
 k_MARK_TO_BASE:∃ u,av "MARK_TO_BASE"=some u/\RelV (.int (3)) u
 k_MARK_TO_MARK:∃ u,av "MARK_TO_MARK"=some u/\RelV (.int (4)) u
 k_LAST_CHARACTER:∃ u,av "LAST_CHARACTER"=some u/\RelV (.int (1114111)) u
 k_MOST_SIGNS:∃ u,av "MOST_SIGNS"=some u/\RelV (.int (4096)) u
 k_SG_START:∃ u,av "SG_START"=some u/\RelV (.int (1)) u
 k_SG_OPEN:∃ u,av "SG_OPEN"=some u/\RelV (.int (2)) u
 k_SG_SIGN:∃ u,av "SG_SIGN"=some u/\RelV (.int (3)) u
 k_SG_HAS:∃ u,av "SG_HAS"=some u/\RelV (.int (4)) u
 k_WRONG_NUMBER:∃ u,av "WRONG_NUMBER"=some u/\RelV (.int (-1)) u
 k_WRONG_FILE:∃ u,av "WRONG_FILE"=some u/\RelV (.int (-2)) u
 k_NO_FILE:∃ u,av "NO_FILE"=some u/\RelV (.int (-4)) u
 k_TOO_LONG:∃ u,av "TOO_LONG"=some u/\RelV (.int (-5)) u
 k_NO_ROOM:∃ u,av "NO_ROOM"=some u/\RelV (.int (-6)) u
 k_MODULUS:∃ u,av "MODULUS"=some u/\RelV (.int (4294967296)) u
 k_PASSING:av "PASSING"=some (.ref t.Gj)
 afA:∀ H,fM K H t.Gj [.int 0,.int 1,.int 2,.int 4]
 k_FIRST_BYTES:av "FIRST_BYTES"=some (.ref t.Gk)
 X3:∀ H,fM K H t.Gk [.int 73,.int 112]
 hA:av "len"=none
 jz:av "range"=none
 w7:av "enumerate"=none
 X4:av "zip"=none
 yW:av "dict"=none
 X5:av "tuple"=none
 GD:av "list"=none
 afB:av "max"=none
 afC:av "sorted"=none
@[elab_as_elim] theorem awv {p:dI->Prop}:(us:dI)->us.length=1->(∀ bV,p [bV])->p us | [bV],_,h=>h bV
theorem _root_.L2.ct.b1{K:cn}{x qual:Str}{st:Stmt}{f:au}{fd:cF}{ps:List Str}(F:ct K x qual st f fd)(aF:ps.length=1:=by rfl)
  (h:∀ c0 doc pm an bJ ft bV,bindArgs (PySem.W.fnOf x qual (sg st) (rh st) (cx st) .none c0 doc pm an bJ ft) ⟨[bV],[]⟩=pure (ps.zip [bV]):=by intros;exact rfl):Binds K fd ps [] :=
 F.binds fun c0 doc pm an bJ ft us e=>awv us (e.trans aF) (h c0 doc pm an bJ ft)
@[elab_as_elim] theorem aww {p:dI->Prop}:(us:dI)->us.length=2->(∀ bV a1,p [bV,a1])->p us | [bV,a1],_,h=>h bV a1
theorem _root_.L2.ct.iu{K:cn}{x qual:Str}{st:Stmt}{f:au}{fd:cF}{ps:List Str}(F:ct K x qual st f fd)(aF:ps.length=2:=by rfl)
  (h:∀ c0 doc pm an bJ ft bV a1,bindArgs (PySem.W.fnOf x qual (sg st) (rh st) (cx st) .none c0 doc pm an bJ ft) ⟨[bV,a1],[]⟩=pure (ps.zip [bV,a1]):=by intros;exact rfl):Binds K fd ps [] :=
 F.binds fun c0 doc pm an bJ ft us e=>aww us (e.trans aF) (h c0 doc pm an bJ ft)
@[elab_as_elim] theorem awx {p:dI->Prop}:(us:dI)->us.length=3->(∀ bV a1 a2,p [bV,a1,a2])->p us | [bV,a1,a2],_,h=>h bV a1 a2
theorem _root_.L2.ct.jP{K:cn}{x qual:Str}{st:Stmt}{f:au}{fd:cF}{ps:List Str}(F:ct K x qual st f fd)(aF:ps.length=3:=by rfl)
  (h:∀ c0 doc pm an bJ ft bV a1 a2,bindArgs (PySem.W.fnOf x qual (sg st) (rh st) (cx st) .none c0 doc pm an bJ ft) ⟨[bV,a1,a2],[]⟩=pure (ps.zip [bV,a1,a2]):=by intros;exact rfl):Binds K fd ps [] :=
 F.binds fun c0 doc pm an bJ ft us e=>awx us (e.trans aF) (h c0 doc pm an bJ ft)
@[elab_as_elim] theorem awy {p:dI->Prop}:(us:dI)->us.length=4->(∀ bV a1 a2 a3,p [bV,a1,a2,a3])->p us | [bV,a1,a2,a3],_,h=>h bV a1 a2 a3
theorem _root_.L2.ct.yX{K:cn}{x qual:Str}{st:Stmt}{f:au}{fd:cF}{ps:List Str}(F:ct K x qual st f fd)(aF:ps.length=4:=by rfl)
  (h:∀ c0 doc pm an bJ ft bV a1 a2 a3,bindArgs (PySem.W.fnOf x qual (sg st) (rh st) (cx st) .none c0 doc pm an bJ ft) ⟨[bV,a1,a2,a3],[]⟩=pure (ps.zip [bV,a1,a2,a3]):=by intros;exact rfl):Binds K fd ps [] :=
 F.binds fun c0 doc pm an bJ ft us e=>awy us (e.trans aF) (h c0 doc pm an bJ ft)
@[elab_as_elim] theorem awz {p:dI->Prop}:(us:dI)->us.length=5->(∀ bV a1 a2 a3 a4,p [bV,a1,a2,a3,a4])->p us | [bV,a1,a2,a3,a4],_,h=>h bV a1 a2 a3 a4
theorem _root_.L2.ct.ak5{K:cn}{x qual:Str}{st:Stmt}{f:au}{fd:cF}{ps:List Str}(F:ct K x qual st f fd)(aF:ps.length=5:=by rfl)
  (h:∀ c0 doc pm an bJ ft bV a1 a2 a3 a4,bindArgs (PySem.W.fnOf x qual (sg st) (rh st) (cx st) .none c0 doc pm an bJ ft) ⟨[bV,a1,a2,a3,a4],[]⟩=pure (ps.zip [bV,a1,a2,a3,a4]):=by intros;exact rfl):Binds K fd ps [] :=
 F.binds fun c0 doc pm an bJ ft us e=>awz us (e.trans aF) (h c0 doc pm an bJ ft)
section
variable{K:cn}{av:g9}{t:bW}(T:Txt K av t)
include T
theorem Txt.awA:Binds K t.Ky ["self","before","there","behind","acts"] []:=T.Wm.ak5
theorem Txt.awB:Binds K t.KC ["self","free","allowed"] []:=T.Wo.jP
theorem Txt.ak6:Binds K t.KH ["self","signs","at"] []:=T.Wq.jP
theorem Txt.awC:Binds K t.KN ["self","entries"] []:=T.Wu.iu
theorem Txt.awD:Binds K t.KR ["self","line","at","past"] []:=T.Wv.yX
theorem Txt.ak7:Binds K t.KY ["self","kind","passes","body"] []:=T.Wy.yX
theorem Txt.awE:Binds K t.K4 ["self","change_numbers","place_numbers"] []:=T.WK.jP
theorem Txt.awF:Binds K t.K6 ["self","pieces","classes","widths"] []:=T.WM.yX
theorem Txt.ak8:Binds K t.K8 ["self","character"] []:=T.WQ.iu
theorem Txt.ak9:Binds K t.K_ ["self","sign"] []:=T.WT.iu
theorem Txt.afD:Binds K t.Lb ["self","rule","sign"] []:=T.WX.jP
theorem Txt.GF:Binds K t.Le ["self","rule","signs"] []:=T.WY.jP
theorem Txt.awG:Binds K t.Lg ["self","order","length","joined"] []:=T.W2.yX
theorem Txt.awH:Binds K t.Li ["self"] []:=T.W3.b1
theorem Txt.awI:Binds K t.Lk ["self","signs","joined"] []:=T.W4.jP
theorem Txt.awJ:Binds K t.Lp ["self","line","at"] []:=T.W5.jP
theorem Txt.awK:Binds K t.Lr ["self","content"] []:=T.W8.iu
theorem Txt.X6:Binds K t.Lw ["self"] []:=T.W9.b1
theorem Txt.Cm:Binds K t.Ly ["self"] []:=T.W_.b1
theorem Txt.afE:Binds K t.LC ["self"] []:=T.Xa.b1
theorem Txt.GJ:Binds K t.LQ ["self"] []:=T.Xb.b1
theorem Txt.j2:Binds K t.L1 ["self","lowest","highest"] []:=T.Xc.jP
theorem Txt.tQ:Binds K t.Ma ["self"] []:=T.Xd.b1
theorem Txt.afF:Binds K t.Mg ["self","fewest","most"] []:=T.Xe.jP
theorem Txt.awL:Binds K t.Mi ["self"] []:=T.Xf.b1
theorem Txt.awM:Binds K t.Mk ["self","mark_class","right","up"] []:=T.Xg.yX
theorem Txt.awN:Binds K t.Mp ["self","marks","bases"] []:=T.Xj.jP
theorem Txt.awO:Binds K t.Mr ["self","right","up","wider"] []:=T.Xn.yX
theorem Txt.awP:Binds K t.Mt ["self","signs","characters"] []:=T.Xq.jP
theorem Txt.RP:Binds K t.Mv ["self","signs","characters"] []:=T.Xr.jP
theorem Txt.awQ:Binds K t.Mx ["self","font"] []:=T.Xu.iu
theorem Txt.awR:Binds K t.MF ["self"] []:=T.Xv.b1
theorem Txt.awS:Binds K t.MK ["self"] []:=T.Xw.b1
theorem Txt.awT:Binds K t.MP ["self","content"] []:=T.Xx.iu
theorem Txt.awU:Binds K t.M5 ["self","character"] []:=T.Xy.iu
theorem Txt.awV:Binds K t.M7 ["self","tag"] []:=T.Xz.iu
theorem Txt.awW:Binds K t.M9 ["self","room","characters","tags"] []:=T.XC.yX
theorem Txt.awX:Binds K t.Nb ["self","calls"] []:=T.XD.iu
theorem Txt.awY:Binds K t.Ng ["self"] []:=T.XF.b1
theorem Txt.X7:Binds K t.Ni ["self"] []:=T.XH.b1
theorem Txt.afG:Binds K t.Nk ["self"] []:=T.XJ.b1
theorem Txt.awZ:Binds K t.Np ["rows","distance"] []:=T.QW.iu
theorem Txt.ak_:Binds K t.Nr ["rows"] []:=T.Gw.b1
theorem Txt.qK:Binds K t.Nu ["right"] []:=T.nj.b1
theorem Txt.xd:Binds K t.Nx ["keys"] []:=T.rv.b1
theorem Txt.aw0:Binds K t.Nz ["keys"] []:=T.QX.b1
theorem Txt.aw1:Binds K t.NP ["reader"] []:=T.QZ.b1
theorem Txt.aw2:Binds K t.NT ["reader"] []:=T.Q0.b1
theorem Txt.aw3:Binds K t.N5 ["reader"] []:=T.Q5.b1
theorem Txt.aw4:Binds K t.N7 ["reader"] []:=T.Q6.b1
theorem Txt.afH:Binds K t.N_ ["reader","fewest"] []:=T.Ck.iu
theorem Txt.aw5:Binds K t.Ob ["reader","place_count"] []:=T.Q8.iu
theorem Txt.aw6:Binds K t.Od ["reader"] []:=T.Q9.b1
theorem Txt.aw7:Binds K t.Og ["reader"] []:=T.Q_.b1
theorem Txt.aw8:Binds K t.Oi ["reader","kind"] []:=T.Q'.iu
theorem Txt.aw9:Binds K t.Ol ["reader"] []:=T.Ra.b1
theorem Txt.aw_:Binds K t.Oo ["contexts","rules"] []:=T.Rb.iu
theorem Txt.aw':Binds K t.Ot ["reader"] []:=T.Rd.b1
theorem Txt.axa:Binds K t.Ov ["font","rule","row"] []:=T.Rf.jP
theorem Txt.axb:Binds K t.Ox ["font","rule","row"] []:=T.Rg.jP
theorem Txt.axc:Binds K t.OD ["font","rule","row"] []:=T.Rh.jP
theorem Txt.axd:Binds K t.O1 ["font","acts","line","k"] []:=T.Ri.yX
theorem Txt.axe:Binds K t.O3 ["font","rule","row"] []:=T.Rj.jP
theorem Txt.axf:Binds K t.O5 ["font","rule","row"] []:=T.Rk.jP
theorem Txt.axg:Binds K t.O7 ["reader"] []:=T.Rm.b1
theorem Txt.axh:Binds K t.O9 ["reader"] []:=T.Rn.b1
theorem Txt.axi:Binds K t.O' ["reader"] []:=T.Ro.b1
theorem Txt.axj:Binds K t.Pb ["reader"] []:=T.Rp.b1
theorem Txt.ak':Binds K t.Ph ["reader"] []:=T.Gx.b1
theorem Txt.axk:Binds K t.Pk ["reader"] []:=T.Rq.b1
theorem Txt.axl:Binds K t.Pq ["reader","kind"] []:=T.Rr.iu
theorem Txt.axm:Binds K t.Pu ["reader"] []:=T.Rt.b1
theorem Txt.axn:Binds K t.Py ["reader"] []:=T.Ru.b1
theorem Txt.axo:Binds K t.PB ["reader","behind"] []:=T.Rv.iu
theorem Txt.axp:Binds K t.PK ["reader"] []:=T.Rw.b1
theorem Txt.axq:Binds K t.PN ["reader"] []:=T.Rx.b1
theorem Txt.ala:Binds K t.PX ["reader","rules"] []:=T.Gy.iu
theorem Txt.axr:Binds K t.P1 ["reader","font"] []:=T.Ry.iu
theorem Txt.axt:Binds K t.P_ ["content"] []:=T.Rz.b1
theorem Txt.axu:Binds K t.Qa ["font","rule","row"] []:=T.RB.jP
theorem Txt.axv:Binds K t.Qd ["font","rule","row"] []:=T.RC.jP
theorem Txt.alb:Binds K t.Qf ["anchors","row","at","base","span"] []:=T.Gz.ak5
theorem Txt.axw:Binds K t.Qh ["font","rule","row"] []:=T.RD.jP
theorem Txt.axx:Binds K t.Qj ["font","rule","row"] []:=T.RG.jP
theorem Txt.axy:Binds K t.Ql ["font","rule","row"] []:=T.RJ.jP
theorem Txt.axz:Binds K t.Qn ["font","tags"] []:=T.RK.iu
theorem Txt.alc:Binds K t.Qp ["rules","number_lists"] []:=T.GC.iu
theorem Txt.axA:Binds K t.Qs ["font","characters","tags"] []:=T.RL.jP
theorem Txt.axB:Binds K t.Qu ["row"] []:=T.RM.b1
theorem Txt.axC:Binds K t.Qw ["session","feed"] []:=T.RN.iu
end
theorem axD:cV ["self","before","there","behind","acts"] ["self","before","there","behind","acts"] (cx acL):={}
theorem axE:cV ["self","free","allowed"] ["self","free","allowed"] (cx acM):={}
theorem axF:cV ["self","signs","at"] ["self","signs","at"] (cx acN):={}
theorem RQ:cV ["self","entries","entry"] ["self","entries"] (cx acO):={}
theorem xg:cV ["self","line","at","past","bits","distance","slot","lowest"] ["self","line","at","past"] (cx acP):={}
theorem axG:cV ["self","kind","passes","body"] ["self","kind","passes","body"] (cx acQ):={}
theorem axH:cV ["self","change_numbers","place_numbers"] ["self","change_numbers","place_numbers"] (cx acR):={}
theorem afI:cV ["self","pieces","classes","widths","sign_class"] ["self","pieces","classes","widths"] (cx acS):={}
theorem Cp:cV ["self","character","low","high","middle","piece"] ["self","character"] (cx acT):={}
theorem axI:cV ["self","sign"] ["self","sign"] (cx acU):={}
theorem axJ:cV ["self","rule","sign"] ["self","rule","sign"] (cx acV):={}
theorem GK:cV ["self","rule","signs","passing","passes","at","sign"] ["self","rule","signs"] (cx acW):={}
theorem axK:cV ["self","order","length","joined"] ["self","order","length","joined"] (cx acX):={}
theorem axL:cV ["self"] ["self"] (cx acY):={}
theorem afJ:cV ["self","signs","joined","told","lengths"] ["self","signs","joined"] (cx acZ):={}
theorem RT:cV ["self","line","at","best","length","joining"] ["self","line","at"] (cx ac0):={}
theorem axM:cV ["self","content"] ["self","content"] (cx ac1):={}
theorem ald:cV ["self","value"] ["self"] (cx ac2):={}
theorem ale:cV ["self","high"] ["self"] (cx ac3):={}
theorem alf:cV ["self","high"] ["self"] (cx ac4):={}
theorem alg:cV ["self","value"] ["self"] (cx ac5):={}
theorem alh:cV ["self","lowest","highest","value"] ["self","lowest","highest"] (cx ac6):={}
theorem axN:cV ["self"] ["self"] (cx ac7):={}
theorem afK:cV ["self","fewest","most","k"] ["self","fewest","most"] (cx ac8):={}
theorem axO:cV ["self"] ["self"] (cx ac9):={}
theorem axP:cV ["self","mark_class","right","up"] ["self","mark_class","right","up"] (cx ac_):={}
theorem axQ:cV ["self","marks","bases"] ["self","marks","bases"] (cx ac'):={}
theorem axR:cV ["self","right","up","wider"] ["self","right","up","wider"] (cx ada):={}
theorem axS:cV ["self","signs","characters"] ["self","signs","characters"] (cx adb):={}
theorem axT:cV ["self","signs","characters"] ["self","signs","characters"] (cx ade):={}
theorem Cq:cV ["self","font","sign"] ["self","font"] (cx adf):={}
theorem axU:cV ["self"] ["self"] (cx adg):={}
theorem axV:cV ["self"] ["self"] (cx adh):={}
theorem ali:cV ["self","content","font"] ["self","content"] (cx adi):={}
theorem axW:cV ["self","character"] ["self","character"] (cx adk):={}
theorem axX:cV ["self","tag"] ["self","tag"] (cx adl):={}
theorem alj:cV ["self","room","characters","tags","row"] ["self","room","characters","tags"] (cx adn):={}
theorem axY:cV ["self","calls"] ["self","calls"] (cx ado):={}
theorem axZ:cV ["self"] ["self"] (cx adp):={}
theorem ax0:cV ["self"] ["self"] (cx adq):={}
theorem alk:cV ["self","begin"] ["self"] (cx adt):={}
theorem xq:cV ["rows","distance","free","order","sets","allowed","sign"] ["rows","distance"] (cx adu):={}
theorem GP:cV ["rows","farthest","sets","distance"] ["rows"] (cx adv):={}
theorem ax1:cV ["right"] ["right"] (cx adw):={}
theorem alm:cV ["keys","k"] ["keys"] (cx adx):={}
theorem aln:cV ["keys","k"] ["keys"] (cx ady):={}
theorem GQ:cV ["reader","pairs","k","first","pair"] ["reader"] (cx adz):={}
theorem GR:cV ["reader","pairs","k","first","pair"] ["reader"] (cx adA):={}
theorem GX:cV ["reader","joinings","firsts","k","first","signs"] ["reader"] (cx adB):={}
theorem alo:cV ["reader","signs"] ["reader"] (cx adC):={}
theorem afL:cV ["reader","fewest","k"] ["reader","fewest"] (cx adD):={}
theorem alp:cV ["reader","place_count","place"] ["reader","place_count"] (cx adE):={}
theorem GZ:cV ["reader","before","there","behind","acts","k"] ["reader"] (cx adF):={}
theorem afM:cV ["reader","k"] ["reader"] (cx adG):={}
theorem ax2:cV ["reader","kind"] ["reader","kind"] (cx adH):={}
theorem afN:cV ["reader","kind","passes"] ["reader"] (cx adI):={}
theorem X8:cV ["contexts","rules","context","place","number"] ["contexts","rules"] (cx adJ):={}
theorem X_:cV ["reader","rules","rule","k"] ["reader"] (cx adK):={}
theorem afO:cV ["font","rule","row","signs","at"] ["font","rule","row"] (cx adL):={}
theorem xr:cV ["font","rule","row","signs","characters","sign","character","parts","part"] ["font","rule","row"] (cx adM):={}
theorem nW:cV ["font","rule","row","left","line","signs","gone","k","joining","at","staying"] ["font","rule","row"] (cx adN):={}
theorem Yb:cV ["font","acts","line","k","place","number","sign"] ["font","acts","line","k"] (cx adO):={}
theorem pQ:cV ["font","rule","row","left","line","past","k","context","end","signs","at","sign"] ["font","rule","row"] (cx adP):={}
theorem ax3:cV ["font","rule","row"] ["font","rule","row"] (cx adQ):={}
theorem afP:cV ["reader","right","up"] ["reader"] (cx adR):={}
theorem G3:cV ["reader","pairs","k","sign","pair"] ["reader"] (cx adS):={}
theorem Cr:cV ["reader","pairs","k","first","second","pair"] ["reader"] (cx adT):={}
theorem afQ:cV ["reader","mark_class","right"] ["reader"] (cx adU):={}
theorem Yc:cV ["reader","pairs","k","sign"] ["reader"] (cx adV):={}
theorem xu:cV ["reader","marks","bases","pair","sign","anchor"] ["reader"] (cx adW):={}
theorem ax4:cV ["reader","kind"] ["reader","kind"] (cx adX):={}
theorem afR:cV ["reader","kind","passes"] ["reader"] (cx adY):={}
theorem afS:cV ["reader","k"] ["reader"] (cx adZ):={}
theorem Yd:cV ["reader","behind","first","last","sign"] ["reader","behind"] (cx ad0):={}
theorem G4:cV ["reader","pieces","behind","k","piece"] ["reader"] (cx ad1):={}
theorem alq:cV ["reader","sign_class"] ["reader"] (cx ad2):={}
theorem afT:cV ["reader","rules","numbers","k"] ["reader","rules"] (cx ad3):={}
theorem G5:cV ["reader","font","features","tags","k","tag","change_numbers"] ["reader","font"] (cx ad4):={}
theorem xv:cV ["content","reader","byte","pieces","classes","widths","font","k"] ["content"] (cx ad5):={}
theorem afU:cV ["font","rule","row","at","move"] ["font","rule","row"] (cx ad6):={}
theorem Ye:cV ["font","rule","row","left","k","pair"] ["font","rule","row"] (cx ad7):={}
theorem afV:cV ["anchors","row","at","base","span","own","other"] ["anchors","row","at","base","span"] (cx ad8):={}
theorem yZ:cV ["font","rule","row","base","span","at","sign"] ["font","rule","row"] (cx ad9):={}
theorem alr:cV ["font","rule","row","at"] ["font","rule","row"] (cx ad_):={}
theorem ax5:cV ["font","rule","row"] ["font","rule","row"] (cx ad'):={}
theorem afW:cV ["font","tags","tag"] ["font","tags"] (cx aea):={}
theorem G6:cV ["rules","number_lists","asked","numbers","number"] ["rules","number_lists"] (cx aeb):={}
theorem tR:cV ["font","characters","tags","features","row","rule","character","feature"] ["font","characters","tags"] (cx aec):={}
theorem Yg:cV ["row","told","at","sign"] ["row"] (cx aed):={}
theorem Yh:cV ["session","feed","call","room","characters"] ["session","feed"] (cx aee):={}
theorem RV:cV ["calls","session","feed","given","answer"] ["calls"] (cx aef):={}
section
variable{P:fw}{w:e3}{K:cn}{av:g9}{base:Heap}{t:bW}
def als(t:bW):eX:=fun vs H Q E=>∃ b:Bool,vs=[.bl b]/\(b=true->Q .non H)/\(b=false->E (.ref t.jk) none H)
theorem qL(T:Txt K av t):cI P w K av base (cL P w) 1 t.Nt t.Nu ["right"] (als t):=by
 refine T.nj.cY ax1 (fun vs H Q E h=>?_) (fun bJ A outer s H vs Q E aA h=>?_)
 ·obtain⟨b,rfl,_⟩:=h;rfl
 ·obtain⟨b,rfl,k1,k2⟩:=h;refine⟨_,bj (gh (abg (Bp (aj 0) (fun _=>rfl))) (bj (akK rfl (fun _ _ z=>z) rfl T.W6 T.W7)) ht),?_⟩;refine⟨_,Z,b,Z,?_⟩;cases b with
  |true=>exact k1 rfl
  |false=>exact k2 rfl
end
def a9(L:d1)(H H':ao):Prop:=∀ b o,b∉L->H b=some o->H' b=some o
theorem a9.refl(L:d1)(H:ao):a9 L H H:=fun _ _ _ e=>e
theorem a9.trans{L:d1}{H H1 aB:ao}(a:a9 L H H1)(b:a9 L H1 aB):a9 L H aB:=fun c o n e=>b c o n (a c o n e)
theorem a9.mono{L L':d1}{H H':ao}(a:a9 L H H')(h:∀ b∈L,b∈L'):a9 L' H H':=fun c o n e=>a c o (fun z=>n (h c z)) e
theorem a9.pR{L:d1}{H:ao}{a:au}{o:HO}(h:a∈L):a9 L H (upd H a o):=fun c u n e=>by
 rw[a6 (fun z:c=a=>n (z.symm▸h))];exact e
theorem a9.iY{L:d1}{H:ao}{a:au}{o:HO}(h:H a=none):a9 L H (upd H a o):=fun c u n e=>by
 rw[a6 (bQ e h)];exact e
theorem a9.qM{L:d1}{H H':ao}{a:au}{o:HO}(k:a9 L H H')(h:a∈L):a9 L H (upd H' a o):=k.trans (a9.pR h)
theorem a9.jl{L:d1}{H H':ao}{a:au}{o:HO}(k:a9 L H H')(h:H' a=none):a9 L H (upd H' a o):=k.trans (a9.iY h)
theorem a9.free{L:d1}{H H':ao}{a:au}(k:a9 L H H')(n:a∉L)(h:H' a=none):H a=none:=by
 cases e:H a with
 |none=>rfl
 |some o=>rw[k a o n e]at h;cases h
theorem a9.xA{L:d1}{H H':ao}{a:au}{o:HO}(k:a9 L H H')(h:H a=none):a9 L H (upd H' a o):=fun c u n e=>by
 rw[a6 (bQ e h)];exact k c u n e
theorem hp{H H':ao}(k:aQ H H')(L:d1):a9 L H H':=fun b o _ e=>k b o e
def bG(A:ao)(L:d1)(H:ao):ao:=fun b=>if(A b).isSome=true\/b∈L then none else H b
theorem eu{A:ao}{L:d1}{H:ao}{b:au}{o:HO}:bG A L H b=some o↔A b=none/\b∉L/\H b=some o:=by
 unfold bG;by_cases h:(A b).isSome=true\/b∈L
 ·rw[bL h];constructor
  ·intro z;cases z
  ·rintro⟨h1,aC,_⟩;rcases h with h|h
   ·rw[h1]at h;cases h
   ·exact absurd h aC
 ·rw[bw h];constructor
  ·intro z;refine⟨?_,fun w=>h (.inr w),z⟩;cases e:A b with
   |none=>rfl
   |some u=>exact absurd (.inl (by rw[e];rfl)) h
  ·rintro⟨_,_,bH⟩;exact bH
theorem y0{A A':ao}{L L':d1}{H H':ao}(h:∀ b o,A b=none->b∉L->H b=some o->A' b=none/\b∉L'/\H' b=some o):aQ (bG A L H) (bG A' L' H'):=fun b o e=>by
 obtain⟨h1,aC,bH⟩:=eu.mp e;exact eu.mpr (h b o h1 aC bH)
theorem hB{A:ao}{L:d1}{H:ao}:aQ (bG A L H) H:=fun b o e=>(eu.mp e).2.2
theorem jA{A:ao}{L M:d1}{H H':ao}(k:a9 M H H')(h:∀ b∈M,A b≠none\/b∈L):aQ (bG A L H) (bG A L H'):=y0 fun b o h1 aC bH=>⟨h1,aC,k b o (fun z=>(h b z).elim (fun w=>w h1) aC) bH⟩
theorem tU{A B:ao}{L:d1}{H:ao}(h:∀ b,A b≠none->B b≠none)(aF:∀ b∈L,B b≠none):aQ (bG B [] H) (bG A L H):=y0 fun b o h1 aC bH=>⟨by
  cases e:A b with
  |none=>rfl
  |some u=>exact absurd h1 (h b (by rw[e];simp)),fun z=>aF b z h1,bH⟩
theorem y1{A:ao}{L L':d1}{H:ao}(h:∀ b∈L',b∈L):aQ (bG A L H) (bG A L' H):=y0 fun b o h1 aC bH=>⟨h1,fun z=>aC (h b z),bH⟩
theorem a9.dom{L:d1}{H H':ao}(k:a9 L H H')(aF:∀ b∈L,H' b≠none):∀ b,H b≠none->H' b≠none:=fun b ak=>by
 by_cases z:b∈L
 ·exact aF b z
 ·cases e:H b with
  |none=>exact absurd e ak
  |some o=>rw[k b o z e];simp
theorem aQ.dom{H H':ao}(k:aQ H H'):∀ b,H b≠none->H' b≠none:=fun b ak=>by
 cases e:H b with
 |none=>exact absurd e ak
 |some o=>rw[k b o e];simp
theorem j4{H:ao}{a:au}{o:HO}(h:H a=some o):H a≠none:=by rw[h];simp
abbrev nat(n:Nat):V:=.int (n:Int)
def tV(ca:au)(n g:Int):List (Str×V):=[("content",.ref ca),("at",.int n),("sign_count",.int g)]
structure eb(t:bW)(H:ao)(rd ca:au)(bs rest:aK)(g:Nat):Prop where
 cX:∃ dx n,H rd=some (.ins t.iI dx (tV ca (n:Nat) (g:Nat)))/\rest=bs.drop n/\n<=bs.length
 sx:H ca=some (.lst (bs.map nat))
 lt:∀ b∈bs,b<256
 ln:bs.length<=65536
section
variable{t:bW}{H H' A:ao}{rd ca L:au}{bs rest:aK}{g:Nat}{o:HO}
theorem eb.dom(R:eb t H rd ca bs rest g):H rd≠none:=by
 obtain⟨dx,n,h,_⟩:=R.cX;exact j4 h
theorem eb.sz(R:eb t H rd ca bs rest g):H ca≠none:=j4 R.sx
theorem eb.ne(R:eb t H rd ca bs rest g):ca≠rd:=by
 obtain⟨dx,n,h,_⟩:=R.cX;exact hN R.sx h (by intro z;cases z)
theorem eb.keep(R:eb t H rd ca bs rest g){M:d1}(k:a9 M H H')(h1:rd∉M)(aC:ca∉M):eb t H' rd ca bs rest g:=by
 obtain⟨dx,n,h,e⟩:=R.cX;exact⟨⟨dx,n,k _ _ h1 h,e⟩,k _ _ aC R.sx,R.lt,R.ln⟩
theorem eb.oW(R:eb t H rd ca bs rest g)(k:aQ H H'):eb t H' rd ca bs rest g:=R.keep (hp k []) (by simp) (by simp)
theorem eb.upd(R:eb t H rd ca bs rest g)(h1:L≠rd)(aC:L≠ca):eb t (L2.upd H L o) rd ca bs rest g :=
 R.keep (M:=[L]) (a9.pR (by simp)) (by simp[Ne.symm h1]) (by simp[Ne.symm aC])
theorem eb.new(R:eb t H rd ca bs rest g)(h:H L=none):eb t (L2.upd H L o) rd ca bs rest g :=
 R.upd (fun e=>R.dom (e▸h)) (fun e=>R.sz (e▸h))
end
def rx{α:Type}(t:bW)(p:Nat->Sw28.P α)(Rep:ao->V->α->Prop)(H:ao)(rd:au)(Q:bx)(E:cM):Prop :=
 ∃ ca bs rest g,eb t H rd ca bs rest g /\
  (∀ x r v H',p g rest=some (x,r)->eb t H' rd ca bs r g->a9 [rd] H H'->Rep (bG H [] H') v x->Q v H') /\
  (p g rest=none->∀ H',a9 [rd] H H'->E (.ref t.jk) none H')
def k7:ao->V->Nat->Prop:=fun _ v x=>v=nat x
def y2:ao->V->Int->Prop:=fun _ v x=>v=.int x
def hq:ao->V->aK->Prop:=fun H v xs=>∃ a,v=.ref a/\H a=some (.lst (xs.map nat))
theorem ax6:bootBuiltins "max"=some (.builtin "max"):=by decide +kernel
theorem ax7:bootBuiltins "sorted"=some (.builtin "sorted"):=by decide +kernel
theorem G7:bootBuiltins "dict"=some (.type "dict"):=by decide +kernel
theorem Yi:bootBuiltins "list"=some (.type "list"):=by decide +kernel
theorem alu:bootBuiltins "tuple"=some (.type "tuple"):=by decide +kernel
theorem ax8:bootBuiltins "range"=some (.type "range"):=by decide +kernel
theorem ax9{A:Around}{k:Nat}(aA:hH k A):A.units<cLine:=aA.ate
theorem alv{A:Around}{k:Nat}(aA:hH k A):A.units+2<cLine:=Nat.lt_of_le_of_lt (Nat.add_le_add_left (by decide:2<=64) _) aA.units
theorem dH{gH:tg}{P:fw}{w:e3}{K:cn}{av:g9}{base:Heap}{N:List Str}{qual:Str}{scope:Scope}{f:au}{cd:aO}{A:Around}{outer:List Env}{s:aX}{H:ao}{E ax_:cM} :
  sl ((sa gH P w K av base N qual scope f cd A outer s H E).exc ax_):=⟨_,_,_,rfl,rfl,rfl⟩
theorem nY{a:V}:[a].length<=sizeLine:=by rw[sizeLine_eq];show 1<=_;decide
theorem tW{a b:V}:[a,b].length<=sizeLine:=by rw[sizeLine_eq];show 2<=_;decide
theorem ax'{a b c:V}:[a,b,c].length<=sizeLine:=by rw[sizeLine_eq];show 3<=_;decide
theorem len0{a:List V}(h:a=[]):a.length<sizeLine:=by rw[sizeLine_eq,h];decide
theorem jQ{n:Nat}(h:n<=65536):n<sizeLine:=Nat.lt_of_le_of_lt h (by rw[sizeLine_eq];decide)
theorem RW{n:Nat}(h:n<=65536):n<=sizeLine:=z' (jQ h)
section
variable{X:bR}{K':cn}
theorem Cu(hu:X.K=K'):JX X (JZ K'):=hu▸gx
theorem Cv(hu:X.K=K'):JX X (J0 K'):=hu▸Bu
abbrev aya(K:cn):List V->ao->bx->Prop:=fun xs H Q=>∃ p bN,xs=[.ref p]/\(aT K H p bN\/fM K H p bN)/\Q (.int bN.length) H
theorem afX(hu:X.K=K'):q8 X (.builtin "len") (aya K'):=hu▸iG
theorem ry{e:Expr}{f:Str}{pos:PySem.Pos}{cN:TE}(hu:X.K=K')(he:PE X e cN)(ak:attributeBase e f X.env (eval e X.env)=eval e X.env):PE X (.Attribute e f pos) (Vv K' cN f):=hu▸bO he ak
theorem alw{es:List Expr}{k:Nat}{t:yq}{n:Nat}{pos:PySem.Pos}(hu:X.K=K')(aU:X.calm=true)(h:JK X es t)
  (aR:(assignEach es X.env).length=n:=by rfl) (m1:(assignEach es X.env).findIdx? (·.1)=none:=by rfl):PG X (.Tuple es k pos) (abl K' n t):=hu▸s7 aU h aR m1
abbrev afY(K:cn)(cN:TE):TT:=fun σ H Q=>cN σ H fun x H'=>∃ k,abA K x H' k/\Q k H'
theorem ayb{a:Expr}{cN:TE}(hu:X.K=K')(aW:PE X a cN)(he:∀ whole,isTrue a X.env whole=(do let v ← whole;standAt a.pos;holding [v] (truthy v))):pJ X a (afY K' cN):=hu▸Bp aW he
end
theorem cA{a1 a2:TS}{D s H}(h:let iD:=a2;c3 a1 iD D s H):(c3 a1 a2) D s H:=h
theorem dY{a1 a2 a3:TS}{D s H}(h:let kp:=a3;let iD:=c3 a2 kp;c3 a1 iD D s H):(c3 a1 (c3 a2 a3)) D s H:=h
theorem hG{a1 a2 a3 a4:TS}{D s H}(h:let qw:=a4;let kp:=c3 a3 qw;let iD:=c3 a2 kp;c3 a1 iD D s H):(c3 a1 (c3 a2 (c3 a3 a4))) D s H:=h
theorem mb{a1 a2 a3 a4 a5:TS}{D s H}(h:let s8:=a5;let qw:=c3 a4 s8;let kp:=c3 a3 qw;let iD:=c3 a2 kp;c3 a1 iD D s H):(c3 a1 (c3 a2 (c3 a3 (c3 a4 a5)))) D s H:=h
theorem wL{a1 a2 a3 a4 a5 tX:TS}{D s H}(h:let Cw:=tX;let s8:=c3 a5 Cw;let qw:=c3 a4 s8;let kp:=c3 a3 qw;let iD:=c3 a2 kp;c3 a1 iD D s H):(c3 a1 (c3 a2 (c3 a3 (c3 a4 (c3 a5 tX))))) D s H:=h
theorem uZ{a1 a2 a3 a4 a5 tX y5:TS}{D s H}(h:let Bk:=y5;let Cw:=c3 tX Bk;let s8:=c3 a5 Cw;let qw:=c3 a4 s8;let kp:=c3 a3 qw;let iD:=c3 a2 kp;c3 a1 iD D s H):(c3 a1 (c3 a2 (c3 a3 (c3 a4 (c3 a5 (c3 tX y5)))))) D s H:=h
theorem Gg{a1 a2 a3 a4 a5 tX y5 RX:TS}{D s H}(h:let afZ:=RX;let Bk:=c3 y5 afZ;let Cw:=c3 tX Bk;let s8:=c3 a5 Cw;let qw:=c3 a4 s8;let kp:=c3 a3 qw;let iD:=c3 a2 kp;c3 a1 iD D s H):(c3 a1 (c3 a2 (c3 a3 (c3 a4 (c3 a5 (c3 tX (c3 y5 RX))))))) D s H:=h
theorem ayc{a1 a2 a3 a4 a5 tX y5 RX alx aly alz alA:TS}{D s H}(h:let ayd:=alA;let aye:=c3 alz ayd;let x10:=c3 aly aye;let Wa:=c3 alx x10;let afZ:=c3 RX Wa;let Bk:=c3 y5 afZ;let Cw:=c3 tX Bk;let s8:=c3 a5 Cw;let qw:=c3 a4 s8;let kp:=c3 a3 qw;let iD:=c3 a2 kp;c3 a1 iD D s H):(c3 a1 (c3 a2 (c3 a3 (c3 a4 (c3 a5 (c3 tX (c3 y5 (c3 RX (c3 alx (c3 aly (c3 alz alA))))))))))) D s H:=h
inductive fa(f:V->ao->bx->cM->Prop)(vs:List V)(H:ao)(Q:bx)(E:cM):Prop
 |mk (a:V) (aZ:vs=[a]) (q:f a H Q E)
inductive fQ(f:V->V->ao->bx->cM->Prop)(vs:List V)(H:ao)(Q:bx)(E:cM):Prop
 |mk (a b:V) (aZ:vs=[a,b]) (q:f a b H Q E)
inductive gb(f:V->V->V->ao->bx->cM->Prop)(vs:List V)(H:ao)(Q:bx)(E:cM):Prop
 |mk (a b c:V) (aZ:vs=[a,b,c]) (q:f a b c H Q E)
inductive nk(f:V->V->V->V->ao->bx->cM->Prop)(vs:List V)(H:ao)(Q:bx)(E:cM):Prop
 |mk (a b c d:V) (aZ:vs=[a,b,c,d]) (q:f a b c d H Q E)
inductive xB(f:V->V->V->V->V->ao->bx->cM->Prop)(vs:List V)(H:ao)(Q:bx)(E:cM):Prop
 |mk (a b c d e:V) (aZ:vs=[a,b,c,d,e]) (q:f a b c d e H Q E)
section
variable{vs:List V}{H:ao}{Q:bx}{E:cM}
theorem fa.len{f}(h:fa f vs H Q E):vs.length=1:=by obtain⟨_,rfl,_⟩:=h;rfl
theorem fa.cW{F}:∀ vs H Q E,fa F vs H Q E->vs.length=1:=fun _ _ _ _ h=>fa.len h
theorem fQ.len{f}(h:fQ f vs H Q E):vs.length=2:=by obtain⟨_,_,rfl,_⟩:=h;rfl
theorem fQ.cW{F}:∀ vs H Q E,fQ F vs H Q E->vs.length=2:=fun _ _ _ _ h=>fQ.len h
theorem gb.len{f}(h:gb f vs H Q E):vs.length=3:=by obtain⟨_,_,_,rfl,_⟩:=h;rfl
theorem gb.cW{F}:∀ vs H Q E,gb F vs H Q E->vs.length=3:=fun _ _ _ _ h=>gb.len h
theorem nk.len{f}(h:nk f vs H Q E):vs.length=4:=by obtain⟨_,_,_,_,rfl,_⟩:=h;rfl
theorem nk.cW{F}:∀ vs H Q E,nk F vs H Q E->vs.length=4:=fun _ _ _ _ h=>nk.len h
theorem xB.len{f}(h:xB f vs H Q E):vs.length=5:=by obtain⟨_,_,_,_,_,rfl,_⟩:=h;rfl
theorem xB.cW{F}:∀ vs H Q E,xB F vs H Q E->vs.length=5:=fun _ _ _ _ h=>xB.len h
end
def iJ(H:ao)(x dx C:au)(fs:List (Str×V)):ao:=upd (upd H dx (.own x)) x (.ins C dx fs)
section
variable{H:ao}{x dx C:au}{fs A_:List (Str×V)}
theorem rz:iJ H x dx C fs x=some (.ins C dx fs):=a7
theorem nZ(cT:H x=none)(nd:H dx=none):aQ H (iJ H x dx C fs):=fun b o e=>by
 unfold iJ;rw[a6 (bQ e cT),a6 (bQ e nd)];exact e
end
inductive alB(C:au)(f1 f2:Str)(s a b:V)(H:ao)(Q:bx)(pT:cM):Prop
 |mk (x dx):s=.ref x->H x=some (.ins C dx [])->Q .non (upd H x (.ins C dx [(f1,a),(f2,b)]))->alB C f1 f2 s a b H Q pT
def Yj(C:au)(f1 f2:Str):eX:=gb (alB C f1 f2)
inductive alC(C:au)(f1 f2 fJ:Str)(s a b c:V)(H:ao)(Q:bx)(xC:cM):Prop
 |mk (x dx):s=.ref x->H x=some (.ins C dx [])->Q .non (upd H x (.ins C dx [(f1,a),(f2,b),(fJ,c)]))->alC C f1 f2 fJ s a b c H Q xC
def RZ(C:au)(f1 f2 fJ:Str):eX:=nk (alC C f1 f2 fJ)
inductive alD(C:au)(f1 f2 fJ f4:Str)(s a b c d:V)(H:ao)(Q:bx)(af0:cM):Prop
 |mk (x dx):s=.ref x->H x=some (.ins C dx [])->Q .non (upd H x (.ins C dx [(f1,a),(f2,b),(fJ,c),(f4,d)]))->alD C f1 f2 fJ f4 s a b c d H Q af0
def alE(C:au)(f1 f2 fJ f4:Str):eX:=xB (alD C f1 f2 fJ f4)
section
variable{H:ao}{C:au}{f1 f2 fJ f4:Str}{a b c d:V}{G8:au->ao->Prop}{E:cM}
theorem af2(h:∀ x dx,H x=none->H dx=none->G8 x (iJ H x dx C [(f1,a),(f2,b)])):∀ x dx,H x=none->H dx=none->dx≠x ->
  Yj C f1 f2 (.ref x::([a,b]++[])) (upd (upd H dx (.own x)) x (.ins C dx [])) (fun v aB=>v=.non/\G8 x aB) E:=fun x dx cT nd _ =>
 ⟨_,_,_,rfl,x,dx,rfl,a7,rfl,by rw[ig];exact h x dx cT nd⟩
theorem R0(h:∀ x dx,H x=none->H dx=none->G8 x (iJ H x dx C [(f1,a),(f2,b),(fJ,c)])):∀ x dx,H x=none->H dx=none->dx≠x ->
  RZ C f1 f2 fJ (.ref x::([a,b,c]++[])) (upd (upd H dx (.own x)) x (.ins C dx [])) (fun v aB=>v=.non/\G8 x aB) E:=fun x dx cT nd _ =>
 ⟨_,_,_,_,rfl,x,dx,rfl,a7,rfl,by rw[ig];exact h x dx cT nd⟩
theorem ayf(h:∀ x dx,H x=none->H dx=none->G8 x (iJ H x dx C [(f1,a),(f2,b),(fJ,c),(f4,d)])):∀ x dx,H x=none->H dx=none->dx≠x ->
  alE C f1 f2 fJ f4 (.ref x::([a,b,c,d]++[])) (upd (upd H dx (.own x)) x (.ins C dx [])) (fun v aB=>v=.non/\G8 x aB) E:=fun x dx cT nd _ =>
 ⟨_,_,_,_,_,rfl,x,dx,rfl,a7,rfl,by rw[ig];exact h x dx cT nd⟩
end
abbrev fC{α:Type}(Rep:ao->V->α->Prop):Prop:=∀ H H' v x,aQ H H'->Rep H v x->Rep H' v x
theorem vq:fC k7:=fun _ _ _ _ _ h=>h
theorem alF:fC y2:=fun _ _ _ _ _ h=>h
theorem hc:fC hq:=fun _ _ _ _ s ⟨a,e,h⟩=>⟨a,e,s _ _ h⟩
inductive hg{α:Type}(Rep:ao->V->α->Prop)(H:ao)(v:V)(xs:List α):Prop
 |mk (a vs):v=.ref a->H a=some (.lst vs)->Paired (Rep H) vs xs->hg Rep H v xs
theorem fK{α:Type}{Rep:ao->V->α->Prop}(m:fC Rep):fC (hg Rep):=fun _ _ _ _ s ⟨a,vs,e,h,p⟩=>⟨a,vs,e,s _ _ h,Paired.d7 p fun _ _ r=>m _ _ _ _ s r⟩
theorem G9{α β:Type}{F:α->β->Prop}:∀ {l:List α} {r:List β} {a:α} {b:β},Paired F l r->F a b->Paired F (l++[a]) (r++[b])
 |_,_,_,_,.nil,h=>.cons h .nil
 |_,_,_,_,.cons q t,h=>.cons q (G9 t h)
theorem alG:∀ {H:ao} {vs:List V} {xs:aK},Paired (k7 H) vs xs->vs=xs.map nat
 |_,_,_,.nil=>rfl
 |_,_,_,.cons (h:_=nat _) t=>by rw[fT,← alG t,h]
theorem Yk{H:ao}{v:V}{xs:aK}(h:hg k7 H v xs):hq H v xs:=by
 obtain⟨a,vs,e,aW,p⟩:=h;exact⟨a,e,by rw[aW,alG p]⟩
theorem y7{α β:Type}{F:α->β->Prop}:∀ {l:List α} {r:List β} {i:Nat} {b:β},Paired F l r->r[i]?=some b->∃ a,l[i]?=some a/\F a b
 |_,_,_,_,.nil,h=>by simp at h
 |_,_,0,_,.cons q _,h=>by simp at h;subst h;exact⟨_,Z,q⟩
 |_,_,i+1,_,.cons _ t,h=>by simpa using y7 t (by simpa using h)
theorem mF{α β:Type}{F:α->β->Prop}:∀ {l:List α} {r:List β} {i:Nat} {a:α},Paired F l r->l[i]?=some a->∃ b,r[i]?=some b/\F a b
 |_,_,_,_,.nil,h=>by simp at h
 |_,_,0,_,.cons q _,h=>by simp at h;subst h;exact⟨_,Z,q⟩
 |_,_,i+1,_,.cons _ t,h=>by simpa using mF t (by simpa using h)
theorem f5{α β:Type}{F:α->β->Prop}{l:List α}{r:List β}(p:Paired F l r):l.length=r.length:=Paired.length p
section
variable{t:bW}{α:Type}{p:Sw28.P α}{Rep:ao->V->α->Prop}{A H H':ao}{rd ca L:au}{bs ky:Sw28.B}{g i:Nat}
def Many(t:bW){α:Type}(p:Sw28.P α)(Rep:ao->V->α->Prop)(A:ao)(rd ca L:au)(bs ky:Sw28.B)(g i:Nat)(H:ao):Prop :=
 ∃ xs r vs,times p i ky=some (xs,r)/\eb t H rd ca bs r g/\a9 [rd] A H/\H L=some (.lst vs)/\Paired (Rep (bG A [L] H)) vs xs
theorem Many.start(R:eb t H rd ca bs ky g)(k:a9 [rd] A H)(c4:H L=some (.lst [])):Many t p Rep A rd ca L bs ky g 0 H:=⟨[],ky,[],rfl,R,k,c4,.nil⟩
theorem R1(mono:fC Rep)(qN:A rd≠none)(k:a9 [rd] A H)(G_:H rd≠none)(c4:∀ b∈(LL:d1),H b≠none){v:V}{x:α}(rep:Rep (bG H [] H') v x):Rep (bG A LL H') v x :=
 mono _ _ _ _ (tU (k.dom fun b ak=>by simp at ak;rw[ak];exact G_) c4) rep
theorem Many.next(mono:fC Rep)(qN:A rd≠none)(R2:A ca≠none)(mA:A L=none){xs:List α}{r:Sw28.B}{vs:List V}(h1:times p i ky=some (xs,r))(k:a9 [rd] A H)(c4:H L=some (.lst vs))(aL:Paired (Rep (bG A [L] H)) vs xs)
  {x:α} {r':Sw28.B} {v:V} (aq:p r=some (x,r')) (k6:eb t H' rd ca bs r' g) (k':a9 [rd] H H') (rep:Rep (bG A [L] H') v x) :
  H' L=some (.lst vs)/\Many t p Rep A rd ca L bs ky g (i+1) (upd H' L (.lst (vs++[v]))):=by
 have iZ:L≠rd:=fun e=>qN (e▸mA);have acs:L≠ca:=fun e=>R2 (e▸mA);have ayg:H' L=some (.lst vs):=k' _ _ (by simp[iZ]) c4;have dA:a9 [rd] A (upd H' L (.lst (vs++[v]))):=(k.trans k').xA mA;refine⟨ayg,xs++[x],r',vs++[v],?_,k6.upd iZ acs,dA,a7,?_⟩
 ·rw[El,h1];simp[aq]
 ·have s1:aQ (bG A [L] H) (bG A [L] H'):=jA k' fun b ak=>by simp at ak;exact .inl (ak▸qN)
  have s2:aQ (bG A [L] H') (bG A [L] (upd H' L (.lst (vs++[v])))):=jA (M:=[L]) (a9.pR (by simp)) fun b ak=>.inr ak;exact G9 (Paired.d7 aL fun _ _ q=>mono _ _ _ _ (s1.trans s2) q) (mono _ _ _ _ s2 rep)
theorem Many.done(mono:fC Rep)(c4:A L=none)(m:Many t p Rep A rd ca L bs ky g i H):∃ xs r,times p i ky=some (xs,r)/\eb t H rd ca bs r g/\a9 [rd] A H/\hg Rep (bG A [] H) (.ref L) xs:=by
 obtain⟨xs,r,vs,h1,R,k,h,p⟩:=m;exact⟨xs,r,h1,R,k,L,vs,Z,eu.mpr ⟨c4,by simp,h⟩,Paired.d7 p fun _ _ q=>mono _ _ _ _ (y1 (by simp)) q⟩
abbrev One(t:bW){α:Type}(p:Sw28.P α)(Rep:ao->V->α->Prop)(H:ao)(rd ca:au)(bs r:Sw28.B)(g:Nat)(Q:bx)(E:cM):Prop :=
 (∀ x r' v H',p r=some (x,r')->eb t H' rd ca bs r' g->a9 [rd] H H'->Rep (bG H [] H') v x->Q v H')/\(p r=none->∀ H',a9 [rd] H H'->E (.ref t.jk) none H')
theorem R3{σ:St}{H:ao}{A N:ao->Prop}(h:A H):sb σ H fun b aJ=>if b=true then A aJ else N aJ:=by
 show if true=true then A H else N H;rw[bL rfl];exact h
theorem xD{te:TE}{σ:St}{dA n:Nat}{gv:ao->Prop}{E:cM}{D:au}(mono:fC Rep)(R:eb t H rd ca bs ky g)(aR:n<=65536)(bp:H D=none)
  (rA:∀ (i:Nat) (H1:ao) (r:Sw28.B) (eo:bx),eb t H1 rd ca bs r g->a9 [rd] H H1->One t p Rep H1 rd ca bs r g eo E->te ((wipe σ [dA]).set dA (some (.int (0+(i:Nat))))) H1 eo)
  (k1:∀ xs r H',times p n ky=some (xs,r)->eb t H' rd ca bs r g->a9 [rd] H H'->hg Rep (bG H [] H') (.ref D) xs->gv H')
  (k2:times p n ky=none->∀ H',a9 [rd] H H'->E (.ref t.jk) none H') :
  ∃ W:Nat->Nat->ao->Prop,(∃ m,W 0 m (upd H D (.lst [])))/\∀ i m H,W i m H ->
   ((oK 0 n).stop i H/\gv H)\/((oK 0 n).go i H/\∃ fP:ao->Prop,(∀ H',fP H'->∃ dT,dT<m/\W (i+1) dT H')/\∀ x H',(oK 0 n).mc i H x H'->kW dA x (wipe σ [dA]) H' fun dV aB=>wipe dV [dA]=wipe σ [dA]/\sb dV aB fun b aJ =>
    if b=true then te dV aJ fun y bB=>∃ acc,bB D=some (.lst acc)/\acc.length<sizeLine/\fP (upd bB D (.lst (acc++[y])))else fP aJ):=by
 have qN:=R.dom;have R2:=R.sz;refine ab4 (lo:=0) (gv:=gv) (fun i H1=>Many t p Rep H rd ca D bs ky g i H1) (.start (R.new bp) (a9.iY bp) a7) (fun i H1 hi m=>?_) fun H1 m=>?_
 ·obtain⟨xs,r,vs,h1,dp,k,h,pp⟩:=m;refine⟨by simp[wipe],R3 (rA i H1 r _ dp k ⟨fun x r' v H' aq k6 k' rep=>?_,fun lD H' k'=>?_⟩)⟩
  ·have xE:=R1 (LL:=[D]) mono qN k dp.dom (fun b ak=>by simp at ak;rw[ak];exact j4 h) rep
   obtain⟨e,dT⟩:=Many.next mono qN R2 bp h1 k h pp aq k6 k' xE;refine⟨vs,e,?_,dT⟩;have:=mW _ h1;rw[f5 pp];exact jQ (by simp at this;omega)
  ·exact k2 (x8 p h1 lD n hi) H' (k.trans k')
 ·obtain⟨xs,r,h1,dp,k,rl⟩:=m.done mono bp;exact k1 xs r H1 h1 dp k rl
end
inductive alH{α:Type}(t:bW)(p:Nat->Sw28.P α)(Rep:ao->V->α->Prop)(a:V)(H:ao)(Q:bx)(E:cM):Prop
 |mk (rd):a=.ref rd->rx t p Rep H rd Q E->alH t p Rep a H Q E
def jB{α:Type}(t:bW)(p:Nat->Sw28.P α)(Rep:ao->V->α->Prop):eX:=fa (alH t p Rep)
section
variable{t:bW}{α:Type}{p:Nat->Sw28.P α}{Rep:ao->V->α->Prop}{H:ao}{rd ca:au}{bs rest:Sw28.B}{g i:Nat}{σ:St}{Q:bx}{E:cM}{m:Str}{sp:eX}{cN:TA}
theorem iK(R:eb t H rd ca bs rest g)(aZ:σ[i]?=some (some (.ref rd)))(h:cN σ H fun vs aB=>sp (.ref rd::(vs++[])) aB Q E)(hm:∀ a n g,(tV a n g).lookup m=none:=by intros;rfl):Fw t.iI m sp [] E (gg i) cN σ H Q:=by
 obtain⟨dx,n,bA,_⟩:=R.cX;exact⟨_,aZ,rd,dx,_,Z,bA,hm _ _ _,h⟩
theorem hU(R:eb t H rd ca bs rest g)(aZ:σ[i]?=some (some (.ref rd)))(o:One t (p g) Rep H rd ca bs rest g Q E)(hm:∀ a n g,(tV a n g).lookup m=none:=by intros;rfl):Fw t.iI m (jB t p Rep) [] E (gg i) m9 σ H Q :=
 iK R aZ ⟨_,rfl,rd,rfl,ca,bs,rest,g,R,o.1,o.2⟩ hm
theorem mG(R:eb t H rd ca bs rest g)(aZ:σ[i]?=some (some (.ref rd)))(o:One t (p g) Rep H rd ca bs rest g Q E):Vx (jB t p Rep) [] E (nR (gg i) m9) σ H Q :=
 ⟨_,aZ,_,rfl,rd,rfl,ca,bs,rest,g,R,o.1,o.2⟩
end
section
variable{P:fw}{w:e3}{K:cn}{av:g9}{base:Heap}{t:bW}
theorem ayh(T:Txt K av t):cI P w K av base (cL P w) 1 t.Kw t.Ky ["self","before","there","behind","acts"] (alE t.rp "before" "there" "behind" "acts"):=by
 refine T.Wm.cY axD xB.cW ?_;rintro bJ A outer s H _ Q E aA ⟨bV,vg,b1,iu,jP,rfl,x,dx,rfl,aq,q⟩;refine⟨_,(aV (eV (aj 0) (aj 1) Z) (aV (eV (aj 0) (aj 2) Z) (aV (eV (aj 0) (aj 3) Z) (bj (eV (aj 0) (aj 4) Z))))),?_⟩;apply hG;intros;refine⟨_,Z,_,Z,x,_,dx,_,Z,aq,T.su,T.Wk,by show 0<1000;decide,?_⟩;refine⟨_,Z,_,Z,x,_,dx,_,Z,a7,T.su,T.Qy,by show 1<1000;decide,?_⟩;refine⟨_,Z,_,Z,x,_,dx,_,Z,a7,T.su,T.Wl,by show 2<1000;decide,?_⟩;refine⟨_,Z,_,Z,x,_,dx,_,Z,a7,T.su,T.Qz,by show 3<1000;decide,?_⟩;rw[ig,ig,ig];exact q
theorem ayi(T:Txt K av t):cI P w K av base (cL P w) 1 t.Kz t.KC ["self","free","allowed"] (Yj t.tG "free" "allowed"):=by
 refine T.Wo.cY axE gb.cW ?_;rintro bJ A outer s H _ Q E aA ⟨bV,vg,b1,rfl,x,dx,rfl,aq,q⟩;refine⟨_,(aV (eV (aj 0) (aj 1) Z) (bj (eV (aj 0) (aj 2) Z))),?_⟩;apply cA;intros;refine⟨_,Z,_,Z,x,_,dx,_,Z,aq,T.vm,T.Gl,by show 0<1000;decide,?_⟩;refine⟨_,Z,_,Z,x,_,dx,_,Z,a7,T.vm,T.Wn,by show 1<1000;decide,?_⟩;rw[ig];exact q
theorem alI(T:Txt K av t):cI P w K av base (cL P w) 1 t.KX t.KY ["self","kind","passes","body"] (RZ t.rq "kind" "passes" "body"):=by
 refine T.Wy.cY axG nk.cW ?_;rintro bJ A outer s H _ Q E aA ⟨bV,vg,b1,iu,rfl,x,dx,rfl,aq,q⟩;refine⟨_,(aV (eV (aj 0) (aj 1) Z) (aV (eV (aj 0) (aj 2) Z) (bj (eV (aj 0) (aj 3) Z)))),?_⟩;apply dY;intros;refine⟨_,Z,_,Z,x,_,dx,_,Z,aq,T.jx,T.tK,by show 0<1000;decide,?_⟩;refine⟨_,Z,_,Z,x,_,dx,_,Z,a7,T.jx,T.QB,by show 1<1000;decide,?_⟩;refine⟨_,Z,_,Z,x,_,dx,_,Z,a7,T.jx,T.rt,by show 2<1000;decide,?_⟩;rw[ig,ig];exact q
theorem ayj(T:Txt K av t):cI P w K av base (cL P w) 1 t.KZ t.K4 ["self","change_numbers","place_numbers"] (Yj t.qI "change_numbers" "place_numbers"):=by
 refine T.WK.cY axH gb.cW ?_;rintro bJ A outer s H _ Q E aA ⟨bV,vg,b1,rfl,x,dx,rfl,aq,q⟩;refine⟨_,(aV (eV (aj 0) (aj 1) Z) (bj (eV (aj 0) (aj 2) Z))),?_⟩;apply cA;intros;refine⟨_,Z,_,Z,x,_,dx,_,Z,aq,T.Gn,T.Wz,by show 0<1000;decide,?_⟩;refine⟨_,Z,_,Z,x,_,dx,_,Z,a7,T.Gn,T.WD,by show 1<1000;decide,?_⟩;rw[ig];exact q
theorem ayk(T:Txt K av t):cI P w K av base (cL P w) 1 t.Lf t.Lg ["self","order","length","joined"] (RZ t.ni "order" "length" "joined"):=by
 refine T.W2.cY axK nk.cW ?_;rintro bJ A outer s H _ Q E aA ⟨bV,vg,b1,iu,rfl,x,dx,rfl,aq,q⟩;refine⟨_,(aV (eV (aj 0) (aj 1) Z) (aV (eV (aj 0) (aj 2) Z) (bj (eV (aj 0) (aj 3) Z)))),?_⟩;apply dY;intros;refine⟨_,Z,_,Z,x,_,dx,_,Z,aq,T.vo,T.QG,by show 0<1000;decide,?_⟩;refine⟨_,Z,_,Z,x,_,dx,_,Z,a7,T.vo,T.QH,by show 1<1000;decide,?_⟩;refine⟨_,Z,_,Z,x,_,dx,_,Z,a7,T.vo,T.W0,by show 2<1000;decide,?_⟩;rw[ig,ig];exact q
theorem ayl(T:Txt K av t):cI P w K av base (cL P w) 1 t.Mj t.Mk ["self","mark_class","right","up"] (RZ t.qJ "mark_class" "right" "up"):=by
 refine T.Xg.cY axP nk.cW ?_;rintro bJ A outer s H _ Q E aA ⟨bV,vg,b1,iu,rfl,x,dx,rfl,aq,q⟩;refine⟨_,(aV (eV (aj 0) (aj 1) Z) (aV (eV (aj 0) (aj 2) Z) (bj (eV (aj 0) (aj 3) Z)))),?_⟩;apply dY;intros;refine⟨_,Z,_,Z,x,_,dx,_,Z,aq,T.tL,T.QM,by show 0<1000;decide,?_⟩;refine⟨_,Z,_,Z,x,_,dx,_,Z,a7,T.tL,T.QS,by show 1<1000;decide,?_⟩;refine⟨_,Z,_,Z,x,_,dx,_,Z,a7,T.tL,T.QT,by show 2<1000;decide,?_⟩;rw[ig,ig];exact q
theorem aym(T:Txt K av t):cI P w K av base (cL P w) 1 t.Ml t.Mp ["self","marks","bases"] (Yj t.rr "marks" "bases"):=by
 refine T.Xj.cY axQ gb.cW ?_;rintro bJ A outer s H _ Q E aA ⟨bV,vg,b1,rfl,x,dx,rfl,aq,q⟩;refine⟨_,(aV (eV (aj 0) (aj 1) Z) (bj (eV (aj 0) (aj 2) Z))),?_⟩;apply cA;intros;refine⟨_,Z,_,Z,x,_,dx,_,Z,aq,T.Gu,T.Xh,by show 0<1000;decide,?_⟩;refine⟨_,Z,_,Z,x,_,dx,_,Z,a7,T.Gu,T.Xi,by show 1<1000;decide,?_⟩;rw[ig];exact q
theorem ayn(T:Txt K av t):cI P w K av base (cL P w) 1 t.Mq t.Mr ["self","right","up","wider"] (RZ t.vl "right" "up" "wider"):=by
 refine T.Xn.cY axR nk.cW ?_;rintro bJ A outer s H _ Q E aA ⟨bV,vg,b1,iu,rfl,x,dx,rfl,aq,q⟩;refine⟨_,(aV (eV (aj 0) (aj 1) Z) (aV (eV (aj 0) (aj 2) Z) (bj (eV (aj 0) (aj 3) Z)))),?_⟩;apply dY;intros;refine⟨_,Z,_,Z,x,_,dx,_,Z,aq,T.yS,T.Xk,by show 0<1000;decide,?_⟩;refine⟨_,Z,_,Z,x,_,dx,_,Z,a7,T.yS,T.Xl,by show 1<1000;decide,?_⟩;refine⟨_,Z,_,Z,x,_,dx,_,Z,a7,T.yS,T.Xm,by show 2<1000;decide,?_⟩;rw[ig,ig];exact q
theorem ayo(T:Txt K av t):cI P w K av base (cL P w) 1 t.Lq t.Lr ["self","content"] (fQ fun s c H Q _=>∃ x dx ca,s=.ref x/\c=.ref ca/\H x=some (.ins t.iI dx [])/\Q .non (upd H x (.ins t.iI dx (tV ca 0 0)))):=by
 refine T.W8.cY axM fQ.cW ?_;rintro bJ A outer s H _ Q E aA ⟨bV,c,rfl,x,dx,ca,rfl,rfl,aq,q⟩;refine⟨_,(aV (eV (aj 0) (aj 1) Z) (aV (eV (aj 0) b3 Z) (bj (eV (aj 0) b3 Z)))),?_⟩;apply dY;intros;refine⟨_,Z,_,Z,x,_,dx,_,Z,aq,T.dU,T.Gq,by show 0<1000;decide,?_⟩;refine⟨_,Z,x,_,dx,_,Z,a7,T.dU,T.Cg,by show 1<1000;decide,?_⟩;refine⟨_,Z,x,_,dx,_,Z,a7,T.dU,T.yQ,by show 2<1000;decide,?_⟩;rw[ig,ig];exact q
theorem af3{bs:Sw28.B}{n:Nat}(h:n<bs.length):byte (bs.drop n)=some (bs[n],bs.drop (n+1)):=by
 rw[z7 h];rfl
theorem alJ{bs:Sw28.B}{n:Nat}(h:bs.length<=n):byte (bs.drop n)=none:=by
 rw[Ed h];rfl
theorem Yl(T:Txt K av t):cI P w K av base (cL P w) 2 t.Ls t.Lw ["self"] (jB t (fun _=>byte) k7):=by
 refine T.W9.cY ald fa.cW ?_;rintro bJ A outer s H _ Q E aA ⟨bV,rfl,rd,rfl,ca,bs,rest,g,R,k1,k2⟩;try simp only at k1 k2
 refine⟨_,(aV (er (dG (qL T) aA.bf Z T.oV T.nj.aG T.qK .nil bh (aD (nQ q9 (bO (aj 0) Z) (hv iG Z T.hA hM (aD (bO (aj 0) Z) aM)) (fe _)) aM))) (aV (cp (i:=1) ald.nd Z (Or.inl Z) (eN gx (bO (aj 0) Z) (bO (aj 0) Z) (fun _ _=>Z))) (aV (ajX (aj 0) b3 ajY) (bj (dK (aj 1)))))),?_⟩;apply hG;intros;obtain⟨dx,n,bA,rfl,aR⟩:=R.cX;refine⟨_,Z,rd,_,dx,_,_,Z,bA,T.dU,T.Cg,Z,?_⟩;refine⟨_,Z,rd,_,dx,_,_,Z,bA,T.dU,T.Gq,Z,ca,_,Z,.inl (aT.of R.sx),_,_,Z,Z,_,Z,fun ak=>?_,fun ak=>?_⟩
 ·have cZ:n<bs.length:=by simpa using ak
  refine⟨_,Z,rd,_,dx,_,_,Z,bA,T.dU,T.Gq,Z,?_⟩;refine⟨_,Z,rd,_,dx,_,_,Z,bA,T.dU,T.Cg,Z,ca,_,_,_,Z,Z,aT.of R.sx,gM (v:=nat bs[n]) (by simp[cZ]),?_⟩;refine⟨_,Z,rd,_,dx,_,_,Z,bA,T.dU,T.Cg,Z,_,_,Z,Z,dx,_,bA,by show 3<1000;decide,?_⟩;refine⟨_,Z,?_⟩;refine k1 bs[n] (bs.drop (n+1)) _ _ (af3 cZ) ⟨⟨dx,n+1,?_,rfl,cZ⟩,?_,R.lt,R.ln⟩ (a9.pR (by simp)) rfl
  ·rw[a7];rfl
  ·rw[a6 R.ne];exact R.sx
 ·have hle:bs.length<=n:=by simpa using ak
  exact k2 (alJ hle) H (a9.refl _ _)
theorem af4(r:Sw28.B):u16 r=(byte r).bind fun a=>(byte a.2).map fun b=>(a.1 * 256+b.1,b.2):=by
 match r with
 | []=>rfl
 | [a]=>rfl
 |a::b::r=>simp[u16,byte,Nat.mul_comm]
theorem ayp{bs r r':Sw28.B}{x:Nat}(ak:∀ b∈r,b<256)(h:byte r=some (x,r')):x<256/\∀ b∈r',b<256:=by
 match r,h with
 |a::r,h =>
  simp only[byte,Option.some.injEq,Prod.mk.injEq]at h;obtain⟨rfl,rfl⟩:=h;exact⟨ak _ h9,fun b hm=>ak b (hZ _ hm)⟩
theorem eb.small{H:ao}{rd ca:au}{bs rest:Sw28.B}{g:Nat}(R:eb t H rd ca bs rest g):∀ b∈rest,b<256:=by
 obtain⟨dx,n,_,e,_⟩:=R.cX;intro b ak;rw[e]at ak;exact R.lt b (Uk ak)
theorem alK{r r':Sw28.B}{x:Nat}(ak:∀ b∈r,b<256)(h:u16 r=some (x,r')):x<65536:=by
 match r,h with
 |a::b::r,h =>
  simp only[u16,Option.some.injEq,Prod.mk.injEq]at h;have h1:=ak a (by simp);have aC:=ak b (by simp);omega
theorem alL{i j:Int}(h1:0<=i)(aC:i<4294967296):Vu i j:=.inl ⟨by omega,by omega⟩
theorem Cx(T:Txt K av t):cI P w K av base (cL P w) 3 t.Lx t.Ly ["self"] (jB t (fun _=>u16) k7):=by
 refine T.W_.cY ale fa.cW ?_;rintro bJ A outer s H _ Q E aA ⟨bV,rfl,rd,rfl,ca,bs,rest,g,R,k1,k2⟩;try simp only at k1 k2
 refine⟨_,(aV (cp (i:=1) ale.nd Z (Or.inl Z) (gu (aj 0) T.dU T.Gs (Yl T) aA.bf T.X6 .nil bh)) (bj (dK (e4 m7 (e4 ajK (aj 1) b3) (gu (aj 0) T.dU T.Gs (Yl T) aA.bf T.X6 .nil bh))))),?_⟩;apply cA;intros;refine hU R rfl ⟨fun x r v H1 aq dp cC rep=>?_,fun aR H' aG=>k2 (by show u16 rest=none;rw[af4,aR];rfl) H' aG⟩;subst rep;have Kc:=(ayp (bs:=bs) R.small aq).1;refine⟨_,Z,_,_,Z,Z,alL (by omega) (by omega),?_⟩;refine hU dp rfl ⟨fun y dm v aB aP cO bZ rep=>?_,fun aR H' aG=>k2 (by show u16 rest=none;rw[af4,aq];simp[aR]) H' (cC.trans aG)⟩;subst rep;refine⟨_,_,Z,Z,?_⟩;exact k1 (x * 256+y) dm _ aB (by show u16 rest=_;rw[af4,aq];simp[aP]) cO (cC.trans bZ) (by show V.int _=nat _;simp[nat])
theorem af5(T:Txt K av t):cI P w K av base (cL P w) 4 t.Lz t.LC ["self"] (jB t (fun _=>Sw28.u32) k7):=by
 refine T.Xa.cY alf fa.cW ?_;rintro bJ A outer s H _ Q E aA ⟨bV,rfl,rd,rfl,ca,bs,rest,g,R,k1,k2⟩;try simp only at k1 k2
 refine⟨_,(aV (cp (i:=1) alf.nd Z (Or.inl Z) (gu (aj 0) T.dU T.w4 (Cx T) aA.bf T.Cm .nil bh)) (bj (dK (e4 m7 (e4 ajK (aj 1) b3) (gu (aj 0) T.dU T.w4 (Cx T) aA.bf T.Cm .nil bh))))),?_⟩;apply cA;intros;refine hU R rfl ⟨fun x r v H1 aq dp cC rep=>?_,fun aR H' aG=>k2 (by show(u16 rest).bind _=none;rw[aR];rfl) H' aG⟩;subst rep;have Kc:=alK R.small aq;refine⟨_,Z,_,_,Z,Z,alL (by omega) (by omega),?_⟩;refine hU dp rfl ⟨fun y dm v aB aP cO bZ rep=>?_,fun aR H' aG=>k2 (by show(u16 rest).bind _=none;rw[aq];simp[aR]) H' (cC.trans aG)⟩;subst rep;refine⟨_,_,Z,Z,?_⟩;exact k1 (65536 * x+y) dm _ aB (by show(u16 rest).bind _=_;rw[aq];simp[aP]) cO (cC.trans bZ) (by show V.int _=nat _;simp[nat,Int.mul_comm])
theorem G'(T:Txt K av t):cI P w K av base (cL P w) 4 t.LK t.LQ ["self"] (jB t (fun _=>s16) y2):=by
 refine T.Xb.cY alg fa.cW ?_;rintro bJ A outer s H _ Q E aA ⟨bV,rfl,rd,rfl,ca,bs,rest,g,R,k1,k2⟩;try simp only at k1 k2
 refine⟨_,(aV (cp (i:=1) alg.nd Z (Or.inl Z) (gu (aj 0) T.dU T.w4 (Cx T) aA.bf T.Cm .nil bh)) (bj (dK (Vi (gK abz (aj 1) b3 (fe _)) (e4 kv (aj 1) b3) (aj 1))))),?_⟩;apply cA;intros;refine hU R rfl ⟨fun x r v H1 aq dp cC rep=>?_,fun aR H' aG=>k2 (by show(u16 rest).map _=none;rw[aR];rfl) H' aG⟩;subst rep;refine⟨_,Z,_,_,Z,Z,_,Z,?_⟩;refine dD (fun ak=>?_) fun ak=>?_
 ·have g8:¬ x<32768:=by simp at ak;omega
  refine⟨_,Z,_,_,Z,Z,k1 ((x:Int)-65536) r _ H1 ?_ dp cC rfl⟩;show(u16 rest).map _=_;rw[aq];simp[g8]
 ·have g8:x<32768:=by simp at ak;omega
  refine⟨_,Z,k1 (x:Int) r _ H1 ?_ dp cC rfl⟩;show(u16 rest).map _=_;rw[aq];simp[g8]
theorem ayq{lo hi:Int}{r r':Sw28.B}{x:Nat}(h:u16 r=some (x,r')):ea lo hi r=if lo<=(x:Int)/\(x:Int)<=hi then some (x,r')else none:=by
 unfold ea;rw[gY,h];simp
theorem j5(T:Txt K av t):cI P w K av base (cL P w) 4 t.LR t.L1 ["self","lowest","highest"] (gb fun a b c H Q E=>∃ rd lo hi,a=.ref rd/\b=.int lo/\c=.int hi/\rx t (fun _=>ea lo hi) k7 H rd Q E):=by
 refine T.Xc.cY alh gb.cW ?_;rintro bJ A outer s H _ Q E aA ⟨bV,a1,a2,rfl,rd,lo,hi,rfl,rfl,rfl,ca,bs,rest,g,R,k1,k2⟩;try simp only at k1 k2
 refine⟨_,(aV (cp (i:=3) alh.nd Z (Or.inl Z) (gu (aj 0) T.dU T.w4 (Cx T) aA.bf T.Cm .nil bh)) (aV (er (dG (qL T) aA.bf Z T.oV T.nj.aG T.qK .nil bh (aD (nQ yt (aj 1) (aj 3) (fe _)) aM))) (aV (er (dG (qL T) aA.bf Z T.oV T.nj.aG T.qK .nil bh (aD (nQ yt (aj 3) (aj 2) (fe _)) aM))) (bj (dK (aj 3)))))),?_⟩;apply hG;intros;refine hU R rfl ⟨fun x r v H1 aq dp cC rep=>?_,fun aR H' aG=>k2 (by show(u16 rest).bind _=none;rw[aR];rfl) H' aG⟩;subst rep;have e:=ayq (lo:=lo) (hi:=hi) aq;refine⟨_,Z,_,Z,_,_,Z,Z,_,Z,fun ak=>?_,fun ak=>?_⟩
 ·have h1:lo<=(x:Int):=by simpa using ak
  refine⟨_,Z,_,Z,_,_,Z,Z,_,Z,fun ak=>?_,fun ak=>?_⟩
  ·have aC:(x:Int)<=hi:=by simpa using ak
   exact⟨_,Z,k1 x r _ H1 (by show ea lo hi rest=_;rw[e,bL ⟨h1,aC⟩]) dp cC rfl⟩
  ·have aC:¬ (x:Int)<=hi:=by simpa using ak
   exact k2 (by show ea lo hi rest=_;rw[e,bw fun z=>aC z.2]) H1 cC
 ·have h1:¬ lo<=(x:Int):=by simpa using ak
  exact k2 (by show ea lo hi rest=_;rw[e,bw fun z=>h1 z.1]) H1 cC
theorem j6{H:ao}{rd ca:au}{bs rest:Sw28.B}{g:Nat}{lo hi:Int}{Q:bx}{E:cM}(R:eb t H rd ca bs rest g)(o:One t (ea lo hi) k7 H rd ca bs rest g Q E) :
  (gb fun a b c H Q E=>∃ rd lo hi,a=.ref rd/\b=.int lo/\c=.int hi/\rx t (fun _=>ea lo hi) k7 H rd Q E) [.ref rd,.int lo,.int hi] H Q E :=
 ⟨_,_,_,rfl,rd,lo,hi,rfl,rfl,rfl,ca,bs,rest,g,R,o.1,o.2⟩
theorem tY(T:Txt K av t):cI P w K av base (cL P w) 5 t.L_ t.Ma ["self"] (jB t Sw28.sign k7):=by
 refine T.Xd.cY axN fa.cW ?_;rintro bJ A outer s H _ Q E aA ⟨bV,rfl,rd,rfl,ca,bs,rest,g,R,k1,k2⟩;try simp only at k1 k2
 refine⟨_,(bj (dK (fj (aj 0) T.dU T.jy (j5 T) aA.bf T.j2 .nil bh (aD b3 (aD (e4 kv (bO (aj 0) Z) b3) aM))))),?_⟩;obtain⟨dx,n,bA,_⟩:=id R.cX;refine iK R rfl ⟨_,rfl,rd,_,dx,_,_,rfl,bA,T.dU,T.yQ,rfl,_,_,rfl,rfl,j6 R ⟨fun x r v H1 aq dp cC rep=>?_,fun aR H' aG=>?_⟩⟩
 ·exact k1 x r v H1 (by rw[sign_eq];exact aq) dp cC rep
 ·exact k2 (by rw[sign_eq];exact aR) H' aG
theorem af6(T:Txt K av t):cI P w K av base (cL P w) 6 t.Mf t.Mg ["self","fewest","most"] (gb fun a b c H Q E=>∃ rd lo hi,a=.ref rd/\b=nat lo/\c=nat hi/\hi<=65536/\rx t (fun g=>many lo hi (Sw28.sign g)) hq H rd Q E):=by
 refine T.Xe.cY afK gb.cW ?_;rintro bJ A outer s H _ Q E aA ⟨bV,a1,a2,rfl,rd,lo,hi,rfl,rfl,rfl,alM,ca,bs,rest,g,R,k1,k2⟩;try simp only at k1 k2
 refine⟨_,(bj (dK (iH (own:=[("k",3)]) dH (fun _ _ z=>z) Z afK.nd (mg Z T.jz (aD (fj (aj 0) T.dU T.jy (j5 T) aA.bf T.j2 .nil bh (aD (aj 1) (aD (aj 2) aM))) aM)) (gW (by rfl)) (fun _ _ _ _ _=>dj (i:=3) afK.nd Z (Or.inl Z)) (fun _ _ _ _ _=>hx) (fun _ _ _ _ _=>(gu (aj 0) T.dU T.ru (tY T) aA.bf T.tQ .nil bh))))),?_⟩;refine iK R rfl ⟨_,rfl,_,rfl,j6 R ⟨fun n r v H1 aq dp cC rep=>?_,fun aR H' aG=>k2 (by rw[ou,aR];rfl) H' aG⟩⟩;subst rep;have ak:=wh aq;refine⟨_,Z,by omega,by omega,fun D bp=>?_⟩;refine xD (E:=E) (p:=Sw28.sign g) (Rep:=k7) (n:=n) vq dp (by omega) bp (fun i aB dm eo cO _ o=>hU cO rfl o) (fun xs dm aB lM cO bZ rl=>?_) fun aR aB bZ=>?_
 ·refine k1 xs dm _ aB (by rw[ou,aq];exact lM) cO (cC.trans bZ) (Yk ?_);exact fK vq _ _ _ _ (tU (cC.dom fun b ak=>by simp at ak;rw[ak];exact dp.dom) (by simp)) rl
 ·exact k2 (by rw[ou,aq];exact aR) aB (cC.trans bZ)
theorem ayr(T:Txt K av t):cI P w K av base (cL P w) 2 t.Mh t.Mi ["self"] (fa fun a H Q E=>∃ rd,a=.ref rd/\∃ ca bs rest g,eb t H rd ca bs rest g/\(rest=[]->Q .non H)/\(rest≠[]->E (.ref t.jk) none H)):=by
 refine T.Xf.cY axO fa.cW ?_;rintro bJ A outer s H _ Q E aA ⟨bV,rfl,rd,rfl,ca,bs,rest,g,R,k1,k2⟩;try simp only at k1 k2
 refine⟨_,(bj (er (dG (qL T) aA.bf Z T.oV T.nj.aG T.qK .nil bh (aD (nQ jN (bO (aj 0) Z) (hv iG Z T.hA hM (aD (bO (aj 0) Z) aM)) (fe _)) aM)))),?_⟩;obtain⟨dx,n,bA,rfl,aR⟩:=R.cX;refine⟨_,Z,rd,_,dx,_,_,Z,bA,T.dU,T.Cg,Z,?_⟩;refine⟨_,Z,rd,_,dx,_,_,Z,bA,T.dU,T.Gq,Z,ca,_,Z,.inl (aT.of R.sx),Z,_,Z,fun ak=>?_,fun ak=>?_⟩
 ·refine k1 (Ed ?_);simp at ak;omega
 ·refine k2 fun e=>?_;have:=List.drop_eq_nil_iff.mp e;simp at ak;omega
def alN(H:ao)(x y:V)(b:Bool):Prop:=(∃ i j:Int,x=.int i/\y=.int j/\b=decide (i<j))\/∃ p q ns ms,x=.ref p/\y=.ref q/\H p=some (.tup (ns.map V.int))/\H q=some (.tup (ms.map V.int))/\b=HT.lexLt ns ms
inductive alO(t:bW)(a:V)(H:ao)(Q:bx)(E:cM):Prop
 |mk (l xs) (B:Nat->Bool):a=.ref l->H l=some (.lst xs)->xs.length<=65536->(∀ k x y,xs[k]?=some x->xs[k+1]?=some y->alN H x y (B k))->((∀ k,k+1<xs.length->B k=true)->Q .non H)->(∀ k,k+1<xs.length->B k=false->E (.ref t.jk) none H)->alO t a H Q E
def R4(t:bW):eX:=fa (alO t)
theorem xF(T:Txt K av t):cI P w K av base (cL P w) 2 t.Nv t.Nx ["keys"] (R4 t):=by
 refine T.rv.cY alm fa.cW ?_;rintro bJ A outer s H _ Q E aA ⟨bV,rfl,l,xs,B,rfl,aF,hz,lJ,k1,k2⟩;try simp only at k1 k2
 refine⟨_,(bj (ho (gO dH Z) Z (abo Z T.jz (aD b3 (aD (hv iG Z T.hA hM (aD (aj 0) aM)) aM))) (dj (i:=1) alm.nd Z (Or.inl Z)) (bj (er (dG (qL T) aA.bf Z T.oV T.nj.aG T.qK .nil bh (aD (nQ (q9.or (atQ (ax9 aA))) (eN gx (aj 0) (e4 kv (aj 1) b3) (fun _ _=>Z)) (eN gx (aj 0) (aj 1) (fun _ _=>Z)) (fe _)) aM)))))),?_⟩;refine⟨_,Z,l,xs,Z,.inl (aT.of aF),_,_,Z,⟨by omega,by omega,by omega,by omega⟩,?_⟩;refine ta (fun i σ H'=>H'=H/\(∃ dA,σ=[some (.ref l),dA])/\∀ j,j<i->B j=true) ⟨rfl,⟨_,rfl⟩,fun j bM=>absurd bM (Ah _)⟩ (fun i σ H' hi ⟨e,⟨dA,a8⟩,ak⟩=>?_) fun σ H' ⟨e,_,ak⟩=>?_
 ·subst e a8;have aC:i+1<xs.length:=by omega
  have aq:xs[i]?=some xs[i]:=dR (by omega);have aP:xs[i+1]?=some xs[i+1]:=dR aC;refine⟨_,Z,_,Z,_,_,Z,Z,l,xs,_,xs[i],Z,Z,aT.of aF,at_of (j:=i) (by omega) aq,?_⟩;refine⟨_,Z,_,Z,l,xs,_,xs[i+1],Z,Z,aT.of aF,at_of (j:=i+1) (by omega) aP,?_⟩;have fin:∀ b:Bool,b=B i->als t ([V.bl b]++[]) H' (fun v H1=>(fun σ H1=>H1=H'/\(∃ dA,σ=[some (V.ref l),dA])/\∀ j,j<i+1->B j=true) [some (V.ref l),some (V.int (1+(i:Nat)))] H1) E:=fun b vr =>
   ⟨b,rfl,fun h=>⟨rfl,⟨_,rfl⟩,fun j bM=>by
    rcases Nat.lt_or_eq_of_le (Nat.le_of_lt_succ bM)with z|z
    ·exact ak j z
    ·rw[z,← vr];exact h⟩,fun h=>k2 i aC (by rw[← vr];exact h)⟩
  rcases lJ i _ _ aq aP with⟨a,b,bD,a8,dr⟩|⟨p,q,ns,ms,bD,a8,ov,e5,dr⟩
  ·exact .inl ⟨a,b,bD,a8,fin _ dr.symm⟩
  ·exact .inr ⟨p,q,ns,ms,bD,a8,fM.of ov,fM.of e5,fin _ dr.symm⟩
 ·subst e;exact k1 fun k aN=>ak k (by omega)
theorem ays(T:Txt K av t):cI P w K av base (cL P w) 2 t.Ny t.Nz ["keys"] (fa fun a H Q E=>∃ l,∃ ns:List Int,a=.ref l/\H l=some (.lst (ns.map V.int))/\ns.length<=65536/\((∀ k,k+1<ns.length->ns.getD k 0<=ns.getD (k+1) 0)->Q .non H)/\(∀ k,k+1<ns.length->¬ ns.getD k 0<=ns.getD (k+1) 0->E (.ref t.jk) none H)):=by
 refine T.QX.cY aln fa.cW ?_;rintro bJ A outer s H _ Q E aA ⟨bV,rfl,l,ns,rfl,aF,hz,k1,k2⟩;try simp only at k1 k2
 refine⟨_,(bj (ho (gO dH Z) Z (abo Z T.jz (aD b3 (aD (hv iG Z T.hA hM (aD (aj 0) aM)) aM))) (dj (i:=1) aln.nd Z (Or.inl Z)) (bj (er (dG (qL T) aA.bf Z T.oV T.nj.aG T.qK .nil bh (aD (nQ yt (eN gx (aj 0) (e4 kv (aj 1) b3) (fun _ _=>Z)) (eN gx (aj 0) (aj 1) (fun _ _=>Z)) (fe _)) aM)))))),?_⟩;refine⟨_,Z,l,_,Z,.inl (aT.of aF),_,_,Z,⟨by omega,by omega,by omega,by simp;omega⟩,?_⟩;refine ta (fun i σ H'=>H'=H/\(∃ dA,σ=[some (.ref l),dA])/\∀ j,j<i->ns.getD j 0<=ns.getD (j+1) 0) ⟨rfl,⟨_,rfl⟩,fun j bM=>absurd bM (Ah _)⟩ (fun i σ H' hi ⟨e,⟨dA,a8⟩,ak⟩=>?_) fun σ H' ⟨e,_,ak⟩=>?_
 ·subst e a8;have aC:i+1<ns.length:=by simp at hi;omega
  have aq:(ns.map V.int)[i]?=some (V.int (ns.getD i 0)):=by simp[List.getD,dR (show i<ns.length by omega)]
  have aP:(ns.map V.int)[i+1]?=some (V.int (ns.getD (i+1) 0)):=by simp[List.getD,dR aC]
  refine⟨_,Z,_,Z,_,_,Z,Z,l,_,_,_,Z,Z,aT.of aF,at_of (j:=i) (by omega) aq,?_⟩;refine⟨_,Z,_,Z,l,_,_,_,Z,Z,aT.of aF,at_of (j:=i+1) (by omega) aP,?_⟩;refine⟨_,_,Z,Z,_,Z,fun h=>⟨rfl,⟨_,rfl⟩,fun j bM=>?_⟩,fun h=>k2 i aC (by simpa using h)⟩;rcases Nat.lt_or_eq_of_le (Nat.le_of_lt_succ bM)with z|z
  ·exact ak j z
  ·rw[z];simpa using h
 ·subst e;exact k1 fun k aN=>ak k (by simp;omega)
theorem af7:∀ l:aK,rising l=true↔∀ k,k+1<l.length->l.getD k 0<l.getD (k+1) 0
 | []=>by simp[rising]
 | [a]=>by simp[rising]
 |a::b::r=>by
  have bU:=af7 (b::r);simp only[rising,je,pe,bU];constructor
  ·rintro⟨h1,aC⟩ k aN;cases k with
   |zero=>simpa using h1
   |succ k=>simpa using aC k (by simpa using aN)
  ·intro h;refine⟨by simpa using h 0 (by simp),fun k aN=>by simpa using h (k+1) (by simpa using aN)⟩
theorem af8:∀ l:aK,Sw28.level l=true↔∀ k,k+1<l.length->l.getD k 0<=l.getD (k+1) 0
 | []=>by simp[Sw28.level]
 | [a]=>by simp[Sw28.level]
 |a::b::r=>by
  have bU:=af8 (b::r);simp only[Sw28.level,je,pe,bU];constructor
  ·rintro⟨h1,aC⟩ k aN;cases k with
   |zero=>simpa using h1
   |succ k=>simpa using aC k (by simpa using aN)
  ·intro h;refine⟨by simpa using h 0 (by simp),fun k aN=>by simpa using h (k+1) (by simpa using aN)⟩
theorem alP{t:bW}{H:ao}{Q:bx}{E:cM}{l:au}{xs:List V}{ns:aK}(aF:H l=some (.lst xs))(aR:xs.length=ns.length)(hz:xs.length<=65536)
  (aU:∀ k x y,xs[k]?=some x->xs[k+1]?=some y->alN H x y (decide (ns.getD k 0<ns.getD (k+1) 0))) (k1:rising ns=true->Q .non H) (k2:rising ns=false->E (.ref t.jk) none H):R4 t [.ref l] H Q E:=by
 refine⟨_,Z,l,xs,fun k=>decide (ns.getD k 0<ns.getD (k+1) 0),Z,aF,hz,aU,fun h=>k1 ((af7 ns).mpr fun k aN=>h2 (h k (by omega))),fun k aN ak=>k2 ?_⟩;cases e:rising ns with
 |false=>rfl
 |true =>
  have:=(af7 ns).mp e k (by omega);exact absurd this (v' ak)
theorem R5{t:bW}{H:ao}{Q:bx}{E:cM}{l:au}{ns:aK}(aF:H l=some (.lst (ns.map nat)))(hz:ns.length<=65536)(k1:rising ns=true->Q .non H)(k2:rising ns=false->E (.ref t.jk) none H):R4 t [.ref l] H Q E:=by
 refine alP aF (by simp) (by simpa using hz) (fun k x y aq aP=>.inl ⟨(ns.getD k 0:Nat),(ns.getD (k+1) 0:Nat),?_,?_,?_⟩) k1 k2
 ·rw[ei]at aq;cases e:ns[k]? with
  |none=>rw[e]at aq;cases aq
  |some a=>rw[e]at aq;cases aq;simp[List.getD,e]
 ·rw[ei]at aP;cases e:ns[k+1]? with
  |none=>rw[e]at aP;cases aP
  |some a=>rw[e]at aP;cases aP;simp[List.getD,e]
 ·exact wa.mpr (by omega)
section
variable{K':cn}{a D:au}{xs:List V}{te:TE}{tt:TT}{σ:St}{dA:Nat}{H:ao}{gv:ao->Prop}
theorem af9(keep:Nat->Option V)(aW:aT K' H a xs)(hz:xs.length<=65536)(bp:H D=none)
  (rA:∀ (i:Nat) x H' (eo:bx) (N:ao->Prop),xs[i]?=some x->aQ H H'->(∀ y,keep i=some y->eo y H')->(keep i=none->N H')->tt ((wipe σ [dA]).set dA (some x)) H' fun b aJ=>if b=true then te ((wipe σ [dA]).set dA (some x)) aJ eo else N aJ)
  (k:gv (upd H D (.lst ((List.range xs.length).filterMap keep)))) :
  ∃ W:Nat->Nat->ao->Prop,(∃ m,W 0 m (upd H D (.lst [])))/\∀ i m H,W i m H ->
   ((jj K' a).stop i H/\gv H)\/((jj K' a).go i H/\∃ fP:ao->Prop,(∀ H',fP H'->∃ dT,dT<m/\W (i+1) dT H')/\∀ x H',(jj K' a).mc i H x H'->kW dA x (wipe σ [dA]) H' fun dV aB=>wipe dV [dA]=wipe σ [dA]/\tt dV aB fun b aJ =>
    if b=true then te dV aJ fun y bB=>∃ acc,bB D=some (.lst acc)/\acc.length<sizeLine/\fP (upd bB D (.lst (acc++[y])))else fP aJ):=by
 have bY:∀ zs,aQ H (upd H D (.lst zs)):=fun zs b o e=>by rw[a6 (bQ e bp)];exact e
 refine ab5 (xs:=xs) (gv:=gv) (fun i H1=>H1=upd H D (.lst ((List.range i).filterMap keep))) rfl (fun i H1 _ e=>e▸(bY _).seq aW) (fun i x H1 aq e=>?_) fun H1 e=>e▸k;subst e;have hi:i<xs.length:=(eE.mp aq).1;refine⟨by simp[wipe],rA i x _ _ _ aq (bY _) (fun y aP=>⟨_,a7,?_,?_⟩) fun aR=>?_⟩
 ·have h1:((List.range i).filterMap keep).length<=i:=jf (List.length_filterMap_le _ _) (by simp)
  exact jQ (by omega)
 ·rw[ig,p2,Ef];simp[aP]
 ·rw[p2,Ef];simp[aR]
theorem range_all{n:Nat}{bN:List V}(h:bN.length=n):(List.range n).filterMap (fun i=>bN[i]?)=bN:=by
 subst h;have key:∀ (m:Nat),m<=bN.length->(List.range m).filterMap (fun i=>bN[i]?)=bN.take m:=by
  intro m;induction m with
  |zero=>intro _;simp
  |succ m bU =>
   intro hm;have e:bN[m]?=some bN[m]:=dR (by omega);rw[p2,Ef,bU (by omega),vW,e];simp[e]
 rw[key _ (cG _),fZ (cG _)]
theorem n3(bN:List V)(aP:bN.length=xs.length)(aW:aT K' H a xs)(hz:xs.length<=65536)(bp:H D=none)
  (rA:∀ (i:Nat) x y H' (eo:bx),xs[i]?=some x->bN[i]?=some y->aQ H H'->eo y H'->te ((wipe σ [dA]).set dA (some x)) H' eo) (k:gv (upd H D (.lst bN))) :
  ∃ W:Nat->Nat->ao->Prop,(∃ m,W 0 m (upd H D (.lst [])))/\∀ i m H,W i m H ->
   ((jj K' a).stop i H/\gv H)\/((jj K' a).go i H/\∃ fP:ao->Prop,(∀ H',fP H'->∃ dT,dT<m/\W (i+1) dT H')/\∀ x H',(jj K' a).mc i H x H'->kW dA x (wipe σ [dA]) H' fun dV aB=>wipe dV [dA]=wipe σ [dA]/\sb dV aB fun b aJ =>
    if b=true then te dV aJ fun y bB=>∃ acc,bB D=some (.lst acc)/\acc.length<sizeLine/\fP (upd bB D (.lst (acc++[y])))else fP aJ):=by
 refine af9 (fun i=>bN[i]?) aW hz bp (fun i x H' eo N aq aH h1 aC=>R3 ?_) (by rw[range_all aP];exact k);have hi:i<bN.length:=by rw[aP];exact(eE.mp aq).1
 exact rA i x bN[i] H' eo aq (dR hi) aH (h1 _ (dR hi))
end
inductive qO{α:Type}(key:α->Key)(R:ao->V->α->Prop)(H:ao)(v:V)(x:α):Prop
 |mk (T b):v=.ref T->H T=some (.tup [c0 (key x),b])->R H b x->qO key R H v x
theorem Cy{α:Type}{key:α->Key}{R:ao->V->α->Prop}(m:fC R):fC (qO key R):=fun _ _ _ _ s ⟨T,b,e,h,r⟩=>⟨T,b,e,s _ _ h,m _ _ _ _ s r⟩
inductive xG{α:Type}(key:α->Key)(R:ao->V->α->Prop)(H:ao)(v:V)(xs:List α):Prop
 |mk (a kvs):v=.ref a->H a=some (.dW kvs)->Paired (fun bC x=>bC.1=key x/\R H bC.2 x) kvs xs->xG key R H v xs
theorem R6{α:Type}{key:α->Key}{R:ao->V->α->Prop}(m:fC R):fC (xG key R):=fun _ _ _ _ s ⟨a,kvs,e,h,p⟩=>⟨a,kvs,e,s _ _ h,Paired.d7 p fun _ _ ⟨e,r⟩=>⟨e,m _ _ _ _ s r⟩⟩
theorem af_{α:Type}{key:α->Key}{R:ao->V->α->Prop}{H:ao}:∀ {vs:List V} {xs:List α},Paired (qO key R H) vs xs->∃ (ps:d1) (kvs:List (Key×V)),vs=ps.map V.ref/\Paired (fun p (bC:Key×V)=>H p=some (.tup [c0 bC.1,bC.2])) ps kvs/\Paired (fun(bC:Key×V) x=>bC.1=key x/\R H bC.2 x) kvs xs
 |_,_,.nil=>⟨[],[],rfl,.nil,.nil⟩
 |_,_,.cons (b:=x) ⟨T,b,e,h,r⟩ tl=>by
  obtain⟨ps,kvs,a8,u6,nS⟩:=af_ tl;exact⟨T::ps,(key x,b)::kvs,by rw[e,a8];rfl,.cons h u6,.cons ⟨rfl,r⟩ nS⟩
theorem alQ{α:Type}{key:α->Key}{F:(Key×V)->α->Prop}(iQ:∀ bC x,F bC x->bC.1=key x):∀ {kvs:List (Key×V)} {xs:List α},Paired F kvs xs->kvs.map (·.1)=xs.map key
 |_,_,.nil=>rfl
 |_,_,.cons h tl=>by rw[fT,fT,iQ _ _ h,alQ iQ tl]
theorem alR:∀ (more kvs:List (Key×V)),((kvs++more).map (·.1)).Nodup->mC kvs more=kvs++more
 | [],kvs,_=>by simp[mC]
 |p::r,kvs,h=>by
  show mC (putK kvs p.1 p.2) r=_;have aR:dX kvs p.1=none:=by
   cases e:dX kvs p.1 with
   |none=>rfl
   |some v =>
    have h1:=acq e;rw[od,fT]at h;have:=(List.nodup_append.mp h).2.2 p.1 h1 p.1 h9;exact absurd rfl this
  rw[VR _ aR,alR r]
  ·simp
  ·simpa using h
theorem af':∀ {l:aK},rising l=true->l.Pairwise (· < ·)
 | [],_=>List.Pairwise.nil
 | [a],_=>by simp
 |a::b::r,h=>by
  simp only[rising,je,pe]at h;have bU:=af' h.2;refine x7.mpr ⟨fun c aU=>?_,bU⟩;rcases gQ.mp aU with rfl|aU
  ·exact h.1
  ·exact rY h.1 ((x7.mp bU).1 c aU)
theorem ayt{l:aK}(h:l.Pairwise (· < ·)):l.Nodup:=h.imp (fun h=>gR h)
abbrev bI(n:Nat):Key:=Sum.inl (n:Int)
theorem ayu{l:aK}(h:l.Nodup):(l.map bI).Nodup:=by
 rw[List.Nodup,I3];exact h.imp fun mX he=>mX (by injection he with e;omega)
theorem aga{α:Type}{key:α->Nat}{R:ao->V->α->Prop}{H:ao}{kvs:List (Key×V)}{xs:List α}(p:Paired (fun(bC:Key×V) x=>bC.1=bI (key x)/\R H bC.2 x) kvs xs)(aA:rising (xs.map key)=true):mC [] kvs=kvs:=by
 refine alR kvs [] ?_;rw[I2,alQ (key:=fun x=>bI (key x)) (fun _ _ h=>h.1) p];have:=ayu (ayt (af' aA));rw[kh]at this;exact this
theorem Hf{α:Type}{key:α->Key}{R:ao->V->α->Prop}{H:ao}(k:Key):∀ {kvs:List (Key×V)} {xs:List α},Paired (fun(bC:Key×V) x=>bC.1=key x/\R H bC.2 x) kvs xs ->
  (xs.find? (fun x=>decide (key x=k))=none->dX kvs k=none)/\∀ x,xs.find? (fun x=>decide (key x=k))=some x->∃ v,dX kvs k=some v/\R H v x
 |_,_,.nil=>⟨fun _=>rfl,fun x h=>by simp at h⟩
 |_,_,.cons (a:=bC) (b:=x) ⟨e,r⟩ tl=>by
  obtain⟨i1,i2⟩:=Hf (key:=key) (R:=R) (H:=H) k tl;by_cases aN:key x=k
  ·rw[kg,fu aN];refine⟨fun h=>(by cases h),fun y aP=>?_⟩;cases aP;exact⟨bC.2,oO (e.trans aN),r⟩
  ·rw[kg,oo aN,oR (fun z=>aN (e▸z))];exact⟨i1,i2⟩
theorem za{α:Type}(p:Sw28.P α)(t:Sw28.B):many 1 1024 p t=(ea 1 1024 t).bind fun x=>times p x.1 x.2:=ou 1 1024 p t
theorem pU{lo:Int}{hi:Nat}{r:Sw28.B}{x:Nat×Sw28.B}(h:ea lo hi r=some x):x.1<=hi:=by
 have:=wh h;omega
section
variable{α:Type}{p:Sw28.P α}{R:ao->V->α->Prop}{A H aB:ao}{rd ca L T:au}{bs ky:Sw28.B}{g i:Nat}
theorem Many.pair{key:α->Key}(mono:fC R)(qN:A rd≠none)(R2:A ca≠none)(mA:A L=none){xs:List α}{r:Sw28.B}{vs:List V}(h1:times p i ky=some (xs,r))(k:a9 [rd] A H)(c4:H L=some (.lst vs))(aL:Paired (qO key R (bG A [L] H)) vs xs)
  {x:α} {r':Sw28.B} {b:V} (aq:p r=some (x,r')) (cO:eb t aB rd ca bs r' g) (k2:a9 [rd] H aB) (rep:R (bG A [L] aB) b x) (cv:aB T=none) :
  (upd aB T (.tup [c0 (key x),b])) L=some (.lst vs)/\Many t p (qO key R) A rd ca L bs ky g (i+1) (upd (upd aB T (.tup [c0 (key x),b])) L (.lst (vs++[.ref T]))):=by
 have iZ:L≠rd:=fun e=>qN (e▸mA);have nq:aB L=some (.lst vs):=k2 _ _ (by simp[iZ]) c4;have ayv:T≠rd:=fun e=>cO.dom (e▸cv);have Cz:T≠L:=fun e=>by rw[e,nq]at cv;cases cv
 have Ym:A T=none:=(k.trans k2).free (by simp[ayv]) cv;have s:aQ (bG A [L] aB) (bG A [L] (upd aB T (.tup [c0 (key x),b]))):=jA (M:=[]) (a9.iY cv) (by simp);exact Many.next (Cy mono) qN R2 mA h1 k c4 aL aq (cO.new cv) (k2.jl cv) ⟨T,b,rfl,eu.mpr ⟨Ym,by simp[Cz],a7⟩,mono _ _ _ _ s rep⟩
theorem alS{key:α->Key}{K':cn}{a D:au}{vs:List V}{xs:List α}{σ:St}{dA:Nat}{gv:ao->Prop}(aN:dA < σ.length)(aW:H a=some (.lst vs))(pp:Paired (qO key R H) vs xs)(hz:vs.length<=65536)(bp:H D=none)
  (k:gv (upd H D (.lst (xs.map fun x=>c0 (key x))))) :
  ∃ W:Nat->Nat->ao->Prop,(∃ m,W 0 m (upd H D (.lst [])))/\∀ i m H,W i m H ->
   ((jj K' a).stop i H/\gv H)\/((jj K' a).go i H/\∃ fP:ao->Prop,(∀ H',fP H'->∃ dT,dT<m/\W (i+1) dT H')/\∀ x H',(jj K' a).mc i H x H'->kW dA x (wipe σ [dA]) H' fun dV aB=>wipe dV [dA]=wipe σ [dA]/\sb dV aB fun b aJ =>
    if b=true then(wM (J0 K') (gg dA) (uW (.int 0))) dV aJ fun y bB=>∃ acc,bB D=some (.lst acc)/\acc.length<sizeLine/\fP (upd bB D (.lst (acc++[y])))else fP aJ):=by
 refine n3 (xs.map fun x=>c0 (key x)) (by rw[ew,f5 pp]) (aT.of aW) hz bp (fun i v y H' eo aZ aP aH q=>?_) k;obtain⟨x,aq,T,b,e,cv,_⟩:=mF pp aZ;have Yn:y=c0 (key x):=by
  rw[ei,aq]at aP;exact(Option.some.inj aP).symm
 subst e Yn;exact⟨_,by simp[wipe,aN],T,_,0,c0 (key x),Z,Z,fM.of (aH _ _ cv),Z,q⟩
end
abbrev ayw(K:cn):List V->ao->bx->Prop:=fun xs H Q=>∃ (a:au) (ps:d1) (kvs:List (Key×V)),xs=[.ref a]/\aT K H a (ps.map V.ref)/\Paired (fun p bC=>fM K H p [c0 bC.1,bC.2]) ps kvs /\
  ∀ p,H p=none->Q (.ref p) (upd H p (.dW (mC [] kvs)))
theorem agb{α:Type}{p:Sw28.P α}{R:ao->V->α->Prop}{A H:ao}{rd ca L:au}{bs ky:Sw28.B}{g n dA:Nat}{K':cn}{key:α->Nat}{σ:St}{D:Ends}{E:cM}(mono:fC R)(mA:A L=none)(qN:A rd≠none)
  (m:Many t p (qO (fun x=>bI (key x)) R) A rd ca L bs ky g n H) (aR:n<=65536) (alT:σ[1]?=some (some (.ref L))) (aN:dA < σ.length)
  (k1:∀ xs r v H',times p n ky=some (xs,r)->rising (xs.map key)=true->eb t H' rd ca bs r g->a9 [rd] A H'->xG (fun x=>bI (key x)) R (bG A [] H') v xs->D.E' v H')
  (k2:∀ xs r,times p n ky=some (xs,r)->rising (xs.map key)=false->∀ H',a9 [rd] A H'->E (.ref t.jk) none H') :
  c3 (wK (Vx (R4 t) [] E (nR (wU (Fp K' (gg 1)) (kW dA) sb (wM (J0 K') (gg dA) (uW (.int 0))) [dA]) m9))) (ajz (abI (ayw K') (nR (gg 1) m9))) D σ H:=by
 obtain⟨xs,r,vs,h1,dp,aG,c4,pp⟩:=m;have hlen:=mW _ h1;have aHj:xs.length=n:=hlen;have agc:Paired (qO (fun x=>bI (key x)) R H) vs xs:=Paired.d7 pp fun _ _ q=>Cy mono _ _ _ _ hB q;have tZ:vs.length<=65536:=by rw[f5 pp];omega
 refine⟨_,alT,L,Z,⟨_,aT.of c4⟩,fun Y iw=>?_⟩;refine alS (K':=K') aN c4 agc tZ iw ?_;have aHk:Y≠rd:=fun e=>dp.dom (e▸iw);have bN:(upd H Y (.lst (xs.map fun x=>c0 (bI (key x))))) Y=some (.lst ((xs.map key).map nat)):=by
  rw[a7,kh];rfl
 refine R5 bN (by rw[ew];omega) (fun aA=>?_) fun aA=>k2 xs r h1 aA _ (aG.jl iw);have jC:(upd H Y (.lst (xs.map fun x=>c0 (bI (key x))))) L=some (.lst vs):=by rw[a6 (bQ c4 iw)];exact c4
 have dg:a9 [rd] A (upd H Y (.lst (xs.map fun x=>c0 (bI (key x))))):=aG.jl iw;have e1:eb t (upd H Y (.lst (xs.map fun x=>c0 (bI (key x))))) rd ca bs r g:=dp.new iw;have s3:aQ (bG A [L] H) (bG A [L] (upd H Y (.lst (xs.map fun x=>c0 (bI (key x)))))):=jA (M:=[]) (a9.iY iw) (by simp);generalize upd H Y (.lst (xs.map fun x=>c0 (bI (key x))))=aJ at *;obtain⟨ps,kvs,e,bT,cA⟩:=af_ pp;subst e;refine⟨_,alT,L,ps,kvs,Z,aT.of jC,Paired.d7 bT fun _ _ z=>fM.of (hB _ _ (s3 _ _ z)),fun d hd=>?_⟩;have nd:d≠rd:=fun e=>e1.dom (e▸hd);have Hg:A d=none:=dg.free (by simp[nd]) hd;have s4:aQ (bG A [L] aJ) (bG A [] (upd aJ d (.dW (mC [] kvs)))):=(jA (M:=[]) (a9.iY hd) (by simp)).trans (y1 (by simp));refine k1 xs r _ _ h1 aA (e1.new hd) (dg.jl hd) ⟨d,kvs,rfl,eu.mpr ⟨Hg,by simp,?_⟩,Paired.d7 cA fun _ _ ⟨gk,eG⟩=>⟨gk,mono _ _ _ _ (s3.trans s4) eG⟩⟩;rw[a7,aga (key:=key) cA aA]
def Hh:ao->V->List (Nat×Nat)->Prop:=xG (fun y=>bI y.1) fun H v y=>k7 H v y.2
def R7:ao->V->List (Nat×aK)->Prop:=xG (fun y=>bI y.1) fun H v y=>hq H v y.2
theorem ayx:fC Hh:=R6 fun _ _ _ _ s h=>vq _ _ _ _ s h
theorem ayy:fC R7:=R6 fun _ _ _ _ s h=>hc _ _ _ _ s h
theorem alU{α:Type}{good:List α->Bool}{p:Sw28.P α}{r:Sw28.B}(h:ea 1 1024 r=none):Sw28.only good (many 1 1024 p) r=none:=by
 rw[gY,za,h];rfl
theorem alV{α:Type}{good:List α->Bool}{p:Sw28.P α}{r cH:Sw28.B}{n:Nat}(h:ea 1 1024 r=some (n,cH))(aC:times p n cH=none):Sw28.only good (many 1 1024 p) r=none:=by
 rw[gY,za,h];simp[aC]
theorem Yo{α:Type}{good:List α->Bool}{p:Sw28.P α}{r cH:Sw28.B}{n:Nat}{y:List α×Sw28.B}(h:ea 1 1024 r=some (n,cH))(aC:times p n cH=some y):Sw28.only good (many 1 1024 p) r=if good y.1=true then some y else none:=by
 rw[gY,za,h];simp[aC]
theorem n5{α β:Type}{p:Sw28.P α}{q:Sw28.P β}{r:Sw28.B}(h:p r=none):Sw28.pair p q r=none:=by
 unfold Sw28.pair;rw[h];rfl
theorem kI{α β:Type}{p:Sw28.P α}{q:Sw28.P β}{r cH:Sw28.B}{x:α}(h:p r=some (x,cH))(aC:q cH=none):Sw28.pair p q r=none:=by
 unfold Sw28.pair;rw[h];simp[aC]
theorem oX{α β:Type}{p:Sw28.P α}{q:Sw28.P β}{r cH dm:Sw28.B}{x:α}{y:β}(h:p r=some (x,cH))(aC:q cH=some (y,dm)):Sw28.pair p q r=some ((x,y),dm):=by
 unfold Sw28.pair;rw[h];simp[aC]
section
variable{α:Type}{key:α->Nat}{p:Sw28.P α}{r cH dm:Sw28.B}{n:Nat}{xs:List α}
theorem Yp(h:ea 1 1024 r=none):Sw28.only (fun l:List α=>rising (l.map key)) (many 1 1024 p) r=none:=alU h
theorem Yq(h:ea 1 1024 r=some (n,cH))(aC:times p n cH=none):Sw28.only (fun l:List α=>rising (l.map key)) (many 1 1024 p) r=none:=alV h aC
theorem Yr(h:ea 1 1024 r=some (n,cH))(aC:times p n cH=some (xs,dm))(aA:rising (xs.map key)=true):Sw28.only (fun l:List α=>rising (l.map key)) (many 1 1024 p) r=some (xs,dm):=by
 rw[Yo h aC,bL aA]
theorem Ys(h:ea 1 1024 r=some (n,cH))(aC:times p n cH=some (xs,dm))(aA:rising (xs.map key)=false):Sw28.only (fun l:List α=>rising (l.map key)) (many 1 1024 p) r=none:=by
 rw[Yo h aC,bw (by rw[aA];exact jq)]
theorem ayz(h:ea 1 1024 r=none):many 1 1024 p r=none:=by rw[za,h];rfl
theorem ayA(h:ea 1 1024 r=some (n,cH))(aC:times p n cH=none):many 1 1024 p r=none:=by rw[za,h];exact aC
theorem ayB(h:ea 1 1024 r=some (n,cH))(aC:times p n cH=some (xs,dm)):many 1 1024 p r=some (xs,dm):=by rw[za,h];exact aC
end
theorem agd{H:ao}{rd ca:au}{bs rest:Sw28.B}{g lo hi:Nat}{Q:bx}{E:cM}(R:eb t H rd ca bs rest g)(alM:hi<=65536)(o:One t (many lo hi (Sw28.sign g)) hq H rd ca bs rest g Q E) :
  (gb fun a b c H Q E=>∃ rd lo hi,a=.ref rd/\b=nat lo/\c=nat hi/\hi<=65536/\rx t (fun g=>many lo hi (Sw28.sign g)) hq H rd Q E) [.ref rd,nat lo,nat hi] H Q E :=
 ⟨_,_,_,rfl,rd,lo,hi,rfl,rfl,rfl,alM,ca,bs,rest,g,R,o.1,o.2⟩
theorem ayC(T:Txt K av t):cI P w K av base (cL P w) 6 t.NK t.NP ["reader"] (jB t aiA Hh):=by
 refine T.QZ.cY GQ fa.cW ?_;rintro bJ A outer s H _ Q E aA ⟨bV,rfl,rd,rfl,ca,bs,rest,g,R,k1,k2⟩;try simp only at k1 k2
 refine⟨_,(aV (cp (i:=1) GQ.nd Z (Or.inl Z) (hb aM)) (aV (ho (gO dH Z) Z (mg Z T.jz (aD (fj (aj 0) T.dU T.jy (j5 T) aA.bf T.j2 .nil bh (aD b3 (aD b3 aM))) aM)) (dj (i:=2) GQ.nd Z (Or.inl Z)) (aV (cp (i:=3) GQ.nd Z (Or.inl Z) (gu (aj 0) T.dU T.ru (tY T) aA.bf T.tQ .nil bh)) (bj (er (mz lV pk pn pP (aj 1) (aD (r9 (aD (aj 3) (aD (gu (aj 0) T.dU T.ru (tY T) aA.bf T.tQ .nil bh) aM))) aM)))))) (aV (er (dG (xF T) aA.bf Z T.tO T.rv.aG T.xd .nil bh (aD (iH (own:=[("pair",4)]) dH (fun _ _ z=>z) Z GQ.nd (gG (aj 1)) (gW (by rfl)) (fun _ _ _ _ _=>dj (i:=4) GQ.nd Z (Or.inl Z)) (fun _ _ _ _ _=>hx) (fun _ _ _ _ _=>(eN (Cv (K':=K) Z) (aj 4) b3 (fun _ _=>Z)))) aM))) (bj (dK (q' (V3 Z) Z T.yW G7 (aD (aj 1) aM))))))),?_⟩;apply hG;intros;refine⟨eY _,fun L c4=>?_⟩;have dp:eb t (upd H L (.lst [])) rd ca bs rest g:=R.new c4;refine iK dp rfl (j6 dp ⟨fun n r v aB aR cO bZ rep=>?_,fun aR H' aG=>k2 (Yp aR) H' ((a9.iY c4).trans aG)⟩);subst rep;have lD:n<=1024:=pU (hi:=1024) aR;have jR:a9 [rd] H aB:=(a9.iY c4).trans bZ;have iZ:L≠rd:=fun e=>R.dom (e▸c4);have nq:aB L=some (.lst []):=bZ _ _ (by simp[iZ]) a7;refine⟨_,Z,by omega,by omega,?_⟩;refine ta (n:=n) (lo:=0) (fun i σ aJ=>(∃ s2 s3 s4,σ=[some (.ref rd),some (.ref L),s2,s3,s4])/\Many t (Sw28.pair (Sw28.sign g) (Sw28.sign g)) (qO (fun y=>bI y.1) fun H v y=>k7 H v y.2) H rd ca L bs r g i aJ) ⟨⟨_,_,_,rfl⟩,.start cO jR nq⟩ (fun i σ aJ hi ⟨⟨s2,s3,s4,e⟩,m⟩=>?_) fun σ aJ ⟨⟨s2,s3,s4,e⟩,m⟩=>?_
 ·subst e;obtain⟨xs,d2,vs,h1,e1,dg,jC,pp⟩:=m;have stop:(Sw28.pair (Sw28.sign g) (Sw28.sign g)) d2=none->∀ H',a9 [rd] aJ H'->E (.ref t.jk) none H':=fun hz H' aG=>k2 (Yq aR (x8 _ h1 hz n hi)) H' (dg.trans aG);refine hU e1 rfl ⟨fun x jM v bB aq gq dF rep=>?_,fun hz H' aG=>stop (n5 hz) H' aG⟩;subst rep;have pW:bB L=some (.lst vs):=dF _ _ (by simp[iZ]) jC;refine⟨_,Z,.inl ⟨Z,_,aT.of pW⟩,_,Z,?_⟩;refine hU gq rfl ⟨fun y m4 v b2 aP ix fW rep=>?_,fun hz H' aG=>stop (kI aq hz) H' (dF.trans aG)⟩;refine⟨tW,fun ey cv=>?_⟩;have xE:k7 (bG H [L] b2) v y:=R1 vq R.dom (dg.trans dF) gq.dom (fun b ak=>by simp at ak;rw[ak];exact j4 pW) rep;obtain⟨xH,CG⟩:=Many.pair (p:=(Sw28.pair (Sw28.sign g) (Sw28.sign g))) (key:=fun y=>bI y.1) (R:=fun H v y=>k7 H v y.2) (x:=(x,y)) (fun _ _ _ _ s h=>vq _ _ _ _ s h) R.dom R.sz c4 h1 dg jC pp (oX aq aP) ix (dF.trans fW) (b:=v) xE cv;refine⟨L,vs,_,Z,Z,xH,?_,⟨_,_,_,Z⟩,CG⟩;have aF:=mW _ h1;rw[f5 pp];exact jQ (by simp at aF;omega)
 ·subst e;refine agb (p:=(Sw28.pair (Sw28.sign g) (Sw28.sign g))) (R:=fun H v y=>k7 H v y.2) (n:=n) (key:=fun y=>y.1) (fun _ _ _ _ s h=>vq _ _ _ _ s h) c4 R.dom m (by omega) rfl (by simp) (fun xs d2 v bB h1 aA gq dF rep=>?_) fun xs d2 h1 aA H' aG=>?_
  ·exact k1 xs d2 v bB (Yr aR h1 aA) gq dF rep
  ·exact k2 (Ys aR h1 aA) H' aG
theorem ayD(T:Txt K av t):cI P w K av base (cL P w) 7 t.NQ t.NT ["reader"] (jB t aiB R7):=by
 refine T.Q0.cY GR fa.cW ?_;rintro bJ A outer s H _ Q E aA ⟨bV,rfl,rd,rfl,ca,bs,rest,g,R,k1,k2⟩;try simp only at k1 k2
 refine⟨_,(aV (cp (i:=1) GR.nd Z (Or.inl Z) (hb aM)) (aV (ho (gO dH Z) Z (mg Z T.jz (aD (fj (aj 0) T.dU T.jy (j5 T) aA.bf T.j2 .nil bh (aD b3 (aD b3 aM))) aM)) (dj (i:=2) GR.nd Z (Or.inl Z)) (aV (cp (i:=3) GR.nd Z (Or.inl Z) (gu (aj 0) T.dU T.ru (tY T) aA.bf T.tQ .nil bh)) (bj (er (mz lV pk pn pP (aj 1) (aD (r9 (aD (aj 3) (aD (fj (aj 0) T.dU T.QL (af6 T) aA.bf T.afF .nil bh (aD b3 (aD b3 aM))) aM))) aM)))))) (aV (er (dG (xF T) aA.bf Z T.tO T.rv.aG T.xd .nil bh (aD (iH (own:=[("pair",4)]) dH (fun _ _ z=>z) Z GR.nd (gG (aj 1)) (gW (by rfl)) (fun _ _ _ _ _=>dj (i:=4) GR.nd Z (Or.inl Z)) (fun _ _ _ _ _=>hx) (fun _ _ _ _ _=>(eN (Cv (K':=K) Z) (aj 4) b3 (fun _ _=>Z)))) aM))) (bj (dK (q' (V3 Z) Z T.yW G7 (aD (aj 1) aM))))))),?_⟩;apply hG;intros;refine⟨eY _,fun L c4=>?_⟩;have dp:eb t (upd H L (.lst [])) rd ca bs rest g:=R.new c4;refine iK dp rfl (j6 dp ⟨fun n r v aB aR cO bZ rep=>?_,fun aR H' aG=>k2 (Yp aR) H' ((a9.iY c4).trans aG)⟩);subst rep;have lD:n<=1024:=pU (hi:=1024) aR;have jR:a9 [rd] H aB:=(a9.iY c4).trans bZ;have iZ:L≠rd:=fun e=>R.dom (e▸c4);have nq:aB L=some (.lst []):=bZ _ _ (by simp[iZ]) a7;refine⟨_,Z,by omega,by omega,?_⟩;refine ta (n:=n) (lo:=0) (fun i σ aJ=>(∃ s2 s3 s4,σ=[some (.ref rd),some (.ref L),s2,s3,s4])/\Many t (Sw28.pair (Sw28.sign g) (many 1 8 (Sw28.sign g))) (qO (fun y=>bI y.1) fun H v y=>hq H v y.2) H rd ca L bs r g i aJ) ⟨⟨_,_,_,rfl⟩,.start cO jR nq⟩ (fun i σ aJ hi ⟨⟨s2,s3,s4,e⟩,m⟩=>?_) fun σ aJ ⟨⟨s2,s3,s4,e⟩,m⟩=>?_
 ·subst e;obtain⟨xs,d2,vs,h1,e1,dg,jC,pp⟩:=m;have stop:(Sw28.pair (Sw28.sign g) (many 1 8 (Sw28.sign g))) d2=none->∀ H',a9 [rd] aJ H'->E (.ref t.jk) none H':=fun hz H' aG=>k2 (Yq aR (x8 _ h1 hz n hi)) H' (dg.trans aG);refine hU e1 rfl ⟨fun x jM v bB aq gq dF rep=>?_,fun hz H' aG=>stop (n5 hz) H' aG⟩;subst rep;have pW:bB L=some (.lst vs):=dF _ _ (by simp[iZ]) jC;refine⟨_,Z,.inl ⟨Z,_,aT.of pW⟩,_,Z,?_⟩;refine iK gq rfl (agd (lo:=1) (hi:=8) gq (by decide) ⟨fun y m4 v b2 aP ix fW rep=>?_,fun hz H' aG=>stop (kI aq hz) H' (dF.trans aG)⟩);refine⟨tW,fun ey cv=>?_⟩;have xE:hq (bG H [L] b2) v y:=R1 hc R.dom (dg.trans dF) gq.dom (fun b ak=>by simp at ak;rw[ak];exact j4 pW) rep;obtain⟨xH,CG⟩:=Many.pair (p:=(Sw28.pair (Sw28.sign g) (many 1 8 (Sw28.sign g)))) (key:=fun y=>bI y.1) (R:=fun H v y=>hq H v y.2) (x:=(x,y)) (fun _ _ _ _ s h=>hc _ _ _ _ s h) R.dom R.sz c4 h1 dg jC pp (oX aq aP) ix (dF.trans fW) (b:=v) xE cv;refine⟨L,vs,_,Z,Z,xH,?_,⟨_,_,_,Z⟩,CG⟩;have aF:=mW _ h1;rw[f5 pp];exact jQ (by simp at aF;omega)
 ·subst e;refine agb (p:=(Sw28.pair (Sw28.sign g) (many 1 8 (Sw28.sign g)))) (R:=fun H v y=>hq H v y.2) (n:=n) (key:=fun y=>y.1) (fun _ _ _ _ s h=>hc _ _ _ _ s h) c4 R.dom m (by omega) rfl (by simp) (fun xs d2 v bB h1 aA gq dF rep=>?_) fun xs d2 h1 aA H' aG=>?_
  ·exact k1 xs d2 v bB (Yr aR h1 aA) gq dF rep
  ·exact k2 (Ys aR h1 aA) H' aG
section
variable{A H:ao}{rd ca x:au}{bs r:Sw28.B}{g:Nat}
theorem eb.up(R:eb t H rd ca bs r g)(k:a9 [rd] A H)(h:H x=none):A x=none:=k.free (by simp only[g4];intro e;exact R.dom (e▸h)) h
theorem a9.up1(R:eb t H rd ca bs r g)(k:a9 [rd] A H):∀ b,A b≠none->H b≠none:=k.dom fun b ak=>by simp at ak;rw[ak];exact R.dom
theorem vt{α:Type}{Rep:ao->V->α->Prop}{H':ao}{v:V}{y:α}(mono:fC Rep)(R:eb t H rd ca bs r g)(k:a9 [rd] A H)(rep:Rep (bG H [] H') v y):Rep (bG A [] H') v y :=
 mono _ _ _ _ (tU (a9.up1 R k) (by simp)) rep
theorem R8{α:Type}{Rep:ao->V->α->Prop}{H':ao}{v:V}{y:α}(mono:fC Rep)(qN:A rd≠none)(k:a9 [rd] H H')(rep:Rep (bG A [] H) v y):Rep (bG A [] H') v y :=
 mono _ _ _ _ (jA k fun b ak=>by simp at ak;exact .inl (ak▸qN)) rep
theorem vu{α:Type}{Rep:ao->V->α->Prop}{H':ao}{v:V}{y:α}(mono:fC Rep)(k:aQ H H')(rep:Rep (bG A [] H) v y):Rep (bG A [] H') v y :=
 mono _ _ _ _ (jA (M:=[]) (hp k []) (by simp)) rep
end
inductive vw(t:bW)(H:ao)(v:V)(x:Int×Int×Int):Prop
 |mk (p dx):v=.ref p->H p=some (.ins t.vl dx [("right",.int x.1),("up",.int x.2.1),("wider",.int x.2.2)])->vw t H v x
inductive rB(t:bW)(H:ao)(v:V)(x:Nat×Int×Int):Prop
 |mk (p dx):v=.ref p->H p=some (.ins t.qJ dx [("mark_class",nat x.1),("right",.int x.2.1),("up",.int x.2.2)])->rB t H v x
theorem Yt:fC (vw t):=fun _ _ _ _ s ⟨p,dx,e,h⟩=>⟨p,dx,e,s _ _ h⟩
theorem Hi:fC (rB t):=fun _ _ _ _ s ⟨p,dx,e,h⟩=>⟨p,dx,e,s _ _ h⟩
def rC:Sw28.P (Nat×Int×Int):=Sw28.pair u16 (Sw28.pair s16 s16)
theorem ayE(T:Txt K av t):cI P w K av base (cL P w) 5 t.O6 t.O7 ["reader"] (jB t (fun _=>En) (vw t)):=by
 refine T.Rm.cY afP fa.cW ?_;rintro bJ A outer s H _ Q E aA ⟨bV,rfl,rd,rfl,ca,bs,rest,g,R,k1,k2⟩;try simp only at k1 k2
 refine⟨_,(aV (cp (i:=1) afP.nd Z (Or.inl Z) (gu (aj 0) T.dU T.yR (G' T) aA.bf T.GJ .nil bh)) (aV (cp (i:=2) afP.nd Z (Or.inl Z) (gu (aj 0) T.dU T.yR (G' T) aA.bf T.GJ .nil bh)) (bj (dK (qC T.aeH (ayn T) aA.bf Z T.aeG T.awO .nil bh (aD (aj 1) (aD (aj 2) (aD (gu (aj 0) T.dU T.yR (G' T) aA.bf T.GJ .nil bh) aM)))))))),?_⟩;apply dY;intros;refine hU R rfl ⟨fun x r v H1 aq dp cC rep=>?_,fun hz H' aG=>k2 (n5 hz) H' aG⟩;subst rep;refine hU dp rfl ⟨fun y dm v aB aP cO bZ rep=>?_,fun hz H' aG=>k2 (kI aq (n5 hz)) H' (cC.trans aG)⟩;subst rep;refine⟨_,Z,_,Z,hU cO rfl ⟨fun z d2 v aJ hz e1 dg rep=>R0 fun p dx np nd=>?_,fun hz H' aG=>k2 (kI aq (kI aP hz)) H' ((cC.trans bZ).trans aG)⟩⟩;subst rep;have aG:=(cC.trans bZ).trans dg;exact k1 (x,y,z) d2 _ _ (oX aq (oX aP hz)) (e1.oW (nZ np nd)) (aG.trans (hp (nZ np nd) _)) ⟨p,dx,rfl,eu.mpr ⟨e1.up aG np,by simp,rz⟩⟩
theorem ayF(T:Txt K av t):cI P w K av base (cL P w) 5 t.Pa t.Pb ["reader"] (jB t (fun _=>rC) (rB t)):=by
 refine T.Rp.cY afQ fa.cW ?_;rintro bJ A outer s H _ Q E aA ⟨bV,rfl,rd,rfl,ca,bs,rest,g,R,k1,k2⟩;try simp only at k1 k2
 refine⟨_,(aV (cp (i:=1) afQ.nd Z (Or.inl Z) (gu (aj 0) T.dU T.w4 (Cx T) aA.bf T.Cm .nil bh)) (aV (cp (i:=2) afQ.nd Z (Or.inl Z) (gu (aj 0) T.dU T.yR (G' T) aA.bf T.GJ .nil bh)) (bj (dK (qC T.aeD (ayl T) aA.bf Z T.aeC T.awM .nil bh (aD (aj 1) (aD (aj 2) (aD (gu (aj 0) T.dU T.yR (G' T) aA.bf T.GJ .nil bh) aM)))))))),?_⟩;apply dY;intros;refine hU R rfl ⟨fun x r v H1 aq dp cC rep=>?_,fun hz H' aG=>k2 (n5 hz) H' aG⟩;subst rep;refine hU dp rfl ⟨fun y dm v aB aP cO bZ rep=>?_,fun hz H' aG=>k2 (kI aq (n5 hz)) H' (cC.trans aG)⟩;subst rep;refine⟨_,Z,_,Z,hU cO rfl ⟨fun z d2 v aJ hz e1 dg rep=>R0 fun p dx np nd=>?_,fun hz H' aG=>k2 (kI aq (kI aP hz)) H' ((cC.trans bZ).trans aG)⟩⟩;subst rep;have aG:=(cC.trans bZ).trans dg;exact k1 (x,y,z) d2 _ _ (oX aq (oX aP hz)) (e1.oW (nZ np nd)) (aG.trans (hp (nZ np nd) _)) ⟨p,dx,rfl,eu.mpr ⟨e1.up aG np,by simp,rz⟩⟩
def R9(t:bW):ao->V->List (Nat×Int×Int×Int)->Prop:=xG (fun y=>bI y.1) fun H v y=>vw t H v y.2
theorem ayG:fC (R9 t):=R6 fun _ _ _ _ s h=>Yt _ _ _ _ s h
theorem ayH(T:Txt K av t):cI P w K av base (cL P w) 6 t.O8 t.O9 ["reader"] (jB t aiD (R9 t)):=by
 refine T.Rn.cY G3 fa.cW ?_;rintro bJ A outer s H _ Q E aA ⟨bV,rfl,rd,rfl,ca,bs,rest,g,R,k1,k2⟩;try simp only at k1 k2
 refine⟨_,(aV (cp (i:=1) G3.nd Z (Or.inl Z) (hb aM)) (aV (ho (gO dH Z) Z (mg Z T.jz (aD (fj (aj 0) T.dU T.jy (j5 T) aA.bf T.j2 .nil bh (aD b3 (aD b3 aM))) aM)) (dj (i:=2) G3.nd Z (Or.inl Z)) (aV (cp (i:=3) G3.nd Z (Or.inl Z) (gu (aj 0) T.dU T.ru (tY T) aA.bf T.tQ .nil bh)) (bj (er (mz lV pk pn pP (aj 1) (aD (r9 (aD (aj 3) (aD (dG (ayE T) aA.bf Z T.afc T.Rm.aG T.axg .nil bh (aD (aj 0) aM)) aM))) aM)))))) (aV (er (dG (xF T) aA.bf Z T.tO T.rv.aG T.xd .nil bh (aD (iH (own:=[("pair",4)]) dH (fun _ _ z=>z) Z G3.nd (gG (aj 1)) (gW (by rfl)) (fun _ _ _ _ _=>dj (i:=4) G3.nd Z (Or.inl Z)) (fun _ _ _ _ _=>hx) (fun _ _ _ _ _=>(eN (Cv (K':=K) Z) (aj 4) b3 (fun _ _=>Z)))) aM))) (bj (dK (q' (V3 Z) Z T.yW G7 (aD (aj 1) aM))))))),?_⟩;apply hG;intros;refine⟨eY _,fun L c4=>?_⟩;have dp:eb t (upd H L (.lst [])) rd ca bs rest g:=R.new c4;refine iK dp rfl (j6 dp ⟨fun n r v aB aR cO bZ rep=>?_,fun aR H' aG=>k2 (Yp aR) H' ((a9.iY c4).trans aG)⟩);subst rep;have lD:n<=1024:=pU (hi:=1024) aR;have jR:a9 [rd] H aB:=(a9.iY c4).trans bZ;have iZ:L≠rd:=fun e=>R.dom (e▸c4);have nq:aB L=some (.lst []):=bZ _ _ (by simp[iZ]) a7;refine⟨_,Z,by omega,by omega,?_⟩;refine ta (n:=n) (lo:=0) (fun i σ aJ=>(∃ s2 s3 s4,σ=[some (.ref rd),some (.ref L),s2,s3,s4])/\Many t (Sw28.pair (Sw28.sign g) (En)) (qO (fun y=>bI y.1) fun H v y=>vw t H v y.2) H rd ca L bs r g i aJ) ⟨⟨_,_,_,rfl⟩,.start cO jR nq⟩ (fun i σ aJ hi ⟨⟨s2,s3,s4,e⟩,m⟩=>?_) fun σ aJ ⟨⟨s2,s3,s4,e⟩,m⟩=>?_
 ·subst e;obtain⟨xs,d2,vs,h1,e1,dg,jC,pp⟩:=m;have stop:(Sw28.pair (Sw28.sign g) (En)) d2=none->∀ H',a9 [rd] aJ H'->E (.ref t.jk) none H':=fun hz H' aG=>k2 (Yq aR (x8 _ h1 hz n hi)) H' (dg.trans aG);refine hU e1 rfl ⟨fun x jM v bB aq gq dF rep=>?_,fun hz H' aG=>stop (n5 hz) H' aG⟩;subst rep;have pW:bB L=some (.lst vs):=dF _ _ (by simp[iZ]) jC;refine⟨_,Z,.inl ⟨Z,_,aT.of pW⟩,_,Z,?_⟩;refine mG gq rfl ⟨fun y m4 v b2 aP ix fW rep=>?_,fun hz H' aG=>stop (kI aq hz) H' (dF.trans aG)⟩;refine⟨tW,fun ey cv=>?_⟩;have xE:vw t (bG H [L] b2) v y:=R1 Yt R.dom (dg.trans dF) gq.dom (fun b ak=>by simp at ak;rw[ak];exact j4 pW) rep;obtain⟨xH,CG⟩:=Many.pair (p:=(Sw28.pair (Sw28.sign g) (En))) (key:=fun y=>bI y.1) (R:=fun H v y=>vw t H v y.2) (x:=(x,y)) (fun _ _ _ _ s h=>Yt _ _ _ _ s h) R.dom R.sz c4 h1 dg jC pp (oX aq aP) ix (dF.trans fW) (b:=v) xE cv;refine⟨L,vs,_,Z,Z,xH,?_,⟨_,_,_,Z⟩,CG⟩;have aF:=mW _ h1;rw[f5 pp];exact jQ (by simp at aF;omega)
 ·subst e;refine agb (p:=(Sw28.pair (Sw28.sign g) (En))) (R:=fun H v y=>vw t H v y.2) (n:=n) (key:=fun y=>y.1) (fun _ _ _ _ s h=>Yt _ _ _ _ s h) c4 R.dom m (by omega) rfl (by simp) (fun xs d2 v bB h1 aA gq dF rep=>?_) fun xs d2 h1 aA H' aG=>?_
  ·exact k1 xs d2 v bB (Yr aR h1 aA) gq dF rep
  ·exact k2 (Ys aR h1 aA) H' aG
def agf(t:bW):ao->V->List (Nat×Nat×Int×Int)->Prop:=hg (qO (fun y=>bI y.1) fun H v y=>rB t H v y.2)
theorem alW(T:Txt K av t):cI P w K av base (cL P w) 6 t.Pg t.Ph ["reader"] (jB t (fun g=>many 1 1024 (Sw28.pair (Sw28.sign g) rC)) (agf t)):=by
 refine T.Gx.cY Yc fa.cW ?_;rintro bJ A outer s H _ Q E aA ⟨bV,rfl,rd,rfl,ca,bs,rest,g,R,k1,k2⟩;try simp only at k1 k2
 refine⟨_,(aV (cp (i:=1) Yc.nd Z (Or.inl Z) (hb aM)) (aV (ho (gO dH Z) Z (mg Z T.jz (aD (fj (aj 0) T.dU T.jy (j5 T) aA.bf T.j2 .nil bh (aD b3 (aD b3 aM))) aM)) (dj (i:=2) Yc.nd Z (Or.inl Z)) (aV (cp (i:=3) Yc.nd Z (Or.inl Z) (gu (aj 0) T.dU T.ru (tY T) aA.bf T.tQ .nil bh)) (bj (er (mz lV pk pn pP (aj 1) (aD (r9 (aD (aj 3) (aD (dG (ayF T) aA.bf Z T.afg T.Rp.aG T.axj .nil bh (aD (aj 0) aM)) aM))) aM)))))) (bj (dK (aj 1))))),?_⟩;apply dY;intros;refine⟨eY _,fun L c4=>?_⟩;have dp:eb t (upd H L (.lst [])) rd ca bs rest g:=R.new c4;refine iK dp rfl (j6 dp ⟨fun n r v aB aR cO bZ rep=>?_,fun aR H' aG=>k2 (ayz aR) H' ((a9.iY c4).trans aG)⟩);subst rep;have lD:n<=1024:=pU (hi:=1024) aR;have jR:a9 [rd] H aB:=(a9.iY c4).trans bZ;have iZ:L≠rd:=fun e=>R.dom (e▸c4);have nq:aB L=some (.lst []):=bZ _ _ (by simp[iZ]) a7;refine⟨_,Z,by omega,by omega,?_⟩;refine ta (n:=n) (lo:=0) (fun i σ aJ=>(∃ s2 s3,σ=[some (.ref rd),some (.ref L),s2,s3])/\Many t (Sw28.pair (Sw28.sign g) (rC)) (qO (fun y=>bI y.1) fun H v y=>rB t H v y.2) H rd ca L bs r g i aJ) ⟨⟨_,_,rfl⟩,.start cO jR nq⟩ (fun i σ aJ hi ⟨⟨s2,s3,e⟩,m⟩=>?_) fun σ aJ ⟨⟨s2,s3,e⟩,m⟩=>?_
 ·subst e;obtain⟨xs,d2,vs,h1,e1,dg,jC,pp⟩:=m;have stop:(Sw28.pair (Sw28.sign g) (rC)) d2=none->∀ H',a9 [rd] aJ H'->E (.ref t.jk) none H':=fun hz H' aG=>k2 (ayA aR (x8 _ h1 hz n hi)) H' (dg.trans aG);refine hU e1 rfl ⟨fun x jM v bB aq gq dF rep=>?_,fun hz H' aG=>stop (n5 hz) H' aG⟩;subst rep;have pW:bB L=some (.lst vs):=dF _ _ (by simp[iZ]) jC;refine⟨_,Z,.inl ⟨Z,_,aT.of pW⟩,_,Z,?_⟩;refine mG gq rfl ⟨fun y m4 v b2 aP ix fW rep=>?_,fun hz H' aG=>stop (kI aq hz) H' (dF.trans aG)⟩;refine⟨tW,fun ey cv=>?_⟩;have xE:rB t (bG H [L] b2) v y:=R1 Hi R.dom (dg.trans dF) gq.dom (fun b ak=>by simp at ak;rw[ak];exact j4 pW) rep;obtain⟨xH,CG⟩:=Many.pair (p:=(Sw28.pair (Sw28.sign g) (rC))) (key:=fun y=>bI y.1) (R:=fun H v y=>rB t H v y.2) (x:=(x,y)) (fun _ _ _ _ s h=>Hi _ _ _ _ s h) R.dom R.sz c4 h1 dg jC pp (oX aq aP) ix (dF.trans fW) (b:=v) xE cv;refine⟨L,vs,_,Z,Z,xH,?_,⟨_,_,Z⟩,CG⟩;have aF:=mW _ h1;rw[f5 pp];exact jQ (by simp at aF;omega)
 ·subst e;obtain⟨xs,d2,h1,gq,dF,rep⟩:=Many.done (p:=(Sw28.pair (Sw28.sign g) (rC))) (Rep:=qO (fun y=>bI y.1) fun H v y=>rB t H v y.2) (Cy fun _ _ _ _ s h=>Hi _ _ _ _ s h) c4 m;exact⟨_,Z,k1 xs d2 _ aJ (ayB aR h1) gq dF rep⟩
theorem ayI(T:Txt K av t):cI P w K av base (cL P w) 7 t.N6 t.N7 ["reader"] (jB t Sw28.signs hq):=by
 refine T.Q6.cY alo fa.cW ?_;rintro bJ A outer s H _ Q E aA ⟨bV,rfl,rd,rfl,ca,bs,rest,g,R,k1,k2⟩;try simp only at k1 k2
 refine⟨_,(aV (cp (i:=1) alo.nd Z (Or.inl Z) (fj (aj 0) T.dU T.QL (af6 T) aA.bf T.afF .nil bh (aD b3 (aD b3 aM)))) (aV (er (dG (xF T) aA.bf Z T.tO T.rv.aG T.xd .nil bh (aD (aj 1) aM))) (bj (dK (aj 1))))),?_⟩;apply dY;intros;refine iK R rfl (agd (lo:=1) (hi:=1024) R (by decide) ⟨fun xs r v H1 aq dp cC rep=>?_,fun hz H' aG=>k2 (by unfold Sw28.signs;rw[gY,hz];rfl) H' aG⟩);obtain⟨a,rfl,aW⟩:=rep;have aF:xs.length<=1024:=(wg aq).2;refine⟨_,Z,R5 (hB _ _ aW) (by omega) (fun aA=>⟨_,rfl,?_⟩) fun aA=>?_⟩
 ·exact k1 xs r _ H1 (by unfold Sw28.signs;rw[gY,aq];simp[aA]) dp cC ⟨a,rfl,aW⟩
 ·exact k2 (by unfold Sw28.signs;rw[gY,aq];simp[aA]) H1 cC
theorem agg(T:Txt K av t):cI P w K av base (cL P w) 8 t.N8 t.N_ ["reader","fewest"] (fQ fun a b H Q E=>∃ rd lo,a=.ref rd/\b=nat lo/\rx t (fun g=>many lo 8 (Sw28.signs g)) (hg hq) H rd Q E):=by
 refine T.Ck.cY afL fQ.cW ?_;rintro bJ A outer s H _ Q E aA ⟨bV,a1,rfl,rd,lo,rfl,rfl,ca,bs,rest,g,R,k1,k2⟩;try simp only at k1 k2
 refine⟨_,(bj (dK (iH (own:=[("k",2)]) dH (fun _ _ z=>z) Z afL.nd (mg Z T.jz (aD (fj (aj 0) T.dU T.jy (j5 T) aA.bf T.j2 .nil bh (aD (aj 1) (aD b3 aM))) aM)) (gW (by rfl)) (fun _ _ _ _ _=>dj (i:=2) afL.nd Z (Or.inl Z)) (fun _ _ _ _ _=>hx) (fun _ _ _ _ _=>(dG (ayI T) aA.bf Z T.ae0 T.Q6.aG T.aw4 .nil bh (aD (aj 0) aM)))))),?_⟩;refine iK R rfl ⟨_,rfl,j6 R ⟨fun n r v H1 aq dp cC rep=>?_,fun aR H' aG=>k2 (by rw[ou];exact(congrArg (fun z=>Option.bind z _) aR)) H' aG⟩⟩;subst rep;have ayJ:n<=8:=pU (hi:=8) aq;refine⟨_,Z,by omega,by omega,fun D bp=>?_⟩;refine xD (E:=E) (p:=Sw28.signs g) (Rep:=hq) (n:=n) hc dp (by omega) bp (fun i aB dm eo cO _ o=>mG cO rfl o) (fun xs dm aB lM cO bZ rl=>?_) fun aR aB bZ=>?_
 ·exact k1 xs dm _ aB (by rw[ou];exact(congrArg (fun z=>Option.bind z _) aq).trans lM) cO (cC.trans bZ) (vt (fK hc) dp cC rl)
 ·exact k2 (by rw[ou];exact(congrArg (fun z=>Option.bind z _) aq).trans aR) aB (cC.trans bZ)
inductive Hj(H:ao)(v:V)(y:Nat×Nat):Prop
 |mk (T):v=.ref T->H T=some (.tup [nat y.1,nat y.2])->Hj  H v y
theorem Yu:fC Hj:=fun _ _ _ _ s ⟨p,e,h⟩=>⟨p,e,s _ _ h⟩
theorem ayK(T:Txt K av t):cI P w K av base (cL P w) 5 t.Oa t.Ob ["reader","place_count"] (fQ fun a b H Q E=>∃ rd c,a=.ref rd/\b=nat c/\rx t (fun _=>Em c) Hj H rd Q E):=by
 refine T.Q8.cY alp fQ.cW ?_;rintro bJ A outer s H _ Q E aA ⟨bV,a1,rfl,rd,c,rfl,rfl,ca,bs,rest,g,R,k1,k2⟩;try simp only at k1 k2
 refine⟨_,(aV (cp (i:=2) alp.nd Z (Or.inl Z) (fj (aj 0) T.dU T.jy (j5 T) aA.bf T.j2 .nil bh (aD b3 (aD (e4 kv (aj 1) b3) aM)))) (bj (dK (r9 (aD (aj 2) (aD (gu (aj 0) T.dU T.w4 (Cx T) aA.bf T.Cm .nil bh) aM)))))),?_⟩;apply cA;intros;refine iK R rfl ⟨_,rfl,_,_,rfl,rfl,j6 R ⟨fun x r v H1 aq dp cC rep=>?_,fun hz H' aG=>k2 (n5 hz) H' aG⟩⟩;subst rep;refine⟨_,Z,hU dp rfl ⟨fun y dm v aB aP cO bZ rep=>⟨tW,fun p aL=>?_⟩,fun hz H' aG=>k2 (kI aq hz) H' (cC.trans aG)⟩⟩;subst rep;exact k1 (x,y) dm _ _ (oX aq aP) (cO.new aL) ((cC.trans bZ).jl aL) ⟨p,rfl,eu.mpr ⟨cO.up (cC.trans bZ) aL,by simp,a7⟩⟩
inductive zc(t:bW)(H:ao)(v:V)(a:Sw28.Around):Prop
 |mk (p dx ez rD qP jD):v=.ref p->H p=some (.ins t.rp dx [("before",ez),("there",rD),("behind",qP),("acts",jD)])->hg hq H ez a.before->hg hq H rD a.here->hg hq H qP a.behind->hg Hj H jD a.acts->zc t H v a
theorem Yv:fC (zc t):=fun _ _ _ _ s ⟨p,dx,ez,rD,qP,jD,e,h,h1,aC,bH,dw⟩=>⟨p,dx,ez,rD,qP,jD,e,s _ _ h,fK hc _ _ _ _ s h1,fK hc _ _ _ _ s aC,fK hc _ _ _ _ s bH,fK Yu _ _ _ _ s dw⟩
theorem agh{H:ao}{rd ca:au}{bs rest:Sw28.B}{g i:Nat}{lo:Nat}{σ:St}{Q:bx}{E:cM}(R:eb t H rd ca bs rest g)(aZ:σ[i]?=some (some (.ref rd)))(o:One t (many lo 8 (Sw28.signs g)) (hg hq) H rd ca bs rest g Q E) :
  Vx (fQ fun a b H Q E=>∃ rd lo,a=.ref rd/\b=nat lo/\rx t (fun g=>many lo 8 (Sw28.signs g)) (hg hq) H rd Q E) [] E (nR (gg i) (nR (uW (.int (lo:Nat))) m9)) σ H Q :=
 ⟨_,aZ,_,_,rfl,rd,lo,rfl,rfl,ca,bs,rest,g,R,o.1,o.2⟩
theorem ayL(T:Txt K av t):cI P w K av base (cL P w) 9 t.Oc t.Od ["reader"] (jB t p8 (zc t)):=by
 refine T.Q9.cY GZ fa.cW ?_;rintro bJ A outer s H _ Q E aA ⟨bV,rfl,rd,rfl,ca,bs,rest,g,R,k1,k2⟩;try simp only at k1 k2
 refine⟨_,(aV (cp (i:=1) GZ.nd Z (Or.inl Z) (dG (agg T) aA.bf Z T.Q7 T.Ck.aG T.afH .nil bh (aD (aj 0) (aD b3 aM)))) (aV (cp (i:=2) GZ.nd Z (Or.inr Z) (dG (agg T) aA.bf Z T.Q7 T.Ck.aG T.afH .nil bh (aD (aj 0) (aD b3 aM)))) (aV (cp (i:=3) GZ.nd Z (Or.inl Z) (dG (agg T) aA.bf Z T.Q7 T.Ck.aG T.afH .nil bh (aD (aj 0) (aD b3 aM)))) (aV (w2 (i:=4) (own:=[("k",5)]) dH (fun _ _ z=>z) Z GZ.nd Z Z (wV Z Z Z Z) (mg Z T.jz (aD (fj (aj 0) T.dU T.jy (j5 T) aA.bf T.j2 .nil bh (aD b3 (aD b3 aM))) aM)) (gW (by rfl)) (fun _ _ _ _ _=>dj (i:=5) GZ.nd Z (Or.inl Z)) (fun _ _ _ _ _=>hx) (fun _ _ _ _ _=>(dG (ayK T) aA.bf Z T.ae1 T.Q8.aG T.aw5 .nil bh (aD (aj 0) (aD (hv (afX (K':=K) Z) Z T.hA hM (aD (aj 2) aM)) aM))))) (bj (dK (qC T.aeh (ayh T) aA.bf Z T.aeg T.awA .nil bh (aD (aj 1) (aD (aj 2) (aD (aj 3) (aD (aj 4) aM))))))))))),?_⟩;apply mb;intros;refine agh (lo:=0) R rfl ⟨fun b cH ez H1 ak dp cC rb=>?_,fun hz H' aG=>k2 (by unfold p8;rw[hz];rfl) H' aG⟩;refine agh (lo:=1) dp rfl ⟨fun h dm rD aB hh cO bZ ayM=>?_,fun hz H' aG=>k2 (by unfold p8;rw[ak];simp[hz]) H' (cC.trans aG)⟩;refine agh (lo:=0) cO rfl ⟨fun k d2 qP aJ aN e1 dg agi=>?_,fun hz H' aG=>k2 (by unfold p8;rw[ak];simp[hh,hz]) H' ((cC.trans bZ).trans aG)⟩;have jR:=(cC.trans bZ).trans dg;have alX:hg hq (bG H [] aJ) rD h:=R8 (fK hc) R.dom dg (vt (fK hc) dp cC ayM);obtain⟨cN,R_,rfl,R',ayN⟩:=id alX;refine iK e1 rfl (j6 e1 ⟨fun n jM v bB aR gq dF rep=>?_,fun hz H' aG=>k2 (by unfold p8;rw[ak];simp only[d4,hh,aN];rw[ou];exact(by rw[show ea ((0:Nat):Int) ((8:Nat):Int) d2=none from hz];rfl)) H' (jR.trans aG)⟩);subst rep;have ayJ:n<=8:=pU (hi:=8) aR;refine⟨_,Z,by omega,by omega,fun D bp=>?_⟩;have ayO:bB cN=some (.lst R_):=dF _ _ (by simp only[g4];intro e;have:=eu.mp R';exact R.dom (e▸this.1)) (hB _ _ R');refine xD (E:=E) (p:=Em h.length) (Rep:=Hj) (n:=n) Yu gq (by omega) bp (fun i b2 m4 eo ix fW o=>?_) (fun xs m4 b2 lM ix fW rl=>?_) fun hz b2 fW=>?_
 ·refine⟨_,Z,_,Z,cN,R_,Z,.inl (aT.of (fW _ _ (by simp only[g4];intro e;have:=eu.mp R';exact R.dom (e▸this.1)) ayO)),_,_,Z,rd,h.length,Z,by rw[f5 ayN],ca,bs,m4,g,ix,o.1,o.2⟩
 ·refine⟨_,Z,_,Z,_,Z,_,Z,ayf fun p dx np nd=>?_⟩;have vA:=(jR.trans dF).trans fW;have bY:=nZ (C:=t.rp) (fs:=[("before",ez),("there",.ref cN),("behind",qP),("acts",.ref D)]) np nd;refine k1 ⟨b,h,k,xs⟩ m4 _ _ ?_ (ix.oW bY) (vA.trans (hp bY _)) ⟨p,dx,ez,.ref cN,qP,.ref D,rfl,eu.mpr ⟨ix.up vA np,by simp,rz⟩,?_,?_,?_,?_⟩
  ·unfold p8;rw[ak];simp only[d4,hh,aN];rw[ou];rw[show ea ((0:Nat):Int) ((8:Nat):Int) d2=some (n,jM) from aR];simp[lM]
  ·exact vu (fK hc) bY (R8 (fK hc) R.dom ((bZ.trans dg).trans (dF.trans fW)) rb)
  ·exact vu (fK hc) bY (R8 (fK hc) R.dom (dF.trans fW) alX)
  ·exact vu (fK hc) bY (R8 (fK hc) R.dom (dF.trans fW) (vt (fK hc) cO (cC.trans bZ) agi))
  ·exact vu (fK Yu) bY (vt (fK Yu) gq (jR.trans dF) rl)
 ·refine k2 ?_ b2 ((jR.trans dF).trans fW);unfold p8;rw[ak];simp only[d4,hh,aN];rw[ou];rw[show ea ((0:Nat):Int) ((8:Nat):Int) d2=some (n,jM) from aR];simp[hz]
section
variable{K':cn}{a b:au}{xs bN:List V}{tb:TS}{D:Ends}{σ:St}{H:ao}{i1 i2:Nat}
abbrev g2(K:cn)(i1 i2:Nat):lG:=abl K 2 (abk (kW i1) (abk (kW i2) ajC))
theorem Hl{T:au}{x y:V}{Q:St->ao->Prop}(h:H T=some (.tup [x,y]))(q:Q ((σ.set i1 (some x)).set i2 (some y)) H):g2 K' i1 i2 (.ref T) σ H Q:=⟨T,_,rfl,fM.of h,rfl,x,_,rfl,y,_,rfl,rfl,q⟩
theorem Ho(Pv:Nat->St->ao->Prop)(h0:Pv 0 σ H)(aF:∀ i σ H,i<=xs.length->Pv i σ H->aT K' H a xs)
  (aH:∀ i x T σ H,xs[i]?=some x->Pv i σ H->H T=none->tb { D with cT:=Pv (i+1),ft:=Pv (i+1),jH:=D.cT } ((σ.set i1 (some (nat i))).set i2 (some x)) (upd H T (.tup [nat i,x]))) (hd:∀ σ H,Pv xs.length σ H->D.cT σ H) :
  ∃ W:Nat->Nat->St->ao->Prop,(∃ m,W 0 m σ H)/\∀ i m σ H,W i m σ H ->
   ((yJ K' a).stop i H/\D.cT σ H)\/((yJ K' a).go i H/\∃ N:St->ao->Prop,(∀ dc H',N dc H'->∃ dT,dT<m/\W (i+1) dT dc H')/\∀ x H',(yJ K' a).mc i H x H'->g2 K' i1 i2 x σ H' fun dV aB=>tb { D with cT:=N,ft:=N,jH:=D.cT } dV aB):=by
 refine⟨fun i m σ H=>m=xs.length-i/\i<=xs.length/\Pv i σ H,⟨xs.length,by simp,eY _,h0⟩,?_⟩;rintro i m σ H ⟨rfl,hi,p⟩;have q:=aF i σ H hi p;by_cases cZ:i<xs.length
 ·refine .inr ⟨⟨xs,xs[i],q,by simp[cZ]⟩,Pv (i+1),fun dc H' p'=>⟨xs.length-(i+1),by omega,rfl,cZ,p'⟩,fun v H' y=>?_⟩;obtain⟨T,x,rfl,cv,rfl,y⟩:=y;exact Hl a7 (aH i x T σ _ (y xs q) p cv)
 ·have e:i=xs.length:=by omega
  subst e;exact .inl ⟨⟨xs,q,cG _⟩,hd σ H p⟩
theorem alY(U5:xs.length=bN.length)(Pv:Nat->St->ao->Prop)(h0:Pv 0 σ H)(aF:∀ i σ H,i<=xs.length->Pv i σ H->aT K' H a xs/\aT K' H b bN)
  (aH:∀ i x y T σ H,xs[i]?=some x->bN[i]?=some y->Pv i σ H->H T=none->tb { D with cT:=Pv (i+1),ft:=Pv (i+1),jH:=D.cT } ((σ.set i1 (some x)).set i2 (some y)) (upd H T (.tup [x,y]))) (hd:∀ σ H,Pv xs.length σ H->D.cT σ H) :
  ∃ W:Nat->Nat->St->ao->Prop,(∃ m,W 0 m σ H)/\∀ i m σ H,W i m σ H ->
   ((Km K' a b).stop i H/\D.cT σ H)\/((Km K' a b).go i H/\∃ N:St->ao->Prop,(∀ dc H',N dc H'->∃ dT,dT<m/\W (i+1) dT dc H')/\∀ x H',(Km K' a b).mc i H x H'->g2 K' i1 i2 x σ H' fun dV aB=>tb { D with cT:=N,ft:=N,jH:=D.cT } dV aB):=by
 refine⟨fun i m σ H=>m=xs.length-i/\i<=xs.length/\Pv i σ H,⟨xs.length,by simp,eY _,h0⟩,?_⟩;rintro i m σ H ⟨rfl,hi,p⟩;obtain⟨bT,cA⟩:=aF i σ H hi p;by_cases cZ:i<xs.length
 ·refine .inr ⟨⟨xs,bN,xs[i],bN[i]'(by omega),bT,cA,by simp[cZ],dR (by omega)⟩,Pv (i+1),fun dc H' p'=>⟨xs.length-(i+1),by omega,rfl,cZ,p'⟩,fun v H' y=>?_⟩;obtain⟨T,x,y',rfl,cv,rfl,ayP,ayQ⟩:=y;exact Hl a7 (aH i x y' T σ _ (ayP xs bT) (ayQ bN cA) p cv)
 ·have e:i=xs.length:=by omega
  subst e;exact .inl ⟨⟨xs,bN,bT,cA,.inl (cG _)⟩,hd σ H p⟩
end
def mapA(A:List (Nat×Nat)):List (Key×V):=A.map fun y=>(bI y.1,nat y.2)
theorem n6{a b:Nat}:bI a=bI b↔a=b:=by
 constructor
 ·intro h;injection h with h
  omega
 ·rintro rfl;rfl
theorem agj(s:Nat):∀ A:List (Nat×Nat),dX (mapA A) (bI s)=(pC A s).map nat
 | []=>rfl
 |y::A=>by
  have bU:=agj s A;unfold mapA at bU ⊢;rw[fT];by_cases h:y.1=s
  ·rw[oO (by rw[h])];simp[pC,h]
  ·rw[oR (fun e=>h (n6.mp e)),bU];simp[pC,h]
theorem ayR(A:List (Nat×Nat))(s b:Nat):putK (mapA A) (bI s) (nat b)=mapA (r2 A s b):=by
 unfold putK r2 mapA;have e:((A.map fun y=>(bI y.1,nat y.2)).any fun bC=>decide (bC.1=bI s))=A.any fun y=>decide (y.1=s):=by
  rw[List.any_map];congr 1
  funext y
  exact wa.mpr n6
 rw[e];split
 ·rw[kh,kh];apply Ag;intro y _;by_cases h:y.1=s
  ·simp[h]
  ·have h':¬ bI y.1=bI s:=fun e=>h (n6.mp e)
   simp only[Function.comp,bw h,bw h']
 ·simp
theorem ayS(A:List (Nat×Nat))(s b:Nat):(r2 A s b).length<=A.length+1:=by
 unfold r2;split<;>simp
theorem agk(fr k:Nat):∀ (ss:aK) (A:List (Nat×Nat)),(qs fr k A ss).length<=A.length+ss.length
 | [],A=>by simp[qs]
 |s::ss,A=>by
  have h1:=agk fr k ss (r2 A s (jh A fr s ||| 2 ^ k));have aC:=ayS A s (jh A fr s ||| 2 ^ k);show(qs fr k (r2 A s (jh A fr s ||| 2 ^ k)) ss).length<=_;rw[ek];omega
structure Yw(rows:List (List (aK))):Prop where
 ln:rows.length<=64
 agl:∀ r∈rows,r.length<=16
 st:∀ r∈rows,∀ s∈r,s.length<=1024
inductive CJ(t:bW)(rows:List (List (aK)))(d:Nat)(G:ao)(v:V):Prop
 |mk (p dx m):v=.ref p->G p=some (.ins t.tG dx [("free",nat (freeOf rows d)),("allowed",.ref m)])->G m=some (.dW (mapA (U6 rows d)))->CJ t rows d G v
theorem zf{rows:List (List (aK))}{d:Nat}{H H':ao}{v:V}(s:aQ H H')(h:CJ t rows d H v):CJ t rows d H' v:=by
 obtain⟨p,dx,m,e,h1,aC⟩:=h;exact⟨p,dx,m,e,s _ _ h1,s _ _ aC⟩
theorem take_snoc{α:Type}{l:List α}{i:Nat}{x:α}(h:l[i]?=some x):l.take (i+1)=l.take i++[x]:=by
 rw[vW,h];rfl
theorem zip_get{α:Type}{l:List α}{i:Nat}{x:α}(h:l[i]?=some x):l.zipIdx[i]?=some (x,i):=by
 rw[Iw,h];simp
theorem agm{k:Nat}(h:k<=64):ajJ 1 (k:Int):=⟨by omega,by omega,by decide⟩
theorem alZ(a k:Nat):Builtin.bitOr (a:Int) (1 * 2 ^ (k:Int).toNat)=((a ||| 2 ^ k:Nat):Int):=by
 have e:(1:Int) * 2 ^ ((k:Int)).toNat=((2 ^ k:Nat):Int):=by simp
 rw[e,akD.avy (Int.natCast_nonneg _) (Int.natCast_nonneg _),I8,I8]
theorem ef{H H':ao}{a:au}{o:HO}(s:aQ H H')(h:H a=none):aQ H (upd H' a o):=fun b u e=>by
 rw[a6 (bQ e h)];exact s _ _ e
inductive al0(t:bW)(a b:V)(H:ao)(Q:bx)(E:cM):Prop
 |mk (l vs rows d):a=.ref l->b=nat d->H l=some (.lst vs)->Paired (hg hq H) vs rows->Yw rows->(∀ v H',aQ H H'->CJ t rows d (bG H [] H') v->Q v H')->al0 t a b H Q E
def ayT(t:bW):eX:=fQ (al0 t)
theorem ayU(T:Txt K av t):cI P w K av base (cL P w) 3 t.Nm t.Np ["rows","distance"] (ayT t):=by
 refine T.QW.cY xq fQ.cW ?_;rintro bJ A outer s H _ Q E aA ⟨bV,a1,rfl,l,vs,rows,d,rfl,rfl,aF,pp,ok,k1⟩;refine⟨_,(aV (cp (i:=2) xq.nd rfl (Or.inl rfl) b3) (aV (ho (gO dH rfl) rfl (BK rfl T.w7 (aD (aj 0) aM)) (s7 rfl (jL (dj (i:=3) xq.nd rfl (Or.inl rfl)) (jL (dj (i:=4) xq.nd rfl (Or.inl rfl)) r6))) (bj (gh (gK yt (hv iG rfl T.hA hM (aD (aj 4) aM)) (aj 1) (fe _)) (bj (Fl (i:=2) xq.nd rfl (Or.inl rfl) (e4 abw b3 (aj 3)) asG)) ht))) (aV (cp (i:=5) xq.nd rfl (Or.inl rfl) FJ) (aV (ho (gO dH rfl) rfl (BK rfl T.w7 (aD (aj 0) aM)) (s7 rfl (jL (dj (i:=3) xq.nd rfl (Or.inl rfl)) (jL (dj (i:=4) xq.nd rfl (Or.inl rfl)) r6))) (bj (gh (gK JT (hv iG rfl T.hA hM (aD (aj 4) aM)) (aj 1) (fe _)) (bj (ho (gO dH rfl) rfl (gG (eN gx (aj 4) (aj 1) (fun _ _=>rfl))) (dj (i:=6) xq.nd rfl (Or.inl rfl)) (bj (J_ (k4 aA) (aj 5) (aj 6) (e4 asF (FN (k4 aA) (aj 5) (aj 6) (aj 2) ⟨rfl,rfl,rfl,rfl⟩) (e4 abw b3 (aj 3))) rfl)))) ht))) (bj (dK (qC T.aej (ayi T) aA.bf rfl T.aei T.awB .nil bh (aD (aj 2) (aD (aj 5) aM))))))))),?_⟩;apply mb;intros;have tZ:vs.length=rows.length:=f5 pp;refine⟨_,Z,l,vs,Z,aT.of aF,?_⟩;refine Ho (xs:=vs) (fun i σ H1=>aQ H H1/\∃ s3 s4 s5 cU,σ=[some (.ref l),some (nat d),some (nat ((rows.zipIdx.take i).foldl (fun b y=>if y.1.length<=d then b ||| 2 ^ y.2 else b) 0)),s3,s4,s5,cU]) ⟨aQ.refl _,_,_,_,_,rfl⟩ (fun i σ H1 _ ⟨s,_⟩=>aT.of (s _ _ aF)) (fun i x ey σ H1 aq ⟨s,s3,s4,s5,cU,e⟩ cv=>?_) fun σ H1 ⟨s1,s3,s4,s5,cU,e⟩=>?_
 ·subst e;obtain⟨ss,jm,q,ws,e,a0,jT⟩:=mF pp aq;subst e;have hi:i<rows.length:=(eE.mp jm).1;have al1:i<=64:=by have:=ok.ln;omega
  have s':aQ H (upd H1 ey (.tup [nat i,.ref q])):=s.trans (fun b u e=>by rw[a6 (bQ e cv)];exact e);rw[take_snoc (zip_get jm),oh];refine⟨_,Z,q,ws,Z,.inl (aT.of (s' _ _ a0)),_,Z,_,_,Z,Z,_,Z,?_⟩;rw[f5 jT];refine dD (fun ak=>?_) fun ak=>?_
  ·have g8:ss.length<=d:=by simpa using ak
   refine⟨_,Z,_,Z,_,_,Z,Z,agm al1,_,_,Z,Z,s',some (nat i),some (.ref q),s5,cU,?_⟩;simp only[hr,rU,bL g8,alZ];rfl
  ·have g8:¬ ss.length<=d:=by simpa using ak
   refine⟨s',some (nat i),some (.ref q),s5,cU,?_⟩;simp only[hr,rU,bw g8];rfl
 ·subst e;rw[fZ (by simp;omega)];intro t_ ayV;have agn:H t_=none:=s1.free ayV;have al2:aQ H (upd H1 t_ (.dW [])):=ef s1 agn;refine⟨_,Z,l,vs,Z,aT.of (al2 _ _ aF),?_⟩;refine Ho (xs:=vs) (fun i σ aB=>aQ H aB/\aB t_=some (.dW (mapA ((rows.zipIdx.take i).foldl (r3 (freeOf rows d) d) [])))/\((rows.zipIdx.take i).foldl (r3 (freeOf rows d) d) []).length<=1024 * i/\∃ s3 s4 cU,σ=[some (.ref l),some (nat d),some (nat (freeOf rows d)),s3,s4,some (.ref t_),cU]) ⟨al2,a7,cG _,_,_,_,rfl⟩ (fun i σ aB _ ⟨s,_⟩=>aT.of (s _ _ aF)) (fun i x ey σ aB aq ⟨s,hd,ji,s3,s4,cU,e⟩ cv=>?_) fun σ aB ⟨s,hd,ji,s3,s4,cU,e⟩=>?_
  ·subst e;obtain⟨ss,jm,q,ws,e,a0,jT⟩:=mF pp aq;subst e;have hi:i<rows.length:=(eE.mp jm).1;have al1:i<64:=by have:=ok.ln;omega
   have k9:ss∈rows:=f9 jm;have s':aQ H (upd aB ey (.tup [nat i,.ref q])):=s.trans (fun b u e=>by rw[a6 (bQ e cv)];exact e);have lC:(upd aB ey (.tup [nat i,.ref q])) t_=some (.dW (mapA ((rows.zipIdx.take i).foldl (r3 (freeOf rows d) d) []))):=by rw[a6 (bQ hd cv)];exact hd
   rw[take_snoc (zip_get jm),oh];generalize (rows.zipIdx.take i).foldl (r3 (freeOf rows d) d) []=A0 at *;refine⟨_,Z,q,ws,Z,.inl (aT.of (s' _ _ a0)),_,Z,_,_,Z,Z,_,Z,?_⟩;rw[f5 jT];refine dD (fun ak=>?_) fun ak=>?_
   ·have g8:d<ss.length:=by simpa using ak
    have m1:ss[d]?=some ss[d]:=dR g8;obtain⟨wv,ayW,bF,e,e2⟩:=y7 jT m1;subst e;have aHl:ss[d].length<=1024:=ok.st ss k9 _ (mV g8);refine⟨_,Z,_,Z,q,ws,_,_,Z,Z,aT.of (s' _ _ a0),gM ayW,bF,Z,⟨_,aT.of (s' _ _ e2)⟩,?_⟩;refine qy (xs:=ss[d].map nat) (fun j σ aJ=>aQ H aJ/\aJ t_=some (.dW (mapA (qs (freeOf rows d) i A0 (ss[d].take j))))/\∃ cU,σ=[some (.ref l),some (nat d),some (nat (freeOf rows d)),some (nat i),some (.ref q),some (.ref t_),cU]) ⟨s',lC,_,rfl⟩ (fun j σ aJ _ ⟨s,_⟩=>aT.of (s _ _ e2)) (fun j z σ aJ hz ⟨s3,ri,cU,e⟩=>?_) fun σ aJ ⟨s3,ri,cU,e⟩=>?_
    ·subst e;have bM:j<ss[d].length:=by simpa using(eE.mp hz).1
     have al3:ss[d][j]?=some ss[d][j]:=dR bM;have ayX:z=nat ss[d][j]:=by
      rw[ei,al3]at hz;exact(Option.some.inj hz).symm
     subst ayX;have hlen:(qs (freeOf rows d) i A0 (ss[d].take j)).length<=65536:=by
      have:=agk (freeOf rows d) i (ss[d].take j) A0;have aC:(ss[d].take j).length<=1024:=by rw[g0];omega
      omega
     rw[take_snoc al3];have ayY:qs (freeOf rows d) i A0 (ss[d].take j++[ss[d][j]])=r2 (qs (freeOf rows d) i A0 (ss[d].take j)) ss[d][j] (jh (qs (freeOf rows d) i A0 (ss[d].take j)) (freeOf rows d) ss[d][j] ||| 2 ^ i):=by
      unfold qs;rw[oh];rfl
     rw[ayY];generalize qs (freeOf rows d) i A0 (ss[d].take j)=A1 at *;refine⟨_,Z,t_,Z,.inl ⟨_,.inl ri⟩,_,Z,_,Z,_,hT.k (k:=bI ss[d][j]) ri,_,Z,_,_,Z,Z,agm (by omega),((jh A1 (freeOf rows d) ss[d][j]:Nat):Int),_,?_,Z,?_⟩
     ·rw[agj];unfold jh;cases pC A1 ss[d][j]<;>rfl
     ·refine⟨_,Z,_,Z,t_,_,Z,tA.k (k:=bI ss[d][j]) ri (by unfold mapA;rw[ew];exact jQ hlen),ef s3 agn,?_,_,Z⟩;rw[a7];simp only[alZ];exact congrArg (fun z=>some (HO.dW z)) (ayR _ _ _)
    ·subst e;refine⟨s3,?_,?_,_,_,_,Z⟩
     ·rw[ri,fZ (by simp)];simp[r3,g8,List.getD,m1]
     ·have aC:=agk (freeOf rows d) i ss[d] A0
      simp only[hr,rU,r3,bL g8,List.getD,m1,Option.getD_some];omega
   ·have g8:¬ d<ss.length:=by simpa using ak
    refine⟨s',?_,?_,_,_,_,Z⟩
    ·simp only[hr,rU,r3,bw g8];exact lC
    ·simp only[hr,rU,r3,bw g8];omega
  ·subst e;rw[fZ (by simp;omega)]at hd;refine⟨_,Z,_,Z,af2 fun p dx np nd=>?_⟩;have bY:=nZ (C:=t.tG) (fs:=[("free",nat (freeOf rows d)),("allowed",.ref t_)]) np nd;exact k1 _ _ (s.trans bY) ⟨p,dx,t_,rfl,eu.mpr ⟨s.free np,by simp,rz⟩,eu.mpr ⟨agn,by simp,bY _ _ hd⟩⟩
abbrev fy:ao:=fun _=>none
theorem n7{L:d1}{H:ao}{b:au}{o:HO}:bG fy L H b=some o↔b∉L/\H b=some o:=by
 rw[eu];simp
inductive vB(t:bW)(rows:List (List (aK)))(G:ao)(v:V):Prop
 |mk (a vs):v=.ref a->G a=some (.lst vs)->(∀ r∈rows,r.length<=vs.length)->vs.length<=16->(∀ d s,vs[d]?=some s->CJ t rows d G s)->vB t rows G v
theorem zj{rows:List (List (aK))}{H H':ao}{v:V}(s:aQ H H')(h:vB t rows H v):vB t rows H' v:=by
 obtain⟨a,vs,e,h1,aC,bH,dw⟩:=h;exact⟨a,vs,e,s _ _ h1,aC,bH,fun d z hz=>zf s (dw d z hz)⟩
inductive al4(t:bW)(a:V)(H:ao)(Q:bx)(E:cM):Prop
 |mk (l vs rows):a=.ref l->H l=some (.lst vs)->Paired (hg hq H) vs rows->Yw rows->1<=rows.length->(∀ v H',aQ H H'->vB t rows (bG H [] H') v->Q v H')->al4 t a H Q E
def ayZ(t:bW):eX:=fa (al4 t)
theorem al5(T:Txt K av t):cI P w K av base (cL P w) 4 t.Nq t.Nr ["rows"] (ayZ t):=by
 refine T.Gw.cY GP fa.cW ?_;rintro bJ A outer s H _ Q E aA ⟨bV,rfl,l,vs,rows,rfl,aF,pp,ok,h1,k1⟩;refine⟨_,(aV (cp (i:=1) GP.nd Z (Or.inl Z) (hv (aun Z) Z T.afB ax6 (aD (iH (own:=[("sets",2)]) dH (fun _ _ z=>z) Z GP.nd (gG (aj 0)) (gW (by rfl)) (fun _ _ _ _ _=>dj (i:=2) GP.nd Z (Or.inl Z)) (fun _ _ _ _ _=>hx) (fun _ _ _ _ _=>(hv (afX (K':=K) Z) Z T.hA hM (aD (aj 2) aM)))) aM))) (bj (dK (iH (own:=[("distance",3)]) dH (fun _ _ z=>z) Z GP.nd (mg Z T.jz (aD (aj 1) aM)) (gW (by rfl)) (fun _ _ _ _ _=>dj (i:=3) GP.nd Z (Or.inl Z)) (fun _ _ _ _ _=>hx) (fun _ _ _ _ _=>(dG (ayU T) aA.bf Z T.aeV T.QW.aG T.awZ .nil bh (aD (aj 0) (aD (aj 3) aM)))))))),?_⟩;apply cA;intros;have tZ:vs.length=rows.length:=f5 pp;have ji:=ok.ln;refine⟨_,Z,l,Z,⟨_,aT.of aF⟩,fun D0 al6=>?_⟩;refine n3 (rows.map fun r=>V.int (r.length:Nat)) (by simp[tZ]) (aT.of aF) (by omega) al6 (fun i x y H' eo aq aP aH q=>?_) ?_
 ·obtain⟨ss,jm,a,ws,e,a0,jT⟩:=mF pp aq;subst e;refine⟨_,Z,a,ws,Z,.inl (aT.of (aH _ _ a0)),?_⟩;rw[ei,jm]at aP;rw[f5 jT];have gj:V.int (ss.length:Nat)=y:=Option.some.inj aP;rw[gj];exact q
 have s1:aQ H (upd H D0 (.lst (rows.map fun r=>V.int (r.length:Nat)))):=ef (aQ.refl _) al6;have ago:(upd H D0 (.lst (rows.map fun r=>V.int (r.length:Nat)))) D0=some (.lst ((rows.map fun r=>((r.length:Nat):Int)).map V.int)):=by
  rw[a7,kh];rfl
 generalize upd H D0 (.lst (rows.map fun r=>V.int (r.length:Nat)))=H1 at *;refine⟨D0,_,Z,aT.of ago,by simp;omega,fun m hm ay0=>?_⟩;obtain⟨Yx,iy,rfl⟩:=g5.mp hm;have aHm:=ok.agl Yx iy;refine⟨_,Z,_,Z,by omega,by omega,fun D bp=>?_⟩;have Yy:H D=none:=s1.free bp;refine ab4 (n:=Yx.length) (lo:=0) (fun i aB=>aQ H aB/\∃ ws,aB D=some (.lst ws)/\ws.length=i/\∀ d s,ws[d]?=some s->CJ t rows d (bG H [D] aB) s) ⟨ef s1 Yy,[],a7,rfl,fun d s h=>by simp at h⟩ (fun i aB hi ⟨s2,ws,jE,lB,qH⟩=>?_) fun aB ⟨s2,ws,jE,lB,qH⟩=>?_
 ·refine⟨Z,R3 ⟨_,rfl,_,rfl,_,_,rfl,l,vs,rows,i,rfl,by simp,s2 _ _ aF,Paired.d7 pp fun _ _ z=>fK hc _ _ _ _ s2 z,ok,fun v aJ s3 rs=>?_⟩⟩;have CK:=s3 _ _ jE;refine⟨ws,CK,jQ (by omega),ef (s2.trans s3) Yy,_,a7,by simp[lB],fun d s hd=>?_⟩;have bF:aQ (bG H [D] aB) (bG H [D] (upd aJ D (.lst (ws++[v])))):=y0 fun b o a1 a2 a3=>⟨a1,a2,by rw[a6 (by simpa using a2)];exact s3 _ _ a3⟩;by_cases ay1:d<ws.length
  ·rw[Uj ay1]at hd;exact zf bF (qH d s hd)
  ·rw[I0 (by omega)]at hd;have ay2:d=i:=by
    have:=(eE.mp hd).1;simp at this;omega
   subst ay2;rw[lB,Nat.sub_self]at hd;have:v=s:=by simpa using hd
   subst this;refine zf (y0 fun b o a1 a2 a3=>?_) rs;have nb:b≠D:=bQ (H:=fun c=>if aB c=none then none else some (HO.lst [])) (b:=b) (a:=D) (o:=.lst []) (by simp[jE]) (by simp[a1]) |>.symm;exact⟨s2.free a1,by simp[nb],by rw[a6 nb];exact a3⟩
 ·refine k1 _ _ s2 ⟨D,ws,rfl,eu.mpr ⟨Yy,by simp,jE⟩,fun r aA=>?_,by omega,fun d s hd=>zf (y1 (by simp)) (qH d s hd)⟩;have:=ay0 _ (I_ aA);omega
structure Hp(l:List Sw28.Around):Prop where
 ln:l.length<=64
 a1:∀ a∈l,a.before.length<=8/\a.here.length<=8/\a.behind.length<=8
 a2:∀ a∈l,∀ s∈a.before++(a.here++a.behind),s.length<=1024
def oY(l:List Sw28.Around):List (List (aK)):=l.map fun a=>a.here++a.behind
def sA(l:List Sw28.Around):List (List (aK)):=l.map fun a=>a.before
theorem Hp.on{l:List Sw28.Around}(h:Hp l):Yw (oY l) where
 ln:=by simp[oY,h.ln]
 agl:=fun r aA=>by
  obtain⟨a,aW,rfl⟩:=g5.mp aA;have:=h.a1 a aW;simp;omega
 st:=fun r aA s aH=>by
  obtain⟨a,aW,rfl⟩:=g5.mp aA;exact h.a2 a aW s (v8 _ aH)
theorem Hp.jH{l:List Sw28.Around}(h:Hp l):Yw (sA l) where
 ln:=by simp[sA,h.ln]
 agl:=fun r aA=>by
  obtain⟨a,aW,rfl⟩:=g5.mp aA;have:=h.a1 a aW;omega
 st:=fun r aA s aH=>by
  obtain⟨a,aW,rfl⟩:=g5.mp aA;exact h.a2 a aW s (uI _ aH)
theorem Sd{α β:Type}{F:α->β->Prop}:∀ {l l':List α} {r r':List β},Paired F l r->Paired F l' r'->Paired F (l++l') (r++r')
 |_,_,_,_,.nil,h=>h
 |_,_,_,_,.cons q t,h=>.cons q (Sd t h)
inductive al7(t:bW)(a b:V)(H:ao)(Q:bx)(E:cM):Prop
 |mk (x dx G l):a=.ref x->H x=some (.ins t.ju dx [])->aQ G H->G x=none->hg (zc t) G b l->Hp l->1<=l.length->(∀ k_ ez H',a9 [x] H H'->H' x=some (.ins t.ju dx [("entries",b),("onward",k_),("backward",ez)])->vB t (oY l) (bG H [] H') k_->vB t (sA l) (bG H [] H') ez->Q .non H')->al7 t a b H Q E
def ay3(t:bW):eX:=fQ (al7 t)
theorem ay4{β:Type}{Rep:ao->V->β->Prop}{K':cn}{a D:au}{xs:List V}{te:TE}{σ:St}{dA:Nat}{H:ao}{gv:ao->Prop}(mono:fC Rep)(bN:List β)(aP:bN.length=xs.length)(aW:aT K' H a xs)(hz:xs.length<=65536)(bp:H D=none)
  (rA:∀ (i:Nat) x y H' (eo:bx),xs[i]?=some x->bN[i]?=some y->aQ H H'->H' D≠none->(∀ v lN,aQ H' lN->Rep (bG fy [D] lN) v y->eo v lN)->te ((wipe σ [dA]).set dA (some x)) H' eo)
  (k:∀ H' ws,aQ H H'->H' D=some (.lst ws)->Paired (Rep (bG fy [D] H')) ws bN->gv H') :
  ∃ W:Nat->Nat->ao->Prop,(∃ m,W 0 m (upd H D (.lst [])))/\∀ i m H,W i m H ->
   ((jj K' a).stop i H/\gv H)\/((jj K' a).go i H/\∃ fP:ao->Prop,(∀ H',fP H'->∃ dT,dT<m/\W (i+1) dT H')/\∀ x H',(jj K' a).mc i H x H'->kW dA x (wipe σ [dA]) H' fun dV aB=>wipe dV [dA]=wipe σ [dA]/\sb dV aB fun b aJ =>
    if b=true then te dV aJ fun y bB=>∃ acc,bB D=some (.lst acc)/\acc.length<sizeLine/\fP (upd bB D (.lst (acc++[y])))else fP aJ):=by
 refine ab5 (xs:=xs) (gv:=gv) (fun i aB=>aQ H aB/\∃ ws,aB D=some (.lst ws)/\Paired (Rep (bG fy [D] aB)) ws (bN.take i)) ⟨ef (aQ.refl _) bp,[],a7,.nil⟩ (fun i aB _ ⟨s,_⟩=>s.seq aW) (fun i x aB aq ⟨s2,ws,jE,jT⟩=>?_) fun aB ⟨s2,ws,jE,jT⟩=>?_
 ·have hi:i<bN.length:=by rw[aP];exact(eE.mp aq).1
  have Sh:bN[i]?=some bN[i]:=dR hi;refine⟨by simp[wipe],R3 (rA i x bN[i] aB _ aq Sh s2 (j4 jE) fun v aJ s3 rep=>⟨ws,s3 _ _ jE,?_,ef (s2.trans s3) bp,_,a7,?_⟩)⟩
  ·have:ws.length<=i:=by rw[f5 jT,g0];omega
   exact jQ (by omega)
  ·have bF:∀ b2,aQ b2 aJ->aQ (bG fy [D] b2) (bG fy [D] (upd aJ D (.lst (ws++[v])))):=fun b2 s5=>y0 fun b o a1 a2 a3=>⟨a1,a2,by rw[a6 (by simpa using a2)];exact s5 _ _ a3⟩
   rw[take_snoc Sh];exact G9 (Paired.d7 jT fun _ _ z=>mono _ _ _ _ (bF aB s3) z) (mono _ _ _ _ (bF aJ (aQ.refl _)) rep)
 ·rw[← aP,fZ (cG _)]at jT;exact k aB ws s2 jE jT
theorem ay5(T:Txt K av t):cI P w K av base (cL P w) 5 t.KJ t.KN ["self","entries"] (ay3 t):=by
 refine T.Wu.cY RQ fQ.cW ?_;rintro bJ A outer s H _ Q E aA ⟨bV,b,rfl,x,dx,G,l,rfl,aq,nr,Yz,⟨ha,vs,e,ua,pp⟩,ok,h1,k1⟩;refine⟨_,(aV (eV (aj 0) (aj 1) Z) (aV (eV (aj 0) (dG (al5 T) aA.bf Z T.XK T.Gw.aG T.ak_ .nil bh (aD (iH (own:=[("entry",2)]) dH (fun _ _ z=>z) Z RQ.nd (gG (aj 1)) (gW (by rfl)) (fun _ _ _ _ _=>dj (i:=2) RQ.nd Z (Or.inl Z)) (fun _ _ _ _ _=>hx) (fun _ _ _ _ _=>(e4 akh (ry (K':=K) Z (aj 2) Z) (ry (K':=K) Z (aj 2) Z)))) aM)) Z) (bj (eV (aj 0) (dG (al5 T) aA.bf Z T.XK T.Gw.aG T.ak_ .nil bh (aD (iH (own:=[("entry",2)]) dH (fun _ _ z=>z) Z RQ.nd (gG (aj 1)) (gW (by rfl)) (fun _ _ _ _ _=>dj (i:=2) RQ.nd Z (Or.inl Z)) (fun _ _ _ _ _=>hx) (fun _ _ _ _ _=>(ry (K':=K) Z (aj 2) Z))) aM)) Z)))),?_⟩;apply dY;intros;subst e;have tZ:vs.length=l.length:=f5 pp;have ji:=ok.ln;refine⟨_,Z,_,Z,x,_,dx,_,Z,aq,T.tH,T.Gm,by show 0<1000;decide,?_⟩;have Sp:aQ G (upd H x (.ins t.ju dx (cB "entries" (.ref ha) []))):=ef nr Yz;have mY:(upd H x (.ins t.ju dx (cB "entries" (.ref ha) []))) x=some (.ins t.ju dx [("entries",.ref ha)]):=a7;have cC:a9 [x] H (upd H x (.ins t.ju dx (cB "entries" (.ref ha) []))):=a9.pR (by simp);have al8:H x≠none:=j4 aq;generalize upd H x (.ins t.ju dx (cB "entries" (.ref ha) []))=H1 at *;refine⟨_,Z,ha,Z,⟨_,aT.of (Sp _ _ ua)⟩,fun D bp=>?_⟩;have zm:G D=none:=Sp.free bp;refine ay4 (fK hc) (oY l) (by simp[oY,tZ]) (aT.of (Sp _ _ ua)) (by omega) bp (fun i v y aB eo aZ aP s2 Hq kq=>?_) fun aB ws s2 jE jT=>?_
 ·obtain⟨a,aW,p,eO,ez,rD,qP,jD,rfl,aL,rb,⟨cN,R_,rfl,R',ptp⟩,⟨ba,vC,rfl,CN,al9⟩,al_⟩:=mF pp aZ;have Hr:aQ G aB:=Sp.trans s2;have gj:y=a.here++a.behind:=by
   unfold oY at aP;rw[ei,aW]at aP;exact(Option.some.inj aP).symm
  subst gj;refine⟨_,Z,p,_,eO,_,_,Z,Hr _ _ aL,T.su,T.Qy,Z,?_⟩;refine⟨_,Z,p,_,eO,_,_,Z,Hr _ _ aL,T.su,T.Wl,Z,cN,ba,R_,vC,Z,Z,Hr _ _ R',Hr _ _ CN,?_,fun q a0=>?_⟩
  ·have:=ok.a1 a (f9 aW)
   rw[f5 ptp,f5 al9];exact RW (by omega)
  ·have agp:q≠D:=fun e=>Hq (e▸a0)
   have al':aQ G (bG fy [D] (upd aB q (.lst (R_++vC)))):=fun b o e=>n7.mpr ⟨by simp only[g4];exact bQ e zm,by rw[a6 (bQ (Hr _ _ e) a0)];exact Hr _ _ e⟩;exact kq _ _ (ef (aQ.refl _) a0) ⟨q,_,rfl,n7.mpr ⟨by simp[agp],a7⟩,Sd (Paired.d7 ptp fun _ _ z=>hc _ _ _ _ al' z) (Paired.d7 al9 fun _ _ z=>hc _ _ _ _ al' z)⟩
 refine⟨_,Z,D,ws,oY l,Z,jE,Paired.d7 jT fun _ _ z=>fK hc _ _ _ _ hB z,ok.on,by simp[oY];omega,fun k_ aJ s3 rs=>?_⟩;have agq:aQ H1 aJ:=s2.trans s3;refine⟨_,Z,x,_,dx,_,Z,agq _ _ mY,T.tH,T.Ws,by show 1<1000;decide,?_⟩;have aHn:∀ {H':ao},aQ H1 H'->∀ b,H1 b≠none->H' b≠none:=fun s=>aQ.dom s;have ay6:a9 [x] H aJ:=cC.trans (hp agq _);have ay7:∀ b,H b≠none->aB b≠none:=(cC.trans (hp s2 _)).dom fun b ak=>by simp at ak;rw[ak];exact j4 (s2 _ _ mY)
 have ama:vB t (oY l) (bG H [] aJ) k_:=zj (tU ay7 (by simp)) rs;have YB:aQ G (upd aJ x (.ins t.ju dx (cB "onward" k_ [("entries",.ref ha)]))):=ef (Sp.trans agq) Yz;have zp:(upd aJ x (.ins t.ju dx (cB "onward" k_ [("entries",.ref ha)]))) x=some (.ins t.ju dx [("entries",.ref ha),("onward",k_)]):=a7;have dF:a9 [x] H (upd aJ x (.ins t.ju dx (cB "onward" k_ [("entries",.ref ha)]))):=ay6.qM (by simp);have amb:vB t (oY l) (bG H [] (upd aJ x (.ins t.ju dx (cB "onward" k_ [("entries",.ref ha)])))) k_:=zj (jA (M:=[x]) (a9.pR (by simp)) fun b ak=>by simp at ak;exact .inl (ak▸al8)) ama;generalize upd aJ x (.ins t.ju dx (cB "onward" k_ [("entries",.ref ha)]))=bB at *;clear rs ama;refine⟨_,Z,ha,Z,⟨_,aT.of (YB _ _ ua)⟩,fun D2 jn=>?_⟩;obtain⟨bv,amc,amd⟩:∃ bv:List V,bv.length=vs.length/\∀ (i:Nat) (v:V),vs[i]?=some v->∃ (a:Sw28.Around) (w:V),l[i]?=some a/\bv[i]?=some w/\hg hq G w a.before/\∃ p eO rD qP jD,v=V.ref p/\G p=some (.ins t.rp eO [("before",w),("there",rD),("behind",qP),("acts",jD)]):=by
  clear tZ k1 h1 ji ok amb jT ua;induction pp with
  |nil=>exact⟨[],Z,fun i v h=>by simp at h⟩
  |cons h tl bU =>
   obtain⟨bv,bD,a8⟩:=bU;obtain⟨p,eO,ez,rD,qP,jD,rfl,aL,rb,_⟩:=h;refine⟨ez::bv,by simp[bD],fun i v aZ=>?_⟩;cases i with
   |zero =>
    simp at aZ;subst aZ;exact⟨_,ez,Z,Z,rb,p,eO,rD,qP,jD,Z,aL⟩
   |succ i=>simpa using a8 i v (by simpa using aZ)
 refine n3 bv amc (aT.of (YB _ _ ua)) (by omega) jn (fun i v y b2 eo aZ aP s5 q=>?_) ?_
 ·obtain⟨a,w,aW,hw,_,p,eO,rD,qP,jD,rfl,aL⟩:=amd i v aZ;rw[hw]at aP;cases aP;exact⟨_,Z,p,_,eO,_,_,Z,s5 _ _ (YB _ _ aL),T.su,T.Wk,Z,q⟩
 have zq:aQ bB (upd bB D2 (.lst bv)):=ef (aQ.refl _) jn;have xJ:(upd bB D2 (.lst bv)) D2=some (.lst bv):=a7;generalize upd bB D2 (.lst bv)=b2 at *;have pb:Paired (hg hq b2) bv (sA l):=by
  have key:∀ (n:Nat) (bv:List V) (l:List Sw28.Around),bv.length=l.length->(∀ (i:Nat) (a:Sw28.Around) (w:V),l[i]?=some a->bv[i]?=some w->hg hq b2 w a.before)->Paired (hg hq b2) bv (sA l):=by
   intro n bv;induction bv with
   |nil =>
    intro l aF _;cases l with
    |nil=>exact .nil
    |cons _ _=>simp at aF
   |cons w bv bU =>
    intro l aF h;cases l with
    |nil=>simp at aF
    |cons a l=>exact .cons (h 0 a w rfl rfl) (bU l (by simpa using aF) fun i a' w' h1 aC=>h (i+1) a' w' (by simpa using h1) (by simpa using aC))
  refine key 0 bv l (by omega) fun i a w aW hw=>?_;have hi:i<vs.length:=by rw[← amc];exact(eE.mp hw).1
  obtain⟨a',w',Ex,ame,rb,_⟩:=amd i _ (dR hi);rw[aW]at Ex;rw[hw]at ame;cases Ex;cases ame;exact fK hc _ _ _ _ (YB.trans zq) rb
 refine⟨_,Z,D2,bv,sA l,Z,xJ,pb,ok.jH,by simp[sA];omega,fun ez eH cU rs=>?_⟩;have Hs:aQ bB eH:=zq.trans cU;refine⟨_,Z,x,_,dx,_,Z,Hs _ _ zp,T.tH,T.Wt,by show 2<1000;decide,?_⟩;have nu:a9 [x] H eH:=dF.trans (hp Hs _);have ay8:∀ b,H b≠none->b2 b≠none:=(dF.trans (hp zq _)).dom fun b ak=>by simp at ak;rw[ak];exact j4 (zq _ _ zp)
 have amf:∀ o,aQ (bG H [] eH) (bG H [] (upd eH x o)):=fun o=>jA (M:=[x]) (a9.pR (by simp)) fun b ak=>by simp at ak;exact .inl (ak▸al8)
 refine k1 k_ ez _ (nu.qM (by simp)) a7 (zj ((jA (M:=[]) (hp Hs []) (by simp)).trans (amf _)) amb) (zj ((tU ay8 (by simp)).trans (amf _)) rs)
inductive agr(t:bW)(G:ao)(v:V)(y:(aK×Nat)×Nat):Prop
 |mk (p dx):v=.ref p->G p=some (.ins t.ni dx [("order",nat y.2),("length",nat y.1.1.length),("joined",nat y.1.2)])->agr t G v y
theorem ay9:fC (agr t):=fun _ _ _ _ s ⟨p,dx,e,h⟩=>⟨p,dx,e,s _ _ h⟩
structure YC(G:ao)(la:List (Key×V))(L:Nat->aK):Prop where
 no:∀ a,dX la (bI a)=none->L a=[]
 yes:∀ a v,dX la (bI a)=some v->∃ q,v=.ref q/\G q=some (.lst ((L a).map nat))
 inj:∀ a b q,dX la (bI a)=some (.ref q)->dX la (bI b)=some (.ref q)->a=b
theorem YC.mono{G zu:ao}{la:List (Key×V)}{L:Nat->aK}(s:aQ G zu)(h:YC G la L):YC zu la L :=
 ⟨h.no,fun a v e=>by obtain⟨q,bD,a8⟩:=h.yes a v e;exact⟨q,bD,s _ _ a8⟩,h.inj⟩
def CP(t:bW)(G:ao)(j:au)(ds:List (aK×Nat))(L:Nat->aK):Prop :=
 ∃ dx bs ls kvs la,G j=some (.ins t.sq dx [("by_signs",.ref bs),("lengths",.ref ls)])/\G bs=some (.gD kvs)/\Paired (fun(bC:List Key×V) y=>bC.1=y.1.1.map bI/\agr t G bC.2 y) kvs ds.zipIdx /\
  G ls=some (.dW la)/\YC G la L/\la.length<=ds.length
theorem CQ{G zu:ao}{j:au}{ds:List (aK×Nat)}{L:Nat->aK}(s:aQ G zu)(h:CP t G j ds L):CP t zu j ds L:=by
 obtain⟨dx,bs,ls,kvs,la,h1,aC,bH,dw,jr,tD⟩:=h;exact⟨dx,bs,ls,kvs,la,s _ _ h1,s _ _ aC,Paired.d7 bH fun _ _ z=>⟨z.1,ay9 _ _ _ _ s z.2⟩,s _ _ dw,jr.mono s,tD⟩
theorem ay_(T:Txt K av t):cI P w K av base (cL P w) 1 t.Lh t.Li ["self"] (fa fun a H Q _=>∃ x dx,a=.ref x/\H x=some (.ins t.sq dx [])/\∀ H' bs ls,a9 [x] H H'->H' x=some (.ins t.sq dx [("by_signs",.ref bs),("lengths",.ref ls)])->H' bs=some (.gD [])->H' ls=some (.dW [])->H bs=none->H ls=none->Q .non H'):=by
 refine T.W3.cY axL fa.cW ?_;rintro bJ A outer s H _ Q E aA ⟨bV,rfl,x,dx,rfl,aq,k1⟩;refine⟨_,(aV (eV (aj 0) au2 Z) (bj (eV (aj 0) FJ Z))),?_⟩;apply cA;intros;intro bs h8;refine⟨_,Z,x,_,dx,_,Z,by rw[a6 (bQ aq h8)];exact aq,T.sv,T.Ce,by show 0<1000;decide,?_⟩;intro ls nx;have cT:x≠ls:=fun e=>by rw[← e,a7]at nx;cases nx
 have nb:bs≠x:=(bQ aq h8).symm;have YD:(upd H bs (.gD [])) ls=none:=by rw[a6 cT.symm]at nx;exact nx
 have amg:bs≠ls:=fun e=>by rw[← e,a7]at YD;cases YD
 have amh:H ls=none:=by rw[a6 amg.symm]at YD;exact YD
 refine⟨_,Z,x,_,dx,_,Z,by rw[a6 cT,a7],T.sv,T.QJ,by show 1<1000;decide,?_⟩;refine k1 _ bs ls (fun b o n e=>?_) a7 ?_ ?_ h8 amh
 ·have ami:b≠x:=by simpa using n
  rw[a6 ami,a6 (bQ e amh),a6 ami,a6 (bQ e h8)];exact e
 ·rw[a6 nb,a6 amg,a6 nb,a7]
 ·rw[a6 cT.symm,a7]
theorem ags(n:Nat):∀ ns:aK,J1 (nat n) (ns.map nat)=decide (n∈ns)
 | []=>by simp[J1]
 |a::ns=>by
  have bU:=ags n ns;unfold J1 at bU ⊢;rw[fT,Ak,bU];by_cases h:a=n
  ·subst h;simp[va]
  ·have h':¬ ((a:Int)=(n:Int)):=by omega
   have aC:¬ n=a:=fun e=>h e.symm;simp[va,h',aC]
theorem ay'(ns:aK):(ns.map nat).all u_=true:=by simp[u_]
def aza(A:ao)(M:d1)(H H':ao):Prop:=∀ b o,(A b≠none\/b∈M)->H b=some o->H' b=some o
theorem amj(l:aK):(l.map bI).map c0=l.map nat:=by
 rw[kh];rfl
theorem agt:∀ {a b:aK},a.map bI=b.map bI->a=b
 | [],[],_=>rfl
 | [],_::_,h=>by simp at h
 |_::_,[],h=>by simp at h
 |x::a,y::b,h=>by
  rw[fT,fT]at h;injection h with h1 aC
  rw[n6.mp h1,agt aC]
theorem amk{F:(List Key×V)->(aK×Nat)×Nat->Prop}(iQ:∀ bC y,F bC y->bC.1=y.1.1.map bI)(key:aK):∀ {kvs:List (List Key×V)} {ds:List (aK×Nat)} {k:Nat},Paired F kvs (ds.zipIdx k) ->
  (dX kvs (key.map bI)).isSome=ds.any fun d=>d.1 == key
 |_,[],_,.nil=>rfl
 |_,d::ds,k,h=>by
  rw[x5]at h;cases h with
  |cons q tl =>
   have bU:=amk iQ key tl;have e:=iQ _ _ q;rw[Ak];by_cases hd:d.1=key
   ·rw[oO (by rw[e,hd])];simp[hd]
   ·rw[oR (fun z=>hd (agt (e.symm.trans z))),bU];simp[hd]
inductive aml(t:bW)(s a b:V)(H:ao)(Q:bx)(pT:cM):Prop
 |mk (j A M ds L S) (e:h_):s=.ref j->a=.ref S->b=nat e.2.2->H S=some (.lst ((keyOf e).map nat))->CP t (bG A M H) j ds L->ds.length<=2048->e.2.1.length<=100->(∀ b,A b≠none->H b≠none)->(∀ b∈M,H b≠none)->r1 ds L->(∀ a,(L a).length<=ds.length)->(∀ H' L',aza A M H H'->CP t (bG A M H') j (oF ds e) L'->r1 (oF ds e) L'->(∀ a,(L' a).length<=(oF ds e).length)->Q .non H')->aml t s a b H Q pT
def azb(t:bW):eX:=gb (aml t)
theorem azc(T:Txt K av t):cI P w K av base (cL P w) 3 t.Lj t.Lk ["self","signs","joined"] (azb t):=by
 refine T.W4.cY afJ gb.cW ?_;rintro bJ A outer s H _ Q E aA ⟨bV,a1,a2,rfl,j,A,M,ds,L,S,e,rfl,rfl,rfl,dZ,amm,aHo,aHp,qN,azd,Sq,c4,k1⟩;refine⟨_,(aV (cp (i:=3) afJ.nd rfl (Or.inl rfl) (q' akd rfl T.X5 alu (aD (aj 1) aM))) (aV (gh (pL (ab9 (k4 aA) (aj 3) (bO (aj 0) rfl))) (bj abh) ht) (aV (J_ (k4 aA) (bO (aj 0) rfl) (aj 3) (qC T.aeu (ayk T) aA.bf rfl T.aes T.awG .nil bh (aD (hv awg rfl T.hA hM (aD (bO (aj 0) rfl) aM)) (aD (hv iG rfl T.hA hM (aD (aj 3) aM)) (aD (aj 2) aM)))) rfl) (aV (cp (i:=4) afJ.nd rfl (Or.inl rfl) (aws (bO (aj 0) rfl) (eN Bu (aj 3) b3 (fun _ _=>rfl)) (hb aM) ⟨rfl,rfl,rfl,rfl⟩)) (bj (gh (gK at7 (hv iG rfl T.hA hM (aD (aj 3) aM)) (aj 4) (by with_unfolding_all rfl)) (bj (er (mz lV pk pn pP (aj 4) (aD (hv iG rfl T.hA hM (aD (aj 3) aM)) aM)))) ht)))))),?_⟩;apply mb;intros;obtain⟨dx,bs,ls,kvs,la,bM,h8,pG,nx,rE,zv⟩:=id amm;obtain⟨amn,amo,bM⟩:=eu.mp bM;obtain⟨ab,pI,h8⟩:=eu.mp h8;obtain⟨al,agu,nx⟩:=eu.mp nx;refine⟨_,Z,S,_,Z,.inl ⟨aT.of dZ,fun ey cv=>?_⟩⟩;have fr:∀ {b:au},H b=none->A b=none/\b∉M:=fun{b} ak=>⟨by
  cases z:A b with
  |none=>rfl
  |some o=>exact absurd ak (qN b (by rw[z];simp)),fun z=>azd b z ak⟩
 have s1:aQ H (upd H ey (.tup ((keyOf e).map nat))):=ef (aQ.refl _) cv;have vD:(upd H ey (.tup ((keyOf e).map nat))) ey=some (.tup (((keyOf e).map bI).map c0)):=by rw[a7,amj]
 have Ym:=fr cv;generalize upd H ey (.tup ((keyOf e).map nat))=H1 at *;have hval:=amk (fun _ _ z=>z.1) (keyOf e) pG;refine⟨_,Z,_,Z,j,_,dx,_,_,Z,s1 _ _ bM,T.sv,T.Ce,Z,bs,_,Z,hT.t (k:=(keyOf e).map bI) (s1 _ _ h8) vD,_,Z,?_⟩;rw[hval];refine dD (fun ak=>?_) fun ak=>?_
 ·have nM:oF ds e=ds:=by unfold oF;rw[bL ak]
  exact k1 H1 L (fun b o _ q=>s1 _ _ q) (by rw[nM];exact CQ (jA (M:=[]) (hp s1 []) (by simp)) amm) (by rw[nM];exact Sq) (by rw[nM];exact c4)
 have nM:oF ds e=ds++[(keyOf e,e.2.2)]:=by unfold oF;rw[bw ak]
 have aze:dX kvs ((keyOf e).map bI)=none:=by
  cases z:dX kvs ((keyOf e).map bI)with
  |none=>rfl
  |some v=>rw[z]at hval;exact absurd hval.symm ak
 have mH:kvs.length=ds.length:=by rw[f5 pG,List.length_zipIdx]
 refine⟨_,Z,j,_,dx,_,_,Z,s1 _ _ bM,T.sv,T.Ce,Z,bs,kvs,Z,s1 _ _ h8,?_⟩;refine⟨_,Z,ey,_,Z,.inr (fM.of vD),_,Z,R0 fun p eO np nd=>?_⟩;have s2:aQ H1 (iJ H1 p eO t.ni [("order",.int (kvs.length:Nat)),("length",.int ((((keyOf e).map bI).map c0).length:Nat)),("joined",nat e.2.2)]):=nZ np nd;have V0:(iJ H1 p eO t.ni [("order",.int (kvs.length:Nat)),("length",.int ((((keyOf e).map bI).map c0).length:Nat)),("joined",nat e.2.2)]) p=some (.ins t.ni eO [("order",nat ds.length),("length",nat (keyOf e).length),("joined",nat e.2.2)]):=by
  rw[rz,mH];simp
 have fp:=fr (s1.free np);generalize iJ H1 p eO t.ni [("order",.int (kvs.length:Nat)),("length",.int ((((keyOf e).map bI).map c0).length:Nat)),("joined",nat e.2.2)]=aB at *;have j7:=s1.trans s2;refine⟨_,Z,j,_,dx,_,_,Z,j7 _ _ bM,T.sv,T.Ce,Z,_,Z,bs,_,Z,tA.t (k:=(keyOf e).map bI) (j7 _ _ h8) (s2 _ _ vD) (jQ (by omega)),?_⟩;rw[VR _ aze];have agv:j≠bs:=hN bM h8 (by intro z;cases z);have Ss:ls≠bs:=hN nx h8 (by intro z;cases z);have Sv:ey≠bs:=(bQ h8 cv).symm;have amq:p≠bs:=(bQ (s1 _ _ h8) np).symm;have k3:∀ b o,b≠bs->aB b=some o->(upd aB bs (.gD (kvs++[((keyOf e).map bI,.ref p)]))) b=some o:=fun b o n q=>by rw[a6 n];exact q
 have YF:(upd aB bs (.gD (kvs++[((keyOf e).map bI,.ref p)]))) bs=some (.gD (kvs++[((keyOf e).map bI,.ref p)])):=a7;generalize upd aB bs (.gD (kvs++[((keyOf e).map bI,.ref p)]))=aJ at *;refine⟨_,Z,j,_,dx,_,_,Z,k3 _ _ agv (j7 _ _ bM),T.sv,T.QJ,Z,ls,Z,.inl ⟨_,.inl (k3 _ _ Ss (j7 _ _ nx))⟩,?_⟩;refine⟨_,Z,ey,_,0,nat e.1,Z,Z,fM.of (k3 _ _ Sv (s2 _ _ vD)),at_of (j:=0) rfl rfl,eY _,fun gP qQ=>?_⟩;have s4:aQ aJ (upd aJ gP (.lst [])):=ef (aQ.refl _) qQ;have CT:(upd aJ gP (.lst [])) gP=some (.lst []):=a7;have amr:∀ {b:au},aJ b=none->H b=none:=fun{b} ak=>by
  cases z:H b with
  |none=>rfl
  |some o =>
   by_cases sD:b=bs
   ·rw[sD,YF]at ak;cases ak
   ·rw[k3 b o sD (j7 _ _ z)]at ak;cases ak
 have f0:=fr (amr qQ);have CV:∀ b o,H b=some o->b≠gP:=fun b o z=>bQ z (amr qQ);generalize upd aJ gP (.lst [])=bB at *;have xK:∀ b o,b≠bs->H b=some o->bB b=some o:=fun b o n z=>s4 _ _ (k3 _ _ n (j7 _ _ z));refine⟨la,bI e.1,xK _ _ Ss nx,Z,jQ (by omega),fun v aZ=>?_,fun aZ=>?_⟩
 ·
  obtain⟨q,rfl,a0⟩:=rE.yes _ _ aZ;obtain⟨agw,ams,a0⟩:=eu.mp a0;have amt:q≠bs:=hN a0 h8 (by intro z;cases z);have kk:=xK _ _ amt a0;refine⟨_,Z,ey,_,Z,.inr (fM.of (s4 _ _ (k3 _ _ Sv (s2 _ _ vD)))),_,Z,q,_,Z,.inl (aT.of kk),Z,ay' _,_,Z,?_⟩;have fin:∀ CW,(∀ b o,b≠bs->b≠q->H b=some o->CW b=some o)->CW bs=some (.gD (kvs++[((keyOf e).map bI,.ref p)]))->CW p=some (.ins t.ni eO [("order",nat ds.length),("length",nat (keyOf e).length),("joined",nat e.2.2)]) ->
    CW q=some (.lst ((qp L e.1 (keyOf e).length e.1).map nat))->Q .non CW:=fun CW Sw f1 f2 fJ=>by
   refine k1 CW (qp L e.1 (keyOf e).length) (fun b o ak z=>Sw b o ?_ ?_ z) ?_ (by rw[nM];exact Sq.tell e ak) ?_
   ·rintro rfl;exact ak.elim (fun w=>w ab) pI
   ·rintro rfl;exact ak.elim (fun w=>w agw) ams
   ·rw[nM];have azf:j≠q:=hN bM a0 (by intro z;cases z);have azg:ls≠q:=hN nx a0 (by intro z;cases z);refine⟨dx,bs,ls,_,la,eu.mpr ⟨amn,amo,Sw _ _ agv azf bM⟩,eu.mpr ⟨ab,pI,f1⟩,?_,eu.mpr ⟨al,agu,Sw _ _ Ss azg nx⟩,⟨fun a z=>?_,fun a v z=>?_,rE.inj⟩,by simp;omega⟩
    ·rw[List.zipIdx_append];refine Sd (Paired.d7 pG fun bC y z=>⟨z.1,?_⟩) (.cons ⟨rfl,p,eO,rfl,eu.mpr ⟨fp.1,fp.2,by simpa using f2⟩⟩ .nil);obtain⟨p',Br,bD,a8⟩:=z.2;obtain⟨dr,ov,e5⟩:=eu.mp a8;exact⟨p',Br,bD,eu.mpr ⟨dr,ov,Sw _ _ (hN e5 h8 (by intro z;cases z)) (hN e5 a0 (by intro z;cases z)) e5⟩⟩
    ·unfold qp;rw[bw (fun w=>by rw[w,aZ]at z;cases z)];exact rE.no a z
    ·by_cases aW:a=e.1
     ·subst aW;rw[aZ]at z;cases z;exact⟨q,Z,eu.mpr ⟨agw,ams,fJ⟩⟩
     ·obtain⟨d8,bD,a8⟩:=rE.yes a v z;obtain⟨dr,ov,e5⟩:=eu.mp a8;subst bD;have azh:d8≠q:=fun w=>aW (rE.inj a e.1 q (w▸z) aZ);refine⟨d8,Z,eu.mpr ⟨dr,ov,?_⟩⟩;rw[show qp L e.1 (keyOf e).length a=L a from bw aW];exact Sw _ _ (hN e5 h8 (by intro z;cases z)) azh e5
   ·intro a;rw[nM];have:=c4 a;unfold qp;split
    ·split<;>simp<;>(try omega)
     all_goals (have:=c4 e.1;omega)
    ·simp;omega
  have hlen:(((keyOf e).map bI).map c0).length=(keyOf e).length:=by simp
  rw[hlen];have uc:bB p=some (.ins t.ni eO [("order",nat ds.length),("length",nat (keyOf e).length),("joined",nat e.2.2)]):=s4 _ _ (k3 _ _ amq V0);refine dD (fun jF=>?_) fun jF=>?_
  ·have rF:¬ (keyOf e).length∈L e.1:=by
    have:=jF;simp[ags]at this;exact this
   refine⟨_,Z,.inl ⟨Z,_,aT.of kk⟩,_,Z,ey,_,Z,.inr (fM.of (s4 _ _ (k3 _ _ Sv (s2 _ _ vD)))),q,_,_,Z,Z,kk,?_,?_⟩
   ·rw[ew];have:=c4 e.1;exact jQ (by omega)
   ·have azi:p≠q:=hN uc kk (by intro z;cases z)
    refine fin _ (fun b o n1 n2 z=>by rw[a6 n2];exact xK _ _ n1 z) (by rw[a6 amt.symm];exact s4 _ _ YF) (by rw[a6 azi];exact uc) ?_;rw[a7,hlen];simp[qp,rF]
  ·have rF:(keyOf e).length∈L e.1:=by
    have:=jF;simp[ags]at this;exact this
   refine fin bB (fun b o n1 n2 z=>xK _ _ n1 z) (s4 _ _ YF) uc ?_;rw[kk];simp[qp,rF]
 ·
  have azj:=rE.no _ aZ;have amu:ey≠ls:=(bQ nx cv).symm;have YG:gP≠ls:=(CV _ _ nx).symm;have azk:gP≠bs:=(CV _ _ h8).symm;have uc:bB p=some (.ins t.ni eO [("order",nat ds.length),("length",nat (keyOf e).length),("joined",nat e.2.2)]):=s4 _ _ (k3 _ _ amq V0);have azl:p≠ls:=hN uc (xK _ _ Ss nx) (by intro z;cases z);have agx:p≠gP:=hN uc CT (by intro z;cases z);refine⟨_,Z,ey,_,Z,.inr (fM.of (by rw[a6 amu];exact s4 _ _ (k3 _ _ Sv (s2 _ _ vD)))),_,Z,gP,[],Z,.inl (aT.of (by rw[a6 YG];exact CT)),Z,Z,_,Z,?_⟩;refine FW ⟨_,rfl,.inl ⟨rfl,_,aT.of (by rw[a6 YG];exact CT)⟩,_,rfl,ey,_,rfl,.inr (fM.of (by rw[a6 amu];exact s4 _ _ (k3 _ _ Sv (s2 _ _ vD)))),gP,[],_,rfl,rfl,by rw[a6 YG];exact CT,len0 rfl,?_⟩;refine k1 _ (qp L e.1 (keyOf e).length) (fun b o ak z=>?_) ?_ (by rw[nM];exact Sq.tell e ak) ?_
  ·have n1:b≠bs:=by rintro rfl;exact ak.elim (fun w=>w ab) pI
   have n2:b≠ls:=by rintro rfl;exact ak.elim (fun w=>w al) agu
   rw[a6 (CV _ _ z),a6 n2];exact xK _ _ n1 z
  ·rw[nM];have azm:j≠ls:=hN bM nx (by intro z;cases z);refine⟨dx,bs,ls,_,_,eu.mpr ⟨amn,amo,by rw[a6 (CV _ _ bM),a6 azm];exact xK _ _ agv bM⟩,eu.mpr ⟨ab,pI,by rw[a6 azk.symm,a6 Ss.symm];exact s4 _ _ YF⟩,?_,eu.mpr ⟨al,agu,by rw[a6 YG.symm,a7]⟩,⟨fun a z=>?_,fun a v z=>?_,fun a b q gk eG=>?_⟩,?_⟩
   ·rw[List.zipIdx_append];refine Sd (Paired.d7 pG fun bC y z=>⟨z.1,?_⟩) (.cons ⟨rfl,p,eO,rfl,eu.mpr ⟨fp.1,fp.2,by rw[a6 agx,a6 azl];simpa using uc⟩⟩ .nil);obtain⟨p',Br,bD,a8⟩:=z.2;obtain⟨dr,ov,e5⟩:=eu.mp a8;exact⟨p',Br,bD,eu.mpr ⟨dr,ov,by rw[a6 (CV _ _ e5),a6 (hN e5 nx (by intro z;cases z))];exact xK _ _ (hN e5 h8 (by intro z;cases z)) e5⟩⟩
   ·rw[VP]at z;by_cases aW:a=e.1
    ·subst aW;simp at z
    ·rw[bw (fun w=>aW (n6.mp w))]at z;rw[show qp L e.1 (keyOf e).length a=L a from bw aW];exact rE.no a z
   ·rw[VP]at z;by_cases aW:a=e.1
    ·subst aW;simp at z;subst z;refine⟨gP,Z,eu.mpr ⟨f0.1,f0.2,?_⟩⟩;rw[a7];simp[qp,azj]
    ·rw[bw (fun w=>aW (n6.mp w))]at z;obtain⟨d8,bD,a8⟩:=rE.yes a v z;obtain⟨dr,ov,e5⟩:=eu.mp a8;refine⟨d8,bD,eu.mpr ⟨dr,ov,?_⟩⟩;rw[show qp L e.1 (keyOf e).length a=L a from bw aW,a6 (CV _ _ e5),a6 (hN e5 nx (by intro z;cases z))];exact xK _ _ (hN e5 h8 (by intro z;cases z)) e5
   ·rw[VP]at gk eG;have old:∀ c,dX la (bI c)=some (.ref gP)->False:=fun c w=>by
     obtain⟨d8,bD,a8⟩:=rE.yes c _ w;cases bD;exact CV _ _ (eu.mp a8).2.2 rfl
    by_cases aW:a=e.1
    ·by_cases g8:b=e.1
     ·rw[aW,g8]
     ·rw[bL (by rw[aW])]at gk;rw[bw (fun w=>g8 (n6.mp w))]at eG;cases gk;exact(old b eG).elim
    ·rw[bw (fun w=>aW (n6.mp w))]at gk;by_cases g8:b=e.1
     ·rw[bL (by rw[g8])]at eG;cases eG;exact(old a gk).elim
     ·rw[bw (fun w=>g8 (n6.mp w))]at eG;exact rE.inj a b q gk eG
   ·have:=Bw la (bI e.1) (.ref gP)
    simp;omega
  ·intro a;rw[nM];unfold qp;have:=c4 a;have:=c4 e.1;split
   ·split<;>simp<;>omega
   ·simp;omega
def Sx(t:bW):ao->V->List h_->Prop:=fun H v l=>∃ j L,v=.ref j/\CP t H j (jG l) L/\r1 (jG l) L
theorem amv:fC (Sx t):=fun _ _ _ _ s ⟨j,L,e,h,d⟩=>⟨j,L,e,CQ s h,d⟩
theorem azn(l:List h_):(jG l).length<=l.length:=by
 have key:∀ (l:List h_) (ds:List (aK×Nat)),(l.foldl oF ds).length<=ds.length+l.length:=by
  intro l;induction l with
  |nil=>intro ds;simp
  |cons e l bU =>
   intro ds;have h:=bU (oF ds e);have aC:(oF ds e).length<=ds.length+1:=by
    unfold oF;split<;>simp
   rw[hr,ek];omega
 simpa [jG]using key l []
theorem azo(T:Txt K av t):cI P w K av base (cL P w) 7 t.NZ t.N5 ["reader"] (jB t Uq (Sx t)):=by
 refine T.Q5.cY GX fa.cW ?_;rintro bJ A outer s H _ Q E aA ⟨bV,rfl,rd,rfl,ca,bs,rest,g,R,k1,k2⟩;try simp only at k1 k2
 refine⟨_,(aV (cp (i:=1) GX.nd Z (Or.inl Z) (aj1 T.aew (ay_ T) aA.bf Z T.aev T.awH .nil bh)) (aV (cp (i:=2) GX.nd Z (Or.inl Z) (hb aM)) (aV (ho (gO dH Z) Z (mg Z T.jz (aD (fj (aj 0) T.dU T.jy (j5 T) aA.bf T.j2 .nil bh (aD b3 (aD b3 aM))) aM)) (dj (i:=3) GX.nd Z (Or.inl Z)) (aV (cp (i:=4) GX.nd Z (Or.inl Z) (gu (aj 0) T.dU T.ru (tY T) aA.bf T.tQ .nil bh)) (aV (cp (i:=5) GX.nd Z (Or.inl Z) (e4 akh (hb (aD (aj 4) aM)) (fj (aj 0) T.dU T.QL (af6 T) aA.bf T.afF .nil bh (aD b3 (aD b3 aM))))) (aV (er (fj (aj 1) T.sv T.aex (azc T) aA.bf T.awI .nil bh (aD (aj 5) (aD (gu (aj 0) T.dU T.ru (tY T) aA.bf T.tQ .nil bh) aM)))) (bj (er (mz lV pk pn pP (aj 2) (aD (aj 4) aM)))))))) (aV (er (dG (ays T) aA.bf Z T.aeW T.QX.aG T.aw0 .nil bh (aD (aj 2) aM))) (bj (dK (aj 1))))))),?_⟩;apply mb;intros;intro x dx cT nd ne;refine⟨_,Z,x,dx,Z,a7,fun H1 bi li cC mY Sy kB nb nl=>⟨rfl,?_⟩⟩;have azp:H bi=none:=by
  have z:bi≠x:=fun e=>by rw[e,a7]at nb;cases nb
  rw[a6 z]at nb;have eG:bi≠dx:=fun e=>by rw[e,a7]at nb;cases nb
  rw[a6 eG]at nb;exact nb
 have azq:H li=none:=by
  have z:li≠x:=fun e=>by rw[e,a7]at nl;cases nl
  rw[a6 z]at nl;have eG:li≠dx:=fun e=>by rw[e,a7]at nl;cases nl
  rw[a6 eG]at nl;exact nl
 have s1:aQ H H1:=fun b o e=>cC b o (by simp only[g4];exact bQ e cT) (by rw[a6 (bQ e cT),a6 (bQ e nd)];exact e);clear cC nb nl;refine⟨eY _,fun F iQ=>?_⟩;have YH:H F=none:=s1.free iQ;have cO:eb t (upd H1 F (.lst [])) rd ca bs rest g:=(R.oW s1).new iQ;have azr:CP t (bG H [F] (upd H1 F (.lst []))) x [] (fun _=>[]):=by
  have fr:∀ b o,H1 b=some o->(upd H1 F (.lst [])) b=some o:=fun b o e=>by rw[a6 (bQ e iQ)];exact e
  have kl:∀ b o,H1 b=some o->b∉[F]:=fun b o e=>by simp only[g4];exact bQ e iQ
  exact⟨dx,bi,li,[],[],eu.mpr ⟨cT,kl _ _ mY,fr _ _ mY⟩,eu.mpr ⟨azp,kl _ _ Sy,fr _ _ Sy⟩,.nil,eu.mpr ⟨azq,kl _ _ kB,fr _ _ kB⟩,⟨fun _ _=>rfl,fun _ _ h=>(by cases h),fun _ _ _ h=>by cases h⟩,cG _⟩
 have bZ:a9 [rd] H (upd H1 F (.lst [])):=(hp s1 _).xA YH;have vG:(upd H1 F (.lst [])) F=some (.lst []):=a7;generalize upd H1 F (.lst [])=aB at *;refine iK cO rfl (j6 cO ⟨fun n r v aJ aR e1 dg rep=>?_,fun aR H' aG=>k2 (alU aR) H' (bZ.trans aG)⟩);subst rep;have lD:n<=1024:=pU (hi:=1024) aR;have YJ:F≠rd:=fun e=>R.dom (e▸YH);have YK:∀ {bB b2:ao},a9 [rd] bB b2->aQ (bG H [F] bB) (bG H [F] b2):=fun k=>jA k fun b ak=>by simp at ak;exact .inl (ak▸R.dom)
 have goN:∀ {bB:ao} {q:au} {o:HO},bB q=none->aQ (bG H [F] bB) (bG H [F] (upd bB q o)):=fun a0=>jA (M:=[]) (a9.iY a0) (by simp);refine⟨_,Z,by omega,by omega,?_⟩;refine ta (n:=n) (lo:=0) (fun i σ bB=>(∃ s3 s4 s5,σ=[some (.ref rd),some (.ref x),some (.ref F),s3,s4,s5])/\∃ xs jM L,times (Sw28.pair (Sw28.sign g) (Sw28.pair (many 1 7 (Sw28.sign g)) (Sw28.sign g))) i r=some (xs,jM)/\eb t bB rd ca bs jM g/\a9 [rd] H bB /\
   bB F=some (.lst (xs.map fun y=>nat y.1))/\CP t (bG H [F] bB) x (jG xs) L/\r1 (jG xs) L/\∀ a,(L a).length<=(jG xs).length)
  ⟨⟨_,_,_,rfl⟩,[],r,fun _=>[],rfl,e1,bZ.trans dg,dg _ _ (by simp[YJ]) vG,CQ (YK dg) azr,r1.nil,fun _=>eY _⟩ (fun i σ bB hi ⟨⟨s3,s4,s5,e⟩,xs,jM,L,h1,gq,dF,Ht,agy,agz,l4⟩=>?_) fun σ bB ⟨⟨s3,s4,s5,e⟩,xs,jM,L,h1,gq,dF,Ht,agy,agz,l4⟩=>?_
 ·subst e;have aF:=mW _ h1;have aa5:xs.length=i:=aF;have stop:Sw28.pair (Sw28.sign g) (Sw28.pair (many 1 7 (Sw28.sign g)) (Sw28.sign g)) jM=none->∀ H',a9 [rd] bB H'->E (.ref t.jk) none H':=fun hz H' aG=>k2 (alV aR (x8 _ h1 hz n hi)) H' (dF.trans aG);refine hU gq rfl ⟨fun a m4 v b2 aW ix fW rep=>?_,fun hz H' aG=>stop (n5 hz) H' aG⟩;subst rep;refine⟨_,Z,nY,fun zx YL=>?_⟩;have oZ:eb t (upd b2 zx (.lst [nat a])) rd ca bs m4 g:=ix.new YL;have xH:(upd b2 zx (.lst [nat a])) zx=some (.lst [nat a]):=a7;have nu:a9 [rd] bB (upd b2 zx (.lst [nat a])):=fW.jl YL;have azs:zx≠rd:=fun e=>ix.dom (e▸YL);have azt:aQ (bG H [F] bB) (bG H [F] (upd b2 zx (.lst [nat a]))):=(YK fW).trans (goN YL);generalize upd b2 zx (.lst [nat a])=eH at *;refine iK oZ rfl (agd (lo:=1) (hi:=7) oZ (by decide) ⟨fun vH ys v dB agA nA nC rep=>?_,fun hz H' aG=>stop (kI aW (n5 hz)) H' (nu.trans aG)⟩);obtain⟨aY,rfl,fc⟩:=rep;have yd:vH.length<=7:=(wg agA).2;refine⟨zx,aY,_,_,Z,Z,nC _ _ (by simp[azs]) xH,hB _ _ fc,by simp;exact RW (by omega),fun S dZ=>?_⟩;have SJ:eb t (upd dB S (.lst ([nat a]++vH.map nat))) rd ca bs ys g:=nA.new dZ;have azu:(upd dB S (.lst ([nat a]++vH.map nat))) S=some (.lst ((a::vH).map nat)):=a7;have Hu:a9 [rd] bB (upd dB S (.lst ([nat a]++vH.map nat))):=(nu.trans nC).jl dZ;have azv:S≠rd:=fun e=>nA.dom (e▸dZ);have azw:aQ (bG H [F] bB) (bG H [F] (upd dB S (.lst ([nat a]++vH.map nat)))):=(azt.trans (YK nC)).trans (goN dZ);generalize upd dB S (.lst ([nat a]++vH.map nat))=mD at *;have amw:=CQ azw agy;obtain⟨Hv,azx,azy,_,_,azz,_⟩:=id amw;refine⟨_,Z,x,Hv,_,Z,hB _ _ azz,Z,_,Z,?_⟩;refine hU SJ rfl ⟨fun amx YM v iV azA zy n8 rep=>?_,fun hz H' aG=>stop (kI aW (kI agA hz)) H' (Hu.trans aG)⟩;subst rep;have vA:=(dF.trans Hu).trans n8;have amy:iV F=some (.lst (xs.map fun y=>nat y.1)):=n8 _ _ (by simp[YJ]) (Hu _ _ (by simp[YJ]) Ht);refine⟨_,_,_,Z,x,H,[F],jG xs,L,S,(a,vH,amx),Z,Z,Z,n8 _ _ (by simp[azv]) azu,CQ (YK n8) amw,?_,by show vH.length<=100;omega,a9.up1 zy vA,fun b ak=>by simp at ak;rw[ak];exact j4 amy,agz,l4,fun Ks L' kpa azB azC l10=>?_⟩
  ·have:=azn xs
   omega
  have amz:Ks F=some (.lst (xs.map fun y=>nat y.1)):=kpa _ _ (.inr (by simp)) amy;have azD:a9 [rd] H Ks:=fun b o n q=>kpa _ _ (.inl (j4 q)) (vA b o n q);have azE:eb t Ks rd ca bs YM g:=by
   obtain⟨fX,zz,bT,cA⟩:=zy.cX;exact⟨⟨fX,zz,kpa _ _ (.inl R.dom) bT,cA⟩,kpa _ _ (.inl R.sz) zy.sx,zy.lt,zy.ln⟩
  refine⟨_,Z,.inl ⟨Z,_,aT.of amz⟩,_,Z,F,_,_,Z,Z,amz,by rw[ew];exact jQ (by omega),⟨_,_,_,Z⟩,xs++[(a,vH,amx)],YM,L',?_,azE.upd YJ (fun e=>R.sz (e▸YH)),azD.xA YH,?_,?_,?_,?_⟩
  ·rw[El,h1];simp[oX aW (oX agA azA)]
  ·rw[a7];simp
  ·rw[aaN];exact CQ (jA (M:=[F]) (a9.pR (by simp)) fun b ak=>.inr ak) azB
  ·rw[aaN];exact azC
  ·rw[aaN];exact l10
 ·subst e;have aF:=mW _ h1;have aa5:xs.length=n:=aF;have azF:bB F=some (.lst ((xs.map fun y=>((y.1:Nat):Int)).map V.int)):=by
   rw[Ht,kh];rfl
  have lb:∀ k,(xs.map fun y=>((y.1:Nat):Int)).getD k 0=(((xs.map fun y=>y.1).getD k 0:Nat):Int):=fun k=>by
   simp only[List.getD,ei];cases xs[k]?<;>simp
  refine⟨_,Z,_,Z,F,_,Z,azF,by simp;omega,fun azG=>⟨_,rfl,?_⟩,fun k aN acw=>?_⟩
  ·have aZ:Sw28.level (xs.map fun y=>y.1)=true:=(af8 _).mpr fun k aN=>by
    have:=azG k (by simpa using aN);rw[lb,lb]at this;omega
   refine k1 xs jM _ bB ?_ gq dF ⟨x,L,rfl,CQ (y1 (by simp)) agy,agz⟩;unfold Uq;rw[Yo aR h1,bL aZ]
  ·refine k2 ?_ bB dF;unfold Uq;rw[Yo aR h1,bw];intro aZ;have:(xs.map fun y=>y.1).getD k 0<=(xs.map fun y=>y.1).getD (k+1) 0:=(af8 _).mp aZ k (by simpa using aN);rw[lb,lb]at acw;omega
theorem CX{α:Type}{p:Sw28.P α}{iM:α->Prop}(aL:∀ t x r,p t=some (x,r)->iM x):∀ {n:Nat} {t:Sw28.B} {y:List α×Sw28.B},times p n t=some y->∀ x∈y.1,iM x
 |0,t,y,h,x,aq=>by simp only[times]at h;cases h;cases aq
 |n+1,t,y,h,x,aq=>by
  simp only[times]at h;cases h1:p t with
  |none=>rw[h1]at h;simp at h
  |some z =>
   rw[h1]at h;simp only[d4]at h;cases aC:times p n z.2 with
   |none=>rw[aC]at h;simp at h
   |some w =>
    rw[aC]at h;simp only[gd,Option.some.injEq]at h;subst h;rcases gQ.mp aq with rfl|aq
    ·exact aL t z.1 z.2 h1
    ·exact CX aL aC x aq
theorem rG{α:Type}{p:Sw28.P α}{iM:α->Prop}(aL:∀ t x r,p t=some (x,r)->iM x){lo hi:Nat}{t:Sw28.B}{y:List α×Sw28.B}(h:many lo hi p t=some y):∀ x∈y.1,iM x:=by
 rw[ou]at h;cases h1:ea lo hi t with
 |none=>rw[h1]at h;simp at h
 |some z =>
  rw[h1]at h;exact CX aL h
theorem agB{g:Nat}{t r:Sw28.B}{x:aK}(h:Sw28.signs g t=some (x,r)):x.length<=1024:=by
 unfold Sw28.signs at h;rw[gY]at h;cases h1:many 1 1024 (Sw28.sign g) t with
 |none=>rw[h1]at h;simp at h
 |some z =>
  rw[h1]at h;simp only[d4]at h;split at h
  ·cases h;exact(wg h1).2
  ·cases h
structure agC(a:Sw28.Around):Prop where
 l1:a.before.length<=8/\a.here.length<=8/\a.behind.length<=8
 st:∀ s∈a.before++(a.here++a.behind),s.length<=1024
 ok:yc a
 ac:a.acts.length<=8
theorem azH{g:Nat}{t r:Sw28.B}{a:Sw28.Around}(h:p8 g t=some (a,r)):agC a:=by
 unfold p8 at h;cases h1:many 0 8 (Sw28.signs g) t with
 |none=>rw[h1]at h;simp at h
 |some b =>
  rw[h1]at h;simp only[d4]at h;cases aC:many 1 8 (Sw28.signs g) b.2 with
  |none=>rw[aC]at h;simp at h
  |some c =>
   rw[aC]at h;simp only[d4]at h;cases bH:many 0 8 (Sw28.signs g) c.2 with
   |none=>rw[bH]at h;simp at h
   |some d =>
    rw[bH]at h;simp only[d4]at h;cases dw:many 0 8 (Em c.1.length) d.2 with
    |none=>rw[dw]at h;simp at h
    |some e =>
     rw[dw]at h;simp only[gd,Option.some.injEq,Prod.mk.injEq]at h;obtain⟨rfl,_⟩:=h;have aa2:=wg h1;have Ve:=wg aC;have m3:=wg bH;have azI:=wg dw;have bT:=rG (iM:=fun s:aK=>s.length<=1024) (fun _ _ _=>agB) h1;have cA:=rG (iM:=fun s:aK=>s.length<=1024) (fun _ _ _=>agB) aC;have dY:=rG (iM:=fun s:aK=>s.length<=1024) (fun _ _ _=>agB) bH;refine⟨⟨aa2.2,Ve.2,m3.2⟩,fun s aH=>?_,⟨Ve.1,?_⟩,azI.2⟩
     ·rcases pa.mp aH with z|z
      ·exact bT s z
      ·rcases pa.mp z with z|z
       ·exact cA s z
       ·exact dY s z
     ·refine rG (iM:=fun y:Nat×Nat=>y.1<c.1.length) (fun t' x r' aq=>?_) dw;rw[aiy,gY]at aq;cases aL:Sw28.pair u16 u16 t' with
      |none=>rw[aL]at aq;simp at aq
      |some w =>
       rw[aL]at aq;simp only[d4]at aq;split at aq
       ·rename_i hd;cases aq;simpa using hd
       ·cases aq
theorem azJ{l:List Sw28.Around}(h:∀ a∈l,agC a)(aF:l.length<=64):Hp l:=⟨aF,fun a aW=>(h a aW).l1,fun a aW=>(h a aW).st⟩
inductive zA(t:bW)(H:ao)(v:V)(l:List Sw28.Around):Prop
 |mk (x dx Hw k_ ez):v=.ref x->H x=some (.ins t.ju dx [("entries",Hw),("onward",k_),("backward",ez)])->hg (zc t) H Hw l->vB t (oY l) H k_->vB t (sA l) H ez->zA t H v l
theorem azK:fC (zA t):=fun _ _ _ _ s ⟨x,dx,Hw,k_,ez,e,h,h1,aC,bH⟩=>⟨x,dx,Hw,k_,ez,e,s _ _ h,fK Yv _ _ _ _ s h1,zj s aC,zj s bH⟩
theorem m64{α:Type}(lo:Nat)(p:Sw28.P α)(t:Sw28.B):many lo 64 p t=(ea lo 64 t).bind fun x=>times p x.1 x.2:=ou lo 64 p t
theorem azL(T:Txt K av t):cI P w K av base (cL P w) 10 t.Oe t.Og ["reader"] (jB t Ur (zA t)):=by
 refine T.Q_.cY afM fa.cW ?_;rintro bJ A outer s H _ Q E aA ⟨bV,rfl,rd,rfl,ca,bs,rest,g,R,k1,k2⟩;try simp only at k1 k2
 refine⟨_,(bj (dK (qC T.ael (ay5 T) aA.bf Z T.aek T.awC .nil bh (aD (iH (own:=[("k",1)]) dH (fun _ _ z=>z) Z afM.nd (mg Z T.jz (aD (fj (aj 0) T.dU T.jy (j5 T) aA.bf T.j2 .nil bh (aD b3 (aD b3 aM))) aM)) (gW (by rfl)) (fun _ _ _ _ _=>dj (i:=1) afM.nd Z (Or.inl Z)) (fun _ _ _ _ _=>hx) (fun _ _ _ _ _=>(dG (ayL T) aA.bf Z T.ae2 T.Q9.aG T.aw6 .nil bh (aD (aj 0) aM)))) aM)))),?_⟩;have hy:∀ r,Ur g r=(ea 1 64 r).bind fun x=>times (p8 g) x.1 x.2:=fun r=>m64 1 _ r;refine iK R rfl (j6 R ⟨fun n r v H1 aR dp cC rep=>?_,fun hz H' aG=>k2 (by rw[hy,hz];rfl) H' aG⟩);subst rep;have lD:n<=64:=pU (hi:=64) aR;have YP:1<=n:=by have:=(wh aR).1;omega
 refine⟨_,Z,by omega,by omega,fun D bp=>?_⟩;refine xD (E:=E) (p:=p8 g) (Rep:=zc t) (n:=n) Yv dp (by omega) bp (fun i aB dm eo cO _ o=>mG cO rfl o) (fun xs dm aB lM cO bZ rl=>?_) fun hz aB bZ=>k2 (by rw[hy,aR];exact hz) aB (cC.trans bZ);have aF:xs.length=n:=mW _ lM;have ok:∀ a∈xs,agC a:=CX (fun _ _ _=>azH) lM;have aG:=cC.trans bZ;intro x dx cT nd ne;have bY:=nZ (C:=t.ju) (fs:=[]) cT nd;have YQ:hg (zc t) (bG H [] aB) (.ref D) xs:=vt (fK Yv) dp cC rl;have azM:H x=none:=cO.up aG cT;have aHq:H dx=none:=cO.up aG nd;refine⟨_,_,Z,x,dx,bG H [] aB,xs,Z,a7,hB.trans bY,?_,YQ,azJ ok (by omega),by omega,fun k_ ez aJ dg bH cH azN=>⟨rfl,?_⟩⟩
 ·show bG H [] aB x=none;cases z:bG H [] aB x with
  |none=>rfl
  |some o =>
   rw[(eu.mp z).2.2]at cT;cases cT
 ·have s3:aQ aB aJ:=fun b o e=>dg b o (by simp only[g4];exact bQ e cT) (bY _ _ e)
  have qR:∀ b,H b≠none->(iJ aB x dx t.ju []) b≠none:=fun b ak=>aQ.dom bY b (a9.up1 cO aG b ak);refine k1 xs dm _ aJ (by rw[hy,aR];exact lM) (cO.oW s3) (aG.trans (hp s3 _)) ⟨x,dx,.ref D,k_,ez,rfl,eu.mpr ⟨azM,by simp,bH⟩,vu (fK Yv) s3 YQ,zj (tU qR (by simp)) cH,zj (tU qR (by simp)) azN⟩
def rH(t:bW):ao->V->Sw28.Sub->Prop:=fun H v s=>match s with
 | .one l=>Hh H v l
 | .more l=>R7 H v l
 | .joined l=>Sx t H v l
 | .around l=>zA t H v l
theorem SM:fC (rH t):=fun H H' v x s h=>match x,h with
 | .one _,h=>ayx _ _ _ _ s h
 | .more _,h=>ayy _ _ _ _ s h
 | .joined _,h=>amv _ _ _ _ s h
 | .around _,h=>azK _ _ _ _ s h
theorem j8{a b:Int}(h:decide (V.int a=V.int b)=true):a=b:=by
 have:=h2 h;injection this
theorem CZ{a b:Int}(h:¬ decide (V.int a=V.int b)=true):a≠b:=fun e=>h (fu (by rw[e]))
inductive amA(t:bW)(a b:V)(H:ao)(Q:bx)(E:cM):Prop
 |mk (rd k):a=.ref rd->b=nat k->1<=k->k<=4->rx t (fun g=>qb g k) (rH t) H rd Q E->amA t a b H Q E
def azO(t:bW):eX:=fQ (amA t)
theorem azP(T:Txt K av t):cI P w K av base (cL P w) 11 t.Oh t.Oi ["reader","kind"] (azO t):=by
 obtain⟨agD,C_,Dc⟩:=T.k_EXCHANGE;obtain⟨azQ,agE,agF⟩:=T.k_JOIN;obtain⟨azR,agG,agH⟩:=T.k_SPREAD;refine T.Q'.cY ax2 fQ.cW ?_;rintro bJ A outer s H _ Q E aA ⟨bV,a1,rfl,rd,k,rfl,rfl,h1,dw,ca,bs,rest,g,R,k1,k2⟩;try simp only at k1 k2
 refine⟨_,(aV (gh (gK jN (aj 1) (gV Z C_ Dc) (fe _)) (bj (dK (dG (ayC T) aA.bf Z T.aeX T.QZ.aG T.aw1 .nil bh (aD (aj 0) aM)))) ht) (aV (gh (gK jN (aj 1) (gV Z agG agH) (fe _)) (bj (dK (dG (ayD T) aA.bf Z T.aeY T.Q0.aG T.aw2 .nil bh (aD (aj 0) aM)))) ht) (aV (gh (gK jN (aj 1) (gV Z agE agF) (fe _)) (bj (dK (dG (azo T) aA.bf Z T.aeZ T.Q5.aG T.aw3 .nil bh (aD (aj 0) aM)))) ht) (bj (dK (dG (azL T) aA.bf Z T.ae3 T.Q_.aG T.aw7 .nil bh (aD (aj 0) aM))))))),?_⟩;apply hG;intros;refine⟨_,Z,Z,_,Z,dD (fun ak=>?_) fun ak=>?_⟩
 ·have e:k=1:=by have:=j8 ak;omega
  subst e;exact mG R rfl ⟨fun x r v H' aq k6 aG rep=>k1 (.one x) r v H' (by simp[qb,d7,aq]) k6 aG rep,fun hz H' aG=>k2 (by simp[qb,d7,hz]) H' aG⟩
 have n1:k≠1:=by have:=CZ ak;omega
 refine⟨_,Z,Z,_,Z,dD (fun ak=>?_) fun ak=>?_⟩
 ·have e:k=2:=by have:=j8 ak;omega
  subst e;exact mG R rfl ⟨fun x r v H' aq k6 aG rep=>k1 (.more x) r v H' (by simp[qb,d7,aq]) k6 aG rep,fun hz H' aG=>k2 (by simp[qb,d7,hz]) H' aG⟩
 have n2:k≠2:=by have:=CZ ak;omega
 refine⟨_,Z,Z,_,Z,dD (fun ak=>?_) fun ak=>?_⟩
 ·have e:k=3:=by have:=j8 ak;omega
  subst e;exact mG R rfl ⟨fun x r v H' aq k6 aG rep=>k1 (.joined x) r v H' (by simp[qb,d7,aq]) k6 aG rep,fun hz H' aG=>k2 (by simp[qb,d7,hz]) H' aG⟩
 have qx:k≠3:=by have:=CZ ak;omega
 exact mG R rfl ⟨fun x r v H' aq k6 aG rep=>k1 (.around x) r v H' (by simp[qb,d7,aq,n1,n2,qx]) k6 aG rep,fun hz H' aG=>k2 (by simp[qb,d7,hz,n1,n2,qx]) H' aG⟩
inductive ud(t:bW){α:Type}(zB:ao->V->α->Prop)(H:ao)(v:V)(y:Nat×Nat×α):Prop
 |mk (p dx ez):v=.ref p->H p=some (.ins t.rq dx [("kind",nat y.1),("passes",nat y.2.1),("body",ez)])->zB H ez y.2.2->ud t zB H v y
theorem Hx{α:Type}{zB:ao->V->α->Prop}(m:fC zB):fC (ud t zB):=fun _ _ _ _ s ⟨p,dx,ez,e,h,r⟩=>⟨p,dx,ez,e,s _ _ h,m _ _ _ _ s r⟩
theorem azS(T:Txt K av t):cI P w K av base (cL P w) 12 t.Oj t.Ol ["reader"] (jB t sU (ud t (rH t))):=by
 obtain⟨agD,C_,Dc⟩:=T.k_EXCHANGE;obtain⟨azT,agI,agJ⟩:=T.k_LOOK_AROUND;refine T.Ra.cY afN fa.cW ?_;rintro bJ A outer s H _ Q E aA ⟨bV,rfl,rd,rfl,ca,bs,rest,g,R,k1,k2⟩;try simp only at k1 k2
 refine⟨_,(aV (cp (i:=1) afN.nd Z (Or.inl Z) (fj (aj 0) T.dU T.jy (j5 T) aA.bf T.j2 .nil bh (aD (gV Z C_ Dc) (aD (gV Z agI agJ) aM)))) (aV (cp (i:=2) afN.nd Z (Or.inl Z) (fj (aj 0) T.dU T.jy (j5 T) aA.bf T.j2 .nil bh (aD b3 (aD b3 aM)))) (bj (dK (qC T.Wx (alI T) aA.bf Z T.Ww T.ak7 .nil bh (aD (aj 1) (aD (aj 2) (aD (dG (azP T) aA.bf Z T.ae4 T.Q'.aG T.aw8 .nil bh (aD (aj 0) (aD (aj 1) aM))) aM)))))))),?_⟩;apply dY;intros;refine iK R rfl (j6 R ⟨fun k r v H1 aN dp cC rep=>?_,fun hz H' aG=>k2 (by unfold sU;rw[hz];rfl) H' aG⟩);subst rep;refine iK dp rfl (j6 dp ⟨fun s dm v aB aH cO bZ rep=>?_,fun hz H' aG=>k2 (by unfold sU;rw[aN];simp[hz]) H' (cC.trans aG)⟩);subst rep;have YS:=wh aN;refine⟨_,Z,_,Z,_,Z,_,Z,_,_,Z,rd,k,Z,Z,by omega,by omega,ca,bs,dm,g,cO,fun y d2 ez aJ aP e1 dg rep=>R0 fun p dx np nd=>?_,fun hz H' aG=>k2 (by unfold sU;rw[aN];simp[aH,hz]) H' ((cC.trans bZ).trans aG)⟩;have aG:=(cC.trans bZ).trans dg;have bY:=nZ (C:=t.rq) (fs:=[("kind",nat k),("passes",nat s),("body",ez)]) np nd;exact k1 (k,s,y) d2 _ _ (by unfold sU;rw[aN];simp[aH,aP]) (e1.oW bY) (aG.trans (hp bY _)) ⟨p,dx,ez,rfl,eu.mpr ⟨e1.up aG np,by simp,rz⟩,vu SM bY (vt SM cO (cC.trans bZ) rep)⟩
def uf(t:bW):ao->V->Rule Sw28.Sub->Prop:=fun H v r=>ud t (rH t) H v (lq r.rule,r.skip,r.rule)
theorem zE:fC (uf t):=fun _ _ _ _ s h=>Hx SM _ _ _ _ s h
def Dd(rs:List (Rule Sw28.Sub))(n:Nat):Bool:=match rs[n]? with
 |some q=>(match q.rule with
  | .one _=>true
  |_=>false)
 |none=>false
def Hy(rs:List (Rule Sw28.Sub))(l:List Sw28.Around):Bool:=l.all fun a=>a.acts.all fun y=>Dd rs y.2
theorem amB(rs:List (Rule Sw28.Sub)):Sw28.actsRight rs=rs.all fun r=>match r.rule with
  | .around l=>Hy rs l
  |_=>true:=rfl
theorem YT{α:Type}{l:List α}{i:Nat}{x:α}{q:α->Bool}(h:l[i]?=some x):(l.take (i+1)).all q=((l.take i).all q && q x):=by
 rw[take_snoc h,List.all_append];simp
theorem all_false{α:Type}{l:List α}{i:Nat}{x:α}{q:α->Bool}(h:l[i]?=some x)(a0:q x=false):l.all q=false:=by
 cases e:l.all q with
 |false=>rfl
 |true =>
  have:=rT.mp e x (f9 h);rw[a0]at this;cases this
inductive amC(t:bW)(a b:V)(H:ao)(Q:bx)(E:cM):Prop
 |mk (l rl vs rs):zA t H a l->b=.ref rl->H rl=some (.lst vs)->Paired (uf t H) vs rs->(Hy rs l=true->Q .non H)->(Hy rs l=false->E (.ref t.jk) none H)->amC t a b H Q E
def azU(t:bW):eX:=fQ (amC t)
theorem azV(T:Txt K av t):cI P w K av base (cL P w) 2 t.Om t.Oo ["contexts","rules"] (azU t):=by
 obtain⟨agD,C_,Dc⟩:=T.k_EXCHANGE;refine T.Rb.cY X8 fQ.cW ?_;rintro bJ A outer s H _ Q E aA ⟨bV,a1,rfl,l,rl,vs,rs,⟨x,dx,Hw,k_,ez,rfl,aq,⟨ha,SN,rfl,ua,hy⟩,_,_⟩,rfl,rI,pr,k1,k2⟩;try simp only at k1 k2
 refine⟨_,(bj (ho (gO dH Z) Z (gG (bO (aj 0) Z)) (dj (i:=2) X8.nd Z (Or.inl Z)) (bj (ho (gO dH Z) Z (gG (bO (aj 2) Z)) (s7 Z (jL (dj (i:=3) X8.nd Z (Or.inl Z)) (jL (dj (i:=4) X8.nd Z (Or.inl Z)) r6))) (aV (er (dG (qL T) aA.bf Z T.oV T.nj.aG T.qK .nil bh (aD (nQ q9 (aj 4) (hv iG Z T.hA hM (aD (aj 1) aM)) (fe _)) aM))) (bj (er (dG (qL T) aA.bf Z T.oV T.nj.aG T.qK .nil bh (aD (nQ jN (bO (eN gx (aj 1) (aj 4) (fun _ _=>Z)) Z) (gV Z C_ Dc) (fe _)) aM))))))))),?_⟩;have tZ:vs.length=rs.length:=f5 pr;refine⟨_,Z,x,_,dx,_,_,Z,aq,T.tH,T.Gm,Z,ha,Z,⟨_,aT.of ua⟩,?_⟩;refine qy (xs:=SN) (fun i σ H'=>H'=H/\(∃ s2 s3 s4,σ=[some (.ref x),some (.ref rl),s2,s3,s4])/\Hy rs (l.take i)=true) ⟨rfl,⟨_,_,_,rfl⟩,rfl⟩ (fun i σ H' _ ⟨e,_⟩=>aT.of (e▸ua)) (fun i v σ H' aZ ⟨e,⟨s2,s3,s4,a8⟩,aW⟩=>?_) fun σ H' ⟨e,_,aW⟩=>?_
 ·subst e a8;obtain⟨a,amD,p,eO,azW,rD,qP,jD,rfl,aL,_,_,_,⟨aa,agK,rfl,amE,m'⟩⟩:=mF hy aZ;refine⟨_,Z,p,_,eO,_,_,Z,aL,T.su,T.Qz,Z,aa,Z,⟨_,aT.of amE⟩,?_⟩;refine qy (xs:=agK) (fun j σ aB=>aB=H'/\(∃ s3 s4,σ=[some (.ref x),some (.ref rl),some (.ref p),s3,s4])/\((a.acts.take j).all fun y=>Dd rs y.2)=true) ⟨rfl,⟨_,_,rfl⟩,rfl⟩ (fun j σ aB _ ⟨e,_⟩=>aT.of (e▸amE)) (fun j w σ aB hw ⟨e,⟨s3,s4,a8⟩,ak⟩=>?_) fun σ aB ⟨e,⟨s3,s4,a8⟩,ak⟩=>?_
  ·subst e a8;obtain⟨y,amF,ey,rfl,cv⟩:=mF m' hw;refine Hl cv ?_;have bad:Dd rs y.2=false->E (.ref t.jk) none aB:=fun hz=>k2 (all_false amD (all_false amF hz));refine⟨_,Z,_,Z,rl,vs,Z,.inl (aT.of rI),_,_,Z,Z,_,Z,fun h1=>?_,fun h1=>?_⟩
   ·have Ao:y.2<rs.length:=by
     have:=h2 h1;omega
    have aA:rs[y.2]?=some rs[y.2]:=dR Ao;obtain⟨u,cD,q,azX,aHr,rfl,a0,_⟩:=y7 pr aA;refine⟨_,Z,_,Z,rl,vs,_,_,Z,Z,aT.of rI,gM cD,q,_,azX,_,_,Z,a0,T.jx,T.tK,Z,Z,_,Z,fun aC=>?_,fun aC=>?_⟩
    ·have Aq:lq rs[y.2].rule=1:=by have:=j8 aC;omega
     have bA:Dd rs y.2=true:=by
      unfold Dd;rw[aA];dsimp only;cases z:rs[y.2].rule<;>rw[z]at Aq<;>simp_all [lq]
     exact⟨Z,⟨_,_,Z⟩,by rw[YT amF,ak,bA];rfl⟩
    ·refine bad ?_;have Aq:lq rs[y.2].rule≠1:=by
      intro z;have:=v' aC;exact this (by rw[z];rfl)
     unfold Dd;rw[aA];dsimp only;cases z:rs[y.2].rule<;>rw[z]at Aq<;>simp_all [lq]
   ·refine bad ?_;have Ao:¬ y.2<rs.length:=by
     have:=v' h1;omega
    unfold Dd;rw[qY (by omega)]
  ·subst e a8;refine⟨Z,⟨_,_,_,Z⟩,?_⟩;rw[f5 m',fZ (cG _)]at ak;unfold Hy at aW ⊢;rw[YT amD,aW,ak];rfl
 ·subst e;rw[f5 hy,fZ (cG _)]at aW;exact k1 aW
theorem YW{α β:Type}(f:α->β)(p:Sw28.P α):∀ (n:Nat) (t:Sw28.B),times (fun t=>(p t).map fun x=>(f x.1,x.2)) n t=(times p n t).map fun y=>(y.1.map f,y.2)
 |0,t=>rfl
 |n+1,t=>by
  simp only[times];cases h:p t with
  |none=>rfl
  |some x =>
   simp only[gd,d4,YW f p n];cases times p n x.2<;>simp
theorem amG(g n:Nat)(t:Sw28.B):times (Sw28.sub g) n t=(times (sU g) n t).map fun y=>(y.1.map fun x=>(⟨x.2.1,x.2.2⟩:Rule Sw28.Sub),y.2):=by
 rw[← YW];exact aiw (fun t=>sub_eq g t) n t
theorem amH(g n:Nat)(t:Sw28.B):times (Sw28.pos g) n t=(times (sV g) n t).map fun y=>(y.1.map fun x=>(⟨x.2.1,x.2.2⟩:Rule Sw28.Pos),y.2):=by
 rw[← YW];exact aiw (fun t=>pos_eq g t) n t
theorem azY{g:Nat}{t r:Sw28.B}{y:Nat×Nat×Sw28.Sub}(h:sU g t=some (y,r)):y.1=lq y.2.2:=by
 unfold sU at h;cases h1:ea 1 4 t with
 |none=>rw[h1]at h;simp at h
 |some k =>
  rw[h1]at h;simp only[d4]at h;cases aC:ea 0 7 k.2 with
  |none=>rw[aC]at h;simp at h
  |some s =>
   rw[aC]at h;simp only[d4]at h;cases bH:qb g k.1 s.2 with
   |none=>rw[bH]at h;simp at h
   |some z =>
    rw[bH]at h;simp only[gd,Option.some.injEq,Prod.mk.injEq]at h;obtain⟨rfl,_⟩:=h;have ak:=wh h1;exact(ap_ (by omega) (by omega) bH).symm
theorem SQ{α β amI:Type}{F:α->amI->Prop}{G:α->β->Prop}(f:β->amI)(h:∀ a b,G a b->F a (f b)):∀ {l:List α} {r:List β},Paired G l r->Paired F l (r.map f)
 |_,_,.nil=>.nil
 |_,_,.cons q t=>.cons (h _ _ q) (SQ f h t)
theorem agL{α β:Type}{F G:α->β->Prop}:∀ {l:List α} {r:List β},Paired F l r->(∀ a b,b∈r->F a b->G a b)->Paired G l r
 |_,_,.nil,_=>.nil
 |_,_,.cons q t,h=>.cons (h _ _ h9 q) (agL t fun a b ak=>h a b (hZ _ ak))
theorem azZ(T:Txt K av t):cI P w K av base (cL P w) 13 t.Oq t.Ot ["reader"] (jB t (fun g=>Sw28.only Sw28.actsRight (many 0 64 (Sw28.sub g))) (hg (uf t))):=by
 obtain⟨azT,agI,agJ⟩:=T.k_LOOK_AROUND;refine T.Rd.cY X_ fa.cW ?_;rintro bJ A outer s H _ Q E aA ⟨bV,rfl,rd,rfl,ca,bs,rest,g,R,k1,k2⟩;try simp only at k1 k2
 refine⟨_,(aV (w2 (i:=1) (own:=[("k",3)]) dH (fun _ _ z=>z) Z X_.nd Z Z (wV Z Z Z Z) (mg Z T.jz (aD (fj (aj 0) T.dU T.jy (j5 T) aA.bf T.j2 .nil bh (aD b3 (aD b3 aM))) aM)) (gW (by rfl)) (fun _ _ _ _ _=>dj (i:=3) X_.nd Z (Or.inl Z)) (fun _ _ _ _ _=>hx) (fun _ _ _ _ _=>(dG (azS T) aA.bf Z T.ae5 T.Ra.aG T.aw9 .nil bh (aD (aj 0) aM)))) (aV (ho (gO dH Z) Z (gG (aj 1)) (dj (i:=2) X_.nd Z (Or.inl Z)) (bj (gh (gK jN (bO (aj 2) Z) (gV Z agI agJ) (fe _)) (bj (er (dG (azV T) aA.bf Z T.ae6 T.Rb.aG T.aw_ .nil bh (aD (bO (aj 2) Z) (aD (aj 1) aM))))) ht))) (bj (dK (aj 1))))),?_⟩;apply dY;intros;have hy:∀ r,many 0 64 (Sw28.sub g) r=(ea 0 64 r).bind fun x=>times (Sw28.sub g) x.1 x.2:=fun r=>m64 0 _ r;refine iK R rfl (j6 R ⟨fun n r v H1 aR dp cC rep=>?_,fun hz H' aG=>k2 (by rw[gY,hy,hz];rfl) H' aG⟩);subst rep;have lD:n<=64:=pU (hi:=64) aR;refine⟨_,Z,by omega,by omega,fun D bp=>?_⟩;refine xD (E:=E) (p:=sU g) (Rep:=ud t (rH t)) (n:=n) (Hx SM) dp (by omega) bp (fun i aB dm eo cO _ o=>mG cO rfl o) (fun xs dm aB lM cO bZ rl=>?_) fun hz aB bZ=>k2 (by rw[gY,hy,aR];simp[amG,hz]) aB (cC.trans bZ);have aF:xs.length=n:=mW _ lM;have aG:=cC.trans bZ;have az0:hg (ud t (rH t)) (bG H [] aB) (.ref D) xs:=vt (fK (Hx SM)) dp cC rl;have kinds:∀ y∈xs,y.1=lq y.2.2:=CX (fun _ _ _=>azY) lM;obtain⟨amJ,vs,e,jn,pp⟩:=az0;cases e;have YX:Paired (uf t (bG H [] aB)) vs (xs.map fun x=>(⟨x.2.1,x.2.2⟩:Rule Sw28.Sub)):=SQ (fun x:Nat×Nat×Sw28.Sub=>(⟨x.2.1,x.2.2⟩:Rule Sw28.Sub)) (fun a b h=>h) (agL (G:=fun v (y:Nat×Nat×Sw28.Sub)=>ud t (rH t) (bG H [] aB) v (lq y.2.2,y.2.1,y.2.2)) pp fun a b ak h=>by rw[← kinds b ak];exact h);generalize YZ:xs.map (fun x=>(⟨x.2.1,x.2.2⟩:Rule Sw28.Sub))=rs at YX;have amK:times (Sw28.sub g) n r=some (rs,dm):=by rw[amG,lM,← YZ];rfl
 have rI:rs.length=vs.length:=(f5 YX).symm;have amL:Paired (uf t aB) vs rs:=Paired.d7 YX fun _ _ z=>zE _ _ _ _ hB z;have o1:=hB _ _ jn;refine⟨_,Z,D,Z,⟨_,aT.of o1⟩,?_⟩;refine qy (xs:=vs) (fun i σ H'=>H'=aB/\(∃ s2 s3,σ=[some (.ref rd),some (.ref D),s2,s3])/\((rs.take i).all fun r=>match r.rule with
  | .around l=>Hy rs l
  |_=>true)=true) ⟨rfl,⟨_,_,rfl⟩,rfl⟩ (fun i σ H' _ ⟨e,_⟩=>aT.of (e▸o1)) (fun i v σ H' aZ ⟨e,⟨s2,s3,a8⟩,aW⟩=>?_) fun σ H' ⟨e,⟨s2,s3,a8⟩,aW⟩=>?_
 ·subst e a8;obtain⟨q,a0,p,eO,ez,rfl,aL,rb⟩:=mF amL aZ;refine⟨_,Z,p,_,eO,_,_,Z,aL,T.jx,T.tK,Z,Z,_,Z,?_⟩;refine dD (fun ak=>?_) fun ak=>?_
  ·have aN:lq q.rule=4:=by have:=j8 ak;simp at this;omega
   cases zF:q.rule with
   |one _=>rw[zF]at aN;cases aN
   |more _=>rw[zF]at aN;cases aN
   |joined _=>rw[zF]at aN;cases aN
   |around l =>
    have az1:zA t H' ez l:=by
     have:rH t H' ez q.rule:=rb;rw[zF]at this;exact this
    refine⟨_,Z,p,_,eO,_,_,Z,aL,T.jx,T.rt,Z,_,Z,_,_,Z,l,D,vs,rs,az1,Z,o1,amL,fun bK=>⟨rfl,⟨_,_,rfl⟩,?_⟩,fun agM=>?_⟩
    ·rw[YT a0,aW,zF];simpa using bK
    ·refine k2 ?_ H' aG;rw[gY,hy,aR];simp only[d4,amK];rw[bw];intro z;rw[amB]at z;have:=rT.mp z q (f9 a0);rw[zF]at this;simp only at this;rw[agM]at this;cases this
  ·refine⟨Z,⟨_,_,Z⟩,?_⟩;have aN:lq q.rule≠4:=by
    intro z;exact ak (fu (by simp[z]))
   rw[YT a0,aW];cases zF:q.rule with
   |around l=>rw[zF]at aN;exact absurd rfl aN
   |_=>rfl
 ·subst e a8;refine⟨_,Z,?_⟩;rw[fZ (by omega)]at aW;refine k1 rs dm _ H' ?_ cO aG ⟨D,vs,rfl,jn,YX⟩;rw[gY,hy,aR];simp only[d4,amK];rw[bL];rw[amB];exact aW
def Sm{α:Type}(iM:α->Prop)(p:Sw28.P α):Prop:=∀ t x r,(∀ b∈t,b<256)->p t=some (x,r)->iM x/\∀ b∈r,b<256
theorem Y0:Sm (fun x=>x<65536) u16:=fun t x r b_ h=>⟨alK b_ h,by
 match t,h with
 |a::b::t,h =>
  simp only[u16,Option.some.injEq,Prod.mk.injEq]at h;obtain⟨_,rfl⟩:=h;exact fun c aU=>b_ c (by simp[aU])⟩
theorem agN(g:Nat):Sm (fun x=>x<65536) (Sw28.sign g):=fun t x r b_ h=>by
 rw[sign_eq]at h;exact Y0 t x r b_ (wh h).2.2
theorem agO:Sm (fun _=>True) s16:=fun t x r b_ h=>by
 unfold s16 at h;cases h1:u16 t with
 |none=>rw[h1]at h;cases h
 |some z =>
  rw[h1]at h;simp only[gd,Option.some.injEq,Prod.mk.injEq]at h;obtain⟨_,rfl⟩:=h;exact⟨trivial,(Y0 t z.1 z.2 b_ h1).2⟩
theorem SX{α β:Type}{kJ:α->Prop}{amM:β->Prop}{p:Sw28.P α}{q:Sw28.P β}(aL:Sm kJ p)(a0:Sm amM q):Sm (fun x=>kJ x.1/\amM x.2) (Sw28.pair p q):=fun t x r b_ h=>by
 unfold Sw28.pair at h;cases h1:p t with
 |none=>rw[h1]at h;cases h
 |some y =>
  rw[h1]at h;simp only[d4]at h;cases aC:q y.2 with
  |none=>rw[aC]at h;cases h
  |some z =>
   rw[aC]at h;simp only[gd,Option.some.injEq,Prod.mk.injEq]at h;obtain⟨rfl,rfl⟩:=h;have a:=aL t y.1 y.2 b_ h1;have b:=a0 y.2 z.1 z.2 a.2 aC;exact⟨⟨a.1,b.1⟩,b.2⟩
theorem agP{α:Type}{iM:α->Prop}{p:Sw28.P α}(aL:Sm iM p):∀ {n:Nat} {t:Sw28.B} {y:List α×Sw28.B},(∀ b∈t,b<256)->times p n t=some y->∀ x∈y.1,iM x
 |0,t,y,_,h,x,aq=>by simp only[times]at h;cases h;cases aq
 |n+1,t,y,b_,h,x,aq=>by
  simp only[times]at h;cases h1:p t with
  |none=>rw[h1]at h;simp at h
  |some z =>
   rw[h1]at h;simp only[d4]at h;have a:=aL t z.1 z.2 b_ h1;cases aC:times p n z.2 with
   |none=>rw[aC]at h;simp at h
   |some w =>
    rw[aC]at h;simp only[gd,Option.some.injEq]at h;subst h;rcases gQ.mp aq with rfl|aq
    ·exact a.1
    ·exact agP aL a.2 aC x aq
theorem az2:Sm (fun x:Nat×Int×Int=>x.1<65536) rC:=fun t x r b_ h=>by
 have:=SX Y0 (SX agO agO) t x r b_ h;exact⟨this.1.1,this.2⟩
abbrev k2(a b:Nat):List Key:=[bI a,bI b]
inductive zG{α:Type}(ka kb:α->Nat)(R:ao->V->α->Prop)(H:ao)(v:V)(x:α):Prop
 |mk (T U b):v=.ref T->H T=some (.tup [.ref U,b])->H U=some (.tup [nat (ka x),nat (kb x)])->R H b x->zG ka kb R H v x
theorem S5{α:Type}{ka kb:α->Nat}{R:ao->V->α->Prop}(m:fC R):fC (zG ka kb R):=fun _ _ _ _ s ⟨T,U,b,e,h,aC,r⟩=>⟨T,U,b,e,s _ _ h,s _ _ aC,m _ _ _ _ s r⟩
inductive S6{α:Type}(ka kb:α->Nat)(R:ao->V->α->Prop)(H:ao)(v:V)(xs:List α):Prop
 |mk (a kvs):v=.ref a->H a=some (.gD kvs)->Paired (fun(bC:List Key×V) x=>bC.1=k2 (ka x) (kb x)/\R H bC.2 x) kvs xs->S6 ka kb R H v xs
theorem amN{α:Type}{ka kb:α->Nat}{R:ao->V->α->Prop}(m:fC R):fC (S6 ka kb R):=fun _ _ _ _ s ⟨a,kvs,e,h,p⟩=>⟨a,kvs,e,s _ _ h,Paired.d7 p fun _ _ ⟨e,r⟩=>⟨e,m _ _ _ _ s r⟩⟩
theorem agQ{α:Type}{ka kb:α->Nat}{R:ao->V->α->Prop}{H:ao}:∀ {vs:List V} {xs:List α},Paired (zG ka kb R H) vs xs->∃ (ps:d1) (kvs:List (List Key×V)),vs=ps.map V.ref /\
  Paired (fun p (bC:List Key×V)=>∃ a,H p=some (.tup [.ref a,bC.2])/\H a=some (.tup (bC.1.map c0))) ps kvs/\Paired (fun(bC:List Key×V) x=>bC.1=k2 (ka x) (kb x)/\R H bC.2 x) kvs xs
 |_,_,.nil=>⟨[],[],rfl,.nil,.nil⟩
 |_,_,.cons (b:=x) ⟨T,U,b,e,h,aC,r⟩ tl=>by
  obtain⟨ps,kvs,a8,u6,nS⟩:=agQ tl;exact⟨T::ps,(k2 (ka x) (kb x),b)::kvs,by rw[e,a8];rfl,.cons ⟨U,h,aC⟩ u6,.cons ⟨rfl,r⟩ nS⟩
theorem amO:∀ (more kvs:List (List Key×V)),((kvs++more).map (·.1)).Nodup->qG kvs more=kvs++more
 | [],kvs,_=>by simp[qG]
 |p::r,kvs,h=>by
  show qG (putK kvs p.1 p.2) r=_;have aR:dX kvs p.1=none:=by
   cases e:dX kvs p.1 with
   |none=>rfl
   |some v =>
    have h1:=acq e;rw[od,fT]at h;have:=(List.nodup_append.mp h).2.2 p.1 h1 p.1 h9;exact absurd rfl this
  rw[VR _ aR,amO r]
  ·simp
  ·simpa using h
theorem amP{α:Type}{key:α->List Key}{F:(List Key×V)->α->Prop}(iQ:∀ bC x,F bC x->bC.1=key x):∀ {kvs:List (List Key×V)} {xs:List α},Paired F kvs xs->kvs.map (·.1)=xs.map key
 |_,_,.nil=>rfl
 |_,_,.cons h tl=>by rw[fT,fT,iQ _ _ h,amP iQ tl]
theorem amQ{α:Type}{ka kb:α->Nat}{R:ao->V->α->Prop}{H:ao}{kvs:List (List Key×V)}{xs:List α}(p:Paired (fun(bC:List Key×V) x=>bC.1=k2 (ka x) (kb x)/\R H bC.2 x) kvs xs)(aA:rising (xs.map fun x=>65536 * ka x+kb x)=true):qG [] kvs=kvs:=by
 refine amO kvs [] ?_;rw[I2,amP (key:=fun x=>k2 (ka x) (kb x)) (fun _ _ h=>h.1) p];have h:=af' aA;rw[I3]at h;rw[List.Nodup,I3];refine h.imp fun{x y} cZ he=>?_;injection he with bD a8
 injection a8 with a8 _
 rw[n6.mp bD,n6.mp a8]at cZ;omega
theorem agR{α:Type}{ka kb:α->Nat}{R:ao->V->α->Prop}{H:ao}(a b:Nat):∀ {kvs:List (List Key×V)} {xs:List α},Paired (fun(bC:List Key×V) x=>bC.1=k2 (ka x) (kb x)/\R H bC.2 x) kvs xs ->
  (xs.find? (fun x=>decide (ka x=a) && decide (kb x=b))=none->dX kvs (k2 a b)=none)/\∀ x,xs.find? (fun x=>decide (ka x=a) && decide (kb x=b))=some x->∃ v,dX kvs (k2 a b)=some v/\R H v x
 |_,_,.nil=>⟨fun _=>rfl,fun x h=>by simp at h⟩
 |_,_,.cons (a:=bC) (b:=x) ⟨e,r⟩ tl=>by
  obtain⟨i1,i2⟩:=agR a b tl;by_cases aN:ka x=a/\kb x=b
  ·rw[kg];simp only[aN.1,aN.2,decide_true,Bool.and_self];refine⟨fun h=>(by cases h),fun y aP=>?_⟩;cases aP;exact⟨bC.2,oO (by rw[e,aN.1,aN.2]),r⟩
  ·have ak:(decide (ka x=a) && decide (kb x=b))=false:=by
    cases z:(decide (ka x=a) && decide (kb x=b))with
    |false=>rfl
    |true =>
     simp at z;exact absurd z aN
   rw[kg,ak,oR (fun z=>aN ?_)]
   ·exact⟨i1,i2⟩
   ·rw[e]at z;injection z with bD a8
    injection a8 with a8 _
    exact⟨n6.mp bD,n6.mp a8⟩
theorem az3{a b c d:Nat}(ak:b<65536)(hd:d<65536):HT.lexLt [(a:Int),(b:Int)] [(c:Int),(d:Int)]=decide (65536 * a+b<65536 * c+d):=by
 simp only[HT.lexLt];by_cases h:(a:Int)=(c:Int)
 ·rw[bL h];by_cases aC:(b:Int)=(d:Int)
  ·rw[bL aC];exact(oo (by omega)).symm
  ·rw[bw aC];exact wa.mpr (by omega)
 ·rw[bw h];exact wa.mpr (by omega)
theorem amR{t:bW}{α:Type}{ka kb:α->Nat}{H:ao}{Q:bx}{E:cM}{l:au}{us:List V}{xs:List α}(aF:H l=some (.lst us))(pu:Paired (fun u x=>∃ U,u=V.ref U/\H U=some (.tup [nat (ka x),nat (kb x)])) us xs)(ak:∀ x∈xs,kb x<65536)(hz:xs.length<=65536)
  (k1:rising (xs.map fun x=>65536 * ka x+kb x)=true->Q .non H) (k2:rising (xs.map fun x=>65536 * ka x+kb x)=false->E (.ref t.jk) none H):R4 t [.ref l] H Q E:=by
 refine alP aF (by rw[ew,f5 pu]) (by rw[f5 pu];exact hz) (fun k u w cD hw=>.inr ?_) k1 k2;obtain⟨x,aq,U,rfl,kN⟩:=mF pu cD;obtain⟨y,aP,W,rfl,Y2⟩:=mF pu hw;refine⟨U,W,[(ka x:Int),(kb x:Int)],[(ka y:Int),(kb y:Int)],Z,Z,kN,Y2,?_⟩;rw[az3 (ak x (f9 aq)) (ak y (f9 aP))];simp[List.getD,ei,aq,aP]
theorem amS{α:Type}{ka kb:α->Nat}{R:ao->V->α->Prop}{K':cn}{a D:au}{vs:List V}{xs:List α}{σ:St}{dA:Nat}{H:ao}{gv:ao->Prop}(aN:dA < σ.length)(aW:H a=some (.lst vs))(pp:Paired (zG ka kb R H) vs xs)(hz:vs.length<=65536)(bp:H D=none)
  (k:∀ us,Paired (fun u x=>∃ U,u=V.ref U/\H U=some (.tup [nat (ka x),nat (kb x)])) us xs->gv (upd H D (.lst us))) :
  ∃ W:Nat->Nat->ao->Prop,(∃ m,W 0 m (upd H D (.lst [])))/\∀ i m H,W i m H ->
   ((jj K' a).stop i H/\gv H)\/((jj K' a).go i H/\∃ fP:ao->Prop,(∀ H',fP H'->∃ dT,dT<m/\W (i+1) dT H')/\∀ x H',(jj K' a).mc i H x H'->kW dA x (wipe σ [dA]) H' fun dV aB=>wipe dV [dA]=wipe σ [dA]/\sb dV aB fun b aJ =>
    if b=true then(wM (J0 K') (gg dA) (uW (.int 0))) dV aJ fun y bB=>∃ acc,bB D=some (.lst acc)/\acc.length<sizeLine/\fP (upd bB D (.lst (acc++[y])))else fP aJ):=by
 obtain⟨us,Y4,u6,nS⟩:∃ us:List V,us.length=vs.length/\Paired (fun u x=>∃ U,u=V.ref U/\H U=some (.tup [nat (ka x),nat (kb x)])) us xs/\∀ (i:Nat) (v u:V),vs[i]?=some v->us[i]?=some u->∃ T b,v=V.ref T/\H T=some (.tup [u,b]):=by
  clear hz aW k;induction pp with
  |nil=>exact⟨[],Z,.nil,fun i v u h=>by simp at h⟩
  |cons h tl bU =>
   obtain⟨us,bD,a8,dr⟩:=bU;obtain⟨T,U,b,rfl,h1,aC,_⟩:=h;refine⟨.ref U::us,by simp[bD],.cons ⟨U,rfl,aC⟩ a8,fun i v u aZ cD=>?_⟩;cases i with
   |zero =>
    simp at aZ cD;subst aZ cD;exact⟨T,b,Z,h1⟩
   |succ i=>exact dr i v u (by simpa using aZ) (by simpa using cD)
 refine n3 us Y4 (aT.of aW) hz bp (fun i v y H' eo aZ aP aH q=>?_) (k us u6);obtain⟨T,b,rfl,cv⟩:=nS i v y aZ aP;exact⟨_,by simp[wipe,aN],T,_,0,y,Z,Z,fM.of (aH _ _ cv),Z,q⟩
def S7:ao->V->List (Nat×Nat×Int)->Prop:=S6 (fun y=>y.1) (fun y=>y.2.1) fun H v y=>y2 H v y.2.2
theorem az4:fC S7:=amN fun _ _ _ _ s h=>alF _ _ _ _ s h
theorem az5(T:Txt K av t):cI P w K av base (cL P w) 6 t.O_ t.O' ["reader"] (jB t pPairs S7):=by
 refine T.Ro.cY Cr fa.cW ?_;rintro bJ A outer s H _ Q E aA ⟨bV,rfl,rd,rfl,ca,bs,rest,g,R,k1,k2⟩;try simp only at k1 k2
 refine⟨_,(aV (cp (i:=1) Cr.nd Z (Or.inl Z) (hb aM)) (aV (ho (gO dH Z) Z (mg Z T.jz (aD (fj (aj 0) T.dU T.jy (j5 T) aA.bf T.j2 .nil bh (aD b3 (aD b3 aM))) aM)) (dj (i:=2) Cr.nd Z (Or.inl Z)) (aV (cp (i:=3) Cr.nd Z (Or.inl Z) (gu (aj 0) T.dU T.ru (tY T) aA.bf T.tQ .nil bh)) (aV (cp (i:=4) Cr.nd Z (Or.inl Z) (gu (aj 0) T.dU T.ru (tY T) aA.bf T.tQ .nil bh)) (bj (er (mz lV pk pn pP (aj 1) (aD (r9 (aD (r9 (aD (aj 3) (aD (aj 4) aM))) (aD (gu (aj 0) T.dU T.yR (G' T) aA.bf T.GJ .nil bh) aM))) aM))))))) (aV (er (dG (xF T) aA.bf Z T.tO T.rv.aG T.xd .nil bh (aD (iH (own:=[("pair",5)]) dH (fun _ _ z=>z) Z Cr.nd (gG (aj 1)) (gW (by rfl)) (fun _ _ _ _ _=>dj (i:=5) Cr.nd Z (Or.inl Z)) (fun _ _ _ _ _=>hx) (fun _ _ _ _ _=>(eN (Cv (K':=K) Z) (aj 5) b3 (fun _ _=>Z)))) aM))) (bj (dK (q' (ak2 Z (alv aA)) Z T.yW G7 (aD (aj 1) aM))))))),?_⟩;apply hG;intros;refine⟨eY _,fun L c4=>?_⟩;have dp:eb t (upd H L (.lst [])) rd ca bs rest g:=R.new c4;refine iK dp rfl (j6 dp ⟨fun n r v aB aR cO bZ rep=>?_,fun aR H' aG=>k2 (Yp aR) H' ((a9.iY c4).trans aG)⟩);subst rep;have lD:n<=1024:=pU (hi:=1024) aR;have jR:a9 [rd] H aB:=(a9.iY c4).trans bZ;have iZ:L≠rd:=fun e=>R.dom (e▸c4);have nq:aB L=some (.lst []):=bZ _ _ (by simp[iZ]) a7;have amT:fC (fun H v (y:Nat×Nat×Int)=>y2 H v y.2.2):=fun _ _ _ _ s h=>alF _ _ _ _ s h;refine⟨_,Z,by omega,by omega,?_⟩;refine ta (n:=n) (lo:=0) (fun i σ aJ=>(∃ s2 s3 s4 s5,σ=[some (.ref rd),some (.ref L),s2,s3,s4,s5])/\Many t (Sw28.pair (Sw28.sign g) (Sw28.pair (Sw28.sign g) s16)) (zG (fun y=>y.1) (fun y=>y.2.1) fun H v y=>y2 H v y.2.2) H rd ca L bs r g i aJ) ⟨⟨_,_,_,_,rfl⟩,.start cO jR nq⟩ (fun i σ aJ hi ⟨⟨s2,s3,s4,s5,e⟩,m⟩=>?_) fun σ aJ ⟨⟨s2,s3,s4,s5,e⟩,m⟩=>?_
 ·subst e;obtain⟨xs,d2,vs,h1,e1,dg,jC,pp⟩:=m;have stop:Sw28.pair (Sw28.sign g) (Sw28.pair (Sw28.sign g) s16) d2=none->∀ H',a9 [rd] aJ H'->E (.ref t.jk) none H':=fun hz H' aG=>k2 (Yq aR (x8 _ h1 hz n hi)) H' (dg.trans aG);refine hU e1 rfl ⟨fun x jM v bB aq gq dF rep=>?_,fun hz H' aG=>stop (n5 hz) H' aG⟩;subst rep;refine hU gq rfl ⟨fun y m4 v b2 aP ix fW rep=>?_,fun hz H' aG=>stop (kI aq (n5 hz)) H' (dF.trans aG)⟩;subst rep;have amU:b2 L=some (.lst vs):=fW _ _ (by simp[iZ]) (dF _ _ (by simp[iZ]) jC);refine⟨_,Z,.inl ⟨Z,_,aT.of amU⟩,_,Z,_,Z,tW,fun U kN=>?_⟩;have oZ:eb t (upd b2 U (.tup [nat x,nat y])) rd ca bs m4 g:=ix.new kN;have az6:(upd b2 U (.tup [nat x,nat y])) U=some (.tup [nat x,nat y]):=a7;have nu:a9 [rd] aJ (upd b2 U (.tup [nat x,nat y])):=(dF.trans fW).jl kN;have az7:U≠rd:=fun e=>ix.dom (e▸kN);have az8:U≠L:=(bQ amU kN).symm;have amV:H U=none:=ix.up (dg.trans (dF.trans fW)) kN;generalize upd b2 U (.tup [nat x,nat y])=eH at *;refine hU oZ rfl ⟨fun d ys v dB hd nA nC rep=>?_,fun hz H' aG=>stop (kI aq (kI aP hz)) H' (nu.trans aG)⟩;refine⟨tW,fun ey cv=>?_⟩;have zH:=nu.trans nC;have S8:dB L=some (.lst vs):=zH _ _ (by simp[iZ]) jC;have amW:dB U=some (.tup [nat x,nat y]):=nC _ _ (by simp[az7]) az6;have Cz:ey≠L:=(bQ S8 cv).symm;have Ym:H ey=none:=nA.up (dg.trans zH) cv;obtain⟨az9,az_⟩:=Many.next (p:=Sw28.pair (Sw28.sign g) (Sw28.pair (Sw28.sign g) s16)) (x:=(x,y,d)) (v:=.ref ey) (S5 amT) R.dom R.sz c4 h1 dg jC pp (oX aq (oX aP hd)) (nA.new (L:=ey) (o:=.tup [.ref U,v]) cv) (zH.jl cv)
   ⟨ey,U,v,rfl,eu.mpr ⟨Ym,by simp[Cz],a7⟩,eu.mpr ⟨amV,by simp[az8],by rw[a6 (bQ amW cv)];exact amW⟩,rep⟩
  refine⟨L,vs,_,Z,Z,az9,?_,⟨_,_,_,_,Z⟩,az_⟩;have aF:=mW _ h1;rw[f5 pp];exact jQ (by simp at aF;omega)
 ·subst e;obtain⟨xs,d2,vs,h1,e1,dg,jC,pp⟩:=m;have hlen:xs.length=n:=mW _ h1;have bY:=agP (SX (agN g) (SX (agN g) agO)) cO.small h1;have agc:Paired (zG (fun y=>y.1) (fun y=>y.2.1) (fun H v y=>y2 H v y.2.2) aJ) vs xs:=Paired.d7 pp fun _ _ q=>S5 amT _ _ _ _ hB q;have tZ:vs.length<=65536:=by rw[f5 pp];omega
  refine⟨_,Z,L,Z,⟨_,aT.of jC⟩,fun Y iw=>amS (by simp) jC agc tZ iw fun us pu=>?_⟩;have s4:aQ aJ (upd aJ Y (.lst us)):=ef (aQ.refl _) iw;have az':(upd aJ Y (.lst us)) Y=some (.lst us):=a7;have gq:eb t (upd aJ Y (.lst us)) rd ca bs d2 g:=e1.oW s4;have dF:a9 [rd] H (upd aJ Y (.lst us)):=dg.trans (hp s4 _);generalize upd aJ Y (.lst us)=bB at *;refine amR az' (Paired.d7 pu fun _ _ ⟨U,e,h⟩=>⟨U,e,s4 _ _ h⟩) (fun x aq=>(bY x aq).2.1) (by omega) (fun aA=>?_) fun aA=>k2 (Ys (key:=fun y:Nat×Nat×Int=>65536 * y.1+y.2.1) aR h1 aA) bB dF;obtain⟨ps,kvs,e,bT,cA⟩:=agQ pp;subst e;have aHs:aQ (bG H [L] aJ) (bG H [L] bB):=jA (M:=[]) (hp s4 []) (by simp);refine⟨_,Z,L,ps,kvs,Z,aT.of (s4 _ _ jC),Paired.d7 bT fun _ _ ⟨a,gk,eG⟩=>⟨a,fM.of (s4 _ _ (hB _ _ gk)),s4 _ _ (hB _ _ eG)⟩,fun d hd=>?_⟩;have Hg:H d=none:=gq.up dF hd;have zq:aQ (bG H [L] bB) (bG H [] (upd bB d (.gD (qG [] kvs)))):=(jA (M:=[]) (a9.iY hd) (by simp)).trans (y1 (by simp));refine k1 xs d2 _ _ (Yr (key:=fun y:Nat×Nat×Int=>65536 * y.1+y.2.1) aR h1 aA) (gq.new hd) (dF.jl hd) ⟨d,kvs,rfl,eu.mpr ⟨Hg,by simp,?_⟩,Paired.d7 cA fun _ _ ⟨gk,eG⟩=>⟨gk,eG⟩⟩;rw[a7,amQ (ka:=fun y:Nat×Nat×Int=>y.1) (kb:=fun y=>y.2.1) (R:=fun H v y=>y2 H v y.2.2) (H:=bG H [L] aJ) cA aA]
theorem aAa{β:Type}{Rep:ao->V->β->Prop}{K':cn}{a D:au}{xs:List V}{te:TE}{σ:St}{i1 i2:Nat}{H:ao}{gv:ao->Prop}(mono:fC Rep)(bN:List β)(aP:bN.length=xs.length)(aW:aT K' H a xs)(hz:xs.length<=65536)(bp:H D=none)
  (hw:∀ x y,wipe (((wipe σ [i1,i2]).set i1 (some x)).set i2 (some y)) [i1,i2]=wipe σ [i1,i2])
  (rA:∀ (i:Nat) v y H' (eo:bx),xs[i]?=some v->bN[i]?=some y->aQ H H'->H' D≠none->(∀ v lN,aQ H' lN->Rep (bG fy [D] lN) v y->eo v lN)->∃ T x1 iD,v=.ref T/\H' T=some (.tup [x1,iD])/\te (((wipe σ [i1,i2]).set i1 (some x1)).set i2 (some iD)) H' eo)
  (k:∀ H' ws,aQ H H'->H' D=some (.lst ws)->Paired (Rep (bG fy [D] H')) ws bN->gv H') :
  ∃ W:Nat->Nat->ao->Prop,(∃ m,W 0 m (upd H D (.lst [])))/\∀ i m H,W i m H ->
   ((jj K' a).stop i H/\gv H)\/((jj K' a).go i H/\∃ fP:ao->Prop,(∀ H',fP H'->∃ dT,dT<m/\W (i+1) dT H')/\∀ x H',(jj K' a).mc i H x H'->g2 K' i1 i2 x (wipe σ [i1,i2]) H' fun dV aB=>wipe dV [i1,i2]=wipe σ [i1,i2]/\sb dV aB fun b aJ =>
    if b=true then te dV aJ fun y bB=>∃ acc,bB D=some (.lst acc)/\acc.length<sizeLine/\fP (upd bB D (.lst (acc++[y])))else fP aJ):=by
 refine ab5 (xs:=xs) (gv:=gv) (fun i aB=>aQ H aB/\∃ ws,aB D=some (.lst ws)/\Paired (Rep (bG fy [D] aB)) ws (bN.take i)) ⟨ef (aQ.refl _) bp,[],a7,.nil⟩ (fun i aB _ ⟨s,_⟩=>s.seq aW) (fun i x aB aq ⟨s2,ws,jE,jT⟩=>?_) fun aB ⟨s2,ws,jE,jT⟩=>?_
 ·have hi:i<bN.length:=by rw[aP];exact(eE.mp aq).1
  have Sh:bN[i]?=some bN[i]:=dR hi;obtain⟨T,x1,iD,rfl,cv,q⟩:=rA i x bN[i] aB (fun y bB=>∃ acc,bB D=some (.lst acc)/\acc.length<sizeLine/\(aQ H (upd bB D (.lst (acc++[y])))/\∃ ws,(upd bB D (.lst (acc++[y]))) D=some (.lst ws)/\Paired (Rep (bG fy [D] (upd bB D (.lst (acc++[y]))))) ws (bN.take (i+1)))) aq Sh s2 (j4 jE) fun v aJ s3 rep=>by
   refine⟨ws,s3 _ _ jE,?_,ef (s2.trans s3) bp,_,a7,?_⟩
   ·have:ws.length<=i:=by rw[f5 jT,g0];omega
    exact jQ (by omega)
   ·have bF:∀ b2,aQ b2 aJ->aQ (bG fy [D] b2) (bG fy [D] (upd aJ D (.lst (ws++[v])))):=fun b2 s5=>y0 fun b o a1 a2 a3=>⟨a1,a2,by rw[a6 (by simpa using a2)];exact s5 _ _ a3⟩
    rw[take_snoc Sh];exact G9 (Paired.d7 jT fun _ _ z=>mono _ _ _ _ (bF aB s3) z) (mono _ _ _ _ (bF aJ (aQ.refl _)) rep)
  exact Hl cv ⟨hw _ _,R3 q⟩
 ·rw[← aP,fZ (cG _)]at jT;exact k aB ws s2 jE jT
def vI(y:Nat×Nat×Int×Int):Anchor:=⟨y.1,y.2.1,y.2.2.1,y.2.2.2⟩
theorem aAb(g n:Nat)(t:Sw28.B):times (Sw28.anchor g) n t=(times (Sw28.pair (Sw28.sign g) rC) n t).map fun y=>(y.1.map vI,y.2):=by
 rw[← YW];rfl
theorem amX(g:Nat)(t:Sw28.B):many 1 1024 (Sw28.anchor g) t=(many 1 1024 (Sw28.pair (Sw28.sign g) rC) t).map fun y=>(y.1.map vI,y.2):=by
 rw[za,za];cases ea 1 1024 t with
 |none=>rfl
 |some x=>exact aAb g x.1 x.2
def xM(t:bW):ao->V->Anchor->Prop:=fun H v a=>rB t H v (a.cls,a.x,a.y)
theorem amY:fC (xM t):=fun _ _ _ _ s h=>Hi _ _ _ _ s h
inductive zJ(t:bW)(H:ao)(v:V)(y:List Anchor×List Anchor):Prop
 |mk (p dx S9 ez):v=.ref p->H p=some (.ins t.rr dx [("marks",S9),("bases",ez)])->xG (fun a=>bI a.sign) (xM t) H S9 y.1->S6 (fun a=>a.sign) (fun a=>a.cls) (xM t) H ez y.2->zJ t H v y
theorem amZ:fC (zJ t):=fun _ _ _ _ s ⟨p,dx,S9,ez,e,h,h1,aC⟩=>⟨p,dx,S9,ez,e,s _ _ h,R6 amY _ _ _ _ s h1,amN amY _ _ _ _ s aC⟩
theorem agS{g:Nat}{r:Sw28.B}:I' g r=(many 1 1024 (Sw28.pair (Sw28.sign g) rC) r).bind fun y=>if rising (y.1.map fun z=>z.1)=true then some (y.1.map vI,y.2)else none:=by
 unfold I';rw[gY,amX];cases many 1 1024 (Sw28.pair (Sw28.sign g) rC) r with
 |none=>rfl
 |some y =>
  simp only[gd,d4,kh];rfl
theorem agT{g:Nat}{r:Sw28.B}:Ja g r=(many 1 1024 (Sw28.pair (Sw28.sign g) rC) r).bind fun y=>if rising (y.1.map fun z=>65536 * z.1+z.2.1)=true then some (y.1.map vI,y.2)else none:=by
 unfold Ja;rw[gY,amX];cases many 1 1024 (Sw28.pair (Sw28.sign g) rC) r with
 |none=>rfl
 |some y =>
  simp only[gd,d4,kh];rfl
theorem aAc{α:Type}{iM:α->Prop}{p:Sw28.P α}(aL:Sm iM p){lo hi:Nat}{t:Sw28.B}{y:List α×Sw28.B}(b_:∀ b∈t,b<256)(h:many lo hi p t=some y):∀ x∈y.1,iM x:=by
 rw[ou]at h;cases h1:ea lo hi t with
 |none=>rw[h1]at h;simp at h
 |some z =>
  rw[h1]at h;exact agP aL ((Y0 t z.1 z.2 b_ (wh h1).2.2).2) h
theorem aAd(T:Txt K av t):cI P w K av base (cL P w) 7 t.Pj t.Pk ["reader"] (jB t Jb (zJ t)):=by
 refine T.Rq.cY xu fa.cW ?_;rintro bJ A outer s H _ Q E aA ⟨bV,rfl,rd,rfl,ca,bs,rest,g,R,k1,k2⟩;try simp only at k1 k2
 refine⟨_,(aV (cp (i:=1) xu.nd Z (Or.inl Z) (dG (alW T) aA.bf Z T.XM T.Gx.aG T.ak' .nil bh (aD (aj 0) aM))) (aV (er (dG (xF T) aA.bf Z T.tO T.rv.aG T.xd .nil bh (aD (iH (own:=[("pair",3)]) dH (fun _ _ z=>z) Z xu.nd (gG (aj 1)) (gW (by rfl)) (fun _ _ _ _ _=>dj (i:=3) xu.nd Z (Or.inl Z)) (fun _ _ _ _ _=>hx) (fun _ _ _ _ _=>(eN (Cv (K':=K) Z) (aj 3) b3 (fun _ _=>Z)))) aM))) (aV (w2 (i:=2) (own:=[("sign",4),("anchor",5)]) dH (fun _ _ z=>z) Z xu.nd Z Z (wV Z Z Z Z) (gG (dG (alW T) aA.bf Z T.XM T.Gx.aG T.ak' .nil bh (aD (aj 0) aM))) (gW (by rfl)) (fun _ _ _ _ _=>alw (K':=K) (n:=2) Z Z (jL (dj (i:=4) xu.nd Z (Or.inl Z)) (jL (dj (i:=5) xu.nd Z (Or.inl Z)) r6))) (fun _ _ _ _ _=>hx) (fun _ _ _ _ _=>(r9 (aD (r9 (aD (aj 4) (aD (ry (K':=K) Z (aj 5) Z) aM))) (aD (aj 5) aM))))) (aV (er (dG (xF T) aA.bf Z T.tO T.rv.aG T.xd .nil bh (aD (iH (own:=[("pair",3)]) dH (fun _ _ z=>z) Z xu.nd (gG (aj 2)) (gW (by rfl)) (fun _ _ _ _ _=>dj (i:=3) xu.nd Z (Or.inl Z)) (fun _ _ _ _ _=>hx) (fun _ _ _ _ _=>(eN (Cv (K':=K) Z) (aj 3) b3 (fun _ _=>Z)))) aM))) (bj (dK (qC T.aeF (aym T) aA.bf Z T.aeE T.awN .nil bh (aD (q' (V3 Z) Z T.yW G7 (aD (aj 1) aM)) (aD (q' (ak2 Z (alv aA)) Z T.yW G7 (aD (aj 2) aM)) aM))))))))),?_⟩;apply mb;intros;refine mG R rfl ⟨fun ms cH v H1 agU dp cC rep=>?_,fun hz H' aG=>k2 (n5 (by rw[agS,hz];rfl)) H' aG⟩;obtain⟨ma,am0,rfl,Df,pm⟩:=rep;have Ew:=(wg agU).2;have aHt:am0.length=ms.length:=f5 pm;have aHu:ms.length<=1024:=Ew;have Y5:fC (fun H v (y:Nat×Nat×Int×Int)=>rB t H v y.2):=fun _ _ _ _ s h=>Hi _ _ _ _ s h;refine⟨_,Z,ma,Z,⟨_,aT.of (hB _ _ Df)⟩,fun Y iw=>alS (by show 3<6;decide) (hB _ _ Df) (Paired.d7 pm fun _ _ q=>Cy Y5 _ _ _ _ hB q) (by omega) iw ?_⟩;have bN:(upd H1 Y (.lst (ms.map fun x=>c0 (bI x.1)))) Y=some (.lst ((ms.map fun x=>x.1).map nat)):=by
  rw[a7,kh];rfl
 have s2:aQ H1 (upd H1 Y (.lst (ms.map fun x=>c0 (bI x.1)))):=ef (aQ.refl _) iw;generalize upd H1 Y (.lst (ms.map fun x=>c0 (bI x.1)))=aB at *;have cO:=dp.oW s2;have bZ:a9 [rd] H aB:=cC.trans (hp s2 _);refine R5 bN (by simp;omega) (fun hj=>?_) fun hj=>k2 (n5 (by rw[agS,agU];simp[hj])) aB bZ;have zK:I' g rest=some (ms.map vI,cH):=by rw[agS,agU];simp[hj]
 have aAe:agf t (bG H [] aB) (.ref ma) ms:=vu (fK (Cy Y5)) s2 ⟨ma,am0,rfl,Df,pm⟩;clear pm Df s2 bN;refine mG cO rfl ⟨fun bb d2 v aJ sD e1 dg rep=>?_,fun hz H' aG=>k2 (kI zK (by rw[agT,hz];rfl)) H' (bZ.trans aG)⟩;obtain⟨ba,vC,rfl,CN,pb⟩:=rep;have aHv:bb.length<=1024:=(wg sD).2;have aAf:vC.length=bb.length:=f5 pb;have Y6:=bZ.trans dg;refine⟨ba,Z,⟨_,aT.of (hB _ _ CN)⟩,fun D bp=>?_⟩;have Yy:H D=none:=e1.up Y6 bp;have mN:fC (fun(G:ao) v (y:Nat×Nat×Int×Int)=>∃ p eO,v=V.ref p/\G p=some (.ins t.qJ eO [("mark_class",nat y.2.1),("right",.int y.2.2.1),("up",.int y.2.2.2)])/\H p=none):=fun _ _ _ _ s ⟨p,eO,e,z,w⟩=>⟨p,eO,e,s _ _ z,w⟩;refine aAa (Rep:=zG (fun y=>y.1) (fun y=>y.2.1) (fun(G:ao) v (y:Nat×Nat×Int×Int)=>∃ p eO,v=V.ref p/\G p=some (.ins t.qJ eO [("mark_class",nat y.2.1),("right",.int y.2.2.1),("up",.int y.2.2.2)])/\H p=none)) (S5 mN) bb aAf.symm (aT.of (hB _ _ CN)) (by omega) bp (fun _ _=>rfl) (fun i v y bB eo aZ aP s4 Hq kq=>?_) fun bB ws s4 jE jT=>?_
 ·obtain⟨y',Yn,ey,b,rfl,cv,cu⟩:=mF pb aZ;rw[aP]at Yn;cases Yn;obtain⟨p,eO,rfl,aL⟩:=id cu;have Hz:bB ey=some (.tup [nat y.1,.ref p]):=s4 _ _ (hB _ _ cv);have uc:=s4 _ _ (hB _ _ aL);refine⟨ey,nat y.1,.ref p,Z,Hz,?_⟩;refine⟨_,Z,_,Z,p,_,eO,_,_,Z,uc,T.tL,T.QM,Z,tW,fun U kN=>?_⟩;refine⟨_,Z,tW,fun q a0=>?_⟩;have am1:(upd bB U (.tup [nat y.1,nat y.2.1])) U=some (.tup [nat y.1,nat y.2.1]):=a7;have S_:aQ bB (upd bB U (.tup [nat y.1,nat y.2.1])):=ef (aQ.refl _) kN;have amV:H U=none:=e1.up Y6 (s4.free kN);have aAg:U≠D:=fun e=>Hq (e▸kN);generalize upd bB U (.tup [nat y.1,nat y.2.1])=b2 at *;have agw:H q=none:=e1.up Y6 (s4.free (S_.free a0));have agp:q≠D:=fun e=>Hq (e▸S_.free a0);refine kq _ _ (S_.trans (ef (aQ.refl _) a0)) ⟨q,U,.ref p,rfl,n7.mpr ⟨by simp[agp],a7⟩,n7.mpr ⟨by simp[aAg],by rw[a6 (bQ am1 a0)];exact am1⟩,p,eO,rfl,n7.mpr ⟨?_,?_⟩,cO.up bZ (eu.mp aL).1⟩
  ·simp only[g4];exact bQ (hB _ _ aL) bp
  ·rw[a6 (bQ (S_ _ _ uc) a0)];exact S_ _ _ uc
 have gq:=e1.oW s4;have dF:a9 [rd] H bB:=Y6.trans (hp s4 _);have bY:=aAc (SX (agN g) az2) cO.small sD;have am2:Paired (zG (fun y=>y.1) (fun y=>y.2.1) (fun(G:ao) v (y:Nat×Nat×Int×Int)=>∃ p eO,v=V.ref p/\G p=some (.ins t.qJ eO [("mark_class",nat y.2.1),("right",.int y.2.2.1),("up",.int y.2.2.2)])/\H p=none) bB) ws bb:=Paired.d7 jT fun _ _ z=>S5 mN _ _ _ _ hB z;have lB:ws.length=bb.length:=f5 jT;refine⟨_,Z,D,Z,⟨_,aT.of jE⟩,fun Y7 am3=>amS (by show 3<6;decide) jE am2 (by omega) am3 fun us pu=>?_⟩;have s5:aQ bB (upd bB Y7 (.lst us)):=ef (aQ.refl _) am3;have aAh:(upd bB Y7 (.lst us)) Y7=some (.lst us):=a7;generalize upd bB Y7 (.lst us)=b2 at *;have ix:=gq.oW s5;have fW:a9 [rd] H b2:=dF.trans (hp s5 _);refine amR aAh (Paired.d7 pu fun _ _ ⟨U,e,h⟩=>⟨U,e,s5 _ _ h⟩) (fun x aq=>(bY x aq).2) (by omega) (fun zL=>?_) fun zL=>k2 (kI zK (by rw[agT,sD];simp[zL])) b2 fW;have lJ:Ja g cH=some (bb.map vI,d2):=by rw[agT,sD];simp[zL]
 have aAi:agf t (bG H [] b2) (.ref ma) ms:=vu (fK (Cy Y5)) (s4.trans s5) (R8 (fK (Cy Y5)) R.dom dg aAe);obtain⟨aHw,aHx,e,aAj,aAk⟩:=aAi;cases e;obtain⟨ps,kvs,e,bT,cA⟩:=af_ aAk;subst e;refine⟨_,Z,ma,ps,kvs,Z,aT.of (hB _ _ aAj),Paired.d7 bT fun _ _ z=>fM.of (hB _ _ z),fun qR Av=>?_⟩;rw[aga (key:=fun y:Nat×Nat×Int×Int=>y.1) (R:=fun H v (y:Nat×Nat×Int×Int)=>rB t H v y.2) (H:=bG H [] b2) cA hj];have cU:aQ b2 (upd b2 qR (.dW kvs)):=ef (aQ.refl _) Av;have aAl:(upd b2 qR (.dW kvs)) qR=some (.dW kvs):=a7;have adm:H qR=none:=ix.up fW Av;generalize upd b2 qR (.dW kvs)=eH at *;have Hs:=s5.trans cU;have aAm:=Paired.d7 am2 fun _ _ z=>S5 mN _ _ _ _ Hs z;obtain⟨ps2,HB,e,dY,hG⟩:=agQ aAm;subst e;refine⟨_,Z,D,ps2,HB,Z,aT.of (Hs _ _ jE),Paired.d7 dY fun _ _ ⟨a,gk,eG⟩=>⟨a,fM.of gk,eG⟩,fun db m_=>?_⟩;rw[amQ (ka:=fun y:Nat×Nat×Int×Int=>y.1) (kb:=fun y=>y.2.1) (R:=fun(G:ao) v (y:Nat×Nat×Int×Int)=>∃ p eO,v=V.ref p/\G p=some (.ins t.qJ eO [("mark_class",nat y.2.1),("right",.int y.2.2.1),("up",.int y.2.2.2)])/\H p=none) (H:=eH) hG zL];have fx:aQ eH (upd eH db (.gD HB)):=ef (aQ.refl _) m_;have aAn:(upd eH db (.gD HB)) db=some (.gD HB):=a7;have oZ:=ix.oW cU;have nu:a9 [rd] H eH:=fW.trans (hp cU _);have aAo:H db=none:=oZ.up nu m_;generalize upd eH db (.gD HB)=dB at *;have nA:=oZ.oW fx;have nC:a9 [rd] H dB:=nu.trans (hp fx _);refine af2 fun p dx np nd=>?_;have kE:=nZ (C:=t.rr) (fs:=[("marks",.ref qR),("bases",.ref db)]) np nd;have rJ:aQ eH (iJ dB p dx t.rr [("marks",.ref qR),("bases",.ref db)]):=fx.trans kE;have aAp:H p=none:=nA.up nC np;refine k1 (ms.map vI,bb.map vI) d2 _ _ (oX zK lJ) (nA.oW kE) (nC.trans (hp kE _)) ⟨p,dx,.ref qR,.ref db,rfl,eu.mpr ⟨aAp,by simp,rz⟩,⟨qR,kvs,rfl,eu.mpr ⟨adm,by simp,rJ _ _ aAl⟩,?_⟩,⟨db,HB,rfl,eu.mpr ⟨aAo,by simp,kE _ _ aAn⟩,?_⟩⟩
 ·exact SQ vI (fun a b h=>h) (Paired.d7 (G:=fun(bC:Key×V) (x:Nat×Nat×Int×Int)=>bC.1=bI x.1/\rB t (bG H [] (iJ dB p dx t.rr [("marks",.ref qR),("bases",.ref db)])) bC.2 x.2) cA fun _ _ ⟨gk,eG⟩=>⟨gk,vu Hi (cU.trans rJ) eG⟩)
 ·exact SQ vI (fun a b h=>h) (Paired.d7 (G:=fun(bC:List Key×V) (x:Nat×Nat×Int×Int)=>bC.1=Sg.k2 x.1 x.2.1/\rB t (bG H [] (iJ dB p dx t.rr [("marks",.ref qR),("bases",.ref db)])) bC.2 x.2) hG fun _ _ ⟨gk,p',eO,e,eG,nf⟩=>⟨gk,p',eO,e,eu.mpr ⟨nf,by simp,rJ _ _ eG⟩⟩)
def vJ(t:bW):ao->V->Sw28.Pos->Prop:=fun H v s=>match s with
 | .one l=>R9 t H v l
 | .pair l=>S7 H v l
 | .onBase m b=>zJ t H v (m,b)
 | .onMark m b=>zJ t H v (m,b)
theorem Tc:fC (vJ t):=fun H H' v x s h=>match x,h with
 | .one _,h=>ayG _ _ _ _ s h
 | .pair _,h=>az4 _ _ _ _ s h
 | .onBase _ _,h=>amZ _ _ _ _ s h
 | .onMark _ _,h=>amZ _ _ _ _ s h
inductive am4(t:bW)(a b:V)(H:ao)(Q:bx)(E:cM):Prop
 |mk (rd k):a=.ref rd->b=nat k->1<=k->k<=4->rx t (fun g=>qd g k) (vJ t) H rd Q E->am4 t a b H Q E
def aAq(t:bW):eX:=fQ (am4 t)
theorem aAr(T:Txt K av t):cI P w K av base (cL P w) 8 t.Pn t.Pq ["reader","kind"] (aAq t):=by
 obtain⟨am5,Td,Te⟩:=T.k_MOVE;obtain⟨aAs,agV,agW⟩:=T.k_PAIR;refine T.Rr.cY ax4 fQ.cW ?_;rintro bJ A outer s H _ Q E aA ⟨bV,a1,rfl,rd,k,rfl,rfl,h1,dw,ca,bs,rest,g,R,k1,k2⟩;try simp only at k1 k2
 refine⟨_,(aV (gh (gK jN (aj 1) (gV Z Td Te) (fe _)) (bj (dK (dG (ayH T) aA.bf Z T.afd T.Rn.aG T.axh .nil bh (aD (aj 0) aM)))) ht) (aV (gh (gK jN (aj 1) (gV Z agV agW) (fe _)) (bj (dK (dG (az5 T) aA.bf Z T.afe T.Ro.aG T.axi .nil bh (aD (aj 0) aM)))) ht) (bj (dK (dG (aAd T) aA.bf Z T.afh T.Rq.aG T.axk .nil bh (aD (aj 0) aM)))))),?_⟩;apply dY;intros;refine⟨_,Z,Z,_,Z,dD (fun ak=>?_) fun ak=>?_⟩
 ·have e:k=1:=by have:=j8 ak;omega
  subst e;exact mG R rfl ⟨fun x r v H' aq k6 aG rep=>k1 (.one x) r v H' (by simp[qd,d7,aq]) k6 aG rep,fun hz H' aG=>k2 (by simp[qd,d7,hz]) H' aG⟩
 have n1:k≠1:=by have:=CZ ak;omega
 refine⟨_,Z,Z,_,Z,dD (fun ak=>?_) fun ak=>?_⟩
 ·have e:k=2:=by have:=j8 ak;omega
  subst e;exact mG R rfl ⟨fun x r v H' aq k6 aG rep=>k1 (.pair x) r v H' (by simp[qd,d7,aq]) k6 aG rep,fun hz H' aG=>k2 (by simp[qd,d7,hz]) H' aG⟩
 have n2:k≠2:=by have:=CZ ak;omega
 refine mG R rfl ⟨fun x r v H' aq k6 aG rep=>?_,fun hz H' aG=>?_⟩
 ·by_cases bH:k=3
  ·subst bH;exact k1 (.onBase x.1 x.2) r v H' (by simp[qd,d7,aq]) k6 aG rep
  ·exact k1 (.onMark x.1 x.2) r v H' (by simp[qd,d7,aq,n1,n2,bH]) k6 aG rep
 ·by_cases bH:k=3
  ·subst bH;exact k2 (by simp[qd,d7,hz]) H' aG
  ·exact k2 (by simp[qd,d7,hz,n1,n2,bH]) H' aG
theorem aAt(T:Txt K av t):cI P w K av base (cL P w) 9 t.Pr t.Pu ["reader"] (jB t sV (ud t (vJ t))):=by
 obtain⟨aHy,aAu,aAv⟩:=T.k_MARK_TO_MARK;obtain⟨am5,Td,Te⟩:=T.k_MOVE;refine T.Rt.cY afR fa.cW ?_;rintro bJ A outer s H _ Q E aA ⟨bV,rfl,rd,rfl,ca,bs,rest,g,R,k1,k2⟩;try simp only at k1 k2
 refine⟨_,(aV (cp (i:=1) afR.nd Z (Or.inl Z) (fj (aj 0) T.dU T.jy (j5 T) aA.bf T.j2 .nil bh (aD (gV Z Td Te) (aD (gV Z aAu aAv) aM)))) (aV (cp (i:=2) afR.nd Z (Or.inl Z) (fj (aj 0) T.dU T.jy (j5 T) aA.bf T.j2 .nil bh (aD b3 (aD b3 aM)))) (bj (dK (qC T.Wx (alI T) aA.bf Z T.Ww T.ak7 .nil bh (aD (aj 1) (aD (aj 2) (aD (dG (aAr T) aA.bf Z T.afi T.Rr.aG T.axl .nil bh (aD (aj 0) (aD (aj 1) aM))) aM)))))))),?_⟩;apply dY;intros;refine iK R rfl (j6 R ⟨fun k r v H1 aN dp cC rep=>?_,fun hz H' aG=>k2 (by unfold sV;rw[hz];rfl) H' aG⟩);subst rep;refine iK dp rfl (j6 dp ⟨fun s dm v aB aH cO bZ rep=>?_,fun hz H' aG=>k2 (by unfold sV;rw[aN];simp[hz]) H' (cC.trans aG)⟩);subst rep;have YS:=wh aN;refine⟨_,Z,_,Z,_,Z,_,Z,_,_,Z,rd,k,Z,Z,by omega,by omega,ca,bs,dm,g,cO,fun y d2 ez aJ aP e1 dg rep=>R0 fun p dx np nd=>?_,fun hz H' aG=>k2 (by unfold sV;rw[aN];simp[aH,hz]) H' ((cC.trans bZ).trans aG)⟩;have aG:=(cC.trans bZ).trans dg;have bY:=nZ (C:=t.rq) (fs:=[("kind",nat k),("passes",nat s),("body",ez)]) np nd;exact k1 (k,s,y) d2 _ _ (by unfold sV;rw[aN];simp[aH,aP]) (e1.oW bY) (aG.trans (hp bY _)) ⟨p,dx,ez,rfl,eu.mpr ⟨e1.up aG np,by simp,rz⟩,vu Tc bY (vt Tc cO (cC.trans bZ) rep)⟩
def sE(t:bW):ao->V->Rule Sw28.Pos->Prop:=fun H v r=>ud t (vJ t) H v (qe r.rule,r.skip,r.rule)
theorem HD:fC (sE t):=fun _ _ _ _ s h=>Hx Tc _ _ _ _ s h
theorem aAw{g:Nat}{t r:Sw28.B}{y:Nat×Nat×Sw28.Pos}(h:sV g t=some (y,r)):y.1=qe y.2.2:=by
 unfold sV at h;cases h1:ea 1 4 t with
 |none=>rw[h1]at h;simp at h
 |some k =>
  rw[h1]at h;simp only[d4]at h;cases aC:ea 0 7 k.2 with
  |none=>rw[aC]at h;simp at h
  |some s =>
   rw[aC]at h;simp only[d4]at h;cases bH:qd g k.1 s.2 with
   |none=>rw[bH]at h;simp at h
   |some z =>
    rw[bH]at h;simp only[gd,Option.some.injEq,Prod.mk.injEq]at h;obtain⟨rfl,_⟩:=h;have ak:=wh h1;exact(aqa (by omega) (by omega) bH).symm
theorem aAx(T:Txt K av t):cI P w K av base (cL P w) 10 t.Px t.Py ["reader"] (jB t (fun g=>many 0 64 (Sw28.pos g)) (hg (sE t))):=by
 refine T.Ru.cY afS fa.cW ?_;rintro bJ A outer s H _ Q E aA ⟨bV,rfl,rd,rfl,ca,bs,rest,g,R,k1,k2⟩;try simp only at k1 k2
 refine⟨_,(bj (dK (iH (own:=[("k",1)]) dH (fun _ _ z=>z) Z afS.nd (mg Z T.jz (aD (fj (aj 0) T.dU T.jy (j5 T) aA.bf T.j2 .nil bh (aD b3 (aD b3 aM))) aM)) (gW (by rfl)) (fun _ _ _ _ _=>dj (i:=1) afS.nd Z (Or.inl Z)) (fun _ _ _ _ _=>hx) (fun _ _ _ _ _=>(dG (aAt T) aA.bf Z T.afj T.Rt.aG T.axm .nil bh (aD (aj 0) aM)))))),?_⟩;have hy:∀ r,many 0 64 (Sw28.pos g) r=(ea 0 64 r).bind fun x=>times (Sw28.pos g) x.1 x.2:=fun r=>m64 0 _ r;refine iK R rfl (j6 R ⟨fun n r v H1 aR dp cC rep=>?_,fun hz H' aG=>k2 (by rw[hy,hz];rfl) H' aG⟩);subst rep;have lD:n<=64:=pU (hi:=64) aR;refine⟨_,Z,by omega,by omega,fun D bp=>?_⟩;refine xD (E:=E) (p:=sV g) (Rep:=ud t (vJ t)) (n:=n) (Hx Tc) dp (by omega) bp (fun i aB dm eo cO _ o=>mG cO rfl o) (fun xs dm aB lM cO bZ rl=>?_) fun hz aB bZ=>k2 (by rw[hy,aR];simp[amH,hz]) aB (cC.trans bZ);have aG:=cC.trans bZ;have kinds:∀ y∈xs,y.1=qe y.2.2:=CX (fun _ _ _=>aAw) lM;obtain⟨amJ,vs,e,jn,pp⟩:=vt (fK (Hx Tc)) dp cC rl;refine k1 (xs.map fun x=>(⟨x.2.1,x.2.2⟩:Rule Sw28.Pos)) dm _ aB (by rw[hy,aR];simp[amH,lM]) cO aG ⟨amJ,vs,e,jn,SQ (fun x:Nat×Nat×Sw28.Pos=>(⟨x.2.1,x.2.2⟩:Rule Sw28.Pos)) (fun a b h=>h) (agL (G:=fun v (y:Nat×Nat×Sw28.Pos)=>ud t (vJ t) (bG H [] aB) v (qe y.2.2,y.2.1,y.2.2)) pp fun a b ak h=>by rw[← kinds b ak];exact h)⟩
inductive HF(H:ao)(v:V)(s:Sw28.Span):Prop
 |mk (T):v=.ref T->H T=some (.tup [nat s.first,nat s.last,nat s.sign])->HF  H v s
theorem ug:fC HF:=fun _ _ _ _ s ⟨p,e,h⟩=>⟨p,e,s _ _ h⟩
inductive am6(t:bW)(a b:V)(H:ao)(Q:bx)(E:cM):Prop
 |mk (rd) (Tf:Int):a=.ref rd->b=.int Tf->rx t (fun g=>qg g Tf) HF H rd Q E->am6 t a b H Q E
def aAy(t:bW):eX:=fQ (am6 t)
theorem aAz(T:Txt K av t):cI P w K av base (cL P w) 6 t.Pz t.PB ["reader","behind"] (aAy t):=by
 obtain⟨aHz,aAA,aAB⟩:=T.k_LAST_CHARACTER;refine T.Rv.cY Yd fQ.cW ?_;rintro bJ A outer s H _ Q E aA ⟨bV,a1,rfl,rd,Tf,rfl,rfl,ca,bs,rest,g,R,k1,k2⟩;try simp only at k1 k2
 refine⟨_,(aV (cp (i:=2) Yd.nd Z (Or.inl Z) (gu (aj 0) T.dU T.QK (af5 T) aA.bf T.afE .nil bh)) (aV (cp (i:=3) Yd.nd Z (Or.inl Z) (gu (aj 0) T.dU T.QK (af5 T) aA.bf T.afE .nil bh)) (aV (er (dG (qL T) aA.bf Z T.oV T.nj.aG T.qK .nil bh (aD (nQ q9 (aj 1) (aj 2) (fe _)) aM))) (aV (er (dG (qL T) aA.bf Z T.oV T.nj.aG T.qK .nil bh (aD (nQ yt (aj 2) (aj 3) (fe _)) aM))) (aV (er (dG (qL T) aA.bf Z T.oV T.nj.aG T.qK .nil bh (aD (nQ yt (aj 3) (gV Z aAA aAB) (fe _)) aM))) (aV (cp (i:=4) Yd.nd Z (Or.inl Z) (gu (aj 0) T.dU T.ru (tY T) aA.bf T.tQ .nil bh)) (aV (er (dG (qL T) aA.bf Z T.oV T.nj.aG T.qK .nil bh (aD (nQ q9 (e4 kv (e4 m7 (aj 4) (aj 3)) (aj 2)) (bO (aj 0) Z) (fe _)) aM))) (bj (dK (r9 (aD (aj 2) (aD (aj 3) (aD (aj 4) aM))))))))))))),?_⟩;apply Gg;intros;refine hU R rfl ⟨fun a cH v H1 aW dp cC rep=>?_,fun hz H' aG=>k2 (by unfold qg;rw[hz];rfl) H' aG⟩;subst rep;refine hU dp rfl ⟨fun b dm v aB ak cO bZ rep=>?_,fun hz H' aG=>k2 (by unfold qg;rw[aW];simp[hz]) H' (cC.trans aG)⟩;subst rep;have aG:=cC.trans bZ;refine⟨_,Z,_,Z,_,_,Z,Z,_,Z,fun q=>?_,fun q=>?_⟩
 case refine_2 =>
  have d8:¬ Tf<(a:Int):=v' q;exact k2 (by unfold qg;rw[aW];simp[ak,d8]) aB aG
 have c1:Tf<(a:Int):=h2 q;refine⟨_,Z,_,Z,_,_,Z,Z,_,Z,fun q=>?_,fun q=>?_⟩
 case refine_2 =>
  have d8:¬ a<=b:=by have:=v' q;omega
  exact k2 (by unfold qg;rw[aW];simp[ak,c1,d8]) aB aG
 have c2:a<=b:=by have:=h2 q;omega
 refine⟨_,Z,_,_,Z,Z,_,Z,fun q=>?_,fun q=>?_⟩
 case refine_2 =>
  have d8:¬ b<=1114111:=by have:=v' q;omega
  exact k2 (by unfold qg;rw[aW];simp[ak,c1,c2,d8]) aB aG
 have agX:b<=1114111:=by have:=h2 q;omega
 refine hU cO rfl ⟨fun s d2 v aJ aH e1 dg rep=>?_,fun hz H' aAC=>k2 (by unfold qg;rw[aW];simp[ak,c1,c2,agX,hz]) H' (aG.trans aAC)⟩;subst rep;obtain⟨dx,n,bA,_⟩:=id e1.cX;refine⟨_,Z,_,Z,_,_,Z,Z,_,Z,_,_,Z,Z,?_⟩;refine⟨_,Z,rd,_,dx,_,_,Z,bA,T.dU,T.yQ,Z,_,_,Z,Z,_,Z,fun q=>?_,fun q=>?_⟩
 case refine_2 =>
  have d8:¬ (s:Int)+(b:Int)-(a:Int)<(g:Int):=v' q;exact k2 (by unfold qg;rw[aW];simp[ak,c1,c2,agX,aH,d8]) aJ (aG.trans dg)
 have r4:(s:Int)+(b:Int)-(a:Int)<(g:Int):=h2 q;refine⟨_,Z,_,Z,_,Z,ax',fun p aL=>?_⟩;exact k1 ⟨a,b,s⟩ d2 _ _ (by unfold qg;rw[aW];simp[ak,c1,c2,agX,aH,r4]) (e1.new aL) ((aG.trans dg).jl aL) ⟨p,rfl,eu.mpr ⟨e1.up (aG.trans dg) aL,by simp,a7⟩⟩
def Dg(xs:List Sw28.Span):Int:=match xs.getLast? with
 |none=>-1
 |some s=>(s.last:Int)
theorem am7(xs:List Sw28.Span)(s:Sw28.Span):Dg (xs++[s])=(s.last:Int):=by
 unfold Dg;rw[List.getLast?_concat]
def Tg(g:Nat):Sw28.P (List Sw28.Span):=fun t=>(ea 0 1024 t).bind fun x=>pv g x.1 (-1) x.2
theorem aAD(T:Txt K av t):cI P w K av base (cL P w) 7 t.PJ t.PK ["reader"] (jB t Tg (hg HF)):=by
 refine T.Rw.cY G4 fa.cW ?_;rintro bJ A outer s H _ Q E aA ⟨bV,rfl,rd,rfl,ca,bs,rest,g,R,k1,k2⟩;try simp only at k1 k2
 refine⟨_,(aV (cp (i:=1) G4.nd Z (Or.inl Z) (hb aM)) (aV (cp (i:=2) G4.nd Z (Or.inl Z) (abu aby b3)) (aV (ho (gO dH Z) Z (mg Z T.jz (aD (fj (aj 0) T.dU T.jy (j5 T) aA.bf T.j2 .nil bh (aD b3 (aD b3 aM))) aM)) (dj (i:=3) G4.nd Z (Or.inl Z)) (aV (cp (i:=4) G4.nd Z (Or.inl Z) (dG (aAz T) aA.bf Z T.afl T.Rv.aG T.axo .nil bh (aD (aj 0) (aD (aj 2) aM)))) (aV (er (mz lV pk pn pP (aj 1) (aD (aj 4) aM))) (bj (cp (i:=2) G4.nd Z (Or.inl Z) (eN Bu (aj 4) b3 (fun _ _=>Z))))))) (bj (dK (aj 1)))))),?_⟩;apply hG;intros;refine⟨eY _,fun L c4=>?_⟩;have dp:eb t (upd H L (.lst [])) rd ca bs rest g:=R.new c4;refine⟨_,Z,?_⟩;refine iK dp rfl (j6 dp ⟨fun n r v aB aR cO bZ rep=>?_,fun aR H' aG=>k2 (by unfold Tg;rw[aR];rfl) H' ((a9.iY c4).trans aG)⟩);subst rep;have lD:n<=1024:=pU (hi:=1024) aR;have jR:a9 [rd] H aB:=(a9.iY c4).trans bZ;have iZ:L≠rd:=fun e=>R.dom (e▸c4);have nq:aB L=some (.lst []):=bZ _ _ (by simp[iZ]) a7;refine⟨_,Z,by omega,by omega,?_⟩;refine ta (n:=n) (lo:=0) (fun i σ aJ=>∃ xs d2 vs,(∃ s3 s4,σ=[some (.ref rd),some (.ref L),some (.int (Dg xs)),s3,s4])/\xs.length=i/\(∀ m,pv g (i+m) (-1) r=(pv g m (Dg xs) d2).map fun y=>(xs++y.1,y.2))/\eb t aJ rd ca bs d2 g/\a9 [rd] H aJ/\aJ L=some (.lst vs)/\Paired (HF (bG H [L] aJ)) vs xs)
  ⟨[],r,[],⟨_,_,rfl⟩,rfl,fun m=>by rw[p7];show _=(pv g m (-1) r).map _;cases pv g m (-1) r<;>simp,cO,jR,nq,.nil⟩ (fun i σ aJ hi ⟨xs,d2,vs,⟨s3,s4,e⟩,aF,aL,e1,dg,jC,pp⟩=>?_) fun σ aJ ⟨xs,d2,vs,⟨s3,s4,e⟩,aF,aL,e1,dg,jC,pp⟩=>?_
 ·subst e;refine⟨_,Z,_,Z,_,_,Z,rd,Dg xs,Z,Z,ca,bs,d2,g,e1,fun s jM v bB (aH:qg g (Dg xs) d2=some (s,jM)) gq dF rep=>?_,fun(hz:qg g (Dg xs) d2=none) H' aG=>k2 ?_ H' (dg.trans aG)⟩
  ·obtain⟨ey,rfl,cv⟩:=rep;have pW:bB L=some (.lst vs):=dF _ _ (by simp[iZ]) jC;have tZ:vs.length=i:=by rw[f5 pp,aF]
   refine⟨_,Z,.inl ⟨Z,_,aT.of pW⟩,_,Z,L,vs,_,Z,Z,pW,jQ (by omega),?_⟩;have Hz:=eu.mp cv;have Cz:ey≠L:=hN Hz.2.2 pW (by intro z;cases z);refine⟨_,Z,ey,_,1,_,Z,Z,fM.of (by rw[a6 Cz];exact Hz.2.2),Z,xs++[s],jM,vs++[.ref ey],⟨_,_,by rw[am7];rfl⟩,by simp[aF],fun m=>?_,gq.upd iZ (fun e=>R.sz (e▸c4)),(dg.trans dF).xA c4,a7,?_⟩
   ·have:=aL (m+1)
    rw[show i+1+m=i+(m+1) by omega,this,pv,aH,am7];simp only[d4];cases pv g m (s.last:Int) jM<;>simp
   ·have s1:aQ (bG H [L] aJ) (bG H [L] (upd bB L (.lst (vs++[.ref ey])))):=(jA dF fun b ak=>by simp at ak;exact .inl (ak▸R.dom)).trans (jA (M:=[L]) (a9.pR (by simp)) fun b ak=>.inr ak)
    exact G9 (Paired.d7 pp fun _ _ q=>ug _ _ _ _ s1 q) ⟨ey,rfl,eu.mpr ⟨e1.up dg Hz.1,by simp[Cz],by rw[a6 Cz];exact Hz.2.2⟩⟩
  ·unfold Tg;rw[aR];have:=aL (n-i);rw[show i+(n-i)=n by omega,show n-i=(n-i-1)+1 by omega,pv,hz]at this;simpa using this
 ·subst e;have:=aL 0;rw[Nat.add_zero]at this;refine⟨_,Z,k1 xs d2 _ aJ ?_ e1 dg ⟨L,vs,rfl,eu.mpr ⟨c4,by simp,jC⟩,Paired.d7 pp fun _ _ q=>ug _ _ _ _ (y1 (by simp)) q⟩⟩;unfold Tg;rw[aR];simpa [pv]using this
def zM:Sw28.P Nat:=Sw28.only (fun c=>decide (c<4)) byte
theorem aAE(T:Txt K av t):cI P w K av base (cL P w) 3 t.PL t.PN ["reader"] (jB t (fun _=>zM) k7):=by
 refine T.Rx.cY alq fa.cW ?_;rintro bJ A outer s H _ Q E aA ⟨bV,rfl,rd,rfl,ca,bs,rest,g,R,k1,k2⟩;try simp only at k1 k2
 refine⟨_,(aV (cp (i:=1) alq.nd Z (Or.inl Z) (gu (aj 0) T.dU T.Gs (Yl T) aA.bf T.X6 .nil bh)) (aV (er (dG (qL T) aA.bf Z T.oV T.nj.aG T.qK .nil bh (aD (nQ yt (aj 1) b3 (fe _)) aM))) (bj (dK (aj 1))))),?_⟩;apply dY;intros;refine hU R rfl ⟨fun x r v H1 aq dp cC rep=>?_,fun aR H' aG=>k2 (by unfold zM;rw[gY,aR];rfl) H' aG⟩;subst rep;refine⟨_,Z,_,_,Z,Z,_,Z,fun q=>?_,fun q=>?_⟩
 ·have d8:x<4:=by have:=h2 q;omega
  exact⟨_,Z,k1 x r _ H1 (by unfold zM;rw[gY,aq];simp[d8]) dp cC rfl⟩
 ·have d8:¬ x<4:=by have:=v' q;omega
  exact k2 (by unfold zM;rw[gY,aq];simp[d8]) H1 cC
inductive am8(t:bW)(a b:V)(H:ao)(Q:bx)(E:cM):Prop
 |mk (rd rl vs):a=.ref rd->b=.ref rl->H rl=some (.lst vs)->rx t (fun _=>qj vs.length) hq H rd Q E->am8 t a b H Q E
def aAF(t:bW):eX:=fQ (am8 t)
theorem am9(T:Txt K av t):cI P w K av base (cL P w) 5 t.PT t.PX ["reader","rules"] (aAF t):=by
 refine T.Gy.cY afT fQ.cW ?_;rintro bJ A outer s H _ Q E aA ⟨bV,a1,rfl,rd,rl,vs,rfl,rfl,rI,ca,bs,rest,g,R,k1,k2⟩;try simp only at k1 k2
 refine⟨_,(aV (w2 (i:=2) (own:=[("k",3)]) dH (fun _ _ z=>z) Z afT.nd Z Z (wV Z Z Z Z) (mg Z T.jz (aD (fj (aj 0) T.dU T.jy (j5 T) aA.bf T.j2 .nil bh (aD b3 (aD b3 aM))) aM)) (gW (by rfl)) (fun _ _ _ _ _=>dj (i:=3) afT.nd Z (Or.inl Z)) (fun _ _ _ _ _=>hx) (fun _ _ _ _ _=>(fj (aj 0) T.dU T.jy (j5 T) aA.bf T.j2 .nil bh (aD b3 (aD (e4 kv (hv (afX (K':=K) Z) Z T.hA hM (aD (aj 1) aM)) b3) aM))))) (aV (er (dG (xF T) aA.bf Z T.tO T.rv.aG T.xd .nil bh (aD (aj 2) aM))) (bj (dK (aj 2))))),?_⟩;apply dY;intros;have hy:∀ r,qj vs.length r=((ea 0 64 r).bind fun x=>times (ea 0 ((vs.length:Int)-1)) x.1 x.2).bind fun y=>if rising y.1=true then some y else none:=fun r=>by
  unfold qj;rw[gY,m64 0];rfl
 have am_:rl≠rd:=by
  obtain⟨dx,n,bA,_⟩:=R.cX;exact hN rI bA (by intro z;cases z)
 refine iK R rfl (j6 R ⟨fun n r v H1 aR dp cC rep=>?_,fun hz H' aG=>k2 (by rw[hy,hz];rfl) H' aG⟩);subst rep;have lD:n<=64:=pU (hi:=64) aR;have aAG:=cC _ _ (by simp[am_]) rI;refine⟨_,Z,by omega,by omega,fun D bp=>?_⟩;refine xD (E:=E) (p:=ea 0 ((vs.length:Int)-1)) (Rep:=k7) (n:=n) vq dp (by omega) bp (fun i aB dm eo cO bZ o=>iK cO rfl ⟨_,rfl,rl,vs,rfl,.inl (aT.of (bZ _ _ (by simp[am_]) aAG)),_,_,rfl,rfl,j6 cO o⟩) (fun xs dm aB lM cO bZ YQ=>?_) fun hz aB bZ=>k2 (by rw[hy,aR];simp[hz]) aB (cC.trans bZ);have aF:xs.length=n:=mW _ lM;obtain⟨a,e,aW⟩:=Yk (vt (fK vq) dp cC YQ);cases e;refine⟨_,Z,R5 (hB _ _ aW) (by omega) (fun aA=>⟨_,rfl,k1 xs dm _ aB (by rw[hy,aR];simp[lM,aA]) cO (cC.trans bZ) ⟨D,rfl,aW⟩⟩) fun aA=>k2 (by rw[hy,aR];simp[lM,aA]) aB (cC.trans bZ)⟩
inductive uh(t:bW)(H:ao)(v:V)(x:Nat×aK×aK):Prop
 |mk (p dx jD ez):v=.ref p->H p=some (.ins t.qI dx [("change_numbers",jD),("place_numbers",ez)])->hq H jD x.2.1->hq H ez x.2.2->uh t H v x
theorem Y8:fC (uh t):=fun _ _ _ _ s ⟨p,dx,jD,ez,e,h,h1,aC⟩=>⟨p,dx,jD,ez,e,s _ _ h,hc _ _ _ _ s h1,hc _ _ _ _ s aC⟩
def HJ(t:bW):ao->V->List (Nat×aK×aK)->Prop:=xG (fun x=>bI x.1) (uh t)
theorem Y9:fC (HJ t):=R6 Y8
theorem aAH(prs:List (Key×V))(p:Key×V):mC [] (prs++[p])=putK (mC [] prs) p.1 p.2:=by
 unfold mC;rw[oh];rfl
inductive am'(t:bW)(a b:V)(H:ao)(Q:bx)(E:cM):Prop
 |mk (rd aY dx fs cl pl rK j9):a=.ref rd->b=.ref aY->aY≠rd->H aY=some (.ins t.et dx fs)->fs.lookup (Str.ofString "changes")=some (V.ref cl)->fs.lookup (Str.ofString "places")=some (V.ref pl)->H cl=some (.lst rK)->H pl=some (.lst j9)->rx t (fun _=>Am rK.length j9.length) (HJ t) H rd Q E->am' t a b H Q E
def aAI(t:bW):eX:=fQ (am' t)
theorem aAJ(T:Txt K av t):cI P w K av base (cL P w) 6 t.P0 t.P1 ["reader","font"] (aAI t):=by
 refine T.Ry.cY G5 fQ.cW ?_;rintro bJ A outer s H _ Q E aA ⟨bV,a1,rfl,rd,aY,dN,fs,cl,pl,rK,j9,rfl,rfl,ana,fc,lc,lp,iU,g6,ca,bs,rest,g,R,k1,k2⟩;try simp only at k1 k2
 refine⟨_,(aV (cp (i:=2) G5.nd Z (Or.inl Z) FJ) (aV (cp (i:=3) G5.nd Z (Or.inl Z) (hb aM)) (aV (ho (gO dH Z) Z (mg Z T.jz (aD (fj (aj 0) T.dU T.jy (j5 T) aA.bf T.j2 .nil bh (aD b3 (aD b3 aM))) aM)) (dj (i:=4) G5.nd Z (Or.inl Z)) (aV (cp (i:=5) G5.nd Z (Or.inl Z) (gu (aj 0) T.dU T.QK (af5 T) aA.bf T.afE .nil bh)) (aV (cp (i:=6) G5.nd Z (Or.inl Z) (dG (am9 T) aA.bf Z T.XP T.Gy.aG T.ala .nil bh (aD (aj 0) (aD (bO (aj 1) Z) aM)))) (aV (J_ (k4 aA) (aj 2) (aj 5) (qC T.aeo (ayj T) aA.bf Z T.aen T.awE .nil bh (aD (aj 6) (aD (dG (am9 T) aA.bf Z T.XP T.Gy.aG T.ala .nil bh (aD (aj 0) (aD (bO (aj 1) Z) aM))) aM))) Z) (bj (er (mz lV pk pn pP (aj 3) (aD (aj 5) aM)))))))) (aV (er (dG (xF T) aA.bf Z T.tO T.rv.aG T.xd .nil bh (aD (aj 3) aM))) (bj (dK (aj 2))))))),?_⟩;apply mb;intros;have hy:∀ r,Am rK.length j9.length r=((ea 0 64 r).bind fun x=>times (Sw28.pair Sw28.u32 (Sw28.pair (qj rK.length) (qj j9.length))) x.1 x.2).bind fun y=>if rising (y.1.map fun x=>x.1)=true then some y else none:=fun r=>by
  unfold Am;rw[gY,m64 0];rfl
 have anb:∀ {a:au} {vs:List V},H a=some (.lst vs)->a≠rd:=fun{a vs} h=>by
  obtain⟨dx,n,bA,_⟩:=R.cX;exact hN h bA (by intro z;cases z)
 intro i_ HN;refine⟨eY _,fun jb HS=>?_⟩;have Ti:jb≠i_:=fun e=>by rw[e,a7]at HS;cases HS
 have agY:H jb=none:=by rw[a6 Ti]at HS;exact HS
 have dp:eb t (upd (upd H i_ (.dW [])) jb (.lst [])) rd ca bs rest g:=(R.new HN).new HS;have jR:a9 [rd] H (upd (upd H i_ (.dW [])) jb (.lst [])):=(a9.iY HN).jl HS;have um:(upd (upd H i_ (.dW [])) jb (.lst [])) i_=some (.dW []):=by rw[a6 Ti.symm,a7]
 have vD:(upd (upd H i_ (.dW [])) jb (.lst [])) jb=some (.lst []):=a7;generalize upd (upd H i_ (.dW [])) jb (.lst [])=H1 at *;refine iK dp rfl (j6 dp ⟨fun n r v aB aR cO bZ rep=>?_,fun hz H' aG=>k2 (by rw[hy,hz];rfl) H' (jR.trans aG)⟩);subst rep;have lD:n<=64:=pU (hi:=64) aR;have Y_:i_≠rd:=fun e=>R.dom (e▸HN);have Za:jb≠rd:=fun e=>R.dom (e▸agY);refine⟨_,Z,by omega,by omega,?_⟩;refine ta (n:=n) (lo:=0) (fun i σ aJ=>∃ xs d2 prs,(∃ s4 s5 cU,σ=[some (.ref rd),some (.ref aY),some (.ref i_),some (.ref jb),s4,s5,cU])/\times (Sw28.pair Sw28.u32 (Sw28.pair (qj rK.length) (qj j9.length))) i r=some (xs,d2)/\eb t aJ rd ca bs d2 g/\a9 [rd] H aJ /\
   aJ jb=some (.lst ((xs.map fun x=>x.1).map nat))/\aJ i_=some (.dW (mC [] prs))/\Paired (fun(bC:Key×V) x=>bC.1=bI x.1/\uh t (bG H [i_,jb] aJ) bC.2 x) prs xs)
  ⟨[],r,[],⟨_,_,_,rfl⟩,rfl,cO,jR.trans bZ,bZ _ _ (by simp[Za]) vD,bZ _ _ (by simp[Y_]) um,.nil⟩ (fun i σ aJ hi ⟨xs,d2,prs,⟨s4,s5,cU,e⟩,h1,e1,dg,Zb,HW,pp⟩=>?_) fun σ aJ ⟨xs,d2,prs,⟨s4,s5,cU,e⟩,h1,e1,dg,Zb,HW,pp⟩=>?_
 ·subst e;have aF:xs.length=i:=mW _ h1;have aHA:prs.length=i:=by rw[f5 pp,aF]
  have stop:Sw28.pair Sw28.u32 (Sw28.pair (qj rK.length) (qj j9.length)) d2=none->∀ H',a9 [rd] aJ H'->E (.ref t.jk) none H':=fun hz H' aG=>k2 (by rw[hy,aR];simp[x8 _ h1 hz n hi]) H' (dg.trans aG);refine hU e1 rfl ⟨fun e0 jM v bB b_ gq dF rep=>?_,fun hz H' aG=>stop (n5 hz) H' aG⟩;subst rep;have Zc:=dg.trans dF;refine⟨_,Z,_,Z,aY,_,dN,_,_,Z,Zc _ _ (by simp[ana]) fc,T.gn,T.Ca,lc,_,_,Z,rd,cl,rK,Z,Z,Zc _ _ (by simp[anb iU]) iU,ca,bs,jM,g,gq,fun sx m4 jD b2 Dh ix fW cu=>?_,fun hz H' aG=>stop (kI b_ (n5 hz)) H' (dF.trans aG)⟩;have agZ:=Zc.trans fW;refine⟨_,Z,_,Z,_,Z,aY,_,dN,_,_,Z,agZ _ _ (by simp[ana]) fc,T.gn,T.Gp,lp,_,_,Z,rd,pl,j9,Z,Z,agZ _ _ (by simp[anb g6]) g6,ca,bs,m4,g,ix,fun g_ ag0 ez eH Wf oZ nu rb=>?_,fun hz H' aG=>stop (kI b_ (kI Dh hz)) H' ((dF.trans fW).trans aG)⟩;have ag1:=(dF.trans fW).trans nu;have aAK:=dg.trans ag1;have ag2:∀ {H'},a9 [rd] aJ H'->∀ b∈[i_,jb],H' b≠none:=fun{H'} k b ak=>by
   simp at ak;rcases ak with rfl|rfl
   ·exact j4 (k _ _ (by simp[Y_]) HW)
   ·exact j4 (k _ _ (by simp[Za]) Zb)
  have aAL:hq (bG H [i_,jb] eH) jD sx:=hc _ _ _ _ ((tU (a9.up1 gq Zc) (ag2 dF)).trans (jA nu fun b ak=>by simp at ak;exact .inl (ak▸R.dom))) cu;have aAM:hq (bG H [i_,jb] eH) ez g_:=hc _ _ _ _ (tU (a9.up1 ix agZ) (ag2 (dF.trans fW))) rb;refine af2 fun p eO np nd=>?_;have fx:=nZ (C:=t.qI) (fs:=[("change_numbers",jD),("place_numbers",ez)]) np nd;have zN:(iJ eH p eO t.qI [("change_numbers",jD),("place_numbers",ez)]) p=some (.ins t.qI eO [("change_numbers",jD),("place_numbers",ez)]):=rz;have ap:H p=none:=oZ.up aAK np;have aAN:p∉[i_,jb]:=fun ak=>ag2 ag1 p ak np;have nA:=oZ.oW fx;generalize iJ eH p eO t.qI [("change_numbers",jD),("place_numbers",ez)]=dB at *;have Zd:a9 [rd] aJ dB:=ag1.trans (hp fx _);have aAO:dB i_=some (.dW (mC [] prs)):=Zd _ _ (by simp[Y_]) HW;have anc:dB jb=some (.lst ((xs.map fun x=>x.1).map nat)):=Zd _ _ (by simp[Za]) Zb;refine⟨_,Z,_,Z,i_,_,Z,tA.k (k:=bI e0) aAO ?_,?_⟩
  ·have:=ab_ prs []
   exact jQ (by simp at this;omega)
  refine⟨_,Z,.inl ⟨Z,_,aT.of (by rw[a6 Ti];exact anc)⟩,_,Z,jb,_,_,Z,Z,by rw[a6 Ti];exact anc,by simp;exact jQ (by omega),?_⟩;refine⟨xs++[(e0,sx,g_)],ag0,prs++[(bI e0,.ref p)],⟨_,_,_,Z⟩,?_,(nA.upd Y_ (fun e=>R.sz (e▸HN))).upd Za (fun e=>R.sz (e▸agY)),((dg.trans Zd).xA HN).xA agY,?_,?_,?_⟩
  ·rw[El,h1];simp[oX b_ (oX Dh Wf)]
  ·rw[a7];simp
  ·rw[a6 Ti.symm,a7,aAH]
  ·have ane:aQ (bG H [i_,jb] dB) (bG H [i_,jb] (upd (upd dB i_ (.dW (putK (mC [] prs) (bI e0) (.ref p)))) jb (.lst ((xs.map fun x=>x.1).map nat++[nat e0])))):=jA (M:=[i_,jb]) (fun b o n e=>by
     simp at n;rw[a6 n.2,a6 n.1];exact e) fun b ak=>.inr ak
   have aAP:aQ (bG H [i_,jb] aJ) (bG H [i_,jb] dB):=jA Zd fun b ak=>by simp at ak;exact .inl (ak▸R.dom)
   have sB:aQ (bG H [i_,jb] eH) (bG H [i_,jb] dB):=jA (M:=[]) (hp fx []) (by simp);refine G9 (Paired.d7 pp fun _ _ z=>⟨z.1,Y8 _ _ _ _ (aAP.trans ane) z.2⟩) ⟨rfl,Y8 _ _ _ _ ane ⟨p,eO,jD,ez,rfl,eu.mpr ⟨ap,aAN,zN⟩,hc _ _ _ _ sB aAL,hc _ _ _ _ sB aAM⟩⟩
 ·subst e;have aF:xs.length=n:=mW _ h1;refine⟨_,Z,R5 Zb (by simp;omega) (fun aA=>⟨_,rfl,k1 xs d2 _ aJ (by rw[hy,aR];simp[h1,aA]) e1 dg ⟨i_,prs,rfl,eu.mpr ⟨HN,by simp,?_⟩,Paired.d7 pp fun _ _ z=>⟨z.1,Y8 _ _ _ _ (y1 (by simp)) z.2⟩⟩⟩) fun aA=>k2 (by rw[hy,aR];simp[h1,aA]) aJ dg⟩;rw[HW,aga (key:=fun x:Nat×aK×aK=>x.1) (R:=uh t) (H:=bG H [i_,jb] aJ) pp aA]
def nD(c:Nat):Nat:=if c=3 then 4 else c
theorem aAQ{c:Nat}(h:c<4):wO [V.int 0,V.int 1,V.int 2,V.int 4] (c:Int)=some (nat (nD c)):=by
 match c,h with
 |0,_=>rfl
 |1,_=>rfl
 |2,_=>rfl
 |3,_=>rfl
def j_(p c w bF:V)(vc gs gA:V):List (Str×V):=[("pieces",p),("classes",c),("widths",w),("passing",bF),("changes",vc),("places",gs),("features",gA)]
inductive anf(t:bW)(s p c w:V)(H:ao)(Q:bx)(xC:cM):Prop
 |mk (x dx ca) (cls:aK):s=.ref x->c=.ref ca->H x=some (.ins t.et dx [])->H ca=some (.lst (cls.map nat))->(∀ z∈cls,z<4)->cls.length<=4096->(∀ H' bF vc gs gA,a9 [x] H H'->H' x=some (.ins t.et dx (j_ p c w (.ref bF) vc gs gA))->H' bF=some (.lst (cls.map fun z=>nat (nD z)))->H bF=none->Q .non H')->anf t s p c w H Q xC
def aAR(t:bW):eX:=nk (anf t)
theorem aAS(T:Txt K av t):cI P w K av base (cL P w) 1 t.K5 t.K6 ["self","pieces","classes","widths"] (aAR t):=by
 refine T.WM.cY afI nk.cW ?_;rintro bJ A outer s H _ Q E aA ⟨bV,p,a2,wv,rfl,x,dx,ca,cls,rfl,rfl,aq,hW,dw,ji,k1⟩;refine⟨_,(aV (eV (aj 0) (aj 1) Z) (aV (eV (aj 0) (aj 2) Z) (aV (eV (aj 0) (aj 3) Z) (aV (eV (aj 0) (iH (own:=[("sign_class",4)]) dH (fun _ _ z=>z) Z afI.nd (gG (aj 2)) (gW (by rfl)) (fun _ _ _ _ _=>dj (i:=4) afI.nd Z (Or.inl Z)) (fun _ _ _ _ _=>hx) (fun _ _ _ _ _=>(eN (Cv (K':=K) Z) (gV (v:=V.ref t.Gj) Z T.k_PASSING Z) (aj 4) (fun _ _=>Z)))) Z) (aV (eV (aj 0) (hb aM) Z) (aV (eV (aj 0) (hb aM) Z) (bj (eV (aj 0) FJ Z)))))))),?_⟩;apply uZ;intros;have aAT:ca≠x:=hN hW aq (by intro z;cases z);refine⟨_,Z,_,Z,x,_,dx,_,Z,aq,T.gn,T.B_,by show 0<1000;decide,?_⟩;refine⟨_,Z,_,Z,x,_,dx,_,Z,a7,T.gn,T.QC,by show 1<1000;decide,?_⟩;refine⟨_,Z,_,Z,x,_,dx,_,Z,a7,T.gn,T.WL,by show 2<1000;decide,?_⟩;rw[ig,ig];have mY:(upd H x (.ins t.et dx (cB "widths" wv (cB "classes" (.ref ca) (cB "pieces" p []))))) x=some (.ins t.et dx [("pieces",p),("classes",.ref ca),("widths",wv)]):=a7;have cC:a9 [x] H (upd H x (.ins t.et dx (cB "widths" wv (cB "classes" (.ref ca) (cB "pieces" p []))))):=a9.pR (by simp);have wz:∀ b,b≠x->(upd H x (.ins t.et dx (cB "widths" wv (cB "classes" (.ref ca) (cB "pieces" p []))))) b=H b:=fun b h=>a6 h;generalize upd H x (.ins t.et dx (cB "widths" wv (cB "classes" (.ref ca) (cB "pieces" p []))))=H1 at *;have Ze:H1 ca=some (.lst (cls.map nat)):=by rw[wz _ aAT];exact hW
 refine⟨_,Z,ca,Z,⟨_,aT.of Ze⟩,fun D bp=>?_⟩;refine n3 (cls.map fun z=>nat (nD z)) (by simp) (aT.of Ze) (by simp;omega) bp (fun i v y H' eo aZ aP aH q=>?_) ?_
 ·rw[ei]at aZ aP;cases e:cls[i]? with
  |none=>rw[e]at aZ;cases aZ
  |some z =>
   rw[e]at aZ aP;cases aZ;cases aP;exact⟨_,Z,t.Gj,_,_,_,Z,Z,T.afA _,aAQ (dw z (f9 e)),q⟩
 have zO:D≠x:=(bQ mY bp).symm;have aAU:H D=none:=by rw[← wz D zO];exact bp
 have bZ:a9 [x] H (upd H1 D (.lst (cls.map fun z=>nat (nD z)))):=cC.jl bp;have Ep:(upd H1 D (.lst (cls.map fun z=>nat (nD z)))) x=some (.ins t.et dx [("pieces",p),("classes",.ref ca),("widths",wv)]):=by rw[a6 zO.symm];exact mY
 have jn:(upd H1 D (.lst (cls.map fun z=>nat (nD z)))) D=some (.lst (cls.map fun z=>nat (nD z))):=a7;generalize upd H1 D (.lst (cls.map fun z=>nat (nD z)))=aB at *;refine⟨_,Z,x,_,dx,_,Z,Ep,T.gn,T.QD,by show 3<1000;decide,?_⟩;have dg:a9 [x] H (upd aB x (.ins t.et dx (cB "passing" (.ref D) [("pieces",p),("classes",.ref ca),("widths",wv)]))):=bZ.qM (by simp);have xO:(upd aB x (.ins t.et dx (cB "passing" (.ref D) [("pieces",p),("classes",.ref ca),("widths",wv)]))) x=some (.ins t.et dx [("pieces",p),("classes",.ref ca),("widths",wv),("passing",.ref D)]):=a7;have o1:(upd aB x (.ins t.et dx (cB "passing" (.ref D) [("pieces",p),("classes",.ref ca),("widths",wv)]))) D=some (.lst (cls.map fun z=>nat (nD z))):=by rw[a6 zO];exact jn
 generalize upd aB x (.ins t.et dx (cB "passing" (.ref D) [("pieces",p),("classes",.ref ca),("widths",wv)]))=aJ at *;refine⟨eY _,fun o2 ag3=>?_⟩;have aAV:x≠o2:=bQ xO ag3;refine⟨_,Z,x,_,dx,_,Z,by rw[a6 aAV];exact xO,T.gn,T.Ca,by show 4<1000;decide,?_⟩;have dF:a9 [x] H (upd (upd aJ o2 (.lst [])) x (.ins t.et dx (cB "changes" (.ref o2) [("pieces",p),("classes",.ref ca),("widths",wv),("passing",.ref D)]))):=(dg.jl ag3).qM (by simp);have zp:(upd (upd aJ o2 (.lst [])) x (.ins t.et dx (cB "changes" (.ref o2) [("pieces",p),("classes",.ref ca),("widths",wv),("passing",.ref D)]))) x=some (.ins t.et dx [("pieces",p),("classes",.ref ca),("widths",wv),("passing",.ref D),("changes",.ref o2)]):=a7;have ang:(upd (upd aJ o2 (.lst [])) x (.ins t.et dx (cB "changes" (.ref o2) [("pieces",p),("classes",.ref ca),("widths",wv),("passing",.ref D)]))) D=some (.lst (cls.map fun z=>nat (nD z))):=by rw[a6 zO,a6 (bQ o1 ag3)];exact o1
 generalize upd (upd aJ o2 (.lst [])) x (.ins t.et dx (cB "changes" (.ref o2) [("pieces",p),("classes",.ref ca),("widths",wv),("passing",.ref D)]))=bB at *;refine⟨eY _,fun uo ag4=>?_⟩;have agx:x≠uo:=bQ zp ag4;refine⟨_,Z,x,_,dx,_,Z,by rw[a6 agx];exact zp,T.gn,T.Gp,by show 5<1000;decide,?_⟩;have fW:a9 [x] H (upd (upd bB uo (.lst [])) x (.ins t.et dx (cB "places" (.ref uo) [("pieces",p),("classes",.ref ca),("widths",wv),("passing",.ref D),("changes",.ref o2)]))):=(dF.jl ag4).qM (by simp);have zP:(upd (upd bB uo (.lst [])) x (.ins t.et dx (cB "places" (.ref uo) [("pieces",p),("classes",.ref ca),("widths",wv),("passing",.ref D),("changes",.ref o2)]))) x=some (.ins t.et dx [("pieces",p),("classes",.ref ca),("widths",wv),("passing",.ref D),("changes",.ref o2),("places",.ref uo)]):=a7;have xJ:(upd (upd bB uo (.lst [])) x (.ins t.et dx (cB "places" (.ref uo) [("pieces",p),("classes",.ref ca),("widths",wv),("passing",.ref D),("changes",.ref o2)]))) D=some (.lst (cls.map fun z=>nat (nD z))):=by rw[a6 zO,a6 (bQ ang ag4)];exact ang
 generalize upd (upd bB uo (.lst [])) x (.ins t.et dx (cB "places" (.ref uo) [("pieces",p),("classes",.ref ca),("widths",wv),("passing",.ref D),("changes",.ref o2)]))=b2 at *;intro f0 yL;have aAW:x≠f0:=bQ zP yL;refine⟨_,Z,x,_,dx,_,Z,by rw[a6 aAW];exact zP,T.gn,T.Cd,by show 6<1000;decide,?_⟩;refine k1 _ D (.ref o2) (.ref uo) (.ref f0) ((fW.jl yL).qM (by simp)) a7 ?_ aAU;rw[a6 zO,a6 (bQ xJ yL)];exact xJ
inductive lO(t:bW)(G:ao)(aY:au)(f:Font) :Prop
 |mk (dx p c w bF vc gs gA):G aY=some (.ins t.et dx (j_ p (.ref c) (.ref w) (.ref bF) vc gs gA))->hg HF G p f.map->G c=some (.lst (f.cls.map nat))->G w=some (.lst (f.advance.map nat))->G bF=some (.lst (f.cls.map fun z=>nat (nD z)))->hg (uf t) G vc f.subs->hg (sE t) G gs f.poss->HJ t G gA f.features->lO t G aY f
theorem mJ{G zu:ao}{aY:au}{f:Font}(s:aQ G zu)(h:lO t G aY f):lO t zu aY f:=by
 obtain⟨dx,p,c,w,bF,vc,gs,gA,h1,aC,bH,dw,jr,tD,Di,rM⟩:=h;exact⟨dx,p,c,w,bF,vc,gs,gA,s _ _ h1,fK ug _ _ _ _ s aC,s _ _ bH,s _ _ dw,s _ _ jr,fK zE _ _ _ _ s tD,fK HD _ _ _ _ s Di,Y9 _ _ _ _ s rM⟩
inductive anh(t:bW)(a:V)(H:ao)(Q:bx)(E:cM):Prop
 |mk (ca bs):a=.ref ca->H ca=some (.lst (bs.map nat))->(∀ b∈bs,b<256)->bs.length<=65536->(∀ f aY H',ql bs=some f->aQ H H'->lO t (bG H [] H') aY f->Q (.ref aY) H')->(ql bs=none->∀ H',aQ H H'->E (.ref t.jk) none H')->anh t a H Q E
def aAX(t:bW):eX:=fa (anh t)
theorem aAY{g:Nat}{r:Sw28.B}{y:aK×Sw28.B}(h:times zM g r=some y):∀ z∈y.1,z<4:=CX (iM:=fun z=>z<4) (fun t x r h=>by
 unfold zM at h;rw[gY]at h;cases h1:byte t with
 |none=>rw[h1]at h;cases h
 |some w =>
  rw[h1]at h;simp only[d4]at h;split at h
  ·rename_i hd;cases h;simpa using hd
  ·cases h) h
theorem aAZ(g:Nat)(r:Sw28.B):Jc g r=(Tg g r).bind fun m=>(times zM g m.2).bind fun c=>(times u16 g c.2).bind fun w=>(Sw28.only Sw28.actsRight (many 0 64 (Sw28.sub g)) w.2).bind fun s=>(many 0 64 (Sw28.pos g) s.2).bind fun p =>
  (Am s.1.length p.1.length p.2).map fun f=>(⟨g,m.1,c.1,w.1,s.1,p.1,f.1⟩,f.2):=rfl
theorem aA0{bs:Sw28.B}(h:bs.take 2≠[73,112]):ql bs=none:=by
 unfold ql Jd;match bs,h with
 | [],_=>rfl
 | [a],_ =>
  simp only[byte,d4];split<;>rfl
 |a::b::bs,h =>
  simp only[byte,d4];by_cases aW:a=73
  ·rw[bL aW];by_cases ak:b=112
   ·subst aW ak;exact absurd rfl h
   ·rw[bw ak];rfl
  ·rw[bw aW];rfl
theorem aA1{bs:Sw28.B}(h:bs.take 2=[73,112]):ql bs=((ea 1 4096 (bs.drop 2)).bind fun g=>Jc g.1 g.2).bind fun x=>if x.2=[]then some x.1 else none:=by
 unfold ql Jd;match bs,h with
 | [],h=>simp at h
 | [a],h=>simp at h
 |a::b::bs,h =>
  simp at h;obtain⟨rfl,rfl⟩:=h;simp[byte]
theorem aA2(T:Txt K av t):cI P w K av base (cL P w) 14 t.P4 t.P_ ["content"] (aAX t):=by
 refine T.Rz.cY xv fa.cW ?_;rintro bJ A outer s H _ Q E aA ⟨bV,rfl,ca,bs,rfl,hW,cZ,ji,k1,k2⟩;try simp only at k1 k2
 refine⟨_,(aV (cp (i:=1) xv.nd Z (Or.inr Z) (qC T.aeA (ayo T) aA.bf Z T.aez T.awK .nil bh (aD (aj 0) aM))) (aV (ho (gO dH Z) Z (asj (gV (v:=V.ref t.Gk) Z T.k_FIRST_BYTES Z)) (dj (i:=2) xv.nd Z (Or.inl Z)) (bj (er (dG (qL T) aA.bf Z T.oV T.nj.aG T.qK .nil bh (aD (nQ jN (gu (aj 1) T.dU T.Gs (Yl T) aA.bf T.X6 .nil bh) (aj 2) (fe _)) aM))))) (aV (eV (aj 1) (fj (aj 1) T.dU T.jy (j5 T) aA.bf T.j2 .nil bh (aD b3 (aD b3 aM))) Z) (aV (cp (i:=3) xv.nd Z (Or.inl Z) (dG (aAD T) aA.bf Z T.afm T.Rw.aG T.axp .nil bh (aD (aj 1) aM))) (aV (w2 (i:=4) (own:=[("k",7)]) dH (fun _ _ z=>z) Z xv.nd Z Z (wV Z Z Z Z) (mg Z T.jz (aD (bO (aj 1) Z) aM)) (gW (by rfl)) (fun _ _ _ _ _=>dj (i:=7) xv.nd Z (Or.inl Z)) (fun _ _ _ _ _=>hx) (fun _ _ _ _ _=>(dG (aAE T) aA.bf Z T.afn T.Rx.aG T.axq .nil bh (aD (aj 1) aM)))) (aV (w2 (i:=5) (own:=[("k",7)]) dH (fun _ _ z=>z) Z xv.nd Z Z (wV Z Z Z Z) (mg Z T.jz (aD (bO (aj 1) Z) aM)) (gW (by rfl)) (fun _ _ _ _ _=>dj (i:=7) xv.nd Z (Or.inl Z)) (fun _ _ _ _ _=>hx) (fun _ _ _ _ _=>(gu (aj 1) T.dU T.w4 (Cx T) aA.bf T.Cm .nil bh))) (aV (cp (i:=6) xv.nd Z (Or.inl Z) (qC T.aer (aAS T) aA.bf Z T.aep T.awF .nil bh (aD (aj 3) (aD (aj 4) (aD (aj 5) aM))))) (aV (eV (aj 6) (dG (azZ T) aA.bf Z T.ae7 T.Rd.aG T.aw' .nil bh (aD (aj 1) aM)) Z) (aV (eV (aj 6) (dG (aAx T) aA.bf Z T.afk T.Ru.aG T.axn .nil bh (aD (aj 1) aM)) Z) (aV (eV (aj 6) (dG (aAJ T) aA.bf Z T.afo T.Ry.aG T.axr .nil bh (aD (aj 1) (aD (aj 6) aM))) Z) (aV (er (gu (aj 1) T.dU T.aeB (ayr T) aA.bf T.awL .nil bh)) (bj (dK (aj 6)))))))))))))),?_⟩;apply ayc;intros;refine⟨_,Z,?_⟩;intro x dx cT nd ne;refine⟨_,_,Z,x,dx,ca,Z,Z,a7,Z,?_⟩;rw[ig];have s1:aQ H (iJ H x dx t.iI (tV ca 0 0)):=nZ cT nd;have dp:eb t (iJ H x dx t.iI (tV ca 0 0)) x ca bs bs 0:=⟨⟨dx,0,rz,rfl,eY _⟩,s1 _ _ hW,cZ,ji⟩;show c3 _ _ _ _ (iJ H x dx t.iI (tV ca 0 0));generalize iJ H x dx t.iI (tV ca 0 0)=H1 at *;have fail:∀ {H'},a9 [x] H1 H'->ql bs=none->E (.ref t.jk) none H':=fun{H'} k hz=>k2 hz H' fun b o e=>k b o (by simp only[g4];exact bQ e cT) (s1 _ _ e);refine⟨t.Gk,Z,⟨_,T.X3 _⟩,?_⟩;refine asw (xs:=[V.int 73,V.int 112]) (fun i σ aB=>(∃ s2,σ=[some (.ref ca),some (.ref x),s2,none,none,none,none,none])/\eb t aB x ca bs (bs.drop i) 0/\a9 [x] H1 aB/\bs.take i=[73,112].take i/\i<=bs.length) ⟨⟨_,rfl⟩,dp,a9.refl _ _,rfl,eY _⟩ (fun i σ aB _ _=>T.X3 _) (fun i v σ aB aZ ⟨⟨s2,e⟩,cO,bZ,b_,hi⟩=>?_) fun σ aB ⟨⟨s2,e⟩,cO,bZ,b_,hi⟩=>?_
 ·subst e;obtain⟨q,a0,ag5⟩:∃ q:Nat,[73,112][i]?=some q/\v=nat q:=by
   match i,aZ with
   |0,aZ=>exact⟨73,Z,(Option.some.inj aZ).symm⟩
   |1,aZ=>exact⟨112,Z,(Option.some.inj aZ).symm⟩
  have uq:i<2:=by
   have:=(eE.mp aZ).1;simpa using this
  subst ag5;have bad:bs[i]?≠some q->ql bs=none:=fun hz=>aA0 fun hw=>hz (by
   have:=congrArg (fun l:aK=>l[i]?) hw;rw[x4 uq]at this;rw[this];exact a0)
  refine hU cO rfl ⟨fun b d2 v aJ ak e1 dg rep=>?_,fun hz H' aG=>fail (bZ.trans aG) (bad fun hw=>?_)⟩
  ·subst rep;have vr:bs[i]?=some b/\d2=bs.drop (i+1):=by
    by_cases hlen:i<bs.length
    ·rw[af3 hlen]at ak;simp only[Option.some.injEq,Prod.mk.injEq]at ak;exact⟨by rw[dR hlen,ak.1],ak.2.symm⟩
    ·rw[alJ (by omega)]at ak;cases ak
   refine⟨_,Z,Z,_,Z,fun HX=>?_,fun HX=>?_⟩
   ·have e:b=q:=by have:=j8 HX;omega
    subst e;refine⟨⟨_,Z⟩,vr.2▸e1,bZ.trans dg,?_,(eE.mp vr.1).1⟩;rw[take_snoc vr.1,take_snoc a0,b_]
   ·have e:b≠q:=fun e=>by
     have:=v' HX;exact this (by rw[e])
    exact fail (bZ.trans dg) (bad fun hw=>e (by rw[vr.1]at hw;exact Option.some.inj hw))
  ·have hlen:=(eE.mp hw).1
   rw[af3 hlen]at hz;cases hz
 subst e;have ps:=aA1 (bs:=bs) b_;have cO:eb t aB x ca bs (bs.drop 2) 0:=cO;refine iK cO rfl (j6 cO ⟨fun g d2 v aJ b5 e1 dg rep=>?_,fun hz H' aG=>fail (bZ.trans aG) (by rw[ps,hz];rfl)⟩);subst rep;have Zf:g<=4096:=pU (hi:=4096) b5;obtain⟨fX,zz,bA,aA3,ag6⟩:=id e1.cX;refine⟨_,Z,x,_,fX,_,Z,bA,T.dU,T.yQ,by show 3<1000;decide,?_⟩;have gq:eb t (upd aJ x (.ins t.iI fX (cB "sign_count" (nat g) (tV ca (zz:Nat) (0:Nat))))) x ca bs d2 g:=⟨⟨fX,zz,a7,aA3,ag6⟩,by rw[a6 e1.ne];exact e1.sx,cZ,ji⟩;have dF:a9 [x] H1 (upd aJ x (.ins t.iI fX (cB "sign_count" (nat g) (tV ca (zz:Nat) (0:Nat))))):=(bZ.trans dg).qM (by simp);generalize upd aJ x (.ins t.iI fX (cB "sign_count" (nat g) (tV ca (zz:Nat) (0:Nat))))=bB at *;have ps:ql bs=(Jc g d2).bind fun x=>if x.2=[]then some x.1 else none:=by rw[ps,b5];rfl
 rw[aAZ]at ps;clear cO e1 bZ dg bA b5;have G_:∀ {H'},a9 [x] H1 H'->H' x≠none->∀ b,H b≠none->H' b≠none:=fun{H'} k aq b ak=>by
  cases z:H b with
  |none=>exact absurd z ak
  |some o=>exact j4 (k b o (by simp only[g4];exact bQ z cT) (s1 _ _ z))
 have up:∀ {α:Type} {Rep:ao->V->α->Prop} {H' lN:ao} {v:V} {y:α},fC Rep->a9 [x] H1 H'->H' x≠none->Rep (bG H' [] lN) v y->Rep (bG H [x] lN) v y:=fun m k aq rep=>m _ _ _ _ (tU (G_ k aq) (fun b ak=>by simp at ak;rw[ak];exact aq)) rep;have on:∀ {α:Type} {Rep:ao->V->α->Prop} {H' lN:ao} {v:V} {y:α},fC Rep->a9 [x] H' lN->Rep (bG H [x] H') v y->Rep (bG H [x] lN) v y:=fun m k rep=>m _ _ _ _ (jA k fun b ak=>.inr ak) rep;refine mG gq rfl ⟨fun m m4 gs b2 hm ix fW fl=>?_,fun hz H' aG=>fail (dF.trans aG) (by rw[ps,hz];rfl)⟩;have ani:=up (fK ug) dF gq.dom fl;have ag7:=dF.trans fW;obtain⟨fX,zz,bA,_⟩:=id ix.cX;refine⟨_,Z,x,_,fX,_,_,Z,bA,T.dU,T.yQ,Z,_,Z,by omega,by omega,fun kc aA4=>?_⟩;refine xD (E:=E) (p:=zM) (Rep:=k7) (n:=g) vq ix (by omega) aA4 (fun i eH ag0 eo oZ _ o=>mG oZ rfl o) (fun cs ag0 eH xP oZ nu rc=>?_) fun hz eH nu=>fail (ag7.trans nu) (by rw[ps,hm];simp[hz]);have anj:=up hc ag7 ix.dom (Yk rc);have ank:=on (fK ug) nu ani;have ag8:=ag7.trans nu;clear ani bA;obtain⟨fX,zz,bA,_⟩:=id oZ.cX;refine⟨_,Z,x,_,fX,_,_,Z,bA,T.dU,T.yQ,Z,_,Z,by omega,by omega,fun kO aA5=>?_⟩;refine xD (E:=E) (p:=u16) (Rep:=k7) (n:=g) vq oZ (by omega) aA5 (fun i dB ys eo nA _ o=>hU nA rfl o) (fun ws ys dB jE nA nC nT=>?_) fun hz dB nC=>fail (ag8.trans nC) (by rw[ps,hm];simp[xP,hz]);have aA6:=up hc ag8 oZ.dom (Yk nT);have aA7:=on hc nC anj;have anl:=on (fK ug) nC ank;have Zg:=ag8.trans nC;clear ank anj bA;have iU:cs.length=g:=mW _ xP;refine⟨_,Z,_,Z,_,Z,?_⟩;intro aY dN kl Zh Tj;obtain⟨c',e,ag9⟩:=aA7;cases e;obtain⟨w',e,anm⟩:=aA6;cases e;have bY:=nZ (C:=t.et) (fs:=[]) kl Zh;refine⟨_,_,_,_,Z,aY,dN,kc,cs,Z,Z,a7,bY _ _ (hB _ _ ag9),aAY xP,by omega,fun mD bF vc rN gA Hu Zi Zj Zk=>⟨rfl,?_⟩⟩;have rJ:aQ dB mD:=fun b o e=>Hu b o (by simp only[g4];exact bQ e kl) (bY _ _ e);have ag':H aY=none:=by
  cases z:H aY with
  |none=>rfl
  |some o=>exact absurd kl (G_ Zg nA.dom aY (by rw[z];simp))
 have zQ:aY≠x:=fun e=>nA.dom (e▸kl);have aha:H1 aY=none:=Zg.free (by simp[zQ]) kl;have ahb:aY≠ca:=fun e=>by rw[e]at ag';rw[ag']at hW;cases hW
 have Zm:∀ {b o},bG H [x] dB b=some o->bG H [x,aY] mD b=some o:=fun{b o} h=>by
  obtain⟨gk,eG,nf⟩:=eu.mp h;refine eu.mpr ⟨gk,?_,rJ _ _ nf⟩;simp at eG ⊢;exact⟨eG,bQ nf kl⟩
 have ano:aQ (bG H [x] dB) (bG H [x,aY] mD):=fun b o h=>Zm h;have anp:=fK ug _ _ _ _ ano anl;have anq:=Zm ag9;have Kr:=Zm anm;have anr:bF≠aY:=by
  rintro rfl;rw[Zi]at Zj;cases Zj
 have ahc:bF≠x:=fun e=>by
  rw[e]at Zk;exact(aQ.dom bY x nA.dom) Zk
 have aA8:H bF=none:=by
  cases z:H bF with
  |none=>rfl
  |some o=>exact absurd Zk (aQ.dom bY bF (G_ Zg nA.dom bF (by rw[z];simp)))
 have ans:bG H [x,aY] mD bF=some (.lst (cs.map fun z=>nat (nD z))):=eu.mpr ⟨aA8,by simp[anr,ahc],Zj⟩;have SJ:=nA.oW rJ;have Zn:a9 [x] H1 mD:=Zg.trans (hp rJ _);clear anl ag9 anm Zm ano Zj Zk bY Hu rJ kl Zh Tj;have ahd:∀ {α:Type} {Rep:ao->V->α->Prop} {H' lN:ao} {v:V} {y:α},fC Rep->a9 [x] H1 H'->H' x≠none->H' aY≠none->Rep (bG H' [] lN) v y->Rep (bG H [x,aY] lN) v y:=fun m k aq hf rep=>m _ _ _ _ (tU (G_ k aq) (fun b ak=>by simp at ak;rcases ak with z|z;exact z▸aq;exact z▸hf)) rep;have go:∀ {H' lN:ao},a9 [x] H' lN->∀ o,aQ (bG H [x,aY] H') (bG H [x,aY] (upd lN aY o)):=fun{H' lN} k o=>y0 fun b u gk eG nf=>⟨gk,eG,by simp at eG;rw[a6 eG.2];exact k _ _ (by simp[eG.1]) nf⟩;refine mG SJ rfl ⟨fun fV YM jU iV xQ zy n8 rs=>?_,fun hz H' aG=>fail (Zn.trans aG) (by rw[ps,hm];simp[xP,jE,hz])⟩;have ant:=n8 _ _ (by simp[zQ]) Zi;refine⟨_,Z,aY,_,dN,_,Z,ant,T.gn,T.Ca,by show 7<1000;decide,?_⟩;have Tn:=go n8 (.ins t.et dN (cB "changes" jU (j_ gs (.ref kc) (.ref kO) (.ref bF) vc rN gA)));have ahe:(upd iV aY (.ins t.et dN (cB "changes" jU (j_ gs (.ref kc) (.ref kO) (.ref bF) vc rN gA)))) aY=some (.ins t.et dN (j_ gs (.ref kc) (.ref kO) (.ref bF) jU rN gA)):=a7;have RA:eb t (upd iV aY (.ins t.et dN (cB "changes" jU (j_ gs (.ref kc) (.ref kO) (.ref bF) vc rN gA)))) x ca bs YM g:=zy.upd zQ ahb;have jR:a9 [x] H1 (upd iV aY (.ins t.et dN (cB "changes" jU (j_ gs (.ref kc) (.ref kO) (.ref bF) vc rN gA)))):=(Zn.trans n8).xA aha;have anu:hg (uf t) (bG H [x,aY] iV) jU fV:=ahd (fK zE) Zn SJ.dom (j4 Zi) rs;have anv:hg (uf t) (bG H [x,aY] (upd iV aY (.ins t.et dN (cB "changes" jU (j_ gs (.ref kc) (.ref kO) (.ref bF) vc rN gA))))) jU fV:=fK zE _ _ _ _ (go (a9.refl _ _) _) anu;have anw:=fK ug _ _ _ _ Tn anp;have anx:=Tn _ _ anq;have anz:=Tn _ _ Kr;have anA:=Tn _ _ ans;generalize upd iV aY (.ins t.et dN (cB "changes" jU (j_ gs (.ref kc) (.ref kO) (.ref bF) vc rN gA)))=HA at *;clear anp anq Kr ans Tn anu rs ant Zi SJ zy n8 Zn;refine mG RA rfl ⟨fun pb ahf n_ HY Dj zB vA rs=>?_,fun hz H' aG=>fail (jR.trans aG) (by rw[ps,hm];simp[xP,jE,xQ,hz])⟩;have anB:=vA _ _ (by simp[zQ]) ahe;refine⟨_,Z,aY,_,dN,_,Z,anB,T.gn,T.Gp,by show 7<1000;decide,?_⟩;have H2:=go vA (.ins t.et dN (cB "places" n_ (j_ gs (.ref kc) (.ref kO) (.ref bF) jU rN gA)));have ahg:(upd HY aY (.ins t.et dN (cB "places" n_ (j_ gs (.ref kc) (.ref kO) (.ref bF) jU rN gA)))) aY=some (.ins t.et dN (j_ gs (.ref kc) (.ref kO) (.ref bF) jU n_ gA)):=a7;have anC:eb t (upd HY aY (.ins t.et dN (cB "places" n_ (j_ gs (.ref kc) (.ref kO) (.ref bF) jU rN gA)))) x ca bs ahf g:=zB.upd zQ ahb;have ahh:a9 [x] H1 (upd HY aY (.ins t.et dN (cB "places" n_ (j_ gs (.ref kc) (.ref kO) (.ref bF) jU rN gA)))):=(jR.trans vA).xA aha;have anD:hg (sE t) (bG H [x,aY] HY) n_ pb:=ahd (fK HD) jR RA.dom (j4 ahe) rs;have anE:hg (sE t) (bG H [x,aY] (upd HY aY (.ins t.et dN (cB "places" n_ (j_ gs (.ref kc) (.ref kO) (.ref bF) jU rN gA))))) n_ pb:=fK HD _ _ _ _ (go (a9.refl _ _) _) anD;have aA9:=fK ug _ _ _ _ H2 anw;have aA_:=H2 _ _ anx;have aA':=H2 _ _ anz;have aBa:=H2 _ _ anA;have anF:=fK zE _ _ _ _ H2 anv;generalize upd HY aY (.ins t.et dN (cB "places" n_ (j_ gs (.ref kc) (.ref kO) (.ref bF) jU rN gA)))=HC at *;clear anw anx anz anA H2 anD rs anv anB ahe RA zB vA jR;obtain⟨cl,rK,aBb,aBd,ahi⟩:=id anF;obtain⟨pl,j9,Tp,aBe,aBf⟩:=id anE;have Dk:rK.length=fV.length:=f5 ahi;have zR:j9.length=pb.length:=f5 aBf;refine⟨_,Z,_,Z,_,_,Z,x,aY,dN,_,cl,pl,rK,j9,Z,Z,zQ,ahg,by rw[← aBb];rfl,by rw[← Tp];rfl,hB _ _ aBd,hB _ _ aBe,ca,bs,ahf,g,anC,fun Tq Zo vK H3 aBg aBh ahj rf=>?_,fun hz H' aG=>fail (ahh.trans aG) (by rw[ps,hm];rw[Dk,zR]at hz;simp[xP,jE,xQ,Dj,hz])⟩;have aBi:Am fV.length pb.length ahf=some (Tq,Zo):=by rw[← Dk,← zR];exact aBg
 have aBj:=ahj _ _ (by simp[zQ]) ahg;refine⟨_,Z,aY,_,dN,_,Z,aBj,T.gn,T.Cd,by show 7<1000;decide,?_⟩;have zm:=go ahj (.ins t.et dN (cB "features" vK (j_ gs (.ref kc) (.ref kO) (.ref bF) jU n_ gA)));have aBk:(upd H3 aY (.ins t.et dN (cB "features" vK (j_ gs (.ref kc) (.ref kO) (.ref bF) jU n_ gA)))) aY=some (.ins t.et dN (j_ gs (.ref kc) (.ref kO) (.ref bF) jU n_ vK)):=a7;have RE:eb t (upd H3 aY (.ins t.et dN (cB "features" vK (j_ gs (.ref kc) (.ref kO) (.ref bF) jU n_ gA)))) x ca bs Zo g:=aBh.upd zQ ahb;have anG:a9 [x] H1 (upd H3 aY (.ins t.et dN (cB "features" vK (j_ gs (.ref kc) (.ref kO) (.ref bF) jU n_ gA)))):=(ahh.trans ahj).xA aha;have aBl:HJ t (bG H [x,aY] H3) vK Tq:=ahd Y9 ahh anC.dom (j4 ahg) rf;have aBm:HJ t (bG H [x,aY] (upd H3 aY (.ins t.et dN (cB "features" vK (j_ gs (.ref kc) (.ref kO) (.ref bF) jU n_ gA))))) vK Tq:=Y9 _ _ _ _ (go (a9.refl _ _) _) aBl;have aBn:=fK ug _ _ _ _ zm aA9;have aBo:=zm _ _ aA_;have aBp:=zm _ _ aA';have aBq:=zm _ _ aBa;have aBr:=fK zE _ _ _ _ zm anF;have aBs:=fK HD _ _ _ _ zm anE;generalize upd H3 aY (.ins t.et dN (cB "features" vK (j_ gs (.ref kc) (.ref kO) (.ref bF) jU n_ gA)))=HE at *;have anH:ql bs=if Zo=[]then some ⟨g,m,cs,ws,fV,pb,Tq⟩else none:=by rw[ps,hm];simp[xP,jE,xQ,Dj,aBi]
 refine iK RE rfl ⟨_,rfl,x,rfl,ca,bs,Zo,g,RE,fun hz=>?_,fun hz=>fail anG (by rw[anH,bw hz])⟩;refine⟨_,Z,?_⟩;have aBt:aQ H HE:=fun b o e=>anG b o (by simp only[g4];exact bQ e cT) (s1 _ _ e);have Dl:aQ (bG H [x,aY] HE) (bG H [] HE):=y1 (by simp);exact k1 ⟨g,m,cs,ws,fV,pb,Tq⟩ aY HE (by rw[anH,bL hz]) aBt ⟨dN,gs,kc,kO,bF,jU,n_,vK,eu.mpr ⟨ag',by simp,aBk⟩,fK ug _ _ _ _ Dl aBn,Dl _ _ aBo,Dl _ _ aBp,Dl _ _ aBq,fK zE _ _ _ _ Dl aBr,fK HD _ _ _ _ Dl aBs,Y9 _ _ _ _ Dl aBm⟩
theorem ahk(a b:Nat):Builtin.bitAnd (a:Int) (b:Int)=((a &&& b:Nat):Int):=by
 unfold Builtin.bitAnd;rw[fu (show(0:Int)<=(a:Int) by omega),fu (show(0:Int)<=(b:Int) by omega)];simp only[I8]
theorem aBu{sk c:Nat}(aH:sk<8)(aU:c<4):decide ((sk &&& nD c)=0)=!(decide (c≠0) && sk.testBit (c-1)):=by
 have key:∀ s:Fin 8,∀ d:Fin 4,decide ((s.val &&& nD d.val)=0)=!(decide (d.val≠0) && s.val.testBit (d.val-1)):=by decide
 exact key ⟨sk,aH⟩ ⟨c,aU⟩
theorem anI(T:Txt K av t):cI P w K av base (cL P w) 1 t.K7 t.K8 ["self","character"] (fQ fun a b H Q _=>∃ aY f c,a=.ref aY/\b=nat c/\lO t H aY f/\Aw f.map/\Q (nat (mapped f c)) H):=by
 refine T.WQ.cY Cp fQ.cW ?_;rintro bJ A outer s H _ Q E aA ⟨bV,a1,rfl,aY,f,c,rfl,rfl,⟨dx,p,Dm,ww,bF,vc,gs,gA,fc,⟨m',j9,rfl,vL,pp⟩,_⟩,mo,k1⟩;refine⟨_,(aV (cp (i:=2) Cp.nd Z (Or.inl Z) b3) (aV (cp (i:=3) Cp.nd Z (Or.inl Z) (hv iG Z T.hA hM (aD (bO (aj 0) Z) aM))) (aV (Vo (gO dH Z) (gK q9 (aj 2) (aj 3) (fe _)) (aV (cp (i:=4) Cp.nd Z (Or.inl Z) (e4 asD (e4 m7 (aj 2) (aj 3)) b3)) (bj (gh (gK q9 (eN Bu (eN gx (bO (aj 0) Z) (aj 4) (fun _ _=>Z)) b3 (fun _ _=>Z)) (aj 1) (fe _)) (bj (cp (i:=2) Cp.nd Z (Or.inl Z) (e4 m7 (aj 4) b3))) (bj (cp (i:=3) Cp.nd Z (Or.inl Z) (aj 4))))))) (aV (gh (gK jN (aj 2) (hv iG Z T.hA hM (aD (bO (aj 0) Z) aM)) (fe _)) (bj (dK b3)) ht) (aV (cp (i:=5) Cp.nd Z (Or.inl Z) (eN gx (bO (aj 0) Z) (aj 2) (fun _ _=>Z))) (bj (dK (Vi (gK yt (eN Bu (aj 5) b3 (fun _ _=>Z)) (aj 1) (fe _)) (e4 kv (e4 m7 (eN Bu (aj 5) b3 (fun _ _=>Z)) (aj 1)) (eN Bu (aj 5) b3 (fun _ _=>Z))) b3)))))))),?_⟩;apply wL;intros;have g6:j9.length=f.map.length:=f5 pp;refine⟨_,Z,aY,_,dx,_,_,Z,fc,T.gn,T.B_,Z,m',j9,Z,.inl (aT.of vL),?_⟩;refine abq (fun σ H'=>H'=H/\∃ lo hi s4,σ=[some (.ref aY),some (nat c),some (nat lo),some (nat hi),s4,none]/\lo<=hi/\hi<=f.map.length/\(∀ (j:Nat) (s:Sw28.Span),j<lo->f.map[j]?=some s->s.last<c)/\∀ s,f.map[hi]?=some s->c<=s.last)
  (fun σ _=>match σ with
   | [_,_,some (.int a),some (.int b),_,_]=>(b-a).toNat
   |_=>0) ⟨rfl,0,j9.length,_,rfl,eY _,by omega,fun j s h=>absurd h (Ah _),fun s h=>?_⟩ (fun σ H' ⟨e,lo,hi,s4,a8,h1,aC,bH,dw⟩=>?_) (fun σ H Q eo h ⟨v,e,w,a8,i,j,a,b,k,zT,q⟩=>⟨v,e,w,a8,i,j,a,b,k,zT,h _ _ q⟩)
 ·rw[g6,qY (cG _)]at h;cases h
 subst e a8;refine⟨_,Z,_,Z,_,_,Z,Z,_,Z,dD (fun ak=>?_) fun ak=>?_⟩
 ·have cZ:lo<hi:=by have:=h2 ak;omega
  have em:((lo:Int)+(hi:Int)) / 2=(((lo+hi) / 2:Nat):Int):=by omega
  refine⟨_,Z,_,Z,_,_,Z,Z,_,_,Z,Z,⟨by decide,by decide⟩,?_⟩;simp only[em];have Kf:(lo+hi) / 2<hi:=by omega
  have yI:lo<=(lo+hi) / 2:=by omega
  generalize (lo+hi) / 2=mid at *;have zU:f.map[mid]?=some (f.map[mid]'(by omega)):=dR (by omega);obtain⟨u,cD,ey,rfl,cv⟩:=y7 pp zU;generalize f.map[mid]'(by omega)=sp at *;refine⟨_,Z,aY,_,dx,_,_,Z,fc,T.gn,T.B_,Z,_,Z,m',j9,_,_,Z,Z,aT.of vL,gM cD,ey,_,1,nat sp.last,Z,Z,fM.of cv,Z,_,Z,_,_,Z,Z,_,Z,dD (fun jF=>?_) fun jF=>?_⟩
  ·have Dk:sp.last<c:=by have:=h2 jF;omega
   refine⟨_,Z,_,_,Z,Z,⟨Z,mid+1,hi,_,Z,Kf,aC,fun j s bM aH=>?_,dw⟩,?_⟩
   ·rcases Nat.lt_or_eq_of_le (Nat.le_of_lt_succ bM)with z|z
    ·exact rY (mo.aqV z aH zU) Dk
    ·subst z;rw[zU]at aH;cases aH;exact Dk
   ·show((hi:Int)-((mid:Int)+1)).toNat<((hi:Int)-(lo:Int)).toNat;omega
  ·have Dk:c<=sp.last:=by
    have:¬ (sp.last:Int)<(c:Int):=fun z=>jF (fu z);omega
   refine⟨_,Z,⟨Z,lo,mid,_,Z,yI,by omega,bH,fun s aH=>?_⟩,?_⟩
   ·rw[zU]at aH;cases aH;exact Dk
   ·show((mid:Int)-(lo:Int)).toNat<((hi:Int)-(lo:Int)).toNat;omega
 ·have hle:lo=hi:=by
   have:¬ (lo:Int)<(hi:Int):=fun z=>ak (fu z);omega
  subst hle;refine⟨_,Z,_,Z,aY,_,dx,_,_,Z,fc,T.gn,T.B_,Z,m',j9,Z,.inl (aT.of vL),Z,_,Z,dD (fun jF=>?_) fun jF=>?_⟩
  ·have e:lo=f.map.length:=by have:=j8 jF;omega
   have:mapped f c=0:=aqW fun j s aH=>bH j s (by rw[e];exact(eE.mp aH).1) aH;rw[this]at k1;exact k1
  ·have e:lo<f.map.length:=by have:=CZ jF;omega
   have zU:f.map[lo]?=some f.map[lo]:=dR e;obtain⟨u,cD,ey,rfl,cv⟩:=y7 pp zU;have ha:=aqX mo bH zU (dw _ zU);generalize f.map[lo]=sp at *;refine⟨_,Z,aY,_,dx,_,_,Z,fc,T.gn,T.B_,Z,_,Z,m',j9,_,_,Z,Z,aT.of vL,gM cD,?_⟩;refine⟨_,Z,ey,_,0,nat sp.first,Z,Z,fM.of cv,Z,_,Z,_,_,Z,Z,_,Z,dD (fun xR=>?_) fun xR=>?_⟩
   ·have jr:sp.first<=c:=by have:=h2 xR;omega
    refine⟨_,Z,ey,_,2,nat sp.sign,Z,Z,fM.of cv,Z,_,Z,_,_,Z,Z,_,Z,ey,_,0,nat sp.first,Z,Z,fM.of cv,Z,_,_,Z,Z,?_⟩;rw[ha,bL jr]at k1;have a8:(sp.sign:Int)+(c:Int)-(sp.first:Int)=((sp.sign+(c-sp.first):Nat):Int):=by omega
    simp only[a8];exact k1
   ·have jr:¬ sp.first<=c:=by
     intro z;exact xR (fu (by omega))
    rw[ha,bw jr]at k1;exact k1
theorem anJ(T:Txt K av t):cI P w K av base (cL P w) 1 t.K9 t.K_ ["self","sign"] (fQ fun a b H Q _=>∃ aY f s,a=.ref aY/\b=nat s/\lO t H aY f/\s<f.cls.length/\Q (.bl (decide (f.cls.getD s 0=3))) H):=by
 obtain⟨aHB,aBv,aBw⟩:=T.k_MARK;refine T.WT.cY axI fQ.cW ?_;rintro bJ A outer s H _ Q E aA ⟨bV,a1,rfl,aY,f,s,rfl,rfl,⟨dx,p,Dm,ww,bF,vc,gs,gA,fc,_,E_,_⟩,aH,k1⟩;refine⟨_,(bj (dK (nQ jN (eN gx (bO (aj 0) Z) (aj 1) (fun _ _=>Z)) (gV Z aBv aBw) (fe _)))),?_⟩;have b5:(f.cls.map nat)[s]?=some (nat (f.cls.getD s 0)):=by simp[List.getD,dR aH]
 refine⟨_,Z,aY,_,dx,_,_,Z,fc,T.gn,T.QC,Z,_,Z,Dm,_,_,_,Z,Z,aT.of E_,gM b5,Z,?_⟩;have e:decide (V.int (f.cls.getD s 0:Nat)=V.int 3)=decide (f.cls.getD s 0=3):=wa.mpr ⟨fun h=>by injection h;omega,fun h=>by rw[h];rfl⟩;rw[e];exact k1
theorem anK{f:Font}{sk s:Nat}(aH:s<f.cls.length)(dw:∀ z∈f.cls,z<4)(aN:sk<8):decide (V.int (Builtin.bitAnd (sk:Int) ((nD (f.cls.getD s 0):Nat):Int))=V.int 0)=!h4 f sk s:=by
 have aU:f.cls.getD s 0<4:=by
  rw[List.getD,dR aH];exact dw _ (mV aH)
 rw[ahk];unfold h4;rw[← aBu aN aU];exact wa.mpr ⟨fun h=>by injection h;omega,fun h=>by rw[h];rfl⟩
inductive zV(t:bW)(H:ao)(v:V)(sk:Nat) :Prop
 |mk (p dx k b):v=.ref p->H p=some (.ins t.rq dx [("kind",k),("passes",nat sk),("body",b)])->zV t H v sk
theorem uf.at{H:ao}{v:V}{r:Rule Sw28.Sub}(h:uf t H v r):zV t H v r.skip:=by
 obtain⟨p,dx,ez,e,h,_⟩:=h;exact⟨p,dx,_,ez,e,h⟩
theorem sE.at{H:ao}{v:V}{r:Rule Sw28.Pos}(h:sE t H v r):zV t H v r.skip:=by
 obtain⟨p,dx,ez,e,h,_⟩:=h;exact⟨p,dx,_,ez,e,h⟩
theorem zV.mono{H H':ao}{v:V}{sk:Nat}(s:aQ H H')(h:zV t H v sk):zV t H' v sk:=by
 obtain⟨p,dx,k,b,e,h⟩:=h;exact⟨p,dx,k,b,e,s _ _ h⟩
theorem anL{f:Font}{s:Nat}(aH:s<f.cls.length):(f.cls.map fun z=>nat (nD z))[s]?=some (nat (nD (f.cls.getD s 0))):=by
 simp[List.getD,dR aH]
inductive anM(t:bW)(a b c:V)(H:ao)(Q:bx)(pT:cM):Prop
 |mk (aY f sk s):a=.ref aY->c=nat s->lO t H aY f->zV t H b sk->sk<8->s<f.cls.length->(∀ z∈f.cls,z<4)->Q (.bl (h4 f sk s)) H->anM t a b c H Q pT
def anN(t:bW):eX:=gb (anM t)
theorem ahl(T:Txt K av t):cI P w K av base (cL P w) 1 t.La t.Lb ["self","rule","sign"] (anN t):=by
 refine T.WX.cY axJ gb.cW ?_;rintro bJ A outer s H _ Q E aA ⟨bV,a1,a2,rfl,aY,f,sk,s,rfl,rfl,⟨dx,p,Dm,ww,bF,vc,gs,gA,fc,_,_,_,e2,_⟩,⟨fl,fX,agi,rb,rfl,hY⟩,aN,aH,dw,k1⟩;refine⟨_,(bj (dK (nQ asK (e4 abx (bO (aj 1) Z) (eN gx (bO (aj 0) Z) (aj 2) (fun _ _=>Z))) b3 (fe _)))),?_⟩;refine⟨_,Z,fl,_,fX,_,_,Z,hY,T.jx,T.QB,Z,?_⟩;refine⟨_,Z,aY,_,dx,_,_,Z,fc,T.gn,T.QD,Z,_,Z,bF,_,_,_,Z,Z,aT.of e2,gM (anL aH),_,_,Z,Z,Z,?_⟩;rw[anK aH dw aN,Bool.not_not];exact k1
def gZ(f:Font)(sk:Nat)(ss:aK):aK:=(List.range ss.length).filter fun i=>!h4 f sk (ss.getD i 0)
theorem aBx{K':cn}{a D:au}{xs:List V}{te:TE}{tt:TT}{σ:St}{i1 i2:Nat}{H:ao}{gv:ao->Prop}(sel:Nat->Bool)(aW:aT K' H a xs)(hz:xs.length<=65536)(bp:H D=none)
  (hw:∀ x y,wipe (((wipe σ [i1,i2]).set i1 (some x)).set i2 (some y)) [i1,i2]=wipe σ [i1,i2])
  (rA:∀ (i:Nat) x H' (eo:bx) (N:ao->Prop),xs[i]?=some x->aQ H H'->(sel i=true->eo (nat i) H')->(sel i=false->N H')->tt (((wipe σ [i1,i2]).set i1 (some (nat i))).set i2 (some x)) H' fun b aJ=>if b=true then te (((wipe σ [i1,i2]).set i1 (some (nat i))).set i2 (some x)) aJ eo else N aJ)
  (k:∀ H',aQ H H'->H' D=some (.lst (((List.range xs.length).filter sel).map nat))->gv H') :
  ∃ W:Nat->Nat->ao->Prop,(∃ m,W 0 m (upd H D (.lst [])))/\∀ i m H,W i m H ->
   ((yJ K' a).stop i H/\gv H)\/((yJ K' a).go i H/\∃ fP:ao->Prop,(∀ H',fP H'->∃ dT,dT<m/\W (i+1) dT H')/\∀ x H',(yJ K' a).mc i H x H'->g2 K' i1 i2 x (wipe σ [i1,i2]) H' fun dV aB=>wipe dV [i1,i2]=wipe σ [i1,i2]/\tt dV aB fun b aJ =>
    if b=true then te dV aJ fun y bB=>∃ acc,bB D=some (.lst acc)/\acc.length<sizeLine/\fP (upd bB D (.lst (acc++[y])))else fP aJ):=by
 refine⟨fun i m aB=>m=xs.length-i/\i<=xs.length/\aQ H aB/\aB D=some (.lst (((List.range i).filter sel).map nat)),⟨xs.length,by simp,eY _,ef (aQ.refl _) bp,a7⟩,?_⟩;rintro i m aB ⟨rfl,hi,s2,hd⟩;have q:=s2.seq aW;by_cases cZ:i<xs.length
 ·refine .inr ⟨⟨xs,xs[i],q,by simp[cZ]⟩,fun aJ=>aQ H aJ/\aJ D=some (.lst (((List.range (i+1)).filter sel).map nat)),fun H' p'=>⟨xs.length-(i+1),by omega,rfl,cZ,p'.1,p'.2⟩,fun v H' y=>?_⟩;obtain⟨T,x,rfl,cv,rfl,y⟩:=y;have sT:aQ aB (upd aB T (.tup [nat i,x])):=ef (aQ.refl _) cv;refine Hl a7 ⟨hw _ _,rA i x _ _ _ (y xs q) (s2.trans sT) (fun aH=>⟨_,sT _ _ hd,?_,ef (s2.trans sT) bp,?_⟩) fun aH=>⟨s2.trans sT,?_⟩⟩
  ·have:((List.range i).filter sel).length<=i:=jf (Eh _ _) (by simp)
   rw[ew];exact jQ (by omega)
  ·rw[a7,p2,x3];simp[aH]
  ·rw[sT _ _ hd,p2,x3];simp[aH]
 ·have e:i=xs.length:=by omega
  subst e;exact .inl ⟨⟨xs,q,cG _⟩,k aB s2 hd⟩
inductive anO(t:bW)(a b c:V)(H:ao)(Q:bx)(pT:cM):Prop
 |mk (aY f sk fL ss):a=.ref aY->c=.ref fL->lO t H aY f->zV t H b sk->H fL=some (.lst (ss.map nat))->sk<8->ss.length<=4096->(∀ s∈ss,s<f.cls.length)->(∀ z∈f.cls,z<4)->(∀ D H',aQ H H'->H D=none->H' D=some (.lst ((gZ f sk ss).map nat))->Q (.ref D) H')->anO t a b c H Q pT
def aBy(t:bW):eX:=gb (anO t)
theorem H4(T:Txt K av t):cI P w K av base (cL P w) 1 t.Ld t.Le ["self","rule","signs"] (aBy t):=by
 refine T.WY.cY GK gb.cW ?_;rintro bJ A outer s H _ Q E aA ⟨bV,a1,a2,rfl,aY,f,sk,fL,ss,rfl,rfl,⟨dx,p,Dm,ww,bF,vc,gs,gA,fc,_,_,_,e2,_⟩,⟨fl,fX,agi,rb,rfl,hY⟩,qH,aN,ji,jm,dw,k1⟩;refine⟨_,(aV (cp (i:=3) GK.nd Z (Or.inr Z) (bO (aj 0) Z)) (aV (cp (i:=4) GK.nd Z (Or.inr Z) (bO (aj 1) Z)) (bj (dK (iH (own:=[("at",5),("sign",6)]) dH (fun _ _ z=>z) Z GK.nd (BK Z T.w7 (aD (aj 2) aM)) (gW (by rfl)) (fun _ _ _ _ _=>alw (K':=K) (n:=2) Z Z (jL (dj (i:=5) GK.nd Z (Or.inl Z)) (jL (dj (i:=6) GK.nd Z (Or.inl Z)) r6))) (fun _ _ _ _ _=>(VK (gK jN (e4 abx (aj 4) (eN (Cu (K':=K) Z) (aj 3) (aj 6) (fun _ _=>Z))) b3 (fe _)))) (fun _ _ _ _ _=>(aj 5))))))),?_⟩;apply dY;intros;refine⟨_,Z,aY,_,dx,_,_,Z,fc,T.gn,T.QD,Z,?_⟩;refine⟨_,Z,fl,_,fX,_,_,Z,hY,T.jx,T.QB,Z,?_⟩;refine⟨_,Z,fL,_,Z,aT.of qH,fun D bp=>?_⟩;refine aBx (fun i=>!h4 f sk (ss.getD i 0)) (aT.of qH) (by simp;omega) bp (fun _ _=>rfl) (fun i x H' eo N aq aH h1 aC=>?_) fun H' s' hd=>k1 D H' s' bp (by rw[hd,ew];rfl);have hi:i<ss.length:=by simpa using(eE.mp aq).1
 have ex:x=nat (ss.getD i 0):=by
  rw[ei,dR hi]at aq;simp[List.getD,dR hi];exact(Option.some.inj aq).symm
 subst ex;have Dn:ss.getD i 0<f.cls.length:=by
  rw[List.getD,dR hi];exact jm _ (mV hi)
 refine⟨_,Z,_,Z,_,Z,bF,_,_,_,Z,Z,aT.of (aH _ _ e2),gM (anL Dn),_,_,Z,Z,Z,_,Z,?_⟩;rw[anK Dn dw aN];exact dD (fun ak=>⟨_,rfl,h1 ak⟩) fun ak=>aC (by simpa using ak)
def mK(bF ca:au)(hC gw fO:V):List (Str×V):=[("signs",.ref bF),("characters",.ref ca),("widths",hC),("rights",gw),("ups",fO)]
inductive anP(t:bW)(s a b:V)(H:ao)(Q:bx)(E:cM):Prop
 |mk (row dx bF ca xT Dp hC gw fO vs):s=.ref row->a=.ref xT->b=.ref Dp->H row=some (.ins t.fB dx (mK bF ca hC gw fO))->H xT=some (.lst vs)->(vs.length<=4096->Q .non (upd H row (.ins t.fB dx (mK xT Dp hC gw fO))))->(4096<vs.length->E (.ref t.BZ) none H)->anP t s a b H Q E
def aBz(t:bW):eX:=gb (anP t)
theorem Tr(T:Txt K av t):cI P w K av base (cL P w) 1 t.Mu t.Mv ["self","signs","characters"] (aBz t):=by
 obtain⟨aBA,ahm,ahn⟩:=T.k_MOST_SIGNS;refine T.Xr.cY axT gb.cW ?_;rintro bJ A outer s H _ Q E aA ⟨bV,a1,a2,rfl,row,dx,bF,ca,xT,Dp,hC,gw,fO,vs,rfl,rfl,rfl,dO,e2,k1,k2⟩;try simp only at k1 k2
 refine⟨_,(aV (gh (gK JT (hv iG Z T.hA hM (aD (aj 1) aM)) (gV Z ahm ahn) (fe _)) (bj (akK Z (fun _ _ z=>z) Z T.Xo T.Xp)) ht) (aV (eV (aj 0) (aj 1) Z) (bj (eV (aj 0) (aj 2) Z)))),?_⟩;apply dY;intros;refine⟨_,Z,xT,vs,Z,.inl (aT.of e2),_,_,Z,Z,_,Z,dD (fun ak=>?_) fun ak=>?_⟩
 ·exact k2 (by have:=h2 ak;omega)
 ·refine⟨_,Z,_,Z,row,_,dx,_,Z,dO,T.eA,T.iv,by show 5<1000;decide,?_⟩;refine⟨_,Z,_,Z,row,_,dx,_,Z,a7,T.eA,T.w5,by show 5<1000;decide,?_⟩;rw[ig];refine k1 ?_;have:¬ (4096:Int)<(vs.length:Int):=fun z=>ak (fu z);omega
inductive anQ(t:bW)(s a b:V)(H:ao)(Q:bx)(pT:cM):Prop
 |mk (x dx bF ca vs):s=.ref x->a=.ref bF->b=.ref ca->H x=some (.ins t.fB dx [])->H bF=some (.lst vs)->vs.length<=4096->(∀ H' hC gw fO,a9 [x] H H'->H' x=some (.ins t.fB dx (mK bF ca hC gw fO))->Q .non H')->anQ t s a b H Q pT
def aBB(t:bW):eX:=gb (anQ t)
theorem aBC(T:Txt K av t):cI P w K av base (cL P w) 2 t.Ms t.Mt ["self","signs","characters"] (aBB t):=by
 refine T.Xq.cY axS gb.cW ?_;rintro bJ A outer s H _ Q E aA ⟨bV,a1,a2,rfl,x,dx,bF,ca,vs,rfl,rfl,rfl,aq,e2,ji,k1⟩;refine⟨_,(aV (eV (aj 0) (hb aM) Z) (aV (eV (aj 0) (hb aM) Z) (aV (eV (aj 0) (hb aM) Z) (aV (eV (aj 0) (hb aM) Z) (aV (eV (aj 0) (hb aM) Z) (bj (er (fj (aj 0) T.eA T.Ci (Tr T) aA.bf T.RP .nil bh (aD (aj 1) (aD (aj 2) aM)))))))))),?_⟩;apply wL;intros;have key:∀ {H1:ao} {q:au} {o:HO},a9 [x] H H1->H1 q=none->a9 [x] H (upd (upd H1 q (.lst [])) x o):=fun k a0=>(k.jl a0).qM (by simp);refine⟨eY _,fun bT Zq=>⟨_,rfl,x,_,dx,_,rfl,by rw[a6 (bQ aq Zq)];exact aq,T.eA,T.iv,by show 0<1000;decide,?_⟩⟩;have cC:=key (o:=.ins t.fB dx (cB "signs" (.ref bT) [])) (a9.refl _ _) Zq;have mY:(upd (upd H bT (.lst [])) x (.ins t.fB dx (cB "signs" (.ref bT) []))) x=some (.ins t.fB dx [("signs",.ref bT)]):=a7;generalize upd (upd H bT (.lst [])) x (.ins t.fB dx (cB "signs" (.ref bT) []))=H1 at *;refine⟨eY _,fun cA HX=>⟨_,rfl,x,_,dx,_,rfl,by rw[a6 (bQ mY HX)];exact mY,T.eA,T.w5,by show 1<1000;decide,?_⟩⟩;have bZ:=key (o:=.ins t.fB dx (cB "characters" (.ref cA) [("signs",.ref bT)])) cC HX;have Ep:(upd (upd H1 cA (.lst [])) x (.ins t.fB dx (cB "characters" (.ref cA) [("signs",.ref bT)]))) x=some (.ins t.fB dx [("signs",.ref bT),("characters",.ref cA)]):=a7;generalize upd (upd H1 cA (.lst [])) x (.ins t.fB dx (cB "characters" (.ref cA) [("signs",.ref bT)]))=aB at *;refine⟨eY _,fun dY anR=>⟨_,rfl,x,_,dx,_,rfl,by rw[a6 (bQ Ep anR)];exact Ep,T.eA,T.vp,by show 2<1000;decide,?_⟩⟩;have dg:=key (o:=.ins t.fB dx (cB "widths" (.ref dY) [("signs",.ref bT),("characters",.ref cA)])) bZ anR;have xO:(upd (upd aB dY (.lst [])) x (.ins t.fB dx (cB "widths" (.ref dY) [("signs",.ref bT),("characters",.ref cA)]))) x=some (.ins t.fB dx [("signs",.ref bT),("characters",.ref cA),("widths",.ref dY)]):=a7;generalize upd (upd aB dY (.lst [])) x (.ins t.fB dx (cB "widths" (.ref dY) [("signs",.ref bT),("characters",.ref cA)]))=aJ at *;refine⟨eY _,fun hG CT=>⟨_,rfl,x,_,dx,_,rfl,by rw[a6 (bQ xO CT)];exact xO,T.eA,T.yU,by show 3<1000;decide,?_⟩⟩;have dF:=key (o:=.ins t.fB dx (cB "rights" (.ref hG) [("signs",.ref bT),("characters",.ref cA),("widths",.ref dY)])) dg CT;have zp:(upd (upd aJ hG (.lst [])) x (.ins t.fB dx (cB "rights" (.ref hG) [("signs",.ref bT),("characters",.ref cA),("widths",.ref dY)]))) x=some (.ins t.fB dx [("signs",.ref bT),("characters",.ref cA),("widths",.ref dY),("rights",.ref hG)]):=a7;generalize upd (upd aJ hG (.lst [])) x (.ins t.fB dx (cB "rights" (.ref hG) [("signs",.ref bT),("characters",.ref cA),("widths",.ref dY)]))=bB at *;refine⟨eY _,fun mb anS=>⟨_,rfl,x,_,dx,_,rfl,by rw[a6 (bQ zp anS)];exact zp,T.eA,T.yV,by show 4<1000;decide,?_⟩⟩;have fW:=key (o:=.ins t.fB dx (cB "ups" (.ref mb) [("signs",.ref bT),("characters",.ref cA),("widths",.ref dY),("rights",.ref hG)])) dF anS;have zP:(upd (upd bB mb (.lst [])) x (.ins t.fB dx (cB "ups" (.ref mb) [("signs",.ref bT),("characters",.ref cA),("widths",.ref dY),("rights",.ref hG)]))) x=some (.ins t.fB dx (mK bT cA (.ref dY) (.ref hG) (.ref mb))):=a7;generalize upd (upd bB mb (.lst [])) x (.ins t.fB dx (cB "ups" (.ref mb) [("signs",.ref bT),("characters",.ref cA),("widths",.ref dY),("rights",.ref hG)]))=b2 at *;have ahc:bF≠x:=hN e2 aq (by intro z;cases z);refine⟨_,Z,x,dx,_,Z,zP,Z,_,Z,_,Z,_,_,_,Z,x,dx,bT,cA,bF,ca,.ref dY,.ref hG,.ref mb,vs,Z,Z,Z,zP,fW _ _ (by simp[ahc]) e2,fun _=>?_,fun h=>by omega⟩;exact k1 _ (.ref dY) (.ref hG) (.ref mb) (fW.qM (by simp)) a7
inductive H5(t:bW)(H:ao)(row:au)(l:List Item) :Prop
 |mk (dx bF ca hC gw fO):H row=some (.ins t.fB dx (mK bF ca hC gw fO))->H bF=some (.lst ((l.map fun x=>x.sign).map nat))->H ca=some (.lst ((l.map fun x=>x.from_).map nat))->H5 t H row l
inductive anT(t:bW)(pr:Sw28.Sub->Prop)(a b c:V)(H:ao)(Q:bx)(E:cM):Prop
 |mk (aY f r row l):a=.ref aY->c=.ref row->pr r.rule->lO t H aY f->pF f->r∈f.subs->uf t H b r->H5 t H row l->l.length<=4096->(∀ x∈l,x.sign<f.signs)->(∀ l' H',chg f r l=some l'->a9 [row] H H'->H5 t H' row l'->Q .non H')->(chg f r l=none->∀ H',a9 [row] H H'->E (.ref t.BZ) none H')->anT t pr a b c H Q E
def H6(t:bW)(pr:Sw28.Sub->Prop):eX:=gb (anT t pr)
theorem vM{n j:Nat}(h:j<n):wN n (j:Int)=some j:=by
 unfold wN;rw[bL (by omega),bL (by omega)];simp
theorem Zr{β:Type}(s:Nat)(t:List (Nat×β)):(t.find? fun y=>decide (bI y.1=bI s))=t.find? fun y=>decide (y.1=s):=by
 congr 1
 funext y
 exact wa.mpr n6
theorem anU{H:ao}{v:V}{tb:List (Nat×Nat)}(h:Hh H v tb):∃ dM kvs,v=.ref dM/\H dM=some (.dW kvs)/\∀ s,(dX kvs (bI s)).getD (nat s)=nat ((tb.lookup s).getD s):=by
 obtain⟨dM,kvs,e,ak,pp⟩:=h;refine⟨dM,kvs,e,ak,fun s=>?_⟩;have:=Hf (key:=fun y:Nat×Nat=>bI y.1) (R:=fun H v y=>k7 H v y.2) (H:=H) (bI s) pp;rw[Zr]at this;rw[U9];cases z:tb.find? fun y=>decide (y.1=s)with
 |none=>rw[this.1 z];rfl
 |some y =>
  obtain⟨u,cD,aA⟩:=this.2 y z;rw[cD];exact aA
theorem aho{f:Font}{sk:Nat}{ss:aK}{i:Nat}(h:i∈gZ f sk ss):i<ss.length:=by
 unfold gZ at h;have:=(rR.mp h).1;simpa using this
theorem Zt{f:Font}{sk:Nat}{ss:aK}:(gZ f sk ss).length<=ss.length:=by
 unfold gZ;exact jf (Eh _ _) (by simp)
theorem ahp(tb:List (Nat×Nat)):∀ (is ss:aK),(is.foldl (yg tb) ss).length=ss.length
 | [],_=>rfl
 |i::is,ss=>by
  rw[hr,ahp tb is];simp[yg]
theorem Zu(w:aK)(i s:Nat):(w.map nat).set i (nat s)=(w.set i s).map nat:=by rw[List.map_set]
theorem aBD(T:Txt K av t):cI P w K av base (cL P w) 2 t.Ou t.Ov ["font","rule","row"] (H6 t fun s=>∃ tb,s=.one tb):=by
 refine T.Rf.cY afO gb.cW ?_;rintro bJ A outer s H _ Q E aA ⟨bV,b,c,rfl,aY,f,r,row,l,rfl,rfl,jO,hf,d9,iy,iz,⟨dx,bF,ca,hC,gw,fO,dO,e2,hW⟩,aF,mL,k1,k2⟩;try simp only at k1 k2
 refine⟨_,(aV (cp (i:=3) afO.nd rfl (Or.inl rfl) (q' abS rfl T.GD Yi (aD (bO (aj 2) rfl) aM))) (aV (ho (gO dH rfl) rfl (gG (fj (aj 0) T.gn T.yP (H4 T) aA.bf T.GF .nil bh (aD (aj 1) (aD (bO (aj 2) rfl) aM)))) (dj (i:=4) afO.nd rfl (Or.inl rfl)) (bj (Fj (FN (k4 aA) (bO (aj 1) rfl) (eN gx (aj 3) (aj 4) (fun _ _=>rfl)) (eN gx (aj 3) (aj 4) (fun _ _=>rfl)) ⟨rfl,rfl,rfl,rfl⟩) (Fg (aj 3) (aj 4) set_list)))) (bj (er (fj (aj 2) T.eA T.Ci (Tr T) aA.bf T.RP .nil bh (aD (aj 3) (aD (bO (aj 2) rfl) aM))))))),?_⟩;apply dY;intros;obtain⟨tb,hj⟩:=jO;have kV:=iz.at;obtain⟨fl,fX,rb,e,hY,hK⟩:=iz;subst e;have hK:Hh H rb tb:=by
  have z:rH t H rb r.rule:=hK;rw[hj]at z;exact z
 obtain⟨dM,kvs,e,mO,o7⟩:=anU hK;subst e;have ur:chg f r l=some (l.map (oneOf f r.skip tb)):=by unfold chg;rw[hj]
 generalize jm:l.map (fun x=>x.sign)=ss at e2;have Zv:ss.length=l.length:=by rw[← jm,ew]
 refine⟨_,Z,row,_,dx,_,_,Z,dO,T.eA,T.iv,Z,bF,_,Z,.inl (aT.of e2),fun S dZ=>?_⟩;have s1:aQ H (upd H S (.lst (ss.map nat))):=ef (aQ.refl _) dZ;have jZ:(upd H S (.lst (ss.map nat))) S=some (.lst (ss.map nat)):=a7;generalize upd H S (.lst (ss.map nat))=H1 at *;obtain⟨dN,_,_,_,_,_,_,_,fc,_⟩:=id hf;refine⟨_,Z,aY,dN,_,Z,s1 _ _ fc,Z,_,Z,_,Z,row,_,dx,_,_,Z,s1 _ _ dO,T.eA,T.iv,Z,?_⟩;refine⟨_,_,_,Z,aY,f,r.skip,bF,ss,Z,Z,mJ s1 hf,kV.mono s1,s1 _ _ e2,d9.sk r iy,by omega,fun s aH=>?_,d9.r4,fun D aB s2 bp hd=>?_⟩
 ·rw[← jm]at aH;obtain⟨x,aq,rfl⟩:=g5.mp aH;rw[d9.cl];exact mL x aq
 have anV:=s1.trans s2;have aBE:D≠S:=(bQ jZ bp).symm;have nb:∀ b o,H b=some o->b≠S:=fun b o e=>bQ e dZ;have hlen:(gZ f r.skip ss).length<=4096:=jf Zt (by omega);refine⟨D,Z,⟨_,aT.of hd⟩,?_⟩;refine qy (xs:=(gZ f r.skip ss).map nat) (fun j σ aJ=>(∃ s4,σ=[some (.ref aY),some (.ref fl),some (.ref row),some (.ref S),s4])/\(∀ b o,b≠S->aB b=some o->aJ b=some o)/\aJ S=some (.lst ((((gZ f r.skip ss).take j).foldl (yg tb) ss).map nat))) ⟨⟨_,rfl⟩,fun _ _ _ e=>e,s2 _ _ jZ⟩ (fun j σ aJ _ ⟨_,k,_⟩=>aT.of (k _ _ aBE hd)) (fun j v σ aJ aZ ⟨⟨s4,e⟩,k,mQ⟩=>?_) fun σ aJ ⟨⟨s4,e⟩,k,mQ⟩=>?_
 ·subst e;have bM:j<(gZ f r.skip ss).length:=by simpa using(eE.mp aZ).1
  have lE:(gZ f r.skip ss)[j]?=some (gZ f r.skip ss)[j]:=dR bM;have uP:(gZ f r.skip ss)[j]<ss.length:=aho (mV bM);rw[ei,lE]at aZ;cases aZ;rw[take_snoc lE,oh];generalize (gZ f r.skip ss)[j]=i at *;have lB:=ahp tb ((gZ f r.skip ss).take j) ss;generalize ((gZ f r.skip ss).take j).foldl (yg tb) ss=w at *;have u5:(w.map nat)[i]?=some (nat (w.getD i 0)):=by simp[List.getD,dR (show i<w.length by omega)]
  have k3:∀ b o,H b=some o->aJ b=some o:=fun b o e=>k b o (nb b o e) (anV _ _ e);refine⟨_,Z,fl,_,fX,_,_,Z,k3 _ _ hY,T.jx,T.rt,Z,dM,Z,.inl ⟨_,.inl (k3 _ _ mO)⟩,?_⟩;refine⟨_,Z,_,Z,S,_,_,_,Z,Z,aT.of mQ,gM u5,?_⟩;refine⟨_,Z,_,Z,S,_,_,_,Z,Z,aT.of mQ,gM u5,_,hT.k (k:=bI (w.getD i 0)) (k3 _ _ mO),?_⟩;rw[o7];refine⟨_,Z,_,Z,S,_,_,i,Z,Z,mQ,vM (by simp;omega),⟨_,Z⟩,fun b o n e=>?_,?_⟩
  ·rw[a6 n];exact k b o n e
  ·rw[a7,Zu];rfl
 ·subst e;rw[ew,fZ (cG _)]at mQ;have Zw:(gZ f r.skip ss).foldl (yg tb) ss=(l.map (oneOf f r.skip tb)).map fun x=>x.sign:=by
   rw[one_sign,jm];exact aq_ f r.skip tb ss
  have k3:∀ b o,H b=some o->aJ b=some o:=fun b o e=>k b o (nb b o e) (anV _ _ e);refine⟨_,Z,row,dx,_,Z,k3 _ _ dO,Z,_,Z,_,Z,row,_,dx,_,_,Z,k3 _ _ dO,T.eA,T.w5,Z,?_⟩;refine⟨_,_,_,Z,row,dx,bF,ca,S,ca,hC,gw,fO,_,Z,Z,Z,k3 _ _ dO,mQ,fun _=>?_,fun h=>?_⟩
  ·have Tt:S≠row:=(nb _ _ dO).symm
   have Tv:ca≠row:=hN hW dO (by intro z;cases z);refine k1 _ _ ur (fun b o n e=>by rw[a6 (by simpa using n)];exact k3 _ _ e) ⟨dx,S,ca,hC,gw,fO,a7,?_,?_⟩
   ·rw[a6 Tt,mQ,Zw]
   ·rw[a6 Tv,aq'];exact k3 _ _ hW
  ·rw[ew,ahp]at h;omega
theorem zW{a:au}:decide (V.ref a=V.non)=false:=oo (by intro h;cases h)
theorem aBF{K':cn}{σ:St}{H:ao}{S C hk:au}{w c:aK}{ps:aK}{ch:Nat}{D:Ends}(bH:σ[3]?=some (some (.ref S)))(dw:σ[4]?=some (some (.ref C)))(Di:σ[7]?=some (some (.ref hk)))(tD:(wipe σ [8])[6]?=some (some (nat ch)))
  (dZ:H S=some (.lst (w.map nat))) (vf:H C=some (.lst (c.map nat))) (gJ:H hk=some (.lst (ps.map nat))) (H7:S≠C) (ahq:S≠hk) (aHC:ps.length<=8) (hw:w.length<=40000) (aU:c.length<=40000)
  (k:∀ H',(∀ b o,b≠S->b≠C->H b=some o->H' b=some o)->H' S=some (.lst ((w++ps).map nat))->H' C=some (.lst ((c++ps.map fun _=>ch).map nat))->D.cT σ H') :
  c3 (wK (yC K' "list" yD (gg 3) (nR (gg 7) m9))) (wK (yC K' "list" yD (gg 4) (nR (wU (Fp K' (gg 7)) (kW 8) sb (gg 6) [8]) m9))) D σ H:=by
 refine⟨_,bH,.inl ⟨Z,_,aT.of dZ⟩,_,Di,S,hk,_,_,Z,Z,dZ,gJ,by simp;exact RW (by omega),?_⟩;have H8:(upd H S (.lst (w.map nat++ps.map nat))) hk=some (.lst (ps.map nat)):=by rw[a6 ahq.symm];exact gJ
 have Tw:(upd H S (.lst (w.map nat++ps.map nat))) C=some (.lst (c.map nat)):=by rw[a6 H7.symm];exact vf
 have jZ:(upd H S (.lst (w.map nat++ps.map nat))) S=some (.lst ((w++ps).map nat)):=by rw[a7,od]
 have k1:∀ b o,b≠S->H b=some o->(upd H S (.lst (w.map nat++ps.map nat))) b=some o:=fun b o n e=>by rw[a6 n];exact e
 generalize upd H S (.lst (w.map nat++ps.map nat))=H1 at *;refine⟨_,dw,.inl ⟨Z,_,aT.of Tw⟩,_,Di,hk,Z,⟨_,aT.of H8⟩,fun Y iw=>?_⟩;refine n3 ((ps.map fun _=>ch).map nat) (by simp) (aT.of H8) (by simp;omega) iw (fun i x y H' eo aq aP aH q=>?_) ?_
 ·have gj:y=nat ch:=by
   rw[ei,ei]at aP;cases e:ps[i]? with
   |none=>rw[e]at aP;cases aP
   |some z=>rw[e]at aP;exact(Option.some.inj aP).symm
  subst gj;refine⟨_,?_,q⟩;rw[I5 (by decide)];exact tD
 ·have aBG:C≠Y:=bQ Tw iw
  have aBH:S≠Y:=bQ jZ iw;refine⟨C,Y,_,_,Z,Z,by rw[a6 aBG];exact Tw,a7,by simp;exact RW (by omega),k _ (fun b o n1 n2 e=>?_) ?_ ?_⟩
  ·rw[a6 n2,a6 (bQ (k1 _ _ n1 e) iw)];exact k1 _ _ n1 e
  ·rw[a6 H7,a6 aBH];exact jZ
  ·rw[a7,od]
theorem anW{f:Font}{sk:Nat}{tb:List (Nat×aK)}{x:Item}{ps:aK}(h:gU f sk tb x=ps.map fun s=>{ x with sign:=s }):(gU f sk tb x).map (fun y=>y.sign)=ps/\(gU f sk tb x).map (fun y=>y.from_)=ps.map fun _=>x.from_:=by
 rw[h,kh,kh];exact⟨by simp[Function.comp_def],Z⟩
theorem aBI{H:ao}{v:V}{tb:List (Nat×aK)}(h:R7 H v tb):∃ dM kvs,v=.ref dM/\H dM=some (.dW kvs)/\∀ s,(tb.lookup s=none->dX kvs (bI s)=none)/\∀ ps,tb.lookup s=some ps->∃ hk,dX kvs (bI s)=some (.ref hk)/\H hk=some (.lst (ps.map nat)):=by
 obtain⟨dM,kvs,e,ak,pp⟩:=h;refine⟨dM,kvs,e,ak,fun s=>?_⟩;have:=Hf (key:=fun y:Nat×aK=>bI y.1) (R:=fun H v y=>hq H v y.2) (H:=H) (bI s) pp;rw[Zr]at this;rw[U9];refine⟨fun z=>this.1 (by simpa using z),fun ps hz=>?_⟩;cases z:tb.find? fun y=>decide (y.1=s)with
 |none=>rw[z]at hz;cases hz
 |some y =>
  rw[z]at hz;cases hz;obtain⟨u,cD,hk,e,gJ⟩:=this.2 y z;exact⟨hk,by rw[cD,e],gJ⟩
theorem anY{α β:Type}{l:List α}{i:Nat}{x:α}(h:l[i]?=some x)(g:α->List β):(l.take (i+1)).flatMap g=(l.take i).flatMap g++g x:=by
 rw[take_snoc h,List.flatMap_append];simp
theorem more_le{f:Font}{sk:Nat}{tb:List (Nat×aK)}(ak:∀ y∈tb,y.2.length<=8)(x:Item):(gU f sk tb x).length<=8:=by
 unfold gU;split
 ·simp
 ·split
  ·rename_i ss aH;rw[ew];exact ak _ (lookup_mem aH)
  ·simp
theorem anZ{f:Font}{sk:Nat}{tb:List (Nat×aK)}(ak:∀ y∈tb,y.2.length<=8):∀ l:List Item,(l.flatMap (gU f sk tb)).length<=8 * l.length
 | []=>by simp
 |x::l=>by
  have h1:=more_le (f:=f) (sk:=sk) ak x;have aC:=anZ (f:=f) (sk:=sk) ak l;simp only[IK,gB,ek];omega
theorem aBJ(T:Txt K av t):cI P w K av base (cL P w) 2 t.Ow t.Ox ["font","rule","row"] (H6 t fun s=>∃ tb,s=.more tb):=by
 refine T.Rg.cY xr gb.cW ?_;rintro bJ A outer s H _ Q E aA ⟨bV,b,c,rfl,aY,f,r,row,l,rfl,rfl,jO,hf,d9,iy,iz,⟨dx,bF,ca,hC,gw,fO,dO,e2,hW⟩,aF,mL,k1,k2⟩;try simp only at k1 k2
 refine⟨_,(aV (cp (i:=3) xr.nd rfl (Or.inl rfl) (hb aM)) (aV (cp (i:=4) xr.nd rfl (Or.inl rfl) (hb aM)) (aV (ho (gO dH rfl) rfl (akC rfl T.X4 (aD (bO (aj 2) rfl) (aD (bO (aj 2) rfl) aM))) (s7 rfl (jL (dj (i:=5) xr.nd rfl (Or.inl rfl)) (jL (dj (i:=6) xr.nd rfl (Or.inr rfl)) r6))) (aV (cp (i:=7) xr.nd rfl (Or.inl rfl) (Vi (Bp (fj (aj 0) T.gn T.QF (ahl T) aA.bf T.afD .nil bh (aD (aj 1) (aD (aj 5) aM))) (fun _=>rfl)) Fb (Ka (k4 aA) (bO (aj 1) rfl) (aj 5) ⟨rfl,rfl,rfl,rfl⟩))) (aV (gh (pL (yp (aj 7))) (bj (cp (i:=7) xr.nd rfl (Or.inl rfl) (hb (aD (aj 5) aM)))) ht) (aV (er (mz lV Un Uo VG (aj 3) (aD (aj 7) aM))) (bj (er (mz lV Un Uo VG (aj 4) (aD (iH (own:=[("part",8)]) dH (fun _ _ z=>z) rfl xr.nd (gG (aj 7)) (gW (by rfl)) (fun _ _ _ _ _=>dj (i:=8) xr.nd rfl (Or.inl rfl)) (fun _ _ _ _ _=>hx) (fun _ _ _ _ _=>(aj 6))) aM)))))))) (bj (er (fj (aj 2) T.eA T.Ci (Tr T) aA.bf T.RP .nil bh (aD (aj 3) (aD (aj 4) aM)))))))),?_⟩;apply hG;intros;obtain⟨tb,hj⟩:=jO;have kV:=iz.at;obtain⟨fl,fX,rb,e,hY,hK⟩:=iz;subst e;have hK:R7 H rb tb:=by
  have z:rH t H rb r.rule:=hK;rw[hj]at z;exact z
 obtain⟨dM,kvs,e,mO,o7⟩:=aBI hK;subst e;have rF:∀ y∈tb,y.2.length<=8:=by
  have z:=d9.fV r iy;rw[hj]at z;exact fun y aP=>(z y aP).1
 have ur:chg f r l=if 4096<(l.flatMap (gU f r.skip tb)).length then none else some (l.flatMap (gU f r.skip tb)):=by unfold chg;rw[hj]
 refine⟨eY _,fun S dZ=>?_⟩;refine⟨eY _,fun C vf=>?_⟩;have H7:S≠C:=fun e=>by rw[← e,a7]at vf;cases vf
 have ahr:H C=none:=by rw[a6 H7.symm]at vf;exact vf
 have s1:aQ H (upd (upd H S (.lst [])) C (.lst [])):=ef (ef (aQ.refl _) dZ) ahr;have jZ:(upd (upd H S (.lst [])) C (.lst [])) S=some (.lst (([]:aK).map nat)):=by rw[a6 H7,a7];rfl
 have Tw:(upd (upd H S (.lst [])) C (.lst [])) C=some (.lst (([]:aK).map nat)):=a7;generalize upd (upd H S (.lst [])) C (.lst [])=H1 at *;refine⟨_,Z,row,_,dx,_,_,Z,s1 _ _ dO,T.eA,T.iv,Z,_,Z,row,_,dx,_,_,Z,s1 _ _ dO,T.eA,T.w5,Z,bF,ca,_,_,Z,aT.of (s1 _ _ e2),aT.of (s1 _ _ hW),?_⟩;refine alY (by simp) (fun j σ aJ=>(∃ s5 cU fx,σ=[some (.ref aY),some (.ref fl),some (.ref row),some (.ref S),some (.ref C),s5,cU,fx,none])/\aQ H aJ/\aJ S=some (.lst ((((l.take j).flatMap (gU f r.skip tb)).map fun y=>y.sign).map nat))/\aJ C=some (.lst ((((l.take j).flatMap (gU f r.skip tb)).map fun y=>y.from_).map nat))) ⟨⟨_,_,_,rfl⟩,s1,jZ,Tw⟩ (fun j σ aJ _ ⟨_,s,_⟩=>⟨aT.of (s _ _ e2),aT.of (s _ _ hW)⟩) (fun j x y ey σ aJ aq aP ⟨⟨s5,cU,fx,e⟩,s3,mQ,Zx⟩ cv=>?_) fun σ aJ ⟨⟨s5,cU,fx,e⟩,s3,mQ,Zx⟩=>?_
 ·subst e;have bM:j<l.length:=by simpa using(eE.mp aq).1
  have zX:l[j]?=some l[j]:=dR bM;have ex:x=nat l[j].sign:=by
   rw[ei,ei,zX]at aq;exact(Option.some.inj aq).symm
  have gj:y=nat l[j].from_:=by
   rw[ei,ei,zX]at aP;exact(Option.some.inj aP).symm
  subst ex gj;have aBK:l[j].sign<f.cls.length:=by rw[d9.cl];exact mL _ (mV bM)
  rw[anY zX];have lB:((l.take j).flatMap (gU f r.skip tb)).length<=32768:=by
   have:=anZ (f:=f) (sk:=r.skip) rF (l.take j);rw[g0]at this;omega
  generalize (l.take j).flatMap (gU f r.skip tb)=acc at *;generalize l[j]=it at *;have s4:aQ aJ (upd aJ ey (.tup [nat it.sign,nat it.from_])):=ef (aQ.refl _) cv;generalize upd aJ ey (.tup [nat it.sign,nat it.from_])=bB at *;have sG:=s3.trans s4;have fin:∀ (D:Ends) (b2:ao) (hk:au) (ps:aK),(∀ σ aJ,((∃ s5 cU fx,σ=[some (.ref aY),some (.ref fl),some (.ref row),some (.ref S),some (.ref C),s5,cU,fx,none])/\aQ H aJ/\aJ S=some (.lst (((acc++gU f r.skip tb it).map fun y=>y.sign).map nat))/\aJ C=some (.lst (((acc++gU f r.skip tb it).map fun y=>y.from_).map nat)))->D.cT σ aJ) ->
    aQ bB b2->b2 hk=some (.lst (ps.map nat))->S≠hk->ps.length<=8->gU f r.skip tb it=ps.map (fun s=>{ it with sign:=s }) ->
    c3 (wK (yC K "list" yD (gg 3) (nR (gg 7) m9))) (wK (yC K "list" yD (gg 4) (nR (wU (Fp K (gg 7)) (kW 8) sb (gg 6) [8]) m9))) D
     [some (.ref aY),some (.ref fl),some (.ref row),some (.ref S),some (.ref C),some (nat it.sign),some (nat it.from_),some (.ref hk),none] b2:=fun D b2 hk ps bp s5 gJ ahq rM hm=>by
   have zq:=s4.trans s5;refine aBF rfl rfl rfl rfl (zq _ _ mQ) (zq _ _ Zx) gJ H7 ahq rM (by simp;omega) (by simp;omega) fun eH aBL aBM aBN=>bp _ _ ⟨⟨_,_,_,rfl⟩,fun b o e=>aBL b o (bQ e dZ) (bQ e ahr) (s5 _ _ (sG _ _ e)),?_,?_⟩
   ·rw[od,(anW hm).1];exact aBM
   ·rw[od,(anW hm).2];exact aBN
  have alone:∀ (D:Ends),(∀ σ aJ,((∃ s5 cU fx,σ=[some (.ref aY),some (.ref fl),some (.ref row),some (.ref S),some (.ref C),s5,cU,fx,none])/\aQ H aJ/\aJ S=some (.lst (((acc++gU f r.skip tb it).map fun y=>y.sign).map nat))/\aJ C=some (.lst (((acc++gU f r.skip tb it).map fun y=>y.from_).map nat)))->D.cT σ aJ) ->
    gU f r.skip tb it=[it]->∀ hk,bB hk=none ->
    c3 (wK (yC K "list" yD (gg 3) (nR (gg 7) m9))) (wK (yC K "list" yD (gg 4) (nR (wU (Fp K (gg 7)) (kW 8) sb (gg 6) [8]) m9))) D
     [some (.ref aY),some (.ref fl),some (.ref row),some (.ref S),some (.ref C),some (nat it.sign),some (nat it.from_),some (.ref hk),none] (upd bB hk (.lst [nat it.sign])):=fun D bp hm hk gJ =>
   fin D _ hk [it.sign] bp (ef (aQ.refl _) gJ) a7 (bQ (s4 _ _ mQ) gJ) (by simp) (by rw[hm];rfl)
  obtain⟨dN,_,_,_,_,_,_,_,fc,_⟩:=id hf;refine⟨_,Z,aY,dN,_,Z,sG _ _ fc,Z,_,Z,_,Z,_,_,_,Z,aY,f,r.skip,it.sign,Z,Z,mJ sG hf,kV.mono sG,d9.sk r iy,aBK,d9.r4,h4 f r.skip it.sign,Z,?_⟩;have H9:=Jl f r.skip it;refine dD (fun ak=>?_) fun ak=>?_
  ·have hm:gU f r.skip tb it=[it]:=by unfold gU;rw[H9,bL ak]
   refine⟨_,Z,_,Z,dD (fun _=>⟨_,rfl,nY,fun hk gJ=>alone _ (fun _ _ h=>h) hm hk gJ⟩) fun h=>absurd (fu rfl) h⟩
  ·refine⟨_,Z,fl,_,fX,_,_,Z,sG _ _ hY,T.jx,T.rt,Z,dM,Z,.inl ⟨_,.inl (sG _ _ mO)⟩,_,Z,_,hT.k (k:=bI it.sign) (sG _ _ mO),?_⟩;cases pw:tb.lookup it.sign with
   |none =>
    have hm:gU f r.skip tb it=[it]:=by unfold gU;rw[H9,bw ak,pw]
    rw[(o7 it.sign).1 pw];refine⟨_,Z,_,Z,dD (fun _=>⟨_,rfl,nY,fun hk gJ=>alone _ (fun _ _ h=>h) hm hk gJ⟩) fun h=>absurd (fu rfl) h⟩
   |some ps =>
    obtain⟨hk,aZ,gJ⟩:=(o7 it.sign).2 ps pw;have hm:gU f r.skip tb it=ps.map fun s=>{ it with sign:=s }:=by unfold gU;rw[H9,bw ak,pw]
    rw[aZ];refine⟨_,Z,_,Z,dD (fun h=>?_) fun _=>?_⟩
    ·rw[show decide ((some (V.ref hk)).getD V.non=V.non)=false from zW]at h;cases h
    ·exact fin _ bB hk ps (fun _ _ h=>h) (aQ.refl _) (sG _ _ gJ) (bQ gJ dZ).symm (rF _ (lookup_mem pw)) hm
 ·subst e;rw[ew,ew,fZ (cG _)]at mQ Zx;refine⟨_,Z,row,dx,_,Z,s3 _ _ dO,Z,_,Z,_,Z,?_⟩;refine⟨_,_,_,Z,row,dx,bF,ca,S,C,hC,gw,fO,_,Z,Z,Z,s3 _ _ dO,mQ,fun h=>?_,fun h=>?_⟩
  ·have h':¬ 4096<(l.flatMap (gU f r.skip tb)).length:=by simpa using h
   rw[bw h']at ur;have Tt:S≠row:=(bQ dO dZ).symm;have aBO:C≠row:=(bQ dO ahr).symm;exact k1 _ _ ur (fun b o n e=>by rw[a6 (by simpa using n)];exact s3 _ _ e) ⟨dx,S,C,hC,gw,fO,a7,by rw[a6 Tt];exact mQ,by rw[a6 aBO];exact Zx⟩
  ·have h':4096<(l.flatMap (gU f r.skip tb)).length:=by simpa using h
   rw[bL h']at ur;exact k2 ur aJ (hp s3 _)
theorem an0(l:aK){k n:Nat}(aN:k<=l.length):ti (l.map nat) (some (k:Int)) (some ((k:Int)+(n:Int)))=((l.drop k).take n).map nat:=by
 unfold ti;rw[show((k:Int)+(n:Int))=((k+n:Nat):Int) by omega,HT.Vz,HT.Vz,ew,D' aN,← Aa,← List.map_take];congr 1
 by_cases h:k+n<=l.length
 ·rw[D' h,Nat.add_sub_cancel_left]
 ·rw[Nat.min_eq_right (by omega),fZ (by simp),fZ (by simp;omega)]
theorem an1(l:aK){a b:Nat}(aW:a<=l.length)(an2:a<=b):ti (l.map nat) (some (a:Int)) (some (b:Int))=((l.drop a).take (b-a)).map nat:=by
 have:=an0 l (k:=a) (n:=b-a) aW;rw[show((a:Int)+((b-a:Nat):Int))=(b:Int) by omega]at this;exact this
theorem an3{F:(List Key×V)->(aK×Nat)×Nat->Prop}(iQ:∀ bC y,F bC y->bC.1=y.1.1.map bI)(key:aK):∀ {kvs:List (List Key×V)} {ds:List (aK×Nat)} {k:Nat},Paired F kvs (ds.zipIdx k) ->
  dX kvs (key.map bI)=(ds.findIdx? fun d=>d.1 == key).bind fun m=>(kvs[m]?).map fun bC=>bC.2
 |_,[],_,.nil=>rfl
 |_,d::ds,k,h=>by
  rw[x5]at h;cases h with
  |cons q tl =>
   have bU:=an3 iQ key tl;have e:=iQ _ _ q;rw[List.findIdx?_cons];by_cases hd:d.1=key
   ·rw[oO (by rw[e,hd])];simp[hd]
   ·rw[oR (fun z=>hd (agt (e.symm.trans z))),bU];have ak:(d.1 == key)=false:=by simp[hd]
    rw[ak];cases ds.findIdx? fun d=>d.1 == key<;>simp
inductive an4(t:bW)(s a b:V)(H:ao)(Q:bx)(pT:cM):Prop
 |mk (tt hD) (line:aK) (k x r):Sx t H s tt->a=.ref hD->b=nat k->H hD=some (.lst (line.map nat))->line.drop k=x::r->(nH tt x r=none->∀ H',aQ H H'->Q .non H')->(∀ e,nH tt x r=some e->∀ H' p dx o,aQ H H'->H' p=some (.ins t.ni dx [("order",o),("length",nat (e.2.1.length+1)),("joined",nat e.2.2)])->Q (.ref p) H')->an4 t s a b H Q pT
def aBP(t:bW):eX:=gb (an4 t)
theorem Zy{α:Type}{l:List α}{k:Nat}{x:α}{r:List α}(h:l.drop k=x::r):k<l.length/\l[k]?=some x:=by
 have h1:k<l.length:=by
  by_cases z:k<l.length
  ·exact z
  ·rw[Ed (by omega)]at h;cases h
 rw[z7 h1]at h;injection h with aC _
 exact⟨h1,by rw[dR h1,aC]⟩
theorem aBQ(T:Txt K av t):cI P w K av base (cL P w) 1 t.Ln t.Lp ["self","line","at"] (aBP t):=by
 refine T.W5.cY RT gb.cW ?_;rintro bJ A outer s H _ Q E aA ⟨bV,a1,a2,rfl,tt,hD,line,k,x,r,⟨j,L,rfl,⟨Hv,bi,li,kvs,la,bM,vr,pG,rO,rE,zv⟩,Sq⟩,rfl,rfl,an5,oA,k1,k2⟩;try simp only at k1 k2
 refine⟨_,(aV (cp (i:=3) RT.nd rfl (Or.inl rfl) Fb) (aV (ho (gO dH rfl) rfl (gG (FN (k4 aA) (bO (aj 0) rfl) (eN gx (aj 1) (aj 2) (fun _ _=>rfl)) (hb aM) ⟨rfl,rfl,rfl,rfl⟩)) (dj (i:=4) RT.nd rfl (Or.inl rfl)) (aV (cp (i:=5) RT.nd rfl (Or.inl rfl) (Ka (k4 aA) (bO (aj 0) rfl) (q' akd rfl T.X5 alu (aD (VB VF (aj 1) (yw (aj 2)) (yw (e4 m7 (aj 2) (aj 4)))) aM)) ⟨rfl,rfl,rfl,rfl⟩)) (bj (gh (PW.pt (abe (pL (aa' (aj 5))) (abb (PW.pt (abf (pL (yp (aj 3))) (abd (gK q9 (bO (aj 5) rfl) (bO (aj 3) rfl) (fe _)))))))) (bj (cp (i:=3) RT.nd rfl (Or.inl rfl) (aj 5))) ht)))) (bj (dK (aj 3))))),?_⟩;apply dY;intros;obtain⟨mH,acK⟩:=Zy oA;have aBR:(line.map nat)[k]?=some (nat x):=by simp[acK]
 have uv:=aqJ Sq x r;refine⟨_,Z,j,_,Hv,_,_,Z,bM,T.sv,T.QJ,Z,li,Z,.inl ⟨_,.inl rO⟩,?_⟩;refine⟨_,Z,_,Z,hD,_,_,_,Z,Z,aT.of an5,gM aBR,eY _,fun gP qQ=>?_⟩;have s1:aQ H (upd H gP (.lst [])):=ef (aQ.refl _) qQ;have Zq:(upd H gP (.lst [])) gP=some (.lst []):=a7;generalize upd H gP (.lst [])=H1 at *;refine⟨_,hT.k (k:=bI x) (s1 _ _ rO),?_⟩;obtain⟨q,ag5,an6⟩:∃ q,(dX la (bI x)).getD (.ref gP)=.ref q/\H1 q=some (.lst ((L x).map nat)):=by
  cases z:dX la (bI x)with
  |none=>exact⟨gP,Z,by rw[rE.no x z];exact Zq⟩
  |some v =>
   obtain⟨q,e,a0⟩:=rE.yes x v z;exact⟨q,e,s1 _ _ a0⟩
 refine⟨q,ag5,⟨_,aT.of an6⟩,?_⟩;have val:∀ n,dX kvs (((x::r).take n).map bI)=(uM (jG tt) (x::r) n).bind fun m=>(kvs[m]?).map fun bC=>bC.2:=fun n=>an3 (fun _ _ z=>z.1) _ pG;refine qy (xs:=(L x).map nat) (fun i σ aB=>aQ H1 aB/\∃ v s4 s5,σ=[some (.ref j),some (.ref hD),some (nat k),some v,s4,s5]/\(((L x).take i).foldl (Sr.gC (jG tt) (x::r)) none=none->v=.non) /\
   ∀ m,((L x).take i).foldl (Sr.gC (jG tt) (x::r)) none=some m->∃ bC,kvs[m]?=some bC/\v=bC.2)
  ⟨aQ.refl _,_,_,_,rfl,fun _=>rfl,fun m h=>by simp at h⟩ (fun i σ aB _ ⟨s,_⟩=>aT.of (s _ _ an6)) (fun i u σ aB cD ⟨s2,v,s4,s5,e,aR,k9⟩=>?_) fun σ aB ⟨s2,v,s4,s5,e,aR,k9⟩=>?_
 ·subst e;have hi:i<(L x).length:=by simpa using(eE.mp cD).1
  have an7:(L x)[i]?=some (L x)[i]:=dR hi;rw[ei,an7]at cD;cases cD;rw[take_snoc an7,oh];generalize (L x)[i]=n at *;generalize ((L x).take i).foldl (Sr.gC (jG tt) (x::r)) none=best at *;have j7:=s1.trans s2;refine⟨_,Z,j,_,Hv,_,_,Z,j7 _ _ bM,T.sv,T.Ce,Z,bi,Z,.inr ⟨_,.inl (j7 _ _ vr)⟩,?_⟩;refine⟨_,Z,_,Z,_,Z,_,Z,_,Z,_,_,Z,Z,_,Z,hD,_,Z,aT.of (j7 _ _ an5),fun hk gJ=>?_⟩;rw[an0 line (z' mH),oA];have s3:aQ aB (upd aB hk (.lst (((x::r).take n).map nat))):=ef (aQ.refl _) gJ;have aBS:(upd aB hk (.lst (((x::r).take n).map nat))) hk=some (.lst (((x::r).take n).map nat)):=a7;generalize upd aB hk (.lst (((x::r).take n).map nat))=aJ at *;refine⟨hk,_,Z,.inl ⟨aT.of aBS,fun U kN=>?_⟩⟩;have aBT:aQ aJ (upd aJ U (.tup (((x::r).take n).map nat))):=ef (aQ.refl _) kN;have aBU:(upd aJ U (.tup (((x::r).take n).map nat))) U=some (.tup ((((x::r).take n).map bI).map c0)):=by rw[a7,amj]
  generalize upd aJ U (.tup (((x::r).take n).map nat))=bB at *;have Tz:=(s2.trans s3).trans aBT;have sG:=s1.trans Tz;refine⟨_,hT.t (k:=((x::r).take n).map bI) (sG _ _ vr) aBU,?_⟩;rw[val n];cases xU:uM (jG tt) (x::r) n with
  |none =>
   refine⟨_,Z,_,Z,dD (fun h=>?_) fun _=>?_⟩
   ·have:(!decide (V.non=V.non))=true:=h
    simp at this
   ·refine FT ⟨Tz,v,_,_,rfl,?_,?_⟩
    ·simpa [Sr.gC,xU]using aR
    ·simpa [Sr.gC,xU]using k9
  |some m =>
   have hm:=aaO xU;obtain⟨⟨d,hd,_⟩,_⟩:=hm;obtain⟨bC,TF,nc,p,eO,Dq,aL⟩:=y7 pG (zip_get hd);have ev:((some m).bind fun m=>(kvs[m]?).map fun bC=>bC.2).getD V.non=.ref p:=by simp[TF,Dq]
   rw[ev];refine⟨_,Z,_,Z,dD (fun _=>?_) fun h=>absurd (show(!decide (V.ref p=V.non))=true by rw[zW];rfl) h⟩;cases an8:best with
   |none =>
    have ev:=aR an8;subst ev;refine⟨_,Z,_,Z,dD (fun _=>FW ⟨_,rfl,Tz,_,_,_,rfl,?_,?_⟩) fun h=>absurd (fu rfl) h⟩
    ·intro z;simp[Sr.gC,xU]at z
    ·intro dT z;simp[Sr.gC,xU]at z;subst z;exact⟨bC,TF,Dq.symm⟩
   |some b =>
    obtain⟨kb,YS,an9⟩:=k9 b an8;obtain⟨⟨db,ahs⟩,m_,Sy,pb,aBV,jF,Dj⟩:=mF pG YS;have aBW:ahs=b:=by
     have:=(eE.mp m_).2;simp at this;exact this.2.symm
    subst aBW;rw[jF]at an9;subst an9;refine⟨_,Z,_,Z,dD (fun h=>?_) fun _=>?_⟩
    ·rw[show decide (V.ref pb=V.non)=false from zW]at h;cases h
    refine⟨_,Z,p,_,eO,_,_,Z,sG _ _ aL,T.vo,T.QG,Z,_,Z,pb,_,aBV,_,_,Z,sG _ _ Dj,T.vo,T.QG,Z,_,_,Z,Z,_,Z,dD (fun h=>?_) fun h=>?_⟩
    ·have cZ:m<ahs:=by have:=h2 h;simp at this;omega
     refine⟨_,Z,Tz,_,_,_,Z,?_,?_⟩
     ·intro z;simp[Sr.gC,xU,cZ]at z
     ·intro dT z;simp[Sr.gC,xU,cZ]at z;subst z;exact⟨bC,TF,Dq.symm⟩
    ·have cZ:¬ m<ahs:=fun z=>h (fu (by simp;omega))
     refine⟨Tz,_,_,_,Z,?_,?_⟩
     ·intro z;simp[Sr.gC,xU,cZ]at z
     ·intro dT z;simp[Sr.gC,xU,cZ]at z;subst z;exact⟨kb,YS,jF.symm⟩
 ·subst e;rw[ew,fZ (cG _)]at aR k9;have j7:=s1.trans s2;refine⟨_,Z,?_⟩;unfold bestOf at uv;cases ak:(L x).foldl (Sr.gC (jG tt) (x::r)) none with
  |none =>
   rw[ak]at uv;have:nH tt x r=none:=by
    cases z:nH tt x r with
    |none=>rfl
    |some e=>rw[z]at uv;cases uv
   have ev:=aR ak;subst ev;exact k1 this aB j7
  |some m =>
   rw[ak]at uv;obtain⟨bC,TF,ev⟩:=k9 m ak;obtain⟨⟨d,im⟩,Av,h1,p,eO,aC,aL⟩:=mF pG TF;have aBX:(jG tt)[m]?=some d:=by
    have:=Av;rw[Iw]at this;cases z:(jG tt)[m]? with
    |none=>rw[z]at this;cases this
    |some w =>
     rw[z]at this;simp at this;rw[this.1]
   simp only[d4,aBX]at uv;cases z:nH tt x r with
   |none=>rw[z]at uv;cases uv
   |some e =>
    rw[z]at uv;simp only[gd,Option.some.injEq]at uv;subst uv;subst ev;rw[aC];exact k2 e z aB p eO _ j7 (j7 _ _ aL)
theorem zY(f:Font)(sk:Nat)(l:List Item):gZ f sk (l.map fun x=>x.sign)=dz (passed f sk) 0 l:=by
 unfold gZ;have e:(List.range (l.map fun x=>x.sign).length).filter (fun i=>!h4 f sk ((l.map fun x=>x.sign).getD i 0))=(List.range l.length).filter fun j=>(l[j]?).any fun x=>!passed f sk x:=by
  rw[ew];apply List.filter_congr;intro j bM;have aBY:j<l.length:=by simpa using bM
  rw[List.getD,ei,dR aBY];rfl
 rw[e,List.range_eq_range'];exact Uw _ l 0 _ fun j=>by rw[p7]
theorem aht(f:Font)(sk:Nat)(l:List Item):(gZ f sk (l.map fun x=>x.sign)).map (fun i=>(l.map fun x=>x.sign).getD i 0)=lineOf (passed f sk) l:=by
 rw[zY];refine Ux _ l 0 _ fun j x aq=>?_;simp[List.getD,aq]
theorem an_(f:Font)(sk:Nat)(ss:aK):(gZ f sk ss).Nodup:=by
 unfold gZ;exact List.Nodup.sublist List.filter_sublist List.nodup_range
def isKey(kvs:List (Key×V))(i:Nat):Bool:=(dX kvs (bI i)).isSome
theorem aBZ(kvs:List (Key×V))(i j:Nat)(v:V):isKey (putK kvs (bI i) v) j=(decide (j=i) || isKey kvs j):=by
 unfold isKey;rw[VP];by_cases h:j=i
 ·subst h;simp
 ·rw[bw (fun e=>h (n6.mp e))];simp[h]
def o8(kvs:List (Key×V))(is:aK):List (Key×V):=is.foldl (fun kvs i=>putK kvs (bI i) (.bl true)) kvs
theorem Zz:∀ (is:aK) (kvs:List (Key×V)) (j:Nat),isKey (o8 kvs is) j=(decide (j∈is) || isKey kvs j)
 | [],kvs,j=>by simp[o8]
 |i::is,kvs,j=>by
  show isKey (o8 (putK kvs (bI i) (.bl true)) is) j=_;rw[Zz is,aBZ];by_cases h1:j∈is<;>by_cases aC:j=i<;>simp[h1,aC]
theorem ZC:∀ (is:aK) (kvs:List (Key×V)),(o8 kvs is).length<=kvs.length+is.length
 | [],kvs=>by simp[o8]
 |i::is,kvs=>by
  have h1:=ZC is (putK kvs (bI i) (.bl true));have aC:=Bw kvs (bI i) (.bl true);show(o8 (putK kvs (bI i) (.bl true)) is).length<=_;rw[ek];omega
structure uw(ss left line:aK)(st:List (Option Nat))(k:Nat)(w:aK)(kvs:List (Key×V)):Prop where
 wl:w.length=ss.length
 TG:kvs.length<=k
 out:∀ i,i∉left->w.getD i 0=ss.getD i 0/\isKey kvs i=false
 done:∀ m q,left[m]?=some q->m<k->(∀ s,st[m]?=some (some s)->w.getD q 0=s/\isKey kvs q=false)/\(st[m]?=some none->isKey kvs q=true)
 todo:∀ m q,left[m]?=some q->k<=m->w.getD q 0=line.getD m 0/\isKey kvs q=false
theorem TJ(w:aK)(i j s:Nat)(h:i<w.length):(w.set i s).getD j 0=if j=i then s else w.getD j 0:=by
 rw[List.getD,List.getD];by_cases e:j=i
 ·subst e;rw[bL rfl,Iz h];rfl
 ·rw[bw e,I5 (fun z=>e z.symm)]
theorem ZD{l:aK}(h:l.Nodup){i j x:Nat}(a:l[i]?=some x)(b:l[j]?=some x):i=j:=avz h a b
theorem uw.next{ss left line:aK}{st:List (Option Nat)}{k:Nat}{w:aK}{kvs:List (Key×V)}(J:uw ss left line st k w kvs)(aH:st[k]?=some (some (line.getD k 0))):uw ss left line st (k+1) w kvs where
 wl:=J.wl
 TG:=by have:=J.TG;omega
 out:=J.out
 done:=fun m q a0 hm=>by
  by_cases h:m<k
  ·exact J.done m q a0 h
  ·have e:m=k:=by omega
   subst e;obtain⟨h1,aC⟩:=J.todo m q a0 (cG _);refine⟨fun s qT=>?_,fun qT=>?_⟩
   ·rw[aH]at qT;cases qT;exact⟨h1,aC⟩
   ·rw[aH]at qT;cases qT
 todo:=fun m q a0 hm=>J.todo m q a0 (by omega)
theorem uw.join{ss left line:aK}{st:List (Option Nat)}{k:Nat}{w:aK}{kvs:List (Key×V)}(J:uw ss left line st k w kvs)(nd:left.Nodup)(cZ:∀ q∈left,q<ss.length){n s gP:Nat}(qQ:left[k]?=some gP)(aH:st[k]?=some (some s))
  (aB0:∀ m,k<m->m<k+1+n->st[m]?=some none) (aR:k+1+n<=left.length):uw ss left line st (k+(n+1)) (w.set gP s) (o8 kvs ((left.drop (k+1)).take n)):=by
 have ahu:gP<w.length:=by rw[J.wl];exact cZ gP (f9 qQ)
 have mem:∀ m q,left[m]?=some q->(q∈(left.drop (k+1)).take n↔k<m/\m<k+1+n):=fun m q a0=>by
  constructor
  ·intro h;obtain⟨i,hi⟩:=Eb.mp h;have rF:i<n:=by
    have:=(eE.mp hi).1;rw[g0]at this;omega
   rw[x4 rF,z_]at hi;have:=ZD nd hi a0;omega
  ·rintro⟨h1,aC⟩;refine Eb.mpr ⟨m-(k+1),?_⟩;rw[x4 (by omega),z_,show k+1+(m-(k+1))=m by omega];exact a0
 refine⟨by simp[J.wl],?_,fun i hi=>?_,fun m q a0 hm=>?_,fun m q a0 hm=>?_⟩
 ·have h1:=ZC ((left.drop (k+1)).take n) kvs
  have aC:=J.TG;rw[g0]at h1;omega
 ·obtain⟨h1,aC⟩:=J.out i hi;have aap:i≠gP:=fun e=>hi (e▸f9 qQ);rw[TJ _ _ _ _ ahu,bw aap,Zz,aC];refine⟨h1,?_⟩;have:i∉(left.drop (k+1)).take n:=fun h=>hi (Uk (Ea h));simp[this]
 ·rw[TJ _ _ _ _ ahu,Zz];by_cases h:m<k
  ·have ahv:q≠gP:=fun e=>by
    rw[e]at a0;have:=ZD nd a0 qQ;omega
   have nm:q∉(left.drop (k+1)).take n:=fun z=>by
    have:=(mem m q a0).mp z;omega
   rw[bw ahv];simpa [nm]using J.done m q a0 h
  ·by_cases aC:m=k
   ·subst aC;have e:q=gP:=by
     rw[a0]at qQ;exact Option.some.inj qQ
    subst e;have nm:q∉(left.drop (m+1)).take n:=fun z=>by
     have:=(mem m q a0).mp z;omega
    refine⟨fun s' qT=>?_,fun qT=>?_⟩
    ·rw[aH]at qT;cases qT;rw[bL rfl];exact⟨Z,by simp[nm,(J.todo m q a0 (cG _)).2]⟩
    ·rw[aH]at qT;cases qT
   ·have b5:=aB0 m (by omega) (by omega)
    have aB1:q∈(left.drop (k+1)).take n:=(mem m q a0).mpr ⟨by omega,by omega⟩;refine⟨fun s' qT=>?_,fun _=>by simp[aB1]⟩;rw[b5]at qT;cases qT
 ·have ahv:q≠gP:=fun e=>by
   rw[e]at a0;have:=ZD nd a0 qQ;omega
  have nm:q∉(left.drop (k+1)).take n:=fun z=>by
   have:=(mem m q a0).mp z;omega
  rw[TJ _ _ _ _ ahu,bw ahv,Zz];have:=J.todo m q a0 (by omega);simpa [nm]using this
theorem uw.end_{f:Font}{sk:Nat}{l:List Item}{tt:List h_}{w:aK}{kvs:List (Key×V)}(J:uw (l.map fun x=>x.sign) (gZ f sk (l.map fun x=>x.sign)) (lineOf (passed f sk) l) (gf tt 0 (lineOf (passed f sk) l)) (lineOf (passed f sk) l).length w kvs) :
  ((List.range l.length).filter fun q=>!isKey kvs q).map (fun q=>w.getD q 0)=(jW (passed f sk) l (gf tt 0 (lineOf (passed f sk) l))).map (fun x=>x.sign) /\
  ((List.range l.length).filter fun q=>!isKey kvs q).map (fun q=>(l.map fun x=>x.from_).getD q 0)=(jW (passed f sk) l (gf tt 0 (lineOf (passed f sk) l))).map (fun x=>x.from_):=by
 rw[List.range_eq_range'];refine aas (passed f sk) (fun q=>w.getD q 0) (fun q=>(l.map fun x=>x.from_).getD q 0) (isKey kvs) l 0 _ (aar _ _ _) (fun j x aq=>⟨by simp[List.getD,aq],fun aL=>?_⟩) fun m q a0=>?_
 ·rw[p7];have aR:j∉gZ f sk (l.map fun x=>x.sign):=by
   unfold gZ;intro h;have:=(rR.mp h).2;rw[List.getD,ei,aq]at this;have uO:h4 f sk x.sign=true:=aL;simp[uO]at this
  obtain⟨h1,aC⟩:=J.out j aR;refine⟨?_,aC⟩;rw[h1];simp[List.getD,aq]
 ·rw[← zY]at a0;have Ew:m<(lineOf (passed f sk) l).length:=by
   have:=(eE.mp a0).1;rw[zY,Uv]at this;exact this
  exact J.done m q a0 Ew
theorem aB2(f:Font)(sk:Nat)(l:List Item)(st:List (Option Nat)):uw (l.map fun x=>x.sign) (gZ f sk (l.map fun x=>x.sign)) (lineOf (passed f sk) l) st 0 (l.map fun x=>x.sign) [] where
 wl:=rfl
 TG:=cG _
 out:=fun i _=>⟨rfl,rfl⟩
 done:=fun m q _ h=>absurd h (Ah _)
 todo:=fun m q a0 _=>⟨by
  have e:∀ (g:Nat->Nat),((gZ f sk (l.map fun x=>x.sign)).map g).getD m 0=g q:=fun g=>by
   rw[List.getD,ei,a0];rfl
  rw[← aht,e],rfl⟩
theorem aB3{tt:List h_}{line:aK}{k x:Nat}{r:aK}(aN:(gf tt 0 line).drop k=gf tt 0 (line.drop k))(hd:line.drop k=x::r)(hf:nH tt x r=none):(gf tt 0 line)[k]?=some (some x)/\(gf tt 0 line).drop (k+1)=gf tt 0 (line.drop (k+1)):=by
 have e:gf tt 0 (x::r)=some x::gf tt 0 r:=by rw[gf,hf]
 rw[hd,e]at aN;have aA:line.drop (k+1)=r:=by rw[← Ei,hd];rfl
 refine⟨(Zy aN).2,?_⟩;rw[aA,← Ei,aN];rfl
theorem aB4{tt:List h_}{line:aK}{k x:Nat}{r:aK}{a:h_}(aN:(gf tt 0 line).drop k=gf tt 0 (line.drop k))(hd:line.drop k=x::r)(hf:nH tt x r=some a) :
  (gf tt 0 line)[k]?=some (some a.2.2)/\(∀ m,k<m->m<k+1+a.2.1.length->(gf tt 0 line)[m]?=some none)/\(gf tt 0 line).drop (k+(a.2.1.length+1))=gf tt 0 (line.drop (k+(a.2.1.length+1)))/\k+1+a.2.1.length<=line.length:=by
 have q3:fits (a.2.1.map fun s=>[s]) r=true:=by
  have:=vZ hf;simp at this;exact this.2
 have yO:a.2.1.length<=r.length:=by
  have:=Eo q3;simpa using this
 have e:gf tt 0 (x::r)=some a.2.2::gf tt a.2.1.length r:=by rw[gf,hf]
 rw[aiL tt _ _ yO]at e;rw[hd,e]at aN;have hlen:(line.drop k).length=r.length+1:=by rw[hd];simp
 rw[oc]at hlen;have aA:line.drop (k+1)=r:=by rw[← Ei,hd];rfl
 have nc:(gf tt 0 line).drop (k+1)=List.replicate a.2.1.length none++gf tt 0 (r.drop a.2.1.length):=by
  rw[← Ei,aN];rfl
 refine⟨(Zy aN).2,fun m h1 aC=>?_,?_,by omega⟩
 ·have:(gf tt 0 line)[k+1+(m-(k+1))]?=some none:=by
   rw[← z_,nc,Uj (by simp;omega),List.getElem?_replicate,bL (by omega)]
  rwa [show k+1+(m-(k+1))=m by omega]at this
 ·rw[show k+(a.2.1.length+1)=k+1+a.2.1.length by omega,← Al,nc,← Al,aA];rw[List.drop_append,List.length_replicate,Nat.sub_self];simp
theorem aB5{te:TE}{tt:TT}{σ:St}{dA n:Nat}{H:ao}{D:au}{gv:ao->Prop}(sel:Nat->Bool)(hz:n<=65536)(bp:H D=none)
  (rA:∀ (i:Nat) H' (eo:bx) (N:ao->Prop),i<n->aQ H H'->(sel i=true->eo (nat i) H')->(sel i=false->N H')->tt ((wipe σ [dA]).set dA (some (.int (0+(i:Nat))))) H' fun b aJ=>if b=true then te ((wipe σ [dA]).set dA (some (.int (0+(i:Nat))))) aJ eo else N aJ)
  (k:gv (upd H D (.lst (((List.range n).filter sel).map nat)))) :
  ∃ W:Nat->Nat->ao->Prop,(∃ m,W 0 m (upd H D (.lst [])))/\∀ i m H,W i m H ->
   ((oK 0 n).stop i H/\gv H)\/((oK 0 n).go i H/\∃ fP:ao->Prop,(∀ H',fP H'->∃ dT,dT<m/\W (i+1) dT H')/\∀ x H',(oK 0 n).mc i H x H'->kW dA x (wipe σ [dA]) H' fun dV aB=>wipe dV [dA]=wipe σ [dA]/\tt dV aB fun b aJ =>
    if b=true then te dV aJ fun y bB=>∃ acc,bB D=some (.lst acc)/\acc.length<sizeLine/\fP (upd bB D (.lst (acc++[y])))else fP aJ):=by
 have bY:∀ zs,aQ H (upd H D (.lst zs)):=fun zs=>ef (aQ.refl _) bp;refine ab4 (lo:=0) (gv:=gv) (fun i H1=>H1=upd H D (.lst (((List.range i).filter sel).map nat))) rfl (fun i H1 hi e=>?_) fun H1 e=>e▸k;subst e;refine⟨by simp[wipe],rA i _ _ _ hi (bY _) (fun aH=>⟨_,a7,?_,?_⟩) fun aH=>?_⟩
 ·have:((List.range i).filter sel).length<=i:=jf (Eh _ _) (by simp)
  rw[ew];exact jQ (by omega)
 ·rw[ig,p2,x3];simp[aH]
 ·rw[p2,x3];simp[aH]
theorem xV(w:aK){i:Nat}(h:i<w.length):(w.map nat)[i]?=some (nat (w.getD i 0)):=by simp[List.getD,dR h]
theorem filter_lt{n:Nat}{sel:Nat->Bool}{i:Nat}(h:i∈(List.range n).filter sel):i<n:=by
 have:=(rR.mp h).1;simpa using this
theorem aB6(T:Txt K av t):cI P w K av base (cL P w) 2 t.Oz t.OD ["font","rule","row"] (H6 t fun s=>∃ tb,s=.joined tb):=by
 refine T.Rh.cY nW gb.cW ?_;rintro bJ A outer s H _ Q E aA ⟨bV,b,c,rfl,aY,f,r,row,l,rfl,rfl,jO,hf,d9,iy,iz,⟨dx,bF,ca,hC,gw,fO,dO,e2,hW⟩,aF,mL,k1,k2⟩;try simp only at k1 k2
 refine⟨_,(aV (cp (i:=3) nW.nd Z (Or.inl Z) (fj (aj 0) T.gn T.yP (H4 T) aA.bf T.GF .nil bh (aD (aj 1) (aD (bO (aj 2) Z) aM)))) (aV (w2 (i:=4) (own:=[("at",9)]) dH (fun _ _ z=>z) Z nW.nd Z Z (wV Z Z Z Z) (gG (aj 3)) (gW (by rfl)) (fun _ _ _ _ _=>dj (i:=9) nW.nd Z (Or.inl Z)) (fun _ _ _ _ _=>hx) (fun _ _ _ _ _=>(eN (Cu (K':=K) Z) (ry (K':=K) Z (aj 2) Z) (aj 9) (fun _ _=>Z)))) (aV (cp (i:=5) nW.nd Z (Or.inr Z) (q' abS Z T.GD Yi (aD (bO (aj 2) Z) aM))) (aV (cp (i:=6) nW.nd Z (Or.inr Z) FJ) (aV (cp (i:=7) nW.nd Z (Or.inl Z) b3) (aV (Vo (gO dH Z) (gK q9 (aj 7) (hv iG Z T.hA hM (aD (aj 4) aM)) (fe _)) (aV (cp (i:=8) nW.nd Z (Or.inl Z) (fj (bO (aj 1) Z) T.sv T.aey (aBQ T) aA.bf T.awJ .nil bh (aD (aj 4) (aD (aj 7) aM)))) (bj (gh (pL (yp (aj 8))) (bj (Fl (i:=7) nW.nd Z (Or.inl Z) b3 Bm)) (aV (Fj (bO (aj 8) Z) (Fg (aj 5) (eN gx (aj 3) (aj 7) (fun _ _=>Z)) set_list)) (aV (ho (gO dH Z) Z (gG (VB VF (aj 3) (yw (e4 m7 (aj 7) b3)) (yw (e4 m7 (aj 7) (bO (aj 8) Z))))) (dj (i:=9) nW.nd Z (Or.inl Z)) (bj (J_ (k4 aA) (aj 6) (aj 9) ajv Z))) (bj (Fl (i:=7) nW.nd Z (Or.inl Z) (bO (aj 8) Z) Bm)))))))) (aV (w2 (i:=10) (own:=[("at",9)]) dH (fun _ _ z=>z) Z nW.nd Z Z (wV Z Z Z Z) (mg Z T.jz (aD (hv iG Z T.hA hM (aD (aj 5) aM)) aM)) (gW (by rfl)) (fun _ _ _ _ _=>dj (i:=9) nW.nd Z (Or.inl Z)) (fun _ _ _ _ _=>(VK (pL (auX (k4 aA) (aj 9) (aj 6))))) (fun _ _ _ _ _=>(aj 9))) (bj (er (fj (aj 2) T.eA T.Ci (Tr T) aA.bf T.RP .nil bh (aD (iH (own:=[("at",9)]) dH (fun _ _ z=>z) Z nW.nd (gG (aj 10)) (gW (by rfl)) (fun _ _ _ _ _=>dj (i:=9) nW.nd Z (Or.inl Z)) (fun _ _ _ _ _=>hx) (fun _ _ _ _ _=>(eN (Cu (K':=K) Z) (aj 5) (aj 9) (fun _ _=>Z)))) (aD (iH (own:=[("at",9)]) dH (fun _ _ z=>z) Z nW.nd (gG (aj 10)) (gW (by rfl)) (fun _ _ _ _ _=>dj (i:=9) nW.nd Z (Or.inl Z)) (fun _ _ _ _ _=>hx) (fun _ _ _ _ _=>(eN (Cu (K':=K) Z) (ry (K':=K) Z (aj 2) Z) (aj 9) (fun _ _=>Z)))) aM)))))))))))),?_⟩;apply Gg;intros;obtain⟨tt,hj⟩:=jO;have kV:=iz.at;obtain⟨fl,fX,rb,e,hY,hK⟩:=iz;subst e;have hK:Sx t H rb tt:=by
  have z:rH t H rb r.rule:=hK;rw[hj]at z;exact z
 have ur:chg f r l=some (jW (passed f r.skip) l (gf tt 0 (lineOf (passed f r.skip) l))):=by unfold chg;rw[hj]
 have H_:=aht f r.skip l;have aB7:=aB2 f r.skip l (gf tt 0 (lineOf (passed f r.skip) l));have aB8:=fun w kvs=>uw.end_ (f:=f) (sk:=r.skip) (l:=l) (tt:=tt) (w:=w) (kvs:=kvs);have Wh:=an_ f r.skip (l.map fun x=>x.sign);have Dr:∀ q∈gZ f r.skip (l.map fun x=>x.sign),q<(l.map fun x=>x.sign).length:=fun q a0=>aho a0;have Zv:(l.map fun x=>x.sign).length=l.length:=by simp
 have jm:∀ s∈l.map (fun x=>x.sign),s<f.cls.length:=fun s aH=>by
  obtain⟨x,aq,rfl⟩:=g5.mp aH;rw[d9.cl];exact mL x aq
 have yd:(l.map fun x=>x.from_).length=l.length:=by simp
 generalize l.map (fun x=>x.from_)=Ia at *;generalize l.map (fun x=>x.sign)=ss at *;obtain⟨dN,_,_,_,_,_,_,_,fc,_⟩:=id hf;refine⟨_,Z,aY,dN,_,Z,fc,Z,_,Z,_,Z,row,_,dx,_,_,Z,dO,T.eA,T.iv,Z,?_⟩;refine⟨_,_,_,Z,aY,f,r.skip,bF,ss,Z,Z,hf,kV,e2,d9.sk r iy,by omega,jm,d9.r4,fun o9 H1 s1 aB9 kB=>?_⟩;have hlen:(gZ f r.skip ss).length<=4096:=jf Zt (by omega);have hline:(lineOf (passed f r.skip) l).length=(gZ f r.skip ss).length:=by rw[← H_,ew]
 generalize gZ f r.skip ss=left at *;generalize lineOf (passed f r.skip) l=line at *;refine⟨_,Z,o9,Z,⟨_,aT.of kB⟩,fun hL w1=>?_⟩;refine n3 (line.map nat) (by simp[hline]) (aT.of kB) (by simp;omega) w1 (fun i v y H' eo aZ aP aH q=>?_) ?_
 ·rw[ei]at aZ;cases e:left[i]? with
  |none=>rw[e]at aZ;cases aZ
  |some tC =>
   rw[e]at aZ;cases aZ;have a0:=Dr tC (f9 e);have gj:y=nat (ss.getD tC 0):=by
    rw[← H_,ei,ei,e]at aP;exact(Option.some.inj aP).symm
   subst gj;have s2:=s1.trans aH;exact⟨_,Z,row,_,dx,_,_,Z,s2 _ _ dO,T.eA,T.iv,Z,_,Z,bF,_,_,_,Z,Z,aT.of (s2 _ _ e2),gM (xV ss a0),q⟩
 have s2:aQ H1 (upd H1 hL (.lst (line.map nat))):=ef (aQ.refl _) w1;have m8:(upd H1 hL (.lst (line.map nat))) hL=some (.lst (line.map nat)):=a7;generalize upd H1 hL (.lst (line.map nat))=aB at *;have j7:=s1.trans s2;refine⟨_,Z,row,_,dx,_,_,Z,j7 _ _ dO,T.eA,T.iv,Z,bF,_,Z,.inl (aT.of (j7 _ _ e2)),fun S dZ=>?_⟩;have s3:aQ aB (upd aB S (.lst (ss.map nat))):=ef (aQ.refl _) dZ;have mQ:(upd aB S (.lst (ss.map nat))) S=some (.lst (ss.map nat)):=a7;generalize upd aB S (.lst (ss.map nat))=aJ at *;intro lb ahw;have ahx:lb≠S:=(bQ mQ ahw).symm;have Ds:aB lb=none:=s3.free ahw;have sB:aQ aB (upd aJ lb (.dW [])):=s3.trans (ef (aQ.refl _) ahw);have ahy:(upd aJ lb (.dW [])) S=some (.lst (ss.map nat)):=by rw[a6 ahx.symm];exact mQ
 have aB_:(upd aJ lb (.dW [])) lb=some (.dW []):=a7;generalize upd aJ lb (.dW [])=bB at *;refine abq (fun σ b2=>∃ k w kvs kE yN,σ=[some (.ref aY),some (.ref fl),some (.ref row),some (.ref o9),some (.ref hL),some (.ref S),some (.ref lb),some (nat k),kE,yN,none]/\aQ aB b2/\b2 S=some (.lst (w.map nat))/\b2 lb=some (.dW kvs)/\k<=line.length/\(gf tt 0 line).drop k=gf tt 0 (line.drop k)/\uw ss left line (gf tt 0 line) k w kvs)
  (fun σ _=>match σ with
   | [_,_,_,_,_,_,_,some (.int a),_,_,_]=>5000-a.toNat
   |_=>0) ⟨0,ss,[],_,_,rfl,sB,ahy,aB_,eY _,rfl,aB7⟩ (fun σ b2 ⟨k,w,kvs,kE,yN,e,s5,TP,Ib,aN,m1,J⟩=>?_) (fun σ H Q eo h ⟨v,e,v2,a8,p,bN,dr,ov,i,j,a,b,dA,zT,q⟩=>⟨v,e,v2,a8,p,bN,dr,ov,i,j,a,b,dA,zT,h _ _ q⟩)
 subst e;have pX:=j7.trans s5;refine⟨_,Z,_,Z,hL,_,Z,.inl (aT.of (s5 _ _ m8)),_,_,Z,Z,_,Z,dD (fun ak=>?_) fun ak=>?_⟩
 ·have mH:k<line.length:=by
   have:=h2 ak;simp at this;exact this
  have oA:line.drop k=line[k]::line.drop (k+1):=z7 mH;have pw:line.getD k 0=line[k]:=by simp[List.getD,dR mH]
  have ahz:left[k]?=some (left[k]'(by omega)):=dR (by omega);generalize left[k]'(by omega)=gP at *;generalize line[k]=x at *;have an':=amv _ _ _ _ pX hK;obtain⟨aB',aHD,aCa,⟨Hv,azx,azy,aHE,aHF,aCb,_⟩,_⟩:=id an';refine⟨_,Z,fl,_,fX,_,_,Z,pX _ _ hY,T.jx,T.rt,Z,aB',Hv,_,aCa,aCb,Z,_,Z,_,Z,?_⟩;refine⟨_,_,_,Z,tt,hL,line,k,x,line.drop (k+1),an',Z,Z,s5 _ _ m8,oA,fun ZF eH cU=>?_,fun a zZ eH p eO o cU aL=>?_⟩
  ·
   obtain⟨gk,eG⟩:=aB3 m1 oA ZF;refine⟨_,Z,_,Z,dD (fun _=>?_) fun h=>absurd (fu rfl) h⟩;refine⟨_,Z,_,_,Z,Z,⟨k+1,w,kvs,_,_,Z,s5.trans cU,cU _ _ TP,cU _ _ Ib,mH,eG,J.next (by rw[pw];exact gk)⟩,?_⟩;show 5000-((k:Int)+1).toNat<5000-(k:Int).toNat;omega
  ·
   obtain⟨gk,eG,nf,Gh⟩:=aB4 m1 oA zZ;refine⟨_,Z,_,Z,dD (fun h=>?_) fun _=>?_⟩
   ·rw[show decide (V.ref p=V.non)=false from zW]at h;cases h
   have qQ:gP<w.length:=by rw[J.wl];exact Dr gP (f9 ahz)
   have aoa:=s5.trans cU;have ZG:eH o9=some (.lst (left.map nat)):=aoa _ _ (s2 _ _ kB);have aCc:(left.map nat)[k]?=some (nat gP):=by simp[ahz]
   refine⟨_,Z,p,_,eO,_,_,Z,aL,T.vo,T.W0,Z,_,Z,_,Z,_,Z,o9,_,_,_,Z,Z,aT.of ZG,gM aCc,S,_,_,gP,Z,Z,cU _ _ TP,vM (by simp;exact qQ),?_⟩;rw[Zu];have zH:∀ b o,b≠S->eH b=some o->(upd eH S (.lst ((w.set gP a.2.2).map nat))) b=some o:=fun b o n e=>by rw[a6 n];exact e
   have aob:(upd eH S (.lst ((w.set gP a.2.2).map nat))) S=some (.lst ((w.set gP a.2.2).map nat)):=a7;generalize upd eH S (.lst ((w.set gP a.2.2).map nat))=dB at *;have aCd:p≠S:=hN aL (cU _ _ TP) (by intro z;cases z);have aCe:o9≠S:=bQ (s2 _ _ kB) dZ;have aCf:aQ aB dB:=fun b o e=>zH b o (bQ e dZ) (aoa _ _ e);have ahA:=zH _ _ ahx (cU _ _ Ib);have zN:=zH _ _ aCd aL;refine⟨_,Z,_,Z,_,_,Z,Z,_,Z,_,Z,_,Z,p,_,eO,_,_,Z,zN,T.vo,T.QH,Z,_,_,Z,Z,_,Z,o9,_,Z,aT.of (zH _ _ aCe ZG),fun Y iw=>?_⟩;have aCg:ti (left.map nat) (some ((k:Int)+1)) (some ((k:Int)+((a.2.1.length+1:Nat):Int)))=((left.drop (k+1)).take a.2.1.length).map nat:=by
    have:=an1 left (a:=k+1) (b:=k+(a.2.1.length+1)) (by omega) (by omega);rw[show k+(a.2.1.length+1)-(k+1)=a.2.1.length by omega]at this;rw[← this];congr 2
   rw[aCg];have aCh:lb≠Y:=bQ ahA iw;have aHG:S≠Y:=bQ aob iw;have aHH:p≠Y:=bQ zN iw;have aoc:(upd dB Y (.lst (((left.drop (k+1)).take a.2.1.length).map nat))) Y=some (.lst (((left.drop (k+1)).take a.2.1.length).map nat)):=a7;have rJ:aQ dB (upd dB Y (.lst (((left.drop (k+1)).take a.2.1.length).map nat))):=ef (aQ.refl _) iw;generalize upd dB Y (.lst (((left.drop (k+1)).take a.2.1.length).map nat))=mD at *;have Kl:((left.drop (k+1)).take a.2.1.length).length<=4096:=by rw[g0,oc];omega
   refine⟨Y,Z,⟨_,aT.of aoc⟩,?_⟩;refine qy (xs:=((left.drop (k+1)).take a.2.1.length).map nat) (fun j σ iV=>(∃ yN,σ=[some (.ref aY),some (.ref fl),some (.ref row),some (.ref o9),some (.ref hL),some (.ref S),some (.ref lb),some (nat k),some (.ref p),yN,none])/\(∀ b o,b≠lb->mD b=some o->iV b=some o)/\iV lb=some (.dW (o8 kvs (((left.drop (k+1)).take a.2.1.length).take j)))) ⟨⟨_,rfl⟩,fun _ _ _ e=>e,rJ _ _ ahA⟩ (fun j σ iV _ ⟨_,Dt,_⟩=>aT.of (Dt _ _ aCh.symm aoc)) (fun j v σ iV aZ ⟨⟨yN,e⟩,Dt,ZJ⟩=>?_) fun σ iV ⟨⟨yN,e⟩,Dt,ZJ⟩=>?_
   ·subst e;have bM:j<((left.drop (k+1)).take a.2.1.length).length:=by simpa using(eE.mp aZ).1
    have lE:=dR bM;rw[ei,lE]at aZ;cases aZ;rw[take_snoc lE];generalize ((left.drop (k+1)).take a.2.1.length)[j]=aCi at *;refine⟨_,Z,_,Z,lb,_,Z,tA.k (k:=bI aCi) ZJ ?_,⟨_,Z⟩,fun b o n e=>by rw[a6 n];exact Dt _ _ n e,?_⟩
    ·have h1:=ZC (((left.drop (k+1)).take a.2.1.length).take j) kvs
     have aC:=J.TG;rw[g0 (i:=j)]at h1;exact jQ (by omega)
    ·rw[a7];unfold o8;rw[oh];rfl
   ·subst e;rw[ew,fZ (cG _)]at ZJ;have aCj:p≠lb:=hN zN ahA (by intro z;cases z);refine⟨_,Z,_,Z,p,_,eO,_,_,Z,Dt _ _ aCj (rJ _ _ zN),T.vo,T.QH,Z,_,_,Z,Z,⟨k+(a.2.1.length+1),_,_,_,_,Z,fun b o e=>Dt b o (bQ e Ds) (rJ _ _ (aCf _ _ e)),Dt _ _ ahx.symm (rJ _ _ aob),ZJ,by omega,nf,J.join Wh Dr ahz gk eG (by omega)⟩,?_⟩;show 5000-((k:Int)+((a.2.1.length+1:Nat):Int)).toNat<5000-(k:Int).toNat;omega
 ·have mH:k=line.length:=by
   have:¬ (k:Int)<((line.map nat).length:Int):=fun z=>ak (fu z);simp at this;omega
  subst mH;obtain⟨bD,a8⟩:=aB8 w kvs J;have Ew:=Eu (passed f r.skip) l (gf tt 0 line);have lB:=J.wl;refine⟨_,Z,S,_,Z,.inl (aT.of TP),_,Z,by omega,by simp;omega,fun z0 ahB=>?_⟩;refine aB5 (n:=(w.map nat).length) (fun i=>!isKey kvs i) (by simp;omega) ahB (fun i H' eo N hi aH h1 aC=>?_) ?_
  ·refine⟨_,Z,_,Z,lb,_,Z,hT.k (k:=Sum.inl (0+(i:Nat))) (aH _ _ Ib),_,Z,?_⟩;have u9:(Sum.inl (0+((i:Nat):Int)):Key)=bI i:=by rw[Int.zero_add]
   rw[u9];refine dD (fun jF=>⟨_,rfl,?_⟩) fun jF=>aC (by show(!(dX kvs (bI i)).isSome)=false;exact Bool.eq_false_iff.mpr jF);rw[Int.zero_add];exact h1 jF
  rw[ew,lB,Zv];have aod:aQ b2 (upd b2 z0 (.lst (((List.range l.length).filter fun i=>!isKey kvs i).map nat))):=ef (aQ.refl _) ahB;have ZK:(upd b2 z0 (.lst (((List.range l.length).filter fun i=>!isKey kvs i).map nat))) z0=some (.lst (((List.range l.length).filter fun i=>!isKey kvs i).map nat)):=a7;generalize upd b2 z0 (.lst (((List.range l.length).filter fun i=>!isKey kvs i).map nat))=eH at *;have cZ:∀ i∈(List.range l.length).filter fun i=>!isKey kvs i,i<l.length:=fun i hi=>filter_lt hi;have Wd:((List.range l.length).filter fun i=>!isKey kvs i).length<=4096:=jf (Eh _ _) (by simp;omega);generalize (List.range l.length).filter (fun i=>!isKey kvs i)=stay at *;have vN:=pX.trans aod;refine⟨_,Z,row,dx,_,Z,vN _ _ dO,Z,?_⟩;refine⟨_,Z,z0,Z,⟨_,aT.of ZK⟩,fun Du H8=>?_⟩;refine n3 ((stay.map fun q=>w.getD q 0).map nat) (by simp) (aT.of ZK) (by simp;omega) H8 (fun i v y H' eo aZ aP aH q=>?_) ?_
  ·rw[ei]at aZ;cases e:stay[i]? with
   |none=>rw[e]at aZ;cases aZ
   |some tC =>
    rw[e]at aZ;cases aZ;rw[ei,ei,e]at aP;cases aP;exact⟨_,Z,_,Z,S,_,_,_,Z,Z,aT.of (aH _ _ (aod _ _ TP)),gM (xV w (by rw[lB,Zv];exact cZ tC (f9 e))),q⟩
  have fx:aQ eH (upd eH Du (.lst ((stay.map fun q=>w.getD q 0).map nat))):=ef (aQ.refl _) H8;have aoe:(upd eH Du (.lst ((stay.map fun q=>w.getD q 0).map nat))) Du=some (.lst ((stay.map fun q=>w.getD q 0).map nat)):=a7;generalize upd eH Du (.lst ((stay.map fun q=>w.getD q 0).map nat))=dB at *;refine⟨_,Z,z0,Z,⟨_,aT.of (fx _ _ ZK)⟩,fun P2 ahC=>?_⟩;have pY:=vN.trans fx;refine n3 ((stay.map fun q=>Ia.getD q 0).map nat) (by simp) (aT.of (fx _ _ ZK)) (by simp;omega) ahC (fun i v y H' eo aZ aP aH q=>?_) ?_
  ·rw[ei]at aZ;cases e:stay[i]? with
   |none=>rw[e]at aZ;cases aZ
   |some tC =>
    rw[e]at aZ;cases aZ;rw[ei,ei,e]at aP;cases aP;have xW:=pY.trans aH;exact⟨_,Z,row,_,dx,_,_,Z,xW _ _ dO,T.eA,T.w5,Z,_,Z,ca,_,_,_,Z,Z,aT.of (xW _ _ hW),gM (xV Ia (by rw[yd];exact cZ tC (f9 e))),q⟩
  have ahD:aQ dB (upd dB P2 (.lst ((stay.map fun q=>Ia.getD q 0).map nat))):=ef (aQ.refl _) ahC;have aCk:(upd dB P2 (.lst ((stay.map fun q=>Ia.getD q 0).map nat))) P2=some (.lst ((stay.map fun q=>Ia.getD q 0).map nat)):=a7;generalize upd dB P2 (.lst ((stay.map fun q=>Ia.getD q 0).map nat))=mD at *;have xW:=pY.trans ahD;refine⟨_,_,_,Z,row,dx,bF,ca,Du,P2,hC,gw,fO,_,Z,Z,Z,xW _ _ dO,ahD _ _ aoe,fun _=>?_,fun h=>?_⟩
  ·have n1:Du≠row:=(bQ (vN _ _ dO) H8).symm
   have n2:P2≠row:=(bQ (pY _ _ dO) ahC).symm;refine k1 _ _ ur (fun b o n e=>by rw[a6 (by simpa using n)];exact xW _ _ e) ⟨dx,Du,P2,hC,gw,fO,a7,?_,?_⟩
   ·rw[a6 n1,ahD _ _ aoe,bD]
   ·rw[a6 n2,aCk,a8]
  ·simp at h;omega
theorem aCl(A:List (Nat×Nat))(fr s:Nat):(dX (mapA A) (bI s)).getD (nat fr)=nat (jh A fr s):=by
 rw[agj];unfold jh;cases pC A s<;>rfl
inductive aof(t:bW)(s a b:V)(H:ao)(Q:bx)(pT:cM):Prop
 |mk (rows d fL) (ss:aK) (z:Int):CJ t rows d H s->a=.ref fL->H fL=some (.lst (ss.map nat))->b=.int z->Q (nat (Jr rows d (if z<0 then none else ss[z.toNat]?))) H->aof t s a b H Q pT
def aCm(t:bW):eX:=gb (aof t)
theorem aog(T:Txt K av t):cI P w K av base (cL P w) 1 t.KD t.KH ["self","signs","at"] (aCm t):=by
 refine T.Wq.cY axF gb.cW ?_;rintro bJ A outer s H _ Q E aA ⟨bV,a1,a2,rfl,rows,d,fL,ss,z,⟨p,dx,m,rfl,aL,hm⟩,rfl,qH,rfl,k1⟩;refine⟨_,(aV (gh (PW.pt (abf (gK q9 (aj 2) b3 (fe _)) (abd (gK abz (aj 2) (hv iG rfl T.hA hM (aD (aj 1) aM)) (fe _))))) (bj (dK (bO (aj 0) rfl))) ht) (bj (dK (FN (k4 aA) (bO (aj 0) rfl) (eN gx (aj 1) (aj 2) (fun _ _=>rfl)) (bO (aj 0) rfl) ⟨rfl,rfl,rfl,rfl⟩)))),?_⟩;apply cA;intros;refine⟨_,Z,_,_,Z,Z,_,Z,dD (fun h=>?_) fun h=>?_⟩
 ·have hz:z<0:=h2 h
  rw[bL hz]at k1;exact⟨_,Z,p,_,dx,_,_,Z,aL,T.vm,T.Gl,Z,k1⟩
 ·have hz:¬ z<0:=fun w=>h (fu w)
  rw[bw hz]at k1;refine⟨_,Z,_,Z,fL,_,Z,.inl (aT.of qH),_,_,Z,Z,_,Z,dD (fun aC=>?_) fun aC=>?_⟩
  ·have sH:ss.length<=z.toNat:=by
    have:=h2 aC;simp at this;omega
   rw[qY sH]at k1;exact⟨_,Z,p,_,dx,_,_,Z,aL,T.vm,T.Gl,Z,k1⟩
  ·have sH:z.toNat<ss.length:=by
    have:¬ ((ss.map nat).length:Int)<=z:=fun w=>aC (fu w);simp at this;omega
   rw[dR sH]at k1;have b5:(ss.map nat)[z.toNat]?=some (nat ss[z.toNat]):=by simp[sH]
   refine⟨_,Z,p,_,dx,_,_,Z,aL,T.vm,T.Wn,Z,m,Z,.inl ⟨_,.inl hm⟩,_,Z,_,Z,fL,_,_,_,Z,Z,aT.of qH,at_of (j:=z.toNat) (by omega) b5,?_⟩;refine⟨_,Z,p,_,dx,_,_,Z,aL,T.vm,T.Gl,Z,_,hT.k (k:=bI ss[z.toNat]) hm,?_⟩;rw[aCl];exact k1
theorem aCn(b:Nat)(ak:b≠0):Builtin.bitAnd (b:Int) (-(b:Int))=((b-(b &&& (b-1)):Nat):Int):=by
 have bD:decide ((0:Int)<=(b:Int))=true:=fu (by omega);have a8:decide ((0:Int)<=-(b:Int))=false:=oo (by omega);have dr:(Builtin.bitNot (-(b:Int))).toNat=b-1:=by
  unfold Builtin.bitNot;omega
 have hle:b &&& (b-1)<=b:=Nat.and_le_left;unfold Builtin.bitAnd;rw[bD,a8];simp only[dr,I8];omega
theorem aCo(m:Nat):Builtin.Int.intBits ((2 ^ m:Nat):Int)=m+1:=by
 unfold Builtin.Int.intBits;have h:((2 ^ m:Nat):Int)≠0:=by
  have:=Nat.two_pow_pos m;omega
 rw[bw (by simpa using h),Int.natAbs_natCast,Nat.log2_two_pow]
inductive aoh(t:bW)(s a b c:V)(H:ao)(Q:bx)(xC:cM):Prop
 |mk (G l hD) (line:aK) (k pl) (past:aK):aQ G H->zA t G s l->a=.ref hD->b=nat k->c=.ref pl->H hD=some (.lst (line.map nat))->H pl=some (.lst (past.map nat))->l.length<=64->past.length<=65536->(pA l past.reverse (line.drop k)=none->∀ H',aQ H H'->Q .non H')->(∀ e,e∈l->pA l past.reverse (line.drop k)=some e->∀ H' v,aQ H H'->zc t G v e->Q v H')->aoh t s a b c H Q xC
def aCp(t:bW):eX:=nk (aoh t)
theorem aCq(T:Txt K av t):cI P w K av base (cL P w) 2 t.KQ t.KR ["self","line","at","past"] (aCp t):=by
 refine T.Wv.cY xg nk.cW ?_;rintro bJ A outer s H _ Q E aA ⟨bV,a1,a2,a3,rfl,G,l,hD,line,k,pl,past,nr,⟨x,dx,Hw,k_,ez,rfl,Yz,⟨ha,SN,rfl,aCr,hy⟩,⟨aCs,Dv,rfl,aCt,aCu,abM,aCv⟩,⟨ba,vC,rfl,aCw,Sy,jF,aCx⟩⟩,rfl,rfl,rfl,zv,g6,aF,vL,k1,k2⟩;try simp only at k1 k2
 refine⟨_,(aV (cp (i:=4) xg.nd Z (Or.inl Z) (e4 kv (e4 abw b3 (hv iG Z T.hA hM (aD (bO (aj 0) Z) aM))) b3)) (aV (ho (gO dH Z) Z (BK Z T.w7 (aD (bO (aj 0) Z) aM)) (s7 Z (jL (dj (i:=5) xg.nd Z (Or.inl Z)) (jL (dj (i:=6) xg.nd Z (Or.inl Z)) r6))) (aV (Fl (i:=4) xg.nd Z (Or.inl Z) (fj (aj 6) T.vm T.Wr (aog T) aA.bf T.ak6 .nil bh (aD (aj 1) (aD (e4 m7 (aj 2) (aj 5)) aM))) ajL) (bj (gh (gK jN (aj 4) b3 (fe _)) (bj (dK Fb)) ht)))) (aV (ho (gO dH Z) Z (BK Z T.w7 (aD (bO (aj 0) Z) aM)) (s7 Z (jL (dj (i:=5) xg.nd Z (Or.inl Z)) (jL (dj (i:=6) xg.nd Z (Or.inl Z)) r6))) (bj (Fl (i:=4) xg.nd Z (Or.inl Z) (fj (aj 6) T.vm T.Wr (aog T) aA.bf T.ak6 .nil bh (aD (aj 3) (aD (e4 kv (e4 kv (hv iG Z T.hA hM (aD (aj 3) aM)) b3) (aj 5)) aM))) ajL))) (aV (gh (gK jN (aj 4) b3 (fe _)) (bj (dK Fb)) ht) (aV (cp (i:=7) xg.nd Z (Or.inl Z) (e4 abx (aj 4) (abu aby (aj 4)))) (bj (dK (eN gx (bO (aj 0) Z) (e4 kv (aub PySem.F.plainAttrs_int PySem.F.slot_int_bit_length PySem.F.type_int_bit_length awm (aj 7)) b3) (fun _ _=>Z))))))))),?_⟩;apply wL;intros;have V4:SN.length=l.length:=f5 hy;have aq:=nr _ _ Yz;have ua:=nr _ _ aCr;have aoi:=nr _ _ aCt;have CN:=nr _ _ aCw;have aCy:=fun d s h=>zf nr (aCv d s h);have xR:=fun d s h=>zf nr (aCx d s h);refine⟨_,Z,x,_,dx,_,_,Z,aq,T.tH,T.Gm,Z,ha,_,Z,.inl (aT.of ua),_,_,Z,Z,agm (by omega),_,_,Z,Z,?_⟩;have fy:(1:Int) * 2 ^ ((SN.length:Nat):Int).toNat-1=((2 ^ l.length-1:Nat):Int):=by
  have aC:=Nat.two_pow_pos l.length;have bD:(1:Int) * 2 ^ ((SN.length:Nat):Int).toNat=((2 ^ l.length:Nat):Int):=by rw[V4];simp
  rw[bD];generalize 2 ^ l.length=N at *;omega
 simp only[fy];have ZL:=aqQ (t:=l) (line:=line.drop k) (past:=past.reverse) (n1:=Dv.length) (n2:=vC.length) (fun a aW=>aCu _ (I_ aW)) (fun a aW=>Sy _ (I_ aW));refine⟨_,Z,x,_,dx,_,_,Z,aq,T.tH,T.Ws,Z,aCs,_,Z,aT.of aoi,?_⟩;refine Ho (xs:=Dv) (fun i σ H1=>aQ H H1/\∃ s5 cU fx,σ=[some (.ref x),some (.ref hD),some (nat k),some (.ref pl),some (nat (lX (oY l) (line.drop k) i (2 ^ l.length-1))),s5,cU,fx]) ⟨aQ.refl _,_,_,_,rfl⟩ (fun i σ H1 _ ⟨s,_⟩=>aT.of (s _ _ aoi)) (fun i v ey σ H1 aZ ⟨s1,s5,cU,fx,e⟩ cv=>?_) fun σ H1 ⟨s1,s5,cU,fx,e⟩=>?_
 ·subst e;have s2:aQ H1 (upd H1 ey (.tup [nat i,v])):=ef (aQ.refl _) cv;generalize upd H1 ey (.tup [nat i,v])=aB at *;have j7:=s1.trans s2;have rs:=zf j7 (aCy i v aZ);obtain⟨p,eO,m,e,aL,_⟩:=id rs;subst e;refine⟨_,Z,_,Z,p,eO,_,Z,aL,Z,_,Z,_,Z,_,Z,_,_,Z,Z,?_⟩;refine⟨_,_,_,Z,oY l,i,hD,line,(k:Int)+(i:Int),rs,Z,j7 _ _ zv,Z,?_⟩;rw[bw (by omega),show((k:Int)+(i:Int)).toNat=k+i by omega,← z_];refine⟨_,_,Z,Z,?_⟩;simp only[ahk];rw[← Js];refine⟨_,Z,Z,_,Z,dD (fun ak=>?_) fun _=>⟨j7,_,_,_,rfl⟩⟩;have hz:lX (oY l) (line.drop k) (i+1) (2 ^ l.length-1)=0:=by have:=j8 ak;omega
  have hi:i<Dv.length:=(eE.mp aZ).1;have sH:=aqO (oY l) (line.drop k) (n:=Dv.length) hi hz;refine k1 (ai_ ZL ?_) aB j7;have aCz:lX (l.map fun a=>a.here++a.behind) (line.drop k) Dv.length (2 ^ l.length-1)=0:=sH;rw[aCz,ai6]
 subst e;refine⟨_,Z,x,_,dx,_,_,Z,s1 _ _ aq,T.tH,T.Wt,Z,ba,_,Z,aT.of (s1 _ _ CN),?_⟩;generalize aCA:lX (oY l) (line.drop k) Dv.length (2 ^ l.length-1)=B0 at *;refine Ho (xs:=vC) (fun i σ aB=>aQ H aB/\∃ s5 cU fx,σ=[some (.ref x),some (.ref hD),some (nat k),some (.ref pl),some (nat (lX (sA l) past.reverse i B0)),s5,cU,fx]) ⟨s1,_,_,_,rfl⟩ (fun i σ aB _ ⟨s,_⟩=>aT.of (s _ _ CN)) (fun i v ey σ aB aZ ⟨s2,s5,cU,fx,e⟩ cv=>?_) fun σ aB ⟨s2,s5,cU,fx,e⟩=>?_
 ·subst e;have s3:aQ aB (upd aB ey (.tup [nat i,v])):=ef (aQ.refl _) cv;generalize upd aB ey (.tup [nat i,v])=aJ at *;have oa:=s2.trans s3;have rs:=zf oa (xR i v aZ);obtain⟨p,eO,m,e,aL,_⟩:=id rs;subst e;refine⟨_,Z,_,Z,p,eO,_,Z,aL,Z,_,Z,_,Z,pl,_,Z,.inl (aT.of (oa _ _ g6)),_,_,Z,Z,_,Z,_,_,Z,Z,?_⟩;refine⟨_,_,_,Z,sA l,i,pl,past,_,rs,Z,oa _ _ g6,Z,?_⟩;have ex:(if(((past.map nat).length:Nat):Int)-1-((i:Nat):Int)<0 then none else past[((((past.map nat).length:Nat):Int)-1-((i:Nat):Int)).toNat]?)=past.reverse[i]?:=by
   rw[ew];by_cases hi:i<past.length
   ·rw[bw (by omega),List.getElem?_reverse hi];congr 1
    omega
   ·rw[bL (by omega),qY (by simp;omega)]
  rw[ex];refine⟨_,_,Z,Z,?_⟩;simp only[ahk];rw[← Js];exact⟨oa,_,_,_,Z⟩
 subst e;have dM:lX (l.map fun a=>a.before) past.reverse vC.length (lX (l.map fun a=>a.here++a.behind) (line.drop k) Dv.length (2 ^ l.length-1))=lX (sA l) past.reverse vC.length B0:=by
  rw[← aCA];rfl
 rw[dM]at ZL;generalize lX (sA l) past.reverse vC.length B0=b at *;refine⟨_,Z,Z,_,Z,dD (fun ak=>k1 (ai_ ZL (by have:=j8 ak;omega)) aB s2) fun ak=>?_⟩;have aoj:b≠0:=by have:=CZ ak;omega
 obtain⟨m,a,hm,aaC,aCB⟩:=aqS ZL aoj;refine⟨_,Z,_,Z,_,Z,_,_,Z,Z,?_⟩;simp only[aCn b aoj,aCB];obtain⟨v,aZ,rc⟩:=y7 hy hm;refine⟨_,Z,x,_,dx,_,_,Z,s2 _ _ aq,T.tH,T.Gm,Z,_,Z,Z,_,Z,Z,_,_,Z,Z,ha,_,_,v,Z,Z,aT.of (s2 _ _ ua),at_of (j:=m) ?_ aZ,?_⟩
 ·rw[aCo];omega
 ·exact k2 a (f9 hm) aaC aB v s2 rc
inductive aok(t:bW)(a b c d:V)(H:ao)(Q:bx)(xC:cM):Prop
 |mk (aY f G hD) (w:aK) (k acts):a=.ref aY->lO t G aY f->hg Hj G b acts->aQ G H->G hD=none->c=.ref hD->d=nat k->H hD=some (.lst (w.map nat))->(∀ y∈acts,k+y.1<w.length/\aaV f.subs y.2)->(∀ H',a9 [hD] H H'->H' hD=some (.lst ((acts.foldl (oG f k) w).map nat))->Q .non H')->aok t a b c d H Q xC
def aCC(t:bW):eX:=nk (aok t)
theorem aCD(T:Txt K av t):cI P w K av base (cL P w) 1 t.OJ t.O1 ["font","acts","line","k"] (aCC t):=by
 refine T.Ri.cY Yb nk.cW ?_;rintro bJ A outer s H _ Q E aA ⟨bV,b,a2,a3,rfl,aY,f,G,hD,w,k,acts,rfl,hf,⟨ac,agK,e,TQ,m'⟩,nr,aCE,rfl,rfl,zv,bK,k1⟩;refine⟨_,(bj (ho (gO dH rfl) rfl (gG (aj 1)) (s7 rfl (jL (dj (i:=4) Yb.nd rfl (Or.inl rfl)) (jL (dj (i:=5) Yb.nd rfl (Or.inl rfl)) r6))) (aV (cp (i:=6) Yb.nd rfl (Or.inl rfl) (eN gx (aj 2) (e4 m7 (aj 3) (aj 4)) (fun _ _=>rfl))) (bj (Fj (FN (k4 aA) (bO (eN gx (bO (aj 0) rfl) (aj 5) (fun _ _=>rfl)) rfl) (aj 6) (aj 6) ⟨rfl,rfl,rfl,rfl⟩) (Fg (aj 2) (e4 m7 (aj 3) (aj 4)) set_list)))))),?_⟩;subst e;obtain⟨dN,p,Dm,ww,bF,vc,gs,gA,fc,_,_,_,_,⟨cl,rK,rfl,iU,ahi⟩,_⟩:=id hf;refine⟨_,Z,ac,Z,⟨_,aT.of (nr _ _ TQ)⟩,?_⟩;have aol:∀ b o,G b=some o->b∉[hD]:=fun b o e=>by simp only[g4];exact bQ e aCE
 refine qy (xs:=agK) (fun j σ H1=>(∃ s4 s5 cU,σ=[some (.ref aY),some (.ref ac),some (.ref hD),some (nat k),s4,s5,cU])/\a9 [hD] H H1/\H1 hD=some (.lst (((acts.take j).foldl (oG f k) w).map nat))) ⟨⟨_,_,_,rfl⟩,a9.refl _ _,zv⟩ (fun j σ H1 _ ⟨_,aG,_⟩=>aT.of (aG _ _ (aol _ _ TQ) (nr _ _ TQ))) (fun j v σ H1 aZ ⟨⟨s4,s5,cU,e⟩,aG,h1⟩=>?_) fun σ H1 ⟨_,aG,h1⟩=>?_
 ·subst e;have g1:∀ b o,G b=some o->H1 b=some o:=fun b o e=>aG _ _ (aol _ _ e) (nr _ _ e);obtain⟨y,aP,ey,rfl,cv⟩:=mF m' aZ;refine Hl (g1 _ _ cv) ?_;obtain⟨Wd,q,u,a0,cD⟩:=bK y (f9 aP);rw[take_snoc aP,oh];have lB:=aaW f k (acts.take j) w;generalize (acts.take j).foldl (oG f k) w=yb at *;have mH:k+y.1<yb.length:=by omega
  have zT:(k:Int)+(y.1:Int)=((k+y.1:Nat):Int):=by omega
  refine⟨_,Z,_,Z,_,Z,_,_,Z,Z,hD,_,_,_,Z,Z,aT.of h1,at_of (j:=k+y.1) zT (xV yb mH),?_⟩;obtain⟨aHI,aCF,aCG,aCH,aom,rfl,aCI,ahE⟩:=y7 ahi a0;have ahE:Hh G aom u:=by
   have z:rH t G aom q.rule:=ahE;rw[cD]at z;exact z
  obtain⟨dM,kvs,rfl,mO,o7⟩:=anU ahE;refine⟨_,Z,aY,_,dN,_,_,Z,g1 _ _ fc,T.gn,T.Ca,Z,_,Z,cl,rK,_,_,Z,Z,aT.of (g1 _ _ iU),gM aCF,aCG,_,aCH,_,_,Z,g1 _ _ aCI,T.jx,T.rt,Z,dM,Z,.inl ⟨_,.inl (g1 _ _ mO)⟩,?_⟩;refine⟨_,Z,_,Z,_,hT.k (k:=bI (yb.getD (k+y.1) 0)) (g1 _ _ mO),?_⟩;rw[o7];refine⟨_,Z,_,Z,_,Z,_,_,Z,Z,hD,_,_,k+y.1,Z,Z,h1,by rw[zT];exact vM (by simp;exact mH),⟨_,_,_,Z⟩,aG.qM (by simp),?_⟩;rw[a7,Zu,hr,rU,ara a0 cD]
 ·rw[f5 m',fZ (cG _)]at h1;exact k1 H1 aG h1
theorem aon{f:Font}(d9:pF f){k:Nat}:∀ (acts:List (Nat×Nat)) (w:aK),(∀ s∈w,s<f.cls.length)->∀ s∈acts.foldl (oG f k) w,s<f.cls.length
 | [],w,h=>h
 |y::acts,w,h=>by
  refine aon d9 acts _ ?_;unfold oG;cases a0:f.subs[y.2]? with
  |none=>exact h
  |some q =>
   dsimp only;cases aA:q.rule with
   |one u =>
    dsimp only;intro s aH;by_cases aF:k+y.1<w.length
    ·rcases List.mem_or_eq_of_mem_set aH with z|z
     ·exact h s z
     ·have hw:w.getD (k+y.1) 0<f.cls.length:=by
       rw[List.getD,dR aF];exact h _ (mV aF)
      rw[z];cases pw:u.lookup (w.getD (k+y.1) 0)with
      |none=>exact hw
      |some v =>
       have rF:=d9.fV q (f9 a0);rw[aA]at rF;rw[d9.cl];exact rF _ (lookup_mem pw)
    ·rw[List.set_eq_of_length_le (by omega)]at aH;exact h s aH
   |_=>exact h
theorem aoo(f:Font)(sk:Nat)(seg:aK):∀ n,n<=seg.length->(List.range n).filterMap (fun i=>if h4 f sk (seg.getD i 0)=true then none else some (nat (seg.getD i 0)))=((seg.take n).filter fun s=>!h4 f sk s).map nat
 |0,_=>by simp
 |n+1,h=>by
  have bU:=aoo f sk seg n (by omega);have e:seg[n]?=some seg[n]:=dR (by omega);have eg:seg.getD n 0=seg[n]:=by simp[List.getD,e]
  rw[p2,Ef,bU,take_snoc e,x3,od];congr 1
  by_cases aL:h4 f sk seg[n]=true
  ·simp[aL,e]
  ·simp[aL,e]
def aop(f:Font)(sk:Nat)(tt:List Sw28.Around)(aY fl row o9 hL kJ:au)(line:aK)(H1:ao)(σ:St)(b2:ao):Prop :=
 ∃ (k:Nat) (w past:aK) (fx kE:Option V),σ=[some (.ref aY),some (.ref fl),some (.ref row),some (.ref o9),some (.ref hL),some (.ref kJ),some (nat k),fx,kE,none,none,none]/\aQ H1 b2/\b2 hL=some (.lst (w.map nat))/\b2 kJ=some (.lst (past.map nat))/\k<=line.length/\w.length=line.length/\w.drop k=line.drop k/\past.length<=k /\
  w.take k++ib f sk tt past.reverse [] (line.drop k)=ib f sk tt [] [] line/\∀ s∈w,s<f.cls.length
def aoq:St->ao->Nat:=fun σ _=>match σ with
 | [_,_,_,_,_,_,some (.int a),_,_,_,_,_]=>5000-a.toNat
 |_=>0
theorem aCJ(T:Txt K av t):cI P w K av base (cL P w) 3 t.O2 t.O3 ["font","rule","row"] (H6 t fun s=>∃ tb,s=.around tb):=by
 refine T.Rj.cY pQ gb.cW ?_;rintro bJ A outer s H _ Q E aA ⟨bV,b,c,rfl,aY,f,r,row,l,rfl,rfl,jO,hf,d9,iy,iz,⟨dx,bF,ca,hC,gw,fO,dO,e2,hW⟩,aF,mL,k1,k2⟩;try simp only at k1 k2
 refine⟨_,(aV (cp (i:=3) pQ.nd Z (Or.inl Z) (fj (aj 0) T.gn T.yP (H4 T) aA.bf T.GF .nil bh (aD (aj 1) (aD (bO (aj 2) Z) aM)))) (aV (w2 (i:=4) (own:=[("at",10)]) dH (fun _ _ z=>z) Z pQ.nd Z Z (wV Z Z Z Z) (gG (aj 3)) (gW (by rfl)) (fun _ _ _ _ _=>dj (i:=10) pQ.nd Z (Or.inl Z)) (fun _ _ _ _ _=>hx) (fun _ _ _ _ _=>(eN (Cu (K':=K) Z) (ry (K':=K) Z (aj 2) Z) (aj 10) (fun _ _=>Z)))) (aV (cp (i:=5) pQ.nd Z (Or.inl Z) (hb aM)) (aV (cp (i:=6) pQ.nd Z (Or.inl Z) b3) (aV (Vo (gO dH Z) (gK q9 (aj 6) (hv iG Z T.hA hM (aD (aj 4) aM)) (fe _)) (aV (cp (i:=7) pQ.nd Z (Or.inl Z) (fj (bO (aj 1) Z) T.tH T.aem (aCq T) aA.bf T.awD .nil bh (aD (aj 4) (aD (aj 6) (aD (aj 5) aM))))) (aV (cp (i:=8) pQ.nd Z (Or.inl Z) (e4 m7 (aj 6) b3)) (aV (gh (pL (aa' (aj 7))) (aV (er (dG (aCD T) aA.bf Z T.ae' T.Ri.aG T.axd .nil bh (aD (aj 0) (aD (bO (aj 7) Z) (aD (aj 4) (aD (aj 6) aM)))))) (bj (cp (i:=8) pQ.nd Z (Or.inl Z) (e4 m7 (aj 6) (hv iG Z T.hA hM (aD (bO (aj 7) Z) aM)))))) ht) (aV (er (mz lV Un Uo VG (aj 5) (aD (iH (own:=[("sign",11)]) dH (fun _ _ z=>z) Z pQ.nd (gG (VB VF (aj 4) (yw (aj 6)) (yw (aj 8)))) (gW (by rfl)) (fun _ _ _ _ _=>dj (i:=11) pQ.nd Z (Or.inl Z)) (fun _ _ _ _ _=>(VK (abg (ayb (K':=K) Z (fj (aj 0) T.gn T.QF (ahl T) aA.bf T.afD .nil bh (aD (aj 1) (aD (aj 11) aM))) (fun _=>Z))))) (fun _ _ _ _ _=>(aj 11))) aM))) (bj (cp (i:=6) pQ.nd Z (Or.inl Z) (aj 8)))))))) (aV (cp (i:=9) pQ.nd Z (Or.inl Z) (q' abS Z T.GD Yi (aD (bO (aj 2) Z) aM))) (aV (ho (gO dH Z) Z (akC Z T.X4 (aD (aj 3) (aD (aj 4) aM))) (s7 Z (jL (dj (i:=10) pQ.nd Z (Or.inl Z)) (jL (dj (i:=11) pQ.nd Z (Or.inl Z)) r6))) (bj (Fj (aj 11) (Fg (aj 9) (aj 10) set_list)))) (bj (er (fj (aj 2) T.eA T.Ci (Tr T) aA.bf T.RP .nil bh (aD (aj 9) (aD (bO (aj 2) Z) aM)))))))))))),?_⟩;apply Gg;intros;obtain⟨tt,hj⟩:=jO;have kV:=iz.at;obtain⟨fl,fX,rb,e,hY,hK⟩:=iz;subst e;have hK:zA t H rb tt:=by
  have z:rH t H rb r.rule:=hK;rw[hj]at z;exact z
 have ur:chg f r l=some (fH (passed f r.skip) (ib f r.skip tt [] [] (lineOf (passed f r.skip) l)) l):=by unfold chg;rw[hj]
 have ZM:∀ a∈tt,yc a:=by
  have z:=d9.so r iy;rw[hj]at z;exact z
 obtain⟨aCK,TQ⟩:=d9.ac r iy tt hj;have aor:=d9.sk r iy;have H_:=aht f r.skip l;have zR:=zY f r.skip l;have Wh:=an_ f r.skip (l.map fun x=>x.sign);have Dr:∀ q∈gZ f r.skip (l.map fun x=>x.sign),q<(l.map fun x=>x.sign).length:=fun q a0=>aho a0;have aos:∀ q∈gZ f r.skip (l.map fun x=>x.sign),h4 f r.skip ((l.map fun x=>x.sign).getD q 0)=false:=fun q a0=>by
  have:=(rR.mp a0).2;simpa using this
 have aCL:∀ (i:Nat) (x:Item),l[i]?=some x->¬ passed f r.skip x=true->i∈gZ f r.skip (l.map fun x=>x.sign):=fun i x aq aL=>by
  refine rR.mpr ⟨by simp;exact(eE.mp aq).1,?_⟩;have uO:¬ h4 f r.skip x.sign=true:=aL;simp[List.getD,aq,uO]
 have Zv:(l.map fun x=>x.sign).length=l.length:=by simp
 have aot:∀ (i:Nat) (x:Item),l[i]?=some x->(l.map fun x=>x.sign).getD i 0=x.sign:=fun i x aq=>by simp[List.getD,aq]
 have aCM:∀ (i:Nat) (x:Item),l[i]?=some x->passed f r.skip x=true->i∉gZ f r.skip (l.map fun x=>x.sign):=fun i x aq aL hm=>by
  have z:=aos i hm;rw[aot i x aq]at z;have uO:h4 f r.skip x.sign=true:=aL;rw[uO]at z;cases z
 have jm:∀ s∈l.map (fun x=>x.sign),s<f.cls.length:=fun s aH=>by
  obtain⟨x,aq,rfl⟩:=g5.mp aH;rw[d9.cl];exact mL x aq
 generalize l.map (fun x=>x.sign)=ss at *;obtain⟨dN,_,_,_,_,_,_,_,fc,_⟩:=id hf;refine⟨_,Z,aY,dN,_,Z,fc,Z,_,Z,_,Z,row,_,dx,_,_,Z,dO,T.eA,T.iv,Z,?_⟩;refine⟨_,_,_,Z,aY,f,r.skip,bF,ss,Z,Z,hf,kV,e2,aor,by omega,jm,d9.r4,fun o9 H1 s1 aB9 kB=>?_⟩;have hlen:(gZ f r.skip ss).length<=4096:=jf Zt (by omega);generalize gZ f r.skip ss=left at *;have hline:(lineOf (passed f r.skip) l).length=left.length:=by rw[← H_,ew]
 have aou:∀ s∈lineOf (passed f r.skip) l,h4 f r.skip s=false/\s<f.cls.length:=fun s aH=>by
  rw[← H_]at aH;obtain⟨q,a0,rfl⟩:=g5.mp aH;have ahF:=Dr q a0;refine⟨aos q a0,?_⟩;rw[List.getD,dR ahF];exact jm _ (mV ahF)
 generalize lineOf (passed f r.skip) l=line at *;refine⟨_,Z,o9,Z,⟨_,aT.of kB⟩,fun hL w1=>?_⟩;refine n3 (line.map nat) (by simp[hline]) (aT.of kB) (by simp;omega) w1 (fun i v y H' eo aZ aP aH q=>?_) ?_
 ·rw[ei]at aZ;cases e:left[i]? with
  |none=>rw[e]at aZ;cases aZ
  |some tC =>
   rw[e]at aZ;cases aZ;have a0:=Dr tC (f9 e);have gj:y=nat (ss.getD tC 0):=by
    rw[← H_,ei,ei,e]at aP;exact(Option.some.inj aP).symm
   subst gj;have s2:=s1.trans aH;exact⟨_,Z,row,_,dx,_,_,Z,s2 _ _ dO,T.eA,T.iv,Z,_,Z,bF,_,_,_,Z,Z,aT.of (s2 _ _ e2),gM (xV ss a0),q⟩
 have s2:aQ H1 (upd H1 hL (.lst (line.map nat))):=ef (aQ.refl _) w1;have m8:(upd H1 hL (.lst (line.map nat))) hL=some (.lst (line.map nat)):=a7;generalize upd H1 hL (.lst (line.map nat))=aB at *;refine⟨eY _,fun kJ ahG=>?_⟩;have aCN:H1 kJ=none:=s2.free ahG;have ahH:kJ≠hL:=(bQ m8 ahG).symm;have s3:aQ H1 (upd aB kJ (.lst [])):=s2.trans (ef (aQ.refl _) ahG);have ZP:(upd aB kJ (.lst [])) hL=some (.lst (line.map nat)):=by rw[a6 ahH.symm];exact m8
 have ZQ:(upd aB kJ (.lst [])) kJ=some (.lst (([]:aK).map nat)):=a7;generalize upd aB kJ (.lst [])=aJ at *;have aHJ:=Jo f r.skip tt line [] [];refine abq (aop f r.skip tt aY fl row o9 hL kJ line H1) aoq ⟨0,line,[],_,_,rfl,s3,ZP,ZQ,eY _,rfl,rfl,cG _,rfl,fun s aH=>(aou s aH).2⟩ (fun σ b2 ⟨k,w,past,fx,kE,e,s5,Dw,ahI,aN,lB,Ie,g6,TV,aov⟩=>?_) (fun σ H Q eo h ⟨v,e,v2,a8,p,bN,dr,ov,i,j,a,b,dA,zT,q⟩=>⟨v,e,v2,a8,p,bN,dr,ov,i,j,a,b,dA,zT,h _ _ q⟩);subst e;have pX:=s1.trans s5;refine⟨_,Z,_,Z,hL,_,Z,.inl (aT.of Dw),_,_,Z,Z,_,Z,dD (fun ak=>?_) fun ak=>?_⟩
 ·have mH:k<line.length:=by
   have:=h2 ak;simp at this;omega
  have fin:∀ (D:Ends) (eH:ao) (w':aK) (n:Nat) (fx:Option V),(∀ σ dB,aop f r.skip tt aY fl row o9 hL kJ line H1 σ dB/\aoq σ dB<5000-k->D.cT σ dB)->1<=n->k+n<=line.length->aQ H1 eH->eH hL=some (.lst (w'.map nat))->eH kJ=some (.lst (past.map nat))->w'.length=line.length->w'.drop (k+n)=line.drop (k+n) ->
    w'.take (k+n)++ib f r.skip tt (((w'.drop k).take n).foldl (push f r.skip) past.reverse) [] (line.drop (k+n))=ib f r.skip tt [] [] line->(∀ s∈w',s<f.cls.length) ->
    c3 (wK (yC K "list" yD (gg 5) (nR (wU (Fp K (aj_ (akb K) (gg 4) (abN (gg 6)) (abN (gg 8)))) (kW 11) (ajy (afY K (Fw t.et "passes_over" (anN t) [] E (gg 0) (nR (gg 1) (nR (gg 11) m9))))) (gg 11) [11]) m9))) (Fi (gg 8) (kW 6)) D
     [some (.ref aY),some (.ref fl),some (.ref row),some (.ref o9),some (.ref hL),some (.ref kJ),some (nat k),fx,some (nat (k+n)),none,none,none] eH:=fun D eH w' n fx bp YP aCO cU ZR ZS aCP aCQ aCR aow=>by
   refine⟨_,Z,.inl ⟨Z,_,aT.of ZS⟩,?_⟩;refine⟨_,Z,_,Z,_,Z,_,Z,_,Z,hL,_,Z,aT.of ZR,fun Y iw=>?_⟩;rw[an1 w' (by omega) (by omega),show k+n-k=n by omega];have qH:((w'.drop k).take n).length=n:=by rw[g0,oc];omega
   have xQ:∀ s∈(w'.drop k).take n,s<f.cls.length:=fun s aH=>aow s (Uk (Ea aH));generalize (w'.drop k).take n=seg at *;have aHK:kJ≠Y:=bQ ZS iw;have aHL:hL≠Y:=bQ ZR iw;have Dx:aQ eH (upd eH Y (.lst (seg.map nat))):=ef (aQ.refl _) iw;have aox:(upd eH Y (.lst (seg.map nat))) Y=some (.lst (seg.map nat)):=a7;generalize upd eH Y (.lst (seg.map nat))=dB at *;refine⟨Y,Z,⟨_,aT.of aox⟩,fun ahJ ZV=>?_⟩;have pY:=s1.trans (cU.trans Dx);refine af9 (fun i=>if h4 f r.skip (seg.getD i 0)=true then none else some (nat (seg.getD i 0))) (aT.of aox) (by simp;omega) ZV (fun i v H' eo N aZ aH h1 aC=>?_) ?_
   ·have hi:i<seg.length:=by simpa using(eE.mp aZ).1
    rw[xV seg hi]at aZ;cases aZ;have Dn:seg.getD i 0<f.cls.length:=by rw[List.getD,dR hi];exact xQ _ (mV hi)
    have xW:=pY.trans aH;refine⟨_,Z,aY,dN,_,Z,xW _ _ fc,Z,_,Z,_,Z,_,_,_,Z,aY,f,r.skip,seg.getD i 0,Z,Z,mJ xW hf,kV.mono xW,aor,Dn,d9.r4,_,Z,?_⟩;refine dD (fun ak=>⟨_,rfl,h1 _ ?_⟩) fun ak=>aC ?_
    ·rw[bw (by simpa using ak)]
    ·rw[bL (by simpa using ak)]
   ·rw[ew,aoo f r.skip seg seg.length (cG _),fZ (cG _)];have aCS:kJ≠ahJ:=bQ (Dx _ _ ZS) ZV;have aCT:hL≠ahJ:=bQ (Dx _ _ ZR) ZV;have yd:(seg.filter fun s=>!h4 f r.skip s).length<=n:=by rw[← qH];exact Eh _ _
    refine⟨kJ,ahJ,_,_,Z,Z,by rw[a6 aCS];exact Dx _ _ ZS,a7,by simp;exact RW (by omega),?_⟩;refine⟨_,Z,bp _ _ ⟨⟨k+n,w',past++seg.filter (fun s=>!h4 f r.skip s),_,_,rfl,fun b o e=>?_,?_,?_,aCO,aCP,aCQ,?_,?_,aow⟩,?_⟩⟩
    ·rw[a6 (bQ e aCN),a6 (bQ (Dx _ _ (cU _ _ e)) ZV)];exact Dx _ _ (cU _ _ e)
    ·rw[a6 ahH.symm,a6 aCT];exact Dx _ _ ZR
    ·rw[a7,od]
    ·rw[gB];omega
    ·rw[List.reverse_append,← aji];exact aCR
    ·show 5000-((k+n:Nat):Int).toNat<5000-k;omega
  have oA:line.drop k=line[k]::line.drop (k+1):=z7 mH;have aCU:=aou line[k] (mV mH);generalize line[k]=x at *;obtain⟨aCV,aCW,aHM,aHN,aHO,aCX,aCY,_⟩:=id hK;refine⟨_,Z,fl,_,fX,_,_,Z,pX _ _ hY,T.jx,T.rt,Z,aCV,aCW,_,aCX,pX _ _ aCY,Z,_,Z,_,Z,_,Z,?_⟩;refine⟨_,_,_,_,Z,H,tt,hL,w,k,kJ,past,pX,hK,Z,Z,Z,Dw,ahI,aCK,by omega,fun ZF eH cU=>?_,fun a ham zZ eH aHP cU aCZ=>?_⟩
  ·rw[Ie,oA]at ZF;have ag6:=aqs f r.skip tt ZF;refine⟨_,Z,_,_,Z,Z,?_⟩;refine⟨_,Z,_,Z,dD (fun h=>?_) fun _=>?_⟩
   ·have:(!decide (V.non=V.non))=true:=h
    simp at this
   refine fin _ eH w 1 _ (fun σ dB h=>h) (cG _) (by omega) (s5.trans cU) (cU _ _ Dw) (cU _ _ ahI) lB ?_ ?_ aov
   ·rw[← Ei,Ie,Ei]
   ·have aaG:(w.drop k).take 1=[x]:=by rw[Ie,oA];rfl
    have aal:w.take (k+1)=w.take k++[x]:=take_snoc (Zy (Ie.trans oA)).2;rw[aaG,aal];rw[oA,ag6]at TV;have aC0:[x].foldl (push f r.skip) past.reverse=x::past.reverse:=by
     show push f r.skip past.reverse x=_;unfold push;rw[aCU.1];rfl
    rw[aC0,uH];exact TV
  ·rw[Ie,oA]at zZ;have YZ:=aqt f r.skip tt ZM zZ;have ahK:=ZM a ham;have q3:fits a.here (x::line.drop (k+1))=true:=by
    have z:=vZ zZ;unfold q2 at z;simp at z;exact z.1
   have aC1:a.here.length<=(line.drop k).length:=by rw[oA];exact Eo q3
   rw[oc]at aC1;obtain⟨Gf,aoy,azW,aHQ,aHR,aHS,rfl,aoz,_,⟨aC2,aoA,rfl,aC3,aC4⟩,_,al_⟩:=id aCZ;have s16:=s5.trans cU;have vN:=s1.trans s16;refine⟨_,Z,_,_,Z,Z,?_⟩;refine⟨_,Z,_,Z,dD (fun _=>?_) fun h=>absurd (show(!decide (V.ref Gf=V.non))=true by rw[zW];rfl) h⟩;refine⟨_,Z,_,Z,Gf,_,aoy,_,_,Z,vN _ _ aoz,T.su,T.Qz,Z,_,Z,_,Z,?_⟩;have aC5:H hL=none:=s1.free w1;refine⟨_,_,_,_,Z,aY,f,H,hL,w,k,a.acts,Z,hf,al_,vN,aC5,Z,Z,cU _ _ Dw,fun y aP=>⟨by have:=ahK.acts y aP;omega,TQ a ham y aP⟩,fun dB nC aC6=>?_⟩;have Hq:∀ b o,H1 b=some o->b∉[hL]:=fun b o e=>by simp only[g4];exact bQ e w1
   have aoB:aQ H1 dB:=fun b o e=>nC _ _ (Hq _ _ e) (s16 _ _ e);have pY:=s1.trans aoB;have zN:=nC _ _ (by simp[ahH]) (cU _ _ ahI);refine⟨_,Z,_,Z,Gf,_,aoy,_,_,Z,pY _ _ aoz,T.su,T.Qy,Z,aC2,aoA,Z,.inl (aT.of (pY _ _ aC3)),_,_,Z,Z,?_⟩;have aC7:(k:Int)+((aoA.length:Nat):Int)=((k+a.here.length:Nat):Int):=by rw[f5 aC4];omega
   simp only[aC7];have CK:w=w.take k++((line.drop k).take a.here.length++line.drop (k+a.here.length)):=by
    have:=I1 k w;rw[Ie]at this;rw[← Al,I1];exact this.symm
   have vh:(w.take k).length=k:=by rw[g0];omega
   have Y4:((line.drop k).take a.here.length).length=a.here.length:=by rw[g0,oc];omega
   have ahL:a.acts.foldl (oG f k) w=w.take k++(jg f a.acts ((line.drop k).take a.here.length)++line.drop (k+a.here.length)):=by
    conv=>lhs;rw[CK]
    exact ajh f (w.take k) (line.drop (k+a.here.length)) vh a.acts _ fun y aP=>by rw[Y4];exact ahK.acts y aP
   have yO:(jg f a.acts ((line.drop k).take a.here.length)).length=a.here.length:=by rw[UL,Y4]
   have aHT:=aaW f k a.acts w;have aC8:∀ s∈a.acts.foldl (oG f k) w,s<f.cls.length:=aon d9 a.acts w aov;generalize a.acts.foldl (oG f k) w=Ft at *;rw[← oA]at YZ;generalize jg f a.acts ((line.drop k).take a.here.length)=seg at *;have h1:Ft.take (k+a.here.length)=w.take k++seg:=by
    rw[ahL,← uH,List.take_append_of_le_length (by simp;omega),fZ (by simp;omega)]
   have aC:Ft.drop (k+a.here.length)=line.drop (k+a.here.length):=by
    rw[ahL,← uH];rw[Ui (by simp;omega),Ed (by simp;omega),I2]
   have bH:(Ft.drop k).take a.here.length=seg:=by
    rw[ahL,Ui (by omega),Ed (by omega),I2,List.take_append_of_le_length (by omega),fZ (by omega)]
   refine fin _ dB Ft a.here.length _ (fun σ mD h=>h) ahK.here (by omega) aoB aC6 zN (by omega) aC ?_ aC8;rw[h1,bH,uH];rw[YZ,Al]at TV;exact TV
 ·have mH:k=line.length:=by
   have:¬ (k:Int)<((w.map nat).length:Int):=fun z=>ak (fu z);simp at this;omega
  subst mH;have aC9:w=ib f r.skip tt [] [] line:=by
   rw[← TV,Ed (cG _),fZ (by omega)];simp[ib]
  rw[← aC9]at ur;refine⟨_,Z,row,_,dx,_,_,Z,pX _ _ dO,T.eA,T.iv,Z,bF,_,Z,.inl (aT.of (pX _ _ e2)),fun S dZ=>?_⟩;have cU:aQ b2 (upd b2 S (.lst (ss.map nat))):=ef (aQ.refl _) dZ;have aC_:(upd b2 S (.lst (ss.map nat))) S=some (.lst (ss.map nat)):=a7;generalize upd b2 S (.lst (ss.map nat))=eH at *;refine⟨_,Z,_,Z,o9,hL,_,_,Z,aT.of (cU _ _ (s5 _ _ kB)),aT.of (cU _ _ Dw),?_⟩;refine alY (by simp;omega) (fun j σ dB=>(∃ tE BR,σ=[some (.ref aY),some (.ref fl),some (.ref row),some (.ref o9),some (.ref hL),some (.ref kJ),some (nat line.length),fx,kE,some (.ref S),tE,BR])/\aQ b2 dB/\∃ F:aK,dB S=some (.lst (F.map nat))/\F.length=ss.length/\(∀ m q,m<j->left[m]?=some q->F.getD q 0=w.getD m 0)/\∀ i,i∉left->F.getD i 0=ss.getD i 0) ⟨⟨_,_,rfl⟩,cU,ss,aC_,rfl,fun m q h=>absurd h (Ah _),fun i _=>rfl⟩ (fun j σ dB _ ⟨_,s,_⟩=>⟨aT.of (s _ _ (s5 _ _ kB)),aT.of (s _ _ Dw)⟩) (fun j u v ey σ dB cD aZ ⟨⟨tE,BR,e⟩,Ig,F,iQ,aoC,um,vG⟩ cv=>?_) fun σ dB ⟨⟨tE,BR,e⟩,Ig,F,iQ,aoC,um,vG⟩=>?_
  ·subst e;have bM:j<left.length:=by simpa using(eE.mp cD).1
   have zX:left[j]?=some left[j]:=dR bM;rw[ei,zX]at cD;cases cD;rw[xV w (by omega)]at aZ;cases aZ;have ahF:=Dr left[j] (mV bM);generalize left[j]=q at *;have aC':S≠ey:=bQ iQ cv;have aDa:(upd dB ey (.tup [nat q,nat (w.getD j 0)])) S=some (.lst (F.map nat)):=by rw[a6 aC'];exact iQ
   refine⟨_,Z,_,Z,_,Z,S,_,_,q,Z,Z,aDa,vM (by simp;omega),⟨_,_,Z⟩,?_,F.set q (w.getD j 0),?_,by simp[aoC],fun m d8 hm kk=>?_,fun i hi=>?_⟩
   ·exact ef (Ig.trans (ef (aQ.refl _) cv)) dZ
   ·rw[a7,Zu]
   ·rw[TJ _ _ _ _ (by omega)];by_cases e:d8=q
    ·subst e;rw[bL rfl,ZD Wh kk zX]
    ·rw[bw e];refine um m d8 ?_ kk;rcases Nat.lt_or_eq_of_le (Nat.le_of_lt_succ hm)with z|z
     ·exact z
     ·subst z;rw[zX]at kk;exact absurd (Option.some.inj kk).symm e
   ·rw[TJ _ _ _ _ (by omega),bw (fun e:i=q=>hi (e.symm▸f9 zX))];exact vG i hi
  ·subst e;rw[ew]at um;have aDb:F=(fH (passed f r.skip) w l).map fun x=>x.sign:=by
    refine arf _ l w F (by omega) (by rw[← zR];omega) (fun m q a0=>?_) (fun i x aq aL=>?_) fun i x aq aL=>?_
    ·rw[← zR]at a0;exact um m q (eE.mp a0).1 a0
    ·rw[vG i (aCM i x aq aL),aot i x aq]
    ·rw[← zR];exact Eb.mp (aCL i x aq aL)
   have pY:=pX.trans Ig;refine⟨_,Z,row,dx,_,Z,pY _ _ dO,Z,_,Z,_,Z,row,_,dx,_,_,Z,pY _ _ dO,T.eA,T.w5,Z,?_⟩;refine⟨_,_,_,Z,row,dx,bF,ca,S,ca,hC,gw,fO,_,Z,Z,Z,pY _ _ dO,iQ,fun _=>?_,fun h=>?_⟩
   ·have Tt:S≠row:=(bQ (pX _ _ dO) dZ).symm
    have Tv:ca≠row:=hN hW dO (by intro z;cases z);refine k1 _ _ ur (fun b o n e=>by rw[a6 (by simpa using n)];exact pY _ _ e) ⟨dx,S,ca,hC,gw,fO,a7,?_,?_⟩
    ·rw[a6 Tt,iQ,aDb]
    ·rw[a6 Tv,aaY];exact pY _ _ hW
   ·rw[ew]at h;omega
theorem aDc(T:Txt K av t):cI P w K av base (cL P w) 4 t.O4 t.O5 ["font","rule","row"] (H6 t fun _=>True):=by
 obtain⟨agD,C_,Dc⟩:=T.k_EXCHANGE;obtain⟨azQ,agE,agF⟩:=T.k_JOIN;obtain⟨azR,agG,agH⟩:=T.k_SPREAD;refine T.Rk.cY ax3 gb.cW ?_;rintro bJ A outer s H _ Q E aA ⟨bV,b,c,rfl,aY,f,r,row,l,rfl,rfl,jO,hf,d9,iy,iz,dO,aF,mL,k1,k2⟩;try simp only at k1 k2
 refine⟨_,(bj (gh (gK jN (bO (aj 1) Z) (gV Z C_ Dc) (fe _)) (bj (er (dG (aBD T) aA.bf Z T.ae8 T.Rf.aG T.axa .nil bh (aD (aj 0) (aD (aj 1) (aD (aj 2) aM)))))) (bj (gh (gK jN (bO (aj 1) Z) (gV Z agG agH) (fe _)) (bj (er (dG (aBJ T) aA.bf Z T.ae9 T.Rg.aG T.axb .nil bh (aD (aj 0) (aD (aj 1) (aD (aj 2) aM)))))) (bj (gh (gK jN (bO (aj 1) Z) (gV Z agE agF) (fe _)) (bj (er (dG (aB6 T) aA.bf Z T.ae_ T.Rh.aG T.axc .nil bh (aD (aj 0) (aD (aj 1) (aD (aj 2) aM)))))) (bj (er (dG (aCJ T) aA.bf Z T.afa T.Rj.aG T.axe .nil bh (aD (aj 0) (aD (aj 1) (aD (aj 2) aM)))))))))))),?_⟩;obtain⟨fl,fX,rb,e,hY,_⟩:=id iz;subst e;have d8:∀ {pr:Sw28.Sub->Prop},pr r.rule->H6 t pr ([V.ref aY,V.ref fl,V.ref row]++[]) H (fun _ H'=>Q .non H') E:=fun{pr} h=>⟨_,_,_,rfl,aY,f,r,row,l,rfl,rfl,h,hf,d9,iy,iz,dO,aF,mL,k1,k2⟩;have aN:∀ n:Nat,decide (V.int (lq r.rule:Nat)=V.int (n:Nat))=true->lq r.rule=n:=fun n h=>by have:=j8 h;omega
 refine⟨_,Z,fl,_,fX,_,_,Z,hY,T.jx,T.tK,Z,Z,_,Z,dD (fun ak=>?_) fun ak=>?_⟩
 ·have h1:=aN 1 ak
  refine⟨_,Z,_,Z,_,Z,d8 (pr:=fun s=>∃ tb,s=.one tb) ?_⟩;cases e:r.rule<;>rw[e]at h1<;>first|exact⟨_,Z⟩|cases h1
 have n1:lq r.rule≠1:=fun z=>ak (fu (by rw[z];rfl));refine⟨_,Z,fl,_,fX,_,_,Z,hY,T.jx,T.tK,Z,Z,_,Z,dD (fun ak=>?_) fun ak=>?_⟩
 ·have h1:=aN 2 ak
  refine⟨_,Z,_,Z,_,Z,d8 (pr:=fun s=>∃ tb,s=.more tb) ?_⟩;cases e:r.rule<;>rw[e]at h1<;>first|exact⟨_,Z⟩|cases h1
 have n2:lq r.rule≠2:=fun z=>ak (fu (by rw[z];rfl));refine⟨_,Z,fl,_,fX,_,_,Z,hY,T.jx,T.tK,Z,Z,_,Z,dD (fun ak=>?_) fun ak=>?_⟩
 ·have h1:=aN 3 ak
  refine⟨_,Z,_,Z,_,Z,d8 (pr:=fun s=>∃ tb,s=.joined tb) ?_⟩;cases e:r.rule<;>rw[e]at h1<;>first|exact⟨_,Z⟩|cases h1
 have qx:lq r.rule≠3:=fun z=>ak (fu (by rw[z];rfl));refine⟨_,Z,_,Z,_,Z,d8 (pr:=fun s=>∃ tb,s=.around tb) ?_⟩;cases e:r.rule<;>rw[e]at n1 n2 qx<;>first|exact⟨_,Z⟩|exact absurd rfl n1|exact absurd rfl n2|exact absurd rfl qx
def mR(l:List Item):List V:=l.map fun x=>V.int x.advance
def jc(l:List Item):List V:=l.map fun x=>V.int x.dx
def lg(l:List Item):List V:=l.map fun x=>V.int x.dy
structure PR(t:bW)(G H:ao)(row cQ cu dh:au)(l:List Item):Prop where
 bY:aQ G H
 Ih:G cQ=none
 gr:G cu=none
 TX:G dh=none
 wr:cQ≠cu
 TY:cQ≠dh
 hn:cu≠dh
 cX:∃ dx bF ca,G row=some (.ins t.fB dx (mK bF ca (.ref cQ) (.ref cu) (.ref dh)))/\G bF=some (.lst ((l.map fun x=>x.sign).map nat))/\G ca=some (.lst ((l.map fun x=>x.from_).map nat))
 w:H cQ=some (.lst (mR l))
 r:H cu=some (.lst (jc l))
 u:H dh=some (.lst (lg l))
section
variable{G H H':ao}{row cQ cu dh:au}{l l':List Item}
theorem PR.to(P:PR t G H row cQ cu dh l)(aH:l'.map (fun x=>x.sign)=l.map fun x=>x.sign)(hf:l'.map (fun x=>x.from_)=l.map fun x=>x.from_)(bY:aQ G H')(w:H' cQ=some (.lst (mR l')))(r:H' cu=some (.lst (jc l')))(u:H' dh=some (.lst (lg l'))):PR t G H' row cQ cu dh l' :=
 ⟨bY,P.Ih,P.gr,P.TX,P.wr,P.TY,P.hn,by rw[aH,hf];exact P.cX,w,r,u⟩
theorem PR.on(P:PR t G H row cQ cu dh l)(s:aQ H H'):PR t G H' row cQ cu dh l:=P.to rfl rfl (P.bY.trans s) (s _ _ P.w) (s _ _ P.r) (s _ _ P.u)
theorem PR.new(P:PR t G H row cQ cu dh l){b:au}{o:HO}(h:H b=none):PR t G (upd H b o) row cQ cu dh l:=P.on (ef (aQ.refl _) h)
end
theorem Ii{β:Type}(g:Item->β){l:List Item}{i:Nat}{x:Item}(h:Item->Item)(e:l[i]?=some x):(Sw28.at_ l i h).map g=(l.map g).set i (g (h x)):=by
 rw[Us h e,List.map_set]
theorem vO{β:Type}(g:Item->β)(l:List Item)(i:Nat)(h:Item->Item)(hh:∀ x,g (h x)=g x):(Sw28.at_ l i h).map g=l.map g:=by
 apply vV;intro j;rw[ei,Je,ei];cases l[j]? with
 |none=>rfl
 |some x =>
  simp only[gd];split
  ·rw[hh]
  ·rfl
inductive aoD(t:bW)(pr:Sw28.Pos->Prop)(a b c:V)(H:ao)(Q:bx)(pT:cM):Prop
 |mk (aY f r row G cQ cu dh l):a=.ref aY->c=.ref row->pr r.rule->lO t G aY f->pF f->r∈f.poss->sE t G b r->PR t G H row cQ cu dh l->l.length<=4096->(∀ x∈l,x.sign<f.signs)->(∀ H',PR t G H' row cQ cu dh ((dz (passed f r.skip) 0 l).foldl (placeAt f r) l)->Q .non H')->aoD t pr a b c H Q pT
def Ij(t:bW)(pr:Sw28.Pos->Prop):eX:=gb (aoD t pr)
theorem aDd(f:Font)(r:Rule Sw28.Pos)(l:List Item)(i:Nat):(placeAt f r l i).map (fun x=>x.from_)=l.map fun x=>x.from_:=by
 have so:∀ m b p,(setOn m b l i p).map (fun x=>x.from_)=l.map fun x=>x.from_:=fun m b p=>by
  unfold setOn;split
  ·rfl
  ·split
   ·exact vO _ _ _ _ fun _=>rfl
   ·rfl
 unfold placeAt Sw28.placed;cases r.rule with
 |one t =>
  dsimp only;split
  ·exact vO _ _ _ _ fun _=>rfl
  ·rfl
 |pair t =>
  dsimp only;split
  ·rfl
  ·split
   ·dsimp only;exact vO (fun x=>x.from_) l i _ fun _=>rfl
   ·rfl
 |onBase m b =>
  dsimp only;split
  ·exact so _ _ _
  ·rfl
 |onMark m b =>
  dsimp only;split
  ·exact so _ _ _
  ·rfl
theorem aDe(f:Font)(r:Rule Sw28.Pos)(l:List Item)(i:Nat):(placeAt f r l i).map (fun x=>x.sign)=l.map fun x=>x.sign:=(aaK f r).same l i
theorem aoE(f:Font)(r:Rule Sw28.Pos):∀ (oE:aK) (l:List Item),(oE.foldl (placeAt f r) l).map (fun x=>x.from_)=l.map fun x=>x.from_
 | [],_=>rfl
 |j::oE,l=>by rw[hr,aoE f r oE,aDd]
theorem aDf{H:ao}{v:V}{tb:List (Nat×Int×Int×Int)}(h:R9 t H v tb):∃ dM kvs,v=.ref dM/\H dM=some (.dW kvs)/\∀ s,(tb.lookup s=none->dX kvs (bI s)=none)/\∀ d,tb.lookup s=some d->∃ u,dX kvs (bI s)=some u/\vw t H u d:=by
 obtain⟨dM,kvs,e,ak,pp⟩:=h;refine⟨dM,kvs,e,ak,fun s=>?_⟩;have:=Hf (key:=fun y:Nat×Int×Int×Int=>bI y.1) (R:=fun H v y=>vw t H v y.2) (H:=H) (bI s) pp;rw[Zr]at this;rw[U9];refine⟨fun z=>this.1 (by simpa using z),fun d hz=>?_⟩;cases z:tb.find? fun y=>decide (y.1=s)with
 |none=>rw[z]at hz;cases hz
 |some y =>
  rw[z]at hz;cases hz;exact this.2 y z
theorem Ik{l:List Item}{i:Nat}(h:i<l.length):((l.map fun x=>x.sign).map nat)[i]?=some (nat (signAt l i)):=by
 simp[signAt,dR h]
theorem aDg(T:Txt K av t):cI P w K av base (cL P w) 2 t.P' t.Qa ["font","rule","row"] (Ij t fun s=>∃ tb,s=.one tb):=by
 refine T.RB.cY afU gb.cW ?_;rintro bJ A outer s H _ Q E aA ⟨bV,b,c,rfl,aY,f,r,row,G,cQ,cu,dh,l,rfl,rfl,jO,hf,d9,iy,iz,P,aF,mL,k1⟩;refine⟨_,(bj (ho (gO dH rfl) rfl (gG (fj (aj 0) T.gn T.yP (H4 T) aA.bf T.GF .nil bh (aD (aj 1) (aD (bO (aj 2) rfl) aM)))) (dj (i:=3) afU.nd rfl (Or.inl rfl)) (aV (cp (i:=4) afU.nd rfl (Or.inl rfl) (Ka (k4 aA) (bO (aj 1) rfl) (eN gx (bO (aj 2) rfl) (aj 3) (fun _ _=>rfl)) ⟨rfl,rfl,rfl,rfl⟩)) (bj (gh (pL (aa' (aj 4))) (aV (Vn (bO (aj 2) rfl) (aj 3) Wi (bO (aj 4) rfl) Bm set_list) (aV (Vn (bO (aj 2) rfl) (aj 3) Wi (bO (aj 4) rfl) Bm set_list) (bj (Vn (bO (aj 2) rfl) (aj 3) Wi (bO (aj 4) rfl) Bm set_list)))) ht))))),?_⟩;obtain⟨tb,hj⟩:=jO;have kV:=sE.at iz;obtain⟨fl,fX,rb,e,hY,hK⟩:=iz;subst e;have hK:R9 t G rb tb:=by
  have z:vJ t G rb r.rule:=hK;rw[hj]at z;exact z
 obtain⟨dM,kvs,e,mO,o7⟩:=aDf hK;subst e;obtain⟨dx,bF,ca,dO,e2,hW⟩:=P.cX;obtain⟨dN,_,_,_,_,_,_,_,fc,_⟩:=id hf;have jm:∀ s∈l.map (fun x=>x.sign),s<f.cls.length:=fun s aH=>by
  obtain⟨x,aq,rfl⟩:=g5.mp aH;rw[d9.cl];exact mL x aq
 refine⟨_,Z,aY,dN,_,Z,P.bY _ _ fc,Z,_,Z,_,Z,row,_,dx,_,_,Z,P.bY _ _ dO,T.eA,T.iv,Z,?_⟩;refine⟨_,_,_,Z,aY,f,r.skip,bF,_,Z,Z,mJ P.bY hf,kV.mono P.bY,P.bY _ _ e2,d9.pG r iy,by simp;omega,jm,d9.r4,fun D H1 s1 bp hd=>?_⟩;rw[zY]at hd;have uP:∀ i∈dz (passed f r.skip) 0 l,i<l.length:=fun i hi=>by have:=(oD _ hi).2;omega
 generalize dz (passed f r.skip) 0 l=left at *;refine⟨D,Z,⟨_,aT.of hd⟩,?_⟩;have ahM:D≠cQ:=(bQ P.w bp).symm;have ahN:D≠cu:=(bQ P.r bp).symm;have ahO:D≠dh:=(bQ P.u bp).symm;refine qy (xs:=left.map nat) (fun j σ aB=>(∃ s3 s4,σ=[some (.ref aY),some (.ref fl),some (.ref row),s3,s4])/\aB D=some (.lst (left.map nat))/\PR t G aB row cQ cu dh ((left.take j).foldl (placeAt f r) l)) ⟨⟨_,_,rfl⟩,hd,P.on s1⟩ (fun j σ aB _ ⟨_,h,_⟩=>aT.of h) (fun j v σ aB aZ ⟨⟨s3,s4,e⟩,hd2,P2⟩=>?_) fun σ aB ⟨_,_,P2⟩=>?_
 ·subst e;have bM:j<left.length:=by simpa using(eE.mp aZ).1
  have lE:left[j]?=some left[j]:=dR bM;have Kl:=uP left[j] (mV bM);rw[ei,lE]at aZ;cases aZ;rw[take_snoc lE,oh,hr,rU];generalize left[j]=i at *;have k9:=Es f r (left.take j) l;have aHU:=aoE f r (left.take j) l;generalize (left.take j).foldl (placeAt f r) l=l2 at *;have oN:l2.length=l.length:=by have:=congrArg List.length k9;simpa using this
  have uq:i<l2.length:=by omega
  have rP:l2[i]?=some l2[i]:=dR uq;have aHV:signAt l2 i=l2[i].sign:=uK rP;generalize l2[i]=x at *;have sI:aB bF=some (.lst ((l2.map fun x=>x.sign).map nat)):=by rw[k9];exact P2.bY _ _ e2
  refine⟨_,Z,fl,_,fX,_,_,Z,P2.bY _ _ hY,T.jx,T.rt,Z,dM,Z,.inl ⟨_,.inl (P2.bY _ _ mO)⟩,?_⟩;refine⟨_,Z,row,_,dx,_,_,Z,P2.bY _ _ dO,T.eA,T.iv,Z,_,Z,bF,_,_,_,Z,Z,aT.of sI,gM (Ik uq),_,hT.k (k:=bI (signAt l2 i)) (P2.bY _ _ mO),?_⟩;have Tp:placeAt f r l2 i=match tb.lookup (signAt l2 i)with
    |some d=>Sw28.at_ l2 i fun x=>{ x with dx:=x.dx+d.1,dy:=x.dy+d.2.1,advance:=x.advance+d.2.2 }
    |none=>l2:=by
   unfold placeAt Sw28.placed;rw[hj];rfl
  rw[Tp];cases pw:tb.lookup (signAt l2 i)with
  |none =>
   rw[(o7 _).1 pw];refine⟨_,Z,_,Z,dD (fun h=>?_) fun _=>⟨⟨_,_,rfl⟩,hd2,P2⟩⟩;have:(!decide (V.non=V.non))=true:=h;simp at this
  |some d =>
   obtain⟨u,cD,mp,Dy,rfl,Dz⟩:=(o7 _).2 d pw;rw[cD];have aDh:=P2.bY _ _ Dz;refine⟨_,Z,_,Z,dD (fun _=>?_) fun h=>absurd (show(!decide (V.ref mp=V.non))=true by rw[zW];rfl) h⟩;have Il:∀ b o,G b=some o->b≠cQ/\b≠cu/\b≠dh:=fun b o e=>⟨bQ e P2.Ih,bQ e P2.gr,bQ e P2.TX⟩;refine⟨_,Z,row,_,dx,_,_,Z,P2.bY _ _ dO,T.eA,T.yU,Z,_,Z,cu,_,_,V.int x.dx,Z,Z,aT.of P2.r,gM (by simp[jc,rP]),_,Z,mp,_,Dy,_,_,Z,aDh,T.yS,T.Xk,Z,_,_,Z,Z,cu,_,_,i,Z,Z,P2.r,vM (by simp[jc];exact uq),?_⟩;have sm3:aQ G (upd aB cu (.lst ((jc l2).set i (.int (x.dx+d.1))))):=fun b o e=>by rw[a6 (Il b o e).2.1];exact P2.bY _ _ e
   have CK:(upd aB cu (.lst ((jc l2).set i (.int (x.dx+d.1))))) cQ=some (.lst (mR l2)):=by rw[a6 P2.wr];exact P2.w
   have ahP:(upd aB cu (.lst ((jc l2).set i (.int (x.dx+d.1))))) cu=some (.lst ((jc l2).set i (.int (x.dx+d.1)))):=a7;have T3:(upd aB cu (.lst ((jc l2).set i (.int (x.dx+d.1))))) dh=some (.lst (lg l2)):=by rw[a6 P2.hn.symm];exact P2.u
   have ri:(upd aB cu (.lst ((jc l2).set i (.int (x.dx+d.1))))) D=some (.lst (left.map nat)):=by rw[a6 ahN];exact hd2
   generalize upd aB cu (.lst ((jc l2).set i (.int (x.dx+d.1))))=aJ at *;refine⟨_,Z,row,_,dx,_,_,Z,sm3 _ _ dO,T.eA,T.yV,Z,_,Z,dh,_,_,V.int x.dy,Z,Z,aT.of T3,gM (by simp[lg,rP]),_,Z,mp,_,Dy,_,_,Z,sm3 _ _ Dz,T.yS,T.Xl,Z,_,_,Z,Z,dh,_,_,i,Z,Z,T3,vM (by simp[lg];exact uq),?_⟩;have ahQ:aQ G (upd aJ dh (.lst ((lg l2).set i (.int (x.dy+d.2.1))))):=fun b o e=>by rw[a6 (Il b o e).2.2];exact sm3 _ _ e
   have aoF:(upd aJ dh (.lst ((lg l2).set i (.int (x.dy+d.2.1))))) cQ=some (.lst (mR l2)):=by rw[a6 P2.TY];exact CK
   have aDi:(upd aJ dh (.lst ((lg l2).set i (.int (x.dy+d.2.1))))) cu=some (.lst ((jc l2).set i (.int (x.dx+d.1)))):=by rw[a6 P2.hn];exact ahP
   have aDj:(upd aJ dh (.lst ((lg l2).set i (.int (x.dy+d.2.1))))) dh=some (.lst ((lg l2).set i (.int (x.dy+d.2.1)))):=a7;have aDk:(upd aJ dh (.lst ((lg l2).set i (.int (x.dy+d.2.1))))) D=some (.lst (left.map nat)):=by rw[a6 ahO];exact ri
   generalize upd aJ dh (.lst ((lg l2).set i (.int (x.dy+d.2.1))))=bB at *;refine⟨_,Z,row,_,dx,_,_,Z,ahQ _ _ dO,T.eA,T.vp,Z,_,Z,cQ,_,_,V.int x.advance,Z,Z,aT.of aoF,gM (by simp[mR,rP]),_,Z,mp,_,Dy,_,_,Z,ahQ _ _ Dz,T.yS,T.Xm,Z,_,_,Z,Z,cQ,_,_,i,Z,Z,aoF,vM (by simp[mR];exact uq),?_⟩;refine⟨⟨_,_,Z⟩,by rw[a6 ahM];exact aDk,P2.to (vO _ _ _ _ fun _=>rfl) (vO _ _ _ _ fun _=>rfl) (fun b o e=>by rw[a6 (Il b o e).1];exact ahQ _ _ e) ?_ ?_ ?_⟩
   ·rw[a7];unfold mR;rw[Ii _ _ rP]
   ·rw[a6 P2.wr.symm,aDi];unfold jc;rw[Ii _ _ rP]
   ·rw[a6 P2.TY.symm,aDj];unfold lg;rw[Ii _ _ rP]
 ·rw[ew,fZ (cG _)]at P2;exact k1 aB P2
theorem some_at{g:Item->V}{l:List Item}{i:Nat}{h:Item->Item}(hh:∀ x,g (h x)=g x):some (HO.lst (l.map g))=some (HO.lst ((Sw28.at_ l i h).map g)):=by
 rw[vO _ _ _ _ hh]
theorem aDl{H:ao}{v:V}{tb:List (Nat×Nat×Int)}(h:S7 H v tb):∃ dM kvs,v=.ref dM/\H dM=some (.gD kvs)/\∀ a b,(dX kvs (Sg.k2 a b)).getD (.int 0)=.int (U8 tb a b):=by
 obtain⟨dM,kvs,e,ak,pp⟩:=h;refine⟨dM,kvs,e,ak,fun a b=>?_⟩;have:=agR (ka:=fun y:Nat×Nat×Int=>y.1) (kb:=fun y=>y.2.1) (R:=fun H v y=>y2 H v y.2.2) (H:=H) a b pp;have ahR:(tb.find? fun x=>x.1 == a && x.2.1 == b)=tb.find? fun x=>decide (x.1=a) && decide (x.2.1=b):=by
  congr 1
 unfold U8;rw[ahR];cases z:tb.find? fun x=>decide (x.1=a) && decide (x.2.1=b)with
 |none=>rw[this.1 z];rfl
 |some y =>
  obtain⟨u,cD,aA⟩:=this.2 y z;rw[cD];exact aA
theorem aDm{α β:Type}{l:List α}{g:β->α->β}{b:β}{m:Nat}{x:α}(hm:l.length=m+1)(aq:l[m]?=some x)(h:g ((l.take m).foldl g b) x=(l.take m).foldl g b):l.foldl g b=(l.take m).foldl g b:=by
 have e:l=l.take m++[x]:=by
  rw[← take_snoc aq,← hm,fZ (cG _)]
 conv=>lhs;rw[e]
 rw[oh];exact h
theorem aDn(T:Txt K av t):cI P w K av base (cL P w) 2 t.Qc t.Qd ["font","rule","row"] (Ij t fun s=>∃ tb,s=.pair tb):=by
 refine T.RC.cY Ye gb.cW ?_;rintro bJ A outer s H _ Q E aA ⟨bV,b,c,rfl,aY,f,r,row,G,cQ,cu,dh,l,rfl,rfl,jO,hf,d9,iy,iz,P,aF,mL,k1⟩;refine⟨_,(aV (cp (i:=3) Ye.nd rfl (Or.inl rfl) (fj (aj 0) T.gn T.yP (H4 T) aA.bf T.GF .nil bh (aD (aj 1) (aD (bO (aj 2) rfl) aM)))) (bj (ho (gO dH rfl) rfl (abo rfl T.jz (aD b3 (aD (hv iG rfl T.hA hM (aD (aj 3) aM)) aM))) (dj (i:=4) Ye.nd rfl (Or.inl rfl)) (aV (cp (i:=5) Ye.nd rfl (Or.inl rfl) (r9 (aD (eN gx (bO (aj 2) rfl) (eN gx (aj 3) (e4 kv (aj 4) b3) (fun _ _=>rfl)) (fun _ _=>rfl)) (aD (eN gx (bO (aj 2) rfl) (eN gx (aj 3) (aj 4) (fun _ _=>rfl)) (fun _ _=>rfl)) aM)))) (bj (Vn (bO (aj 2) rfl) (eN gx (aj 3) (e4 kv (aj 4) b3) (fun _ _=>rfl)) Wi (FN (k4 aA) (bO (aj 1) rfl) (aj 5) b3 ⟨rfl,rfl,rfl,rfl⟩) Bm set_list)))))),?_⟩;apply cA;intros;obtain⟨tb,hj⟩:=jO;have kV:=sE.at iz;obtain⟨fl,fX,rb,e,hY,hK⟩:=iz;subst e;have hK:S7 G rb tb:=by
  have z:vJ t G rb r.rule:=hK;rw[hj]at z;exact z
 obtain⟨dM,kvs,e,mO,o7⟩:=aDl hK;subst e;have Jh:r=⟨r.skip,.pair tb⟩:=by cases r;subst hj;rfl
 obtain⟨dx,bF,ca,dO,e2,hW⟩:=P.cX;obtain⟨dN,_,_,_,_,_,_,_,fc,_⟩:=id hf;have jm:∀ s∈l.map (fun x=>x.sign),s<f.cls.length:=fun s aH=>by
  obtain⟨x,aq,rfl⟩:=g5.mp aH;rw[d9.cl];exact mL x aq
 refine⟨_,Z,aY,dN,_,Z,P.bY _ _ fc,Z,_,Z,_,Z,row,_,dx,_,_,Z,P.bY _ _ dO,T.eA,T.iv,Z,?_⟩;refine⟨_,_,_,Z,aY,f,r.skip,bF,_,Z,Z,mJ P.bY hf,kV.mono P.bY,P.bY _ _ e2,d9.pG r iy,by simp;omega,jm,d9.r4,fun D H1 s1 bp hd=>?_⟩;rw[zY]at hd;have uP:∀ i∈dz (passed f r.skip) 0 l,i<l.length:=fun i hi=>by have:=(oD _ hi).2;omega
 have aoG:=fun(l':List Item) (aH:l'.map (fun x=>x.sign)=l.map fun x=>x.sign) (m i j:Nat) hi bM=>aq1 f r.skip tb (l:=l) (l':=l') aH (m:=m) (i:=i) (j:=j) hi bM;have aoH:=fun(l':List Item) (aH:l'.map (fun x=>x.sign)=l.map fun x=>x.sign) (m i:Nat) hi hm=>aq2 f r.skip tb (l:=l) (l':=l') aH (m:=m) (i:=i) hi hm;rw[← Jh]at aoG aoH;have zv:(dz (passed f r.skip) 0 l).length<=4096:=by rw[← zY];exact jf Zt (by simp;omega)
 generalize dz (passed f r.skip) 0 l=left at *;have ahM:D≠cQ:=(bQ P.w bp).symm;refine⟨_,Z,D,_,Z,.inl (aT.of hd),_,_,Z,⟨by omega,by omega,by omega,by simp;omega⟩,?_⟩;refine ta (fun j σ aB=>(∃ s4 s5,σ=[some (.ref aY),some (.ref fl),some (.ref row),some (.ref D),s4,s5])/\aB D=some (.lst (left.map nat))/\PR t G aB row cQ cu dh ((left.take j).foldl (placeAt f r) l)) ⟨⟨_,_,rfl⟩,hd,P.on s1⟩ (fun j σ aB bM ⟨⟨s4,s5,e⟩,hd2,P2⟩=>?_) fun σ aB ⟨_,_,P2⟩=>?_
 ·subst e;have aoI:j+1<left.length:=by simp at bM;omega
  have lE:left[j]?=some (left[j]'(by omega)):=dR (by omega);have aoJ:left[j+1]?=some left[j+1]:=dR aoI;have Kl:=uP _ (mV (l:=left) (n:=j) (by omega));have aHW:=uP _ (mV aoI);have bD:(1:Int)+(j:Int)-1=(j:Int):=by omega
  have a8:(1:Int)+(j:Int)=((j+1:Nat):Int):=by omega
  have aoK:(left.map nat)[j]?=some (nat (left[j]'(by omega))):=by simp[lE]
  have Ds:(left.map nat)[j+1]?=some (nat left[j+1]):=by simp[aoJ]
  rw[take_snoc lE,oh,hr,rU];generalize left[j]'(by omega)=i at *;generalize left[j+1]=i2 at *;have k9:=Es f r (left.take j) l;generalize (left.take j).foldl (placeAt f r) l=l2 at *;have oN:l2.length=l.length:=by have:=congrArg List.length k9;simpa using this
  have uq:i<l2.length:=by omega
  have ahS:i2<l2.length:=by omega
  have rP:l2[i]?=some l2[i]:=dR uq;rw[aoG l2 k9 j i i2 lE aoJ];generalize l2[i]=x at *;have sI:aB bF=some (.lst ((l2.map fun x=>x.sign).map nat)):=by rw[k9];exact P2.bY _ _ e2
  refine⟨_,Z,row,_,dx,_,_,Z,P2.bY _ _ dO,T.eA,T.iv,Z,?_⟩;refine⟨_,Z,_,Z,_,_,Z,Z,D,_,_,_,Z,Z,aT.of hd2,at_of (j:=j) bD aoK,bF,_,_,_,Z,Z,aT.of sI,gM (Ik uq),?_⟩;refine⟨_,Z,row,_,dx,_,_,Z,P2.bY _ _ dO,T.eA,T.iv,Z,?_⟩;refine⟨_,Z,_,Z,D,_,_,_,Z,Z,aT.of hd2,at_of (j:=j+1) a8 Ds,bF,_,_,_,Z,Z,aT.of sI,gM (Ik ahS),tW,fun U kN=>?_⟩;have aDo:(upd aB U (.tup [nat (signAt l2 i),nat (signAt l2 i2)])) U=some (.tup ((Sg.k2 (signAt l2 i) (signAt l2 i2)).map c0)):=a7;have P3:=P2.new (o:=.tup [nat (signAt l2 i),nat (signAt l2 i2)]) kN;have ri:(upd aB U (.tup [nat (signAt l2 i),nat (signAt l2 i2)])) D=some (.lst (left.map nat)):=by rw[a6 (bQ hd2 kN)];exact hd2
  generalize upd aB U (.tup [nat (signAt l2 i),nat (signAt l2 i2)])=aJ at *;refine⟨_,Z,row,_,dx,_,_,Z,P3.bY _ _ dO,T.eA,T.vp,Z,?_⟩;refine⟨_,Z,_,Z,_,_,Z,Z,D,_,_,_,Z,Z,aT.of ri,at_of (j:=j) bD aoK,cQ,_,_,V.int x.advance,Z,Z,aT.of P3.w,gM (by simp[mR,rP]),?_⟩;refine⟨_,Z,fl,_,fX,_,_,Z,P3.bY _ _ hY,T.jx,T.rt,Z,dM,Z,.inr ⟨_,.inl (P3.bY _ _ mO)⟩,_,Z,_,hT.t (k:=Sg.k2 (signAt l2 i) (signAt l2 i2)) (P3.bY _ _ mO) aDo,?_⟩;rw[o7];refine⟨_,_,Z,Z,cQ,_,_,i,Z,Z,P3.w,vM (by simp[mR];exact uq),⟨_,_,Z⟩,by rw[a6 ahM];exact ri,P3.to (vO _ _ _ _ fun _=>rfl) (vO _ _ _ _ fun _=>rfl) (fun b o e=>by rw[a6 (bQ e P3.Ih)];exact P3.bY _ _ e) ?_ ?_ ?_⟩
  ·rw[a7];unfold mR;rw[Ii _ _ rP]
  ·rw[a6 P3.wr.symm,P3.r];exact some_at fun _=>rfl
  ·rw[a6 P3.TY.symm,P3.u];exact some_at fun _=>rfl
 ·refine k1 aB ?_;have en:(((left.map nat).length:Nat):Int)-1=((left.length:Nat):Int)-1:=by simp
  by_cases h0:left.length=0
  ·have:left=[]:=List.length_eq_zero_iff.mp h0
   subst this;simpa using P2
  ·have dr:((((left.map nat).length:Nat):Int)-1).toNat=left.length-1:=by rw[en];omega
   rw[dr]at P2;have Gi:left[left.length-1]?=some (left[left.length-1]'(by omega)):=dR (by omega);rw[aDm (m:=left.length-1) (by omega) Gi]
   ·exact P2
   ·exact aoH _ (Es f r _ l) _ _ Gi (by omega)
theorem aDp{H:ao}{v:V}{ms:List Anchor}(h:xG (fun a=>bI a.sign) (xM t) H v ms):∃ dM kvs,v=.ref dM/\H dM=some (.dW kvs)/\∀ s,(Sw28.anchorOf ms s=none->dX kvs (bI s)=none)/\∀ a,Sw28.anchorOf ms s=some a->∃ u,dX kvs (bI s)=some u/\xM t H u a:=by
 obtain⟨dM,kvs,e,ak,pp⟩:=h;refine⟨dM,kvs,e,ak,fun s=>?_⟩;have:=Hf (key:=fun a:Anchor=>bI a.sign) (R:=xM t) (H:=H) (bI s) pp;have ahR:(ms.find? fun x=>decide (bI x.sign=bI s))=Sw28.anchorOf ms s:=by
  unfold Sw28.anchorOf;congr 1
  funext x
  rw[show(x.sign == s)=decide (x.sign=s) from rfl];exact wa.mpr n6
 rw[ahR]at this;exact this
theorem aDq{H:ao}{v:V}{ms:List Anchor}(h:S6 (fun a=>a.sign) (fun a=>a.cls) (xM t) H v ms):∃ dM kvs,v=.ref dM/\H dM=some (.gD kvs)/\∀ s c,(Sw28.baseOf ms s c=none->dX kvs (Sg.k2 s c)=none)/\∀ a,Sw28.baseOf ms s c=some a->∃ u,dX kvs (Sg.k2 s c)=some u/\xM t H u a:=by
 obtain⟨dM,kvs,e,ak,pp⟩:=h;refine⟨dM,kvs,e,ak,fun s c=>?_⟩;exact agR (ka:=fun a:Anchor=>a.sign) (kb:=fun a=>a.cls) (R:=xM t) (H:=H) s c pp
inductive aoL(t:bW)(a b c d e:V)(H:ao)(Q:bx)(af0:cM):Prop
 |mk (row G cQ cu dh l ms bs i p) (sp:Int):zJ t G a (ms,bs)->b=.ref row->c=nat i->d=nat p->e=.int sp->PR t G H row cQ cu dh l->i<l.length->p<l.length->sp=Sw28.carried l p i->(∀ H',(∀ b o,b≠cu->b≠dh->H b=some o->H' b=some o)->PR t G H' row cQ cu dh (setOn ms bs l i p)->Q .non H')->aoL t a b c d e H Q af0
def aDr(t:bW):eX:=xB (aoL t)
theorem aoM(T:Txt K av t):cI P w K av base (cL P w) 1 t.Qe t.Qf ["anchors","row","at","base","span"] (aDr t):=by
 refine T.Gz.cY afV xB.cW ?_;rintro bJ A outer s H _ Q E aA ⟨bV,a1,a2,a3,a4,rfl,row,G,cQ,cu,dh,l,ms,bs,i,p,sp,⟨ap,aoN,S9,ez,rfl,aoO,Yx,aDs⟩,rfl,rfl,rfl,rfl,P,hi,aL,yv,k1⟩;refine⟨_,(aV (cp (i:=5) afV.nd rfl (Or.inl rfl) (Ka (k4 aA) (bO (aj 0) rfl) (eN gx (bO (aj 1) rfl) (aj 2) (fun _ _=>rfl)) ⟨rfl,rfl,rfl,rfl⟩)) (aV (gh (pL (yp (aj 5))) (bj abh) ht) (aV (cp (i:=6) afV.nd rfl (Or.inl rfl) (Ka (k4 aA) (bO (aj 0) rfl) (r9 (aD (eN gx (bO (aj 1) rfl) (aj 3) (fun _ _=>rfl)) (aD (bO (aj 5) rfl) aM))) ⟨rfl,rfl,rfl,rfl⟩)) (aV (gh (pL (yp (aj 6))) (bj abh) ht) (aV (Fj (e4 kv (e4 kv (e4 m7 (eN gx (bO (aj 1) rfl) (aj 3) (fun _ _=>rfl)) (bO (aj 6) rfl)) (bO (aj 5) rfl)) (aj 4)) (Fg (bO (aj 1) rfl) (aj 2) set_list)) (bj (Fj (e4 kv (e4 m7 (eN gx (bO (aj 1) rfl) (aj 3) (fun _ _=>rfl)) (bO (aj 6) rfl)) (bO (aj 5) rfl)) (Fg (bO (aj 1) rfl) (aj 2) set_list)))))))),?_⟩;apply wL;intros;obtain⟨pI,mk,e,aoP,T4⟩:=aDp Yx;subst e;obtain⟨bb,jH,e,sD,aoQ⟩:=aDq aDs;subst e;obtain⟨dx,bF,ca,dO,e2,hW⟩:=P.cX;have rP:l[i]?=some l[i]:=dR hi;have ahT:l[p]?=some l[p]:=dR aL;refine⟨_,Z,ap,_,aoN,_,_,Z,P.bY _ _ aoO,T.Gu,T.Xh,Z,pI,Z,.inl ⟨_,.inl (P.bY _ _ aoP)⟩,?_⟩;refine⟨_,Z,row,_,dx,_,_,Z,P.bY _ _ dO,T.eA,T.iv,Z,_,Z,bF,_,_,_,Z,Z,aT.of (P.bY _ _ e2),gM (Ik hi),_,hT.k (k:=bI (signAt l i)) (P.bY _ _ aoP),?_⟩;cases hm:Sw28.anchorOf ms (signAt l i)with
 |none =>
  have es:setOn ms bs l i p=l:=by unfold setOn;rw[hm]
  rw[(T4 _).1 hm];refine⟨_,Z,_,Z,dD (fun _=>?_) fun h=>absurd (fu rfl) h⟩;exact k1 H (fun _ _ _ _ e=>e) (by rw[es];exact P)
 |some m =>
  obtain⟨u,cD,mp,Dy,rfl,Dz⟩:=(T4 _).2 m hm;rw[cD];refine⟨_,Z,_,Z,dD (fun h=>?_) fun _=>?_⟩
  ·rw[show decide ((some (V.ref mp)).getD V.non=V.non)=false from zW]at h;cases h
  refine⟨_,Z,ap,_,aoN,_,_,Z,P.bY _ _ aoO,T.Gu,T.Xi,Z,bb,Z,.inr ⟨_,.inl (P.bY _ _ sD)⟩,?_⟩;refine⟨_,Z,row,_,dx,_,_,Z,P.bY _ _ dO,T.eA,T.iv,Z,_,Z,bF,_,_,_,Z,Z,aT.of (P.bY _ _ e2),gM (Ik aL),?_⟩;refine⟨_,Z,mp,_,Dy,_,_,Z,P.bY _ _ Dz,T.tL,T.QM,Z,tW,fun U kN=>?_⟩;have P2:=P.new (o:=.tup [nat (signAt l p),nat m.cls]) kN;have aDt:(upd H U (.tup [nat (signAt l p),nat m.cls])) U=some (.tup ((Sg.k2 (signAt l p) m.cls).map c0)):=a7;have s2:aQ H (upd H U (.tup [nat (signAt l p),nat m.cls])):=ef (aQ.refl _) kN;generalize upd H U (.tup [nat (signAt l p),nat m.cls])=aB at *;refine⟨_,hT.t (k:=Sg.k2 (signAt l p) m.cls) (P2.bY _ _ sD) aDt,?_⟩;cases ak:Sw28.baseOf bs (signAt l p) m.cls with
  |none =>
   have es:setOn ms bs l i p=l:=by unfold setOn;rw[hm];dsimp only;rw[ak]
   rw[(aoQ _ _).1 ak];refine⟨_,Z,_,Z,dD (fun _=>?_) fun h=>absurd (fu rfl) h⟩;exact k1 aB (fun _ _ _ _ e=>s2 _ _ e) (by rw[es];exact P2)
  |some b =>
   obtain⟨w,hw,ahU,aoR,rfl,aoS⟩:=(aoQ _ _).2 b ak;rw[hw];refine⟨_,Z,_,Z,dD (fun h=>?_) fun _=>?_⟩
   ·rw[show decide ((some (V.ref ahU)).getD V.non=V.non)=false from zW]at h;cases h
   have es:setOn ms bs l i p=Sw28.at_ l i fun x=>{ x with dx:=l[p].dx+b.x-m.x-Sw28.carried l p i,dy:=l[p].dy+b.y-m.y }:=by
    unfold setOn;rw[hm];dsimp only;rw[ak,ahT]
   have Il:∀ b o,G b=some o->b≠cQ/\b≠cu/\b≠dh:=fun b o e=>⟨bQ e P2.Ih,bQ e P2.gr,bQ e P2.TX⟩;generalize l[p]=y at *;generalize l[i]=x at *;refine⟨_,Z,row,_,dx,_,_,Z,P2.bY _ _ dO,T.eA,T.yU,Z,_,Z,cu,_,_,V.int y.dx,Z,Z,aT.of P2.r,gM (by simp[jc,ahT]),?_⟩;refine⟨_,Z,ahU,_,aoR,_,_,Z,P2.bY _ _ aoS,T.tL,T.QS,Z,_,_,Z,Z,_,Z,mp,_,Dy,_,_,Z,P2.bY _ _ Dz,T.tL,T.QS,Z,_,_,Z,Z,_,Z,_,_,Z,Z,?_⟩;refine⟨_,Z,row,_,dx,_,_,Z,P2.bY _ _ dO,T.eA,T.yU,Z,_,Z,cu,_,_,i,Z,Z,P2.r,vM (by simp[jc];exact hi),?_⟩;have sm3:aQ G (upd aB cu (.lst ((jc l).set i (.int (y.dx+b.x-m.x-sp))))):=fun b o e=>by rw[a6 (Il b o e).2.1];exact P2.bY _ _ e
   have CK:(upd aB cu (.lst ((jc l).set i (.int (y.dx+b.x-m.x-sp))))) cQ=some (.lst (mR l)):=by rw[a6 P2.wr];exact P2.w
   have ahP:(upd aB cu (.lst ((jc l).set i (.int (y.dx+b.x-m.x-sp))))) cu=some (.lst ((jc l).set i (.int (y.dx+b.x-m.x-sp)))):=a7;have T3:(upd aB cu (.lst ((jc l).set i (.int (y.dx+b.x-m.x-sp))))) dh=some (.lst (lg l)):=by rw[a6 P2.hn.symm];exact P2.u
   have k3:∀ c o,c≠cu->aB c=some o->(upd aB cu (.lst ((jc l).set i (.int (y.dx+b.x-m.x-sp))))) c=some o:=fun c o n e=>by rw[a6 n];exact e
   dsimp only;generalize upd aB cu (.lst ((jc l).set i (.int (y.dx+b.x-m.x-sp))))=aJ at *;refine⟨_,Z,row,_,dx,_,_,Z,sm3 _ _ dO,T.eA,T.yV,Z,_,Z,dh,_,_,V.int y.dy,Z,Z,aT.of T3,gM (by simp[lg,ahT]),?_⟩;refine⟨_,Z,ahU,_,aoR,_,_,Z,sm3 _ _ aoS,T.tL,T.QT,Z,_,_,Z,Z,_,Z,mp,_,Dy,_,_,Z,sm3 _ _ Dz,T.tL,T.QT,Z,_,_,Z,Z,?_⟩;refine⟨_,Z,row,_,dx,_,_,Z,sm3 _ _ dO,T.eA,T.yV,Z,_,Z,dh,_,_,i,Z,Z,T3,vM (by simp[lg];exact hi),?_⟩;refine k1 _ (fun c o n1 n2 e=>by rw[a6 n2];exact k3 _ _ n1 (s2 _ _ e)) ?_;rw[es];refine P2.to (vO _ _ _ _ fun _=>rfl) (vO _ _ _ _ fun _=>rfl) (fun b o e=>by rw[a6 (Il b o e).2.2];exact sm3 _ _ e) ?_ ?_ ?_
   ·rw[a6 P2.TY,CK];exact some_at fun _=>rfl
   ·rw[a6 P2.hn,ahP];unfold jc;rw[Ii _ _ rP,yv]
   ·rw[a7];unfold lg;rw[Ii _ _ rP]
def gC(f:Font)(r:Rule Sw28.Pos)(b:List Item)(y:Item×Nat):List Item:=if passed f r.skip y.1=true then b else placeAt f r b y.2
theorem aDu(f:Font)(r:Rule Sw28.Pos)(b:List Item)(y:Item×Nat):(gC f r b y).map (fun x=>x.sign)=b.map fun x=>x.sign:=by
 unfold gC;split
 ·rfl
 ·exact aDe f r b y.2
theorem aoT(f:Font)(r:Rule Sw28.Pos):∀ (bN:List (Item×Nat)) (b:List Item),(bN.foldl (gC f r) b).map (fun x=>x.sign)=b.map fun x=>x.sign
 | [],_=>rfl
 |y::bN,b=>by rw[hr,aoT f r bN,aDu]
def DG(f:Font)(l l2:List Item)(i:Nat)(bv qU:Int):Prop:=match pD f l i with
 |none=>bv=-1
 |some p=>bv=(p:Int)/\qU=Sw28.carried l2 p i
theorem aDv{f:Font}{l:List Item}{i:Nat}{x:Item}(h:l[i]?=some x):((l[i]?).any fun x=>Sw28.clsOf f x != 3)=!decide (f.cls.getD x.sign 0=3):=by
 rw[h];rfl
theorem aDw(T:Txt K av t):cI P w K av base (cL P w) 2 t.Qg t.Qh ["font","rule","row"] (Ij t fun s=>∃ m b,s=.onBase m b):=by
 refine T.RD.cY yZ gb.cW ?_;rintro bJ A outer s H _ Q E aA ⟨bV,b,c,rfl,aY,f,r,row,G,cQ,cu,dh,l,rfl,rfl,jO,hf,d9,iy,iz,P,aF,mL,k1⟩;refine⟨_,(aV (cp (i:=3) yZ.nd Z (Or.inl Z) (abu aby b3)) (aV (cp (i:=4) yZ.nd Z (Or.inl Z) b3) (bj (ho (gO dH Z) Z (BK Z T.w7 (aD (bO (aj 2) Z) aM)) (s7 Z (jL (dj (i:=5) yZ.nd Z (Or.inl Z)) (jL (dj (i:=6) yZ.nd Z (Or.inl Z)) r6))) (aV (gh (PW.pt (abe (gK abz (aj 3) b3 (fe _)) (abb (abg (Bp (fj (aj 0) T.gn T.QF (ahl T) aA.bf T.afD .nil bh (aD (aj 1) (aD (aj 6) aM))) (fun _=>Z)))))) (bj (er (dG (aoM T) aA.bf Z T.XQ T.Gz.aG T.alb .nil bh (aD (bO (aj 1) Z) (aD (aj 2) (aD (aj 5) (aD (aj 3) (aD (aj 4) aM)))))))) ht) (bj (gh (Bp (fj (aj 0) T.gn T.WW (anJ T) aA.bf T.ak9 .nil bh (aD (aj 6) aM)) (fun _=>Z)) (bj (Fl (i:=4) yZ.nd Z (Or.inl Z) (eN gx (bO (aj 2) Z) (aj 5) (fun _ _=>Z)) Bm)) (aV (cp (i:=3) yZ.nd Z (Or.inl Z) (aj 5)) (bj (cp (i:=4) yZ.nd Z (Or.inl Z) (eN gx (bO (aj 2) Z) (aj 5) (fun _ _=>Z)))))))))))),?_⟩;apply dY;intros;obtain⟨ms,bs,hj⟩:=jO;have kV:=sE.at iz;obtain⟨fl,fX,rb,e,hY,hK⟩:=iz;subst e;have hK:zJ t G rb (ms,bs):=by
  have z:vJ t G rb r.rule:=hK;rw[hj]at z;exact z
 have Jh:r=⟨r.skip,.onBase ms bs⟩:=by cases r;subst hj;rfl
 have Dj:=fun l' i=>aq8 f r.skip ms bs l' i;rw[← Jh]at Dj;obtain⟨dx,bF,ca,dO,e2,hW⟩:=P.cX;obtain⟨dN,_,_,_,_,_,_,_,fc,_⟩:=id hf;have aDx:(dz (passed f r.skip) 0 l).foldl (placeAt f r) l=(l.zipIdx).foldl (gC f r) l:=aaT (passed f r.skip) (placeAt f r) l 0 l;rw[aDx]at k1;refine⟨_,Z,_,Z,row,_,dx,_,_,Z,P.bY _ _ dO,T.eA,T.iv,Z,bF,_,Z,aT.of (P.bY _ _ e2),?_⟩;refine Ho (xs:=(l.map fun x=>x.sign).map nat) (fun i σ aB=>∃ (bv qU:Int) (s5 cU:Option V),σ=[some (.ref aY),some (.ref fl),some (.ref row),some (.int bv),some (.int qU),s5,cU]/\PR t G aB row cQ cu dh ((l.zipIdx.take i).foldl (gC f r) l)/\DG f l ((l.zipIdx.take i).foldl (gC f r) l) i bv qU) ⟨_,_,_,_,rfl,P,rfl⟩ (fun i σ aB _ ⟨_,_,_,_,_,P2,_⟩=>aT.of (P2.bY _ _ e2)) (fun i v ey σ aB aZ ⟨bv,qU,s5,cU,e,P2,lJ⟩ cv=>?_) fun σ aB ⟨_,_,_,_,_,P2,_⟩=>?_
 ·subst e;have hi:i<l.length:=by simpa using(eE.mp aZ).1
  have rO:l[i]?=some l[i]:=dR hi;have ev:v=nat l[i].sign:=by
   rw[ei,ei,rO]at aZ;exact(Option.some.inj aZ).symm
  subst ev;have Dn:l[i].sign<f.cls.length:=by rw[d9.cl];exact mL _ (mV hi)
  rw[take_snoc (zip_get rO),oh,hr,rU];have k9:=aoT f r (l.zipIdx.take i) l;generalize (l.zipIdx.take i).foldl (gC f r) l=l2 at *;have Df:=aDv (f:=f) rO;have H9:=Jl f r.skip l[i];generalize l[i]=x at *;have oN:l2.length=l.length:=by have:=congrArg List.length k9;simpa using this
  have P3:=P2.new (o:=.tup [nat i,nat x.sign]) cv;generalize upd aB ey (.tup [nat i,nat x.sign])=aJ at *;clear P2 cv;have jF:∀ j,pD f l2 j=pD f l j:=fun j=>aq4 f k9 j;have fin:∀ (D:Ends) (bB:ao) (l3:List Item),(∀ σ b2,(∃ (bv qU:Int) (s5 cU:Option V),σ=[some (.ref aY),some (.ref fl),some (.ref row),some (.int bv),some (.int qU),s5,cU]/\PR t G b2 row cQ cu dh l3/\DG f l l3 (i+1) bv qU)->D.cT σ b2) ->
    PR t G bB row cQ cu dh l3->l3.map (fun x=>x.advance)=l2.map (fun x=>x.advance)->l3.length=l.length ->
    ajA (afY K (Fw t.et "is_mark" (fQ fun a b H Q _=>∃ aY f s,a=.ref aY/\b=nat s/\lO t H aY f/\s<f.cls.length/\Q (.bl (decide (f.cls.getD s 0=3))) H) [] E (gg 0) (nR (gg 6) m9))) (ajD 4 (wM (JZ K) (Vv K (gg 2) "widths") (gg 5)) (qz fun i j=>.int (i+j))) (c3 (Fi (gg 5) (kW 3)) (Fi (wM (JZ K) (Vv K (gg 2) "widths") (gg 5)) (kW 4))) D
     [some (.ref aY),some (.ref fl),some (.ref row),some (.int bv),some (.int qU),some (nat i),some (nat x.sign)] bB:=fun D bB l3 bp vP aDy ZW=>by
   have ahS:i<l3.length:=by omega
   have xO:l3[i]?=some l3[i]:=dR ahS;have u5:(mR l3)[i]?=some (.int l3[i].advance):=by simp[mR,xO]
   have E_:∀ p,Sw28.carried l3 p i=Sw28.carried l2 p i:=fun p=>aq5 aDy p i;generalize l3[i]=kp at *;refine⟨_,Z,aY,dN,_,Z,vP.bY _ _ fc,Z,_,Z,_,_,Z,aY,f,x.sign,Z,Z,mJ vP.bY hf,Dn,_,Z,dD (fun DK=>?_) fun DK=>?_⟩
   ·refine⟨_,Z,_,Z,row,_,dx,_,_,Z,vP.bY _ _ dO,T.eA,T.vp,Z,_,Z,cQ,_,_,_,Z,Z,aT.of vP.w,gM u5,_,_,Z,Z,bp _ _ ⟨_,_,_,_,rfl,vP,?_⟩⟩;unfold DG at lJ ⊢;rw[ajc,Df,DK];simp only[Bool.not_true,kf,if_false];cases h8:pD f l i with
    |none=>rw[h8]at lJ;exact lJ
    |some p =>
     rw[h8]at lJ;have aoU:=ajd h8;exact⟨lJ.1,by rw[aje (z' aoU) xO,E_,← lJ.2]⟩
   ·refine⟨_,Z,_,Z,row,_,dx,_,_,Z,vP.bY _ _ dO,T.eA,T.vp,Z,_,Z,cQ,_,_,_,Z,Z,aT.of vP.w,gM u5,bp _ _ ⟨_,_,_,_,rfl,vP,?_⟩⟩;have aDz:decide (f.cls.getD x.sign 0=3)=false:=by simpa using DK
    unfold DG;rw[ajc,Df,aDz];simp only[x6,if_true];exact⟨trivial,(ajf xO).symm⟩
  have keep:gC f r l2 (x,i)=l2->∀ (D:Ends),(∀ σ b2,(∃ (bv qU:Int) (s5 cU:Option V),σ=[some (.ref aY),some (.ref fl),some (.ref row),some (.int bv),some (.int qU),s5,cU]/\PR t G b2 row cQ cu dh (gC f r l2 (x,i))/\DG f l (gC f r l2 (x,i)) (i+1) bv qU)->D.cT σ b2)->_:=fun aN D bp=>fin D aJ l2 (by rw[aN]at bp;exact bp) P3 rfl oN;have T5:=Dj l2 i;rw[jF]at T5;cases h8:pD f l i with
  |none =>
   rw[h8]at T5;have aN:gC f r l2 (x,i)=l2:=by
    unfold gC;split
    ·rfl
    ·exact T5
   unfold DG at lJ;rw[h8]at lJ;refine⟨_,Z,_,_,Z,Z,_,Z,dD (fun h=>?_) fun h=>?_⟩
   ·have:=h2 h
    omega
   ·exact FT (keep aN _ fun _ _ h=>h)
  |some p =>
   rw[h8]at T5;have aHX:=lJ;unfold DG at lJ;rw[h8]at lJ;obtain⟨aDA,aDB⟩:=lJ;have aoU:=ajd h8;refine⟨_,Z,_,_,Z,Z,_,Z,dD (fun h=>?_) fun h=>absurd (fu (by omega)) h⟩;refine⟨_,Z,aY,dN,_,Z,P3.bY _ _ fc,Z,_,Z,_,Z,_,_,_,Z,aY,f,r.skip,x.sign,Z,Z,mJ P3.bY hf,kV.mono P3.bY,d9.pG r iy,Dn,d9.r4,_,Z,?_⟩;by_cases vL:h4 f r.skip x.sign=true
   ·rw[vL];have aN:gC f r l2 (x,i)=l2:=by
     unfold gC;rw[H9,bL vL]
    exact FT (keep aN _ fun _ _ h=>h)
   ·have aDC:h4 f r.skip x.sign=false:=by simpa using vL
    rw[aDC];have aN:gC f r l2 (x,i)=setOn ms bs l2 i p:=by
     unfold gC;rw[H9,bw vL];exact T5
    refine FW ⟨_,rfl,fl,_,fX,_,_,rfl,P3.bY _ _ hY,T.jx,T.rt,rfl,_,rfl,_,rfl,_,rfl,_,rfl,?_⟩;refine⟨_,_,_,_,_,Z,row,G,cQ,cu,dh,l2,ms,bs,i,p,qU,hK,Z,Z,by rw[aDA],Z,P3,by omega,by omega,aDB,fun bB _ vP=>?_⟩;rw[aN];exact fin _ bB _ (fun _ _ h=>h) vP (aq7 ms bs l2 i p) (by have:=congrArg List.length (aaJ ms bs l2 i p);simp at this;omega)
 ·rw[ew,ew,fZ (by simp)]at P2;exact k1 aB P2
theorem aDD(T:Txt K av t):cI P w K av base (cL P w) 2 t.Qi t.Qj ["font","rule","row"] (Ij t fun s=>∃ m b,s=.onMark m b):=by
 refine T.RG.cY alr gb.cW ?_;rintro bJ A outer s H _ Q E aA ⟨bV,b,c,rfl,aY,f,r,row,G,cQ,cu,dh,l,rfl,rfl,jO,hf,d9,iy,iz,P,aF,mL,k1⟩;refine⟨_,(bj (ho (gO dH Z) Z (gG (fj (aj 0) T.gn T.yP (H4 T) aA.bf T.GF .nil bh (aD (aj 1) (aD (bO (aj 2) Z) aM)))) (dj (i:=3) alr.nd Z (Or.inl Z)) (bj (gh (PW.pt (abe (gK JT (aj 3) b3 (fe _)) (abb (Bp (fj (aj 0) T.gn T.WW (anJ T) aA.bf T.ak9 .nil bh (aD (eN gx (bO (aj 2) Z) (e4 kv (aj 3) b3) (fun _ _=>Z)) aM)) (fun _=>Z))))) (bj (er (dG (aoM T) aA.bf Z T.XQ T.Gz.aG T.alb .nil bh (aD (bO (aj 1) Z) (aD (aj 2) (aD (aj 3) (aD (e4 kv (aj 3) b3) (aD (eN gx (bO (aj 2) Z) (e4 kv (aj 3) b3) (fun _ _=>Z)) aM)))))))) ht)))),?_⟩;obtain⟨ms,bs,hj⟩:=jO;have kV:=sE.at iz;obtain⟨fl,fX,rb,e,hY,hK⟩:=iz;subst e;have hK:zJ t G rb (ms,bs):=by
  have z:vJ t G rb r.rule:=hK;rw[hj]at z;exact z
 obtain⟨dx,bF,ca,dO,e2,hW⟩:=P.cX;obtain⟨dN,_,_,_,_,_,_,_,fc,_⟩:=id hf;have jm:∀ s∈l.map (fun x=>x.sign),s<f.cls.length:=fun s aH=>by
  obtain⟨x,aq,rfl⟩:=g5.mp aH;rw[d9.cl];exact mL x aq
 refine⟨_,Z,aY,dN,_,Z,P.bY _ _ fc,Z,_,Z,_,Z,row,_,dx,_,_,Z,P.bY _ _ dO,T.eA,T.iv,Z,?_⟩;refine⟨_,_,_,Z,aY,f,r.skip,bF,_,Z,Z,mJ P.bY hf,kV.mono P.bY,P.bY _ _ e2,d9.pG r iy,by simp;omega,jm,d9.r4,fun D H1 s1 bp hd=>?_⟩;rw[zY]at hd;have uP:∀ i∈dz (passed f r.skip) 0 l,i<l.length:=fun i hi=>by have:=(oD _ hi).2;omega
 generalize dz (passed f r.skip) 0 l=left at *;refine⟨D,Z,⟨_,aT.of hd⟩,?_⟩;have ahN:D≠cu:=(bQ P.r bp).symm;have ahO:D≠dh:=(bQ P.u bp).symm;refine qy (xs:=left.map nat) (fun j σ aB=>(∃ s3,σ=[some (.ref aY),some (.ref fl),some (.ref row),s3])/\aB D=some (.lst (left.map nat))/\PR t G aB row cQ cu dh ((left.take j).foldl (placeAt f r) l)) ⟨⟨_,rfl⟩,hd,P.on s1⟩ (fun j σ aB _ ⟨_,h,_⟩=>aT.of h) (fun j v σ aB aZ ⟨⟨s3,e⟩,hd2,P2⟩=>?_) fun σ aB ⟨_,_,P2⟩=>?_
 ·subst e;have bM:j<left.length:=by simpa using(eE.mp aZ).1
  have lE:left[j]?=some left[j]:=dR bM;have Kl:=uP left[j] (mV bM);rw[ei,lE]at aZ;cases aZ;rw[take_snoc lE,oh,hr,rU];generalize left[j]=i at *;have k9:=Es f r (left.take j) l;generalize (left.take j).foldl (placeAt f r) l=l2 at *;have oN:l2.length=l.length:=by have:=congrArg List.length k9;simpa using this
  have sI:aB bF=some (.lst ((l2.map fun x=>x.sign).map nat)):=by rw[k9];exact P2.bY _ _ e2
  have Tp:placeAt f r l2 i=if 0<i/\((l2[i-1]?).any fun x=>Sw28.clsOf f x == 3)=true then setOn ms bs l2 i (i-1)else l2:=by
   unfold placeAt Sw28.placed;rw[hj];dsimp only;split<;>rfl
  rw[Tp];refine⟨_,Z,_,_,Z,Z,_,Z,dD (fun h0=>?_) fun h0=>?_⟩
  ·have ahV:0<i:=by have:=h2 h0;omega
   have bD:(i:Int)-1=((i-1:Nat):Int):=by omega
   have ZX:i-1<l2.length:=by omega
   have mY:l2[i-1]?=some l2[i-1]:=dR ZX;have pB:signAt l2 (i-1)=l2[i-1].sign:=uK mY;have xQ:signAt l2 (i-1)<f.cls.length:=by
    rw[pB];refine jm _ ?_;rw[← k9];exact I_ (mV ZX)
   have Z0:(mR l2)[i-1]?=some (.int l2[i-1].advance):=by simp[mR,mY]
   have Ze:Sw28.carried l2 (i-1) i=l2[i-1].advance:=by
    have:=ajf mY
    rwa [show i-1+1=i by omega]at this
   have DN:((l2[i-1]?).any fun x=>Sw28.clsOf f x == 3)=decide (f.cls.getD (signAt l2 (i-1)) 0=3):=by
    rw[mY,pB];rfl
   generalize l2[i-1]=x at *;refine⟨_,Z,aY,dN,_,Z,P2.bY _ _ fc,Z,_,Z,row,_,dx,_,_,Z,P2.bY _ _ dO,T.eA,T.iv,Z,_,Z,_,_,Z,Z,bF,_,_,_,Z,Z,aT.of sI,at_of (j:=i-1) bD (Ik ZX),?_⟩;refine⟨_,_,Z,aY,f,signAt l2 (i-1),Z,Z,mJ P2.bY hf,xQ,_,Z,dD (fun DK=>?_) fun DK=>?_⟩
   ·rw[bL ⟨ahV,by rw[DN];exact DK⟩];refine⟨_,Z,fl,_,fX,_,_,Z,P2.bY _ _ hY,T.jx,T.rt,Z,_,Z,_,Z,_,Z,_,_,Z,Z,?_⟩;refine⟨_,Z,row,_,dx,_,_,Z,P2.bY _ _ dO,T.eA,T.vp,Z,_,Z,_,_,Z,Z,cQ,_,_,_,Z,Z,aT.of P2.w,at_of (j:=i-1) bD Z0,?_⟩;refine⟨_,_,_,_,_,Z,row,G,cQ,cu,dh,l2,ms,bs,i,i-1,_,hK,Z,Z,congrArg V.int bD,Z,P2,by omega,ZX,Ze.symm,fun aJ k3 P3=>⟨⟨_,rfl⟩,k3 _ _ ahN ahO hd2,P3⟩⟩
   ·rw[bw (fun z=>DK (by rw[← DN];exact z.2))];exact⟨⟨_,Z⟩,hd2,P2⟩
  ·have ahV:¬ 0<i:=fun z=>h0 (fu (by omega))
   rw[bw (fun z=>ahV z.1)];exact FT ⟨⟨_,rfl⟩,hd2,P2⟩
 ·rw[ew,fZ (cG _)]at P2;exact k1 aB P2
theorem aDE(T:Txt K av t):cI P w K av base (cL P w) 3 t.Qk t.Ql ["font","rule","row"] (Ij t fun _=>True):=by
 obtain⟨aHY,aDF,aDG⟩:=T.k_MARK_TO_BASE;obtain⟨am5,Td,Te⟩:=T.k_MOVE;obtain⟨aAs,agV,agW⟩:=T.k_PAIR;refine T.RJ.cY ax5 gb.cW ?_;rintro bJ A outer s H _ Q E aA ⟨bV,b,c,rfl,aY,f,r,row,G,cQ,cu,dh,l,rfl,rfl,jO,hf,d9,iy,iz,P,aF,mL,k1⟩;refine⟨_,(bj (gh (gK jN (bO (aj 1) Z) (gV Z Td Te) (fe _)) (bj (er (dG (aDg T) aA.bf Z T.afq T.RB.aG T.axu .nil bh (aD (aj 0) (aD (aj 1) (aD (aj 2) aM)))))) (bj (gh (gK jN (bO (aj 1) Z) (gV Z agV agW) (fe _)) (bj (er (dG (aDn T) aA.bf Z T.afr T.RC.aG T.axv .nil bh (aD (aj 0) (aD (aj 1) (aD (aj 2) aM)))))) (bj (gh (gK jN (bO (aj 1) Z) (gV Z aDF aDG) (fe _)) (bj (er (dG (aDw T) aA.bf Z T.afs T.RD.aG T.axw .nil bh (aD (aj 0) (aD (aj 1) (aD (aj 2) aM)))))) (bj (er (dG (aDD T) aA.bf Z T.aft T.RG.aG T.axx .nil bh (aD (aj 0) (aD (aj 1) (aD (aj 2) aM)))))))))))),?_⟩;obtain⟨fl,fX,rb,e,hY,_⟩:=id iz;subst e;have d8:∀ {pr:Sw28.Pos->Prop},pr r.rule->Ij t pr ([V.ref aY,V.ref fl,V.ref row]++[]) H (fun _ H'=>Q .non H') E:=fun{pr} h=>⟨_,_,_,rfl,aY,f,r,row,G,cQ,cu,dh,l,rfl,rfl,h,hf,d9,iy,iz,P,aF,mL,k1⟩;have hY:=P.bY _ _ hY;have aN:∀ n:Nat,decide (V.int (qe r.rule:Nat)=V.int (n:Nat))=true->qe r.rule=n:=fun n h=>by have:=j8 h;omega
 refine⟨_,Z,fl,_,fX,_,_,Z,hY,T.jx,T.tK,Z,Z,_,Z,dD (fun ak=>?_) fun ak=>?_⟩
 ·have h1:=aN 1 ak
  refine⟨_,Z,_,Z,_,Z,d8 (pr:=fun s=>∃ tb,s=.one tb) ?_⟩;cases e:r.rule<;>rw[e]at h1<;>first|exact⟨_,Z⟩|cases h1
 have n1:qe r.rule≠1:=fun z=>ak (fu (by rw[z];rfl));refine⟨_,Z,fl,_,fX,_,_,Z,hY,T.jx,T.tK,Z,Z,_,Z,dD (fun ak=>?_) fun ak=>?_⟩
 ·have h1:=aN 2 ak
  refine⟨_,Z,_,Z,_,Z,d8 (pr:=fun s=>∃ tb,s=.pair tb) ?_⟩;cases e:r.rule<;>rw[e]at h1<;>first|exact⟨_,Z⟩|cases h1
 have n2:qe r.rule≠2:=fun z=>ak (fu (by rw[z];rfl));refine⟨_,Z,fl,_,fX,_,_,Z,hY,T.jx,T.tK,Z,Z,_,Z,dD (fun ak=>?_) fun ak=>?_⟩
 ·have h1:=aN 3 ak
  refine⟨_,Z,_,Z,_,Z,d8 (pr:=fun s=>∃ m b,s=.onBase m b) ?_⟩;cases e:r.rule<;>rw[e]at h1<;>first|exact⟨_,_,Z⟩|cases h1
 have qx:qe r.rule≠3:=fun z=>ak (fu (by rw[z];rfl));refine⟨_,Z,_,Z,_,Z,d8 (pr:=fun s=>∃ m b,s=.onMark m b) ?_⟩;cases e:r.rule<;>rw[e]at n1 n2 qx<;>first|exact⟨_,_,Z⟩|exact absurd rfl n1|exact absurd rfl n2|exact absurd rfl qx
inductive aoV(t:bW)(s a:V)(H:ao)(Q:bx)(rQ:cM):Prop
 |mk (row dx bF ca hC gw fO) (ss:aK) (aY f G):s=.ref row->a=.ref aY->lO t G aY f->aQ G H->G row=none->H row=some (.ins t.fB dx (mK bF ca hC gw fO))->H bF=some (.lst (ss.map nat))->(∀ s∈ss,s<f.advance.length)->ss.length<=4096->(∀ H' cQ cu dh,a9 [row] H H'->H' row=some (.ins t.fB dx (mK bF ca (.ref cQ) (.ref cu) (.ref dh)))->H' cQ=some (.lst (ss.map fun s=>nat (f.advance.getD s 0)))->H' cu=some (.lst (ss.map fun _=>V.int 0))->H' dh=some (.lst (ss.map fun _=>V.int 0))->H cQ=none->H cu=none->H dh=none->cQ≠cu->cQ≠dh->cu≠dh->Q .non H')->aoV t s a H Q rQ
def aDH(t:bW):eX:=fQ (aoV t)
theorem aDI(T:Txt K av t):cI P w K av base (cL P w) 1 t.Mw t.Mx ["self","font"] (aDH t):=by
 refine T.Xu.cY Cq fQ.cW ?_;rintro bJ A outer s H _ Q E aA ⟨bV,a1,rfl,row,dx,bF,ca,hC,gw,fO,ss,aY,f,G,rfl,rfl,hf,nr,gr,dO,e2,xQ,ji,k1⟩;refine⟨_,(aV (eV (aj 0) (iH (own:=[("sign",2)]) dH (fun _ _ z=>z) Z Cq.nd (gG (bO (aj 0) Z)) (gW (by rfl)) (fun _ _ _ _ _=>dj (i:=2) Cq.nd Z (Or.inl Z)) (fun _ _ _ _ _=>hx) (fun _ _ _ _ _=>(eN (Cu (K':=K) Z) (ry (K':=K) Z (aj 1) Z) (aj 2) (fun _ _=>Z)))) Z) (aV (eV (aj 0) (iH (own:=[("sign",2)]) dH (fun _ _ z=>z) Z Cq.nd (gG (bO (aj 0) Z)) (gW (by rfl)) (fun _ _ _ _ _=>dj (i:=2) Cq.nd Z (Or.inl Z)) (fun _ _ _ _ _=>hx) (fun _ _ _ _ _=>b3)) Z) (bj (eV (aj 0) (iH (own:=[("sign",2)]) dH (fun _ _ z=>z) Z Cq.nd (gG (bO (aj 0) Z)) (gW (by rfl)) (fun _ _ _ _ _=>dj (i:=2) Cq.nd Z (Or.inl Z)) (fun _ _ _ _ _=>hx) (fun _ _ _ _ _=>b3)) Z)))),?_⟩;apply dY;intros;obtain⟨dN,p,c,w,aoW,vc,gs,gA,fc,_,_,hw,_⟩:=id hf;have Z1:bF≠row:=hN e2 dO (by intro z;cases z);refine⟨_,Z,row,_,dx,_,_,Z,dO,T.eA,T.iv,Z,bF,Z,⟨_,aT.of e2⟩,fun cQ Z2=>?_⟩;refine n3 (ss.map fun s=>nat (f.advance.getD s 0)) (by simp) (aT.of e2) (by simp;omega) Z2 (fun i v y H' eo aZ aP aH q=>?_) ?_
 ·rw[ei]at aZ aP;cases e:ss[i]? with
  |none=>rw[e]at aZ;cases aZ
  |some s0 =>
   rw[e]at aZ aP;cases aZ;cases aP;have s':=nr.trans aH;exact⟨_,Z,aY,_,dN,_,_,Z,s' _ _ fc,T.gn,T.WL,Z,_,Z,w,_,_,_,Z,Z,aT.of (s' _ _ hw),gM (xV f.advance (xQ s0 (f9 e))),q⟩
 have Z4:cQ≠row:=(bQ dO Z2).symm;refine⟨_,Z,row,_,dx,_,Z,by rw[a6 Z4.symm];exact dO,T.eA,T.vp,by show 5<1000;decide,?_⟩;have cC:a9 [row] H (upd (upd H cQ (.lst (ss.map fun s=>nat (f.advance.getD s 0)))) row (.ins t.fB dx (cB "widths" (.ref cQ) (mK bF ca hC gw fO)))):=(a9.iY Z2).qM (by simp);have hj:(upd (upd H cQ (.lst (ss.map fun s=>nat (f.advance.getD s 0)))) row (.ins t.fB dx (cB "widths" (.ref cQ) (mK bF ca hC gw fO)))) row=some (.ins t.fB dx (mK bF ca (.ref cQ) gw fO)):=a7;have Z0:(upd (upd H cQ (.lst (ss.map fun s=>nat (f.advance.getD s 0)))) row (.ins t.fB dx (cB "widths" (.ref cQ) (mK bF ca hC gw fO)))) cQ=some (.lst (ss.map fun s=>nat (f.advance.getD s 0))):=by rw[a6 Z4,a7]
 generalize upd (upd H cQ (.lst (ss.map fun s=>nat (f.advance.getD s 0)))) row (.ins t.fB dx (cB "widths" (.ref cQ) (mK bF ca hC gw fO)))=H1 at *;have aoX:=cC _ _ (by simp[Z1]) e2;refine⟨_,Z,row,_,dx,_,_,Z,hj,T.eA,T.iv,Z,bF,Z,⟨_,aT.of aoX⟩,fun cu T6=>?_⟩;refine n3 (ss.map fun _=>V.int 0) (by simp) (aT.of aoX) (by simp;omega) T6 (fun i v y H' eo aZ aP aH q=>?_) ?_
 ·rw[ei]at aP;cases e:ss[i]? with
  |none=>rw[e]at aP;cases aP
  |some s0 =>
   rw[e]at aP;cases aP;exact q
 have Z5:cu≠row:=(bQ hj T6).symm;have aoY:cQ≠cu:=bQ Z0 T6;refine⟨_,Z,row,_,dx,_,Z,by rw[a6 Z5.symm];exact hj,T.eA,T.yU,by show 5<1000;decide,?_⟩;have aDJ:H cu=none:=cC.free (by simp[Z5]) T6;have bZ:a9 [row] H (upd (upd H1 cu (.lst (ss.map fun _=>V.int 0))) row (.ins t.fB dx (cB "rights" (.ref cu) (mK bF ca (.ref cQ) gw fO)))):=(cC.jl T6).qM (by simp);have zL:(upd (upd H1 cu (.lst (ss.map fun _=>V.int 0))) row (.ins t.fB dx (cB "rights" (.ref cu) (mK bF ca (.ref cQ) gw fO)))) row=some (.ins t.fB dx (mK bF ca (.ref cQ) (.ref cu) fO)):=a7;have aoZ:(upd (upd H1 cu (.lst (ss.map fun _=>V.int 0))) row (.ins t.fB dx (cB "rights" (.ref cu) (mK bF ca (.ref cQ) gw fO)))) cQ=some (.lst (ss.map fun s=>nat (f.advance.getD s 0))):=by rw[a6 Z4,a6 aoY];exact Z0
 have ao0:(upd (upd H1 cu (.lst (ss.map fun _=>V.int 0))) row (.ins t.fB dx (cB "rights" (.ref cu) (mK bF ca (.ref cQ) gw fO)))) cu=some (.lst (ss.map fun _=>V.int 0)):=by rw[a6 Z5,a7]
 generalize upd (upd H1 cu (.lst (ss.map fun _=>V.int 0))) row (.ins t.fB dx (cB "rights" (.ref cu) (mK bF ca (.ref cQ) gw fO)))=aB at *;have sI:=bZ _ _ (by simp[Z1]) e2;refine⟨_,Z,row,_,dx,_,_,Z,zL,T.eA,T.iv,Z,bF,Z,⟨_,aT.of sI⟩,fun dh Im=>?_⟩;refine n3 (ss.map fun _=>V.int 0) (by simp) (aT.of sI) (by simp;omega) Im (fun i v y H' eo aZ aP aH q=>?_) ?_
 ·rw[ei]at aP;cases e:ss[i]? with
  |none=>rw[e]at aP;cases aP
  |some s0 =>
   rw[e]at aP;cases aP;exact q
 have ahW:dh≠row:=(bQ zL Im).symm;have ao1:cQ≠dh:=bQ aoZ Im;have ao2:cu≠dh:=bQ ao0 Im;have aDK:H dh=none:=bZ.free (by simp[ahW]) Im;refine⟨_,Z,row,_,dx,_,Z,by rw[a6 ahW.symm];exact zL,T.eA,T.yV,by show 5<1000;decide,?_⟩;refine k1 _ cQ cu dh ((bZ.jl Im).qM (by simp)) a7 ?_ ?_ ?_ Z2 aDJ aDK aoY ao1 ao2
 ·rw[a6 Z4,a6 ao1];exact aoZ
 ·rw[a6 Z5,a6 ao2];exact ao0
 ·rw[a6 ahW,a7]
def ux(f:Font)(e0:Nat):Option (Nat×aK×aK):=f.features.find? fun x=>decide (x.1=e0)
theorem ao3{H:ao}{v:V}{fs:List (Nat×aK×aK)}(h:HJ t H v fs):∃ dM kvs,v=.ref dM/\H dM=some (.dW kvs)/\∀ s,((fs.find? fun x=>decide (x.1=s))=none->dX kvs (bI s)=none)/\∀ x,(fs.find? fun x=>decide (x.1=s))=some x->∃ u,dX kvs (bI s)=some u/\uh t H u x:=by
 obtain⟨dM,kvs,e,ak,pp⟩:=h;refine⟨dM,kvs,e,ak,fun s=>?_⟩;have:=Hf (key:=fun y:Nat×aK×aK=>bI y.1) (R:=uh t) (H:=H) (bI s) pp;rw[Zr]at this;exact this
inductive ao4(t:bW)(a b:V)(H:ao)(Q:bx)(rQ:cM):Prop
 |mk (aY f tl) (tags:aK):a=.ref aY->b=.ref tl->lO t H aY f->H tl=some (.lst (tags.map nat))->tags.length<=64->(∀ D vs,H D=none->Paired (uh t H) vs (tags.filterMap (ux f))->Q (.ref D) (upd H D (.lst vs)))->ao4 t a b H Q rQ
def aDL(t:bW):eX:=fQ (ao4 t)
theorem ao5{H:ao}{f:Font}{kvs:List (Key×V)}(b5:∀ s,(ux f s=none->dX kvs (bI s)=none)/\∀ x,ux f s=some x->∃ u,dX kvs (bI s)=some u/\uh t H u x)(tags:aK):∀ n,n<=tags.length->Paired (uh t H) ((List.range n).filterMap fun i=>dX kvs (bI (tags.getD i 0))) ((tags.take n).filterMap (ux f))
 |0,_=>by simp;exact .nil
 |n+1,h=>by
  have bU:=ao5 b5 tags n (by omega);have e:tags[n]?=some tags[n]:=dR (by omega);have eg:tags.getD n 0=tags[n]:=by simp[List.getD,e]
  rw[p2,Ef,take_snoc e,Ef];refine Sd bU ?_;simp only[Ac,List.filterMap_nil,eg];cases z:ux f tags[n]with
  |none =>
   rw[(b5 _).1 z];exact .nil
  |some x =>
   obtain⟨u,cD,aA⟩:=(b5 _).2 x z;rw[cD];exact .cons aA .nil
theorem aDM(T:Txt K av t):cI P w K av base (cL P w) 1 t.Qm t.Qn ["font","tags"] (aDL t):=by
 refine T.RK.cY afW fQ.cW ?_;rintro bJ A outer s H _ Q E aA ⟨bV,a1,rfl,aY,f,tl,tags,rfl,rfl,hf,vh,ji,k1⟩;refine⟨_,(bj (dK (iH (own:=[("tag",2)]) dH (fun _ _ z=>z) Z afW.nd (gG (aj 1)) (gW (by rfl)) (fun _ _ _ _ _=>dj (i:=2) afW.nd Z (Or.inl Z)) (fun _ _ _ _ _=>(VK (pL (ab9 (k4 aA) (aj 2) (ry (K':=K) Z (aj 0) Z))))) (fun _ _ _ _ _=>(auW (k4 aA) (ry (K':=K) Z (aj 0) Z) (aj 2) (fun _ _=>Z)))))),?_⟩;obtain⟨dN,p,c,w,aoW,vc,gs,gA,fc,_,_,_,_,_,_,jt⟩:=id hf;obtain⟨dM,kvs,rfl,mO,o7⟩:=ao3 jt;refine⟨_,Z,tl,Z,⟨_,aT.of vh⟩,fun D bp=>?_⟩;refine af9 (fun i=>dX kvs (bI (tags.getD i 0))) (aT.of vh) (by simp;omega) bp (fun i v H' eo N aZ aH h1 aC=>?_) ?_
 ·have hi:i<tags.length:=by simpa using(eE.mp aZ).1
  rw[xV tags hi]at aZ;cases aZ;refine⟨_,Z,_,Z,aY,_,dN,_,_,Z,aH _ _ fc,T.gn,T.Cd,Z,dM,_,Z,hT.k (k:=bI (tags.getD i 0)) (aH _ _ mO),_,Z,?_⟩;cases z:dX kvs (bI (tags.getD i 0))with
  |none=>exact FT (aC z)
  |some u=>exact FW ⟨_,rfl,aY,_,dN,_,_,rfl,aH _ _ fc,T.gn,T.Cd,rfl,_,rfl,dM,u,rfl,by rw[← z];exact hT.k (k:=bI (tags.getD i 0)) (aH _ _ mO),h1 u z⟩
 ·have:=ao5 (f:=f) o7 tags tags.length (cG _)
  rw[fZ (cG _)]at this;rw[ew];exact k1 D _ bp this
theorem ahX:∀ (ns:aK) (kvs:List (Key×V)) (ks:aK),kvs.map (·.1)=ks.map bI->ks.Nodup->∃ DP:aK,(o8 kvs ns).map (·.1)=DP.map bI/\DP.Nodup/\∀ z,z∈DP↔z∈ks\/z∈ns
 | [],kvs,ks,h,nd=>⟨ks,h,nd,fun z=>by simp⟩
 |n::ns,kvs,ks,h,nd=>by
  by_cases hm:n∈ks
  ·have DN:(kvs.any fun bC=>decide (bC.1=bI n))=true:=by
    have:bI n∈kvs.map (·.1):=by rw[h];exact I_ hm
    obtain⟨bC,aN,he⟩:=g5.mp this;exact sS.mpr ⟨bC,aN,fu he⟩
   have Dq:(putK kvs (bI n) (.bl true)).map (·.1)=ks.map bI:=by
    unfold putK;rw[bL DN,kh,← h];apply Ag;intro bC _;show(if bC.1=bI n then(bC.1,V.bl true)else bC).1=bC.1;split<;>rfl
   obtain⟨DP,bD,a8,dr⟩:=ahX ns _ ks Dq nd;refine⟨DP,bD,a8,fun z=>?_⟩;rw[dr];constructor
   ·rintro(h|h)
    ·exact .inl h
    ·exact .inr (hZ _ h)
   ·rintro(h|h)
    ·exact .inl h
    ·rcases gQ.mp h with rfl|h
     ·exact .inl hm
     ·exact .inr h
  ·have agM:dX kvs (bI n)=none:=by
    cases z:dX kvs (bI n)with
    |none=>rfl
    |some v =>
     have:=acq z;rw[h]at this;obtain⟨m,rm,he⟩:=g5.mp this;rw[n6.mp he]at rm;exact absurd rm hm
   have Dq:(putK kvs (bI n) (.bl true)).map (·.1)=(ks++[n]).map bI:=by
    rw[VR _ agM,od,h,od];rfl
   obtain⟨DP,bD,a8,dr⟩:=ahX ns _ (ks++[n]) Dq (akE nd hm);refine⟨DP,bD,a8,fun z=>?_⟩;rw[dr];simp only[pa,gQ,Ej,or_false];constructor
   ·rintro((h|h)|h)
    ·exact .inl h
    ·exact .inr (.inl h)
    ·exact .inr (.inr h)
   ·rintro(h|h|h)
    ·exact .inl (.inl h)
    ·exact .inl (.inr h)
    ·exact .inr h
theorem aDN{ks:aK}(h:ks.Nodup):(ks.map fun n:Nat=>(n:Int)).Nodup:=by
 rw[List.Nodup,I3];exact h.imp fun mX he=>mX (by omega)
inductive ao6(t:bW)(a b:V)(H:ao)(Q:bx)(rQ:cM):Prop
 |mk (rl nl) (nF T7:List V) (nums:List (aK)):a=.ref rl->b=.ref nl->H rl=some (.lst nF)->H nl=some (.lst T7)->Paired (hq H) T7 nums->nF.length<=64->nums.length<=64->(∀ x∈nums,x.length<=64/\∀ n∈x,n<nF.length)->(∀ D H',aQ H H'->H D=none->H' D=some (.lst ((asked nF.length nums).map fun n=>nF.getD n .non))->Q (.ref D) H')->ao6 t a b H Q rQ
def aDO(t:bW):eX:=fQ (ao6 t)
theorem ao7:∀ (nums:List (aK)),(∀ x∈nums,x.length<=64)->nums.flatten.length<=64 * nums.length
 | [],_=>by simp
 |x::r,h=>by
  have h1:=h x h9;have aC:=ao7 r fun y aP=>h y (hZ _ aP);rw[List.flatten_cons,gB,ek];omega
theorem ao8(T:Txt K av t):cI P w K av base (cL P w) 1 t.Qo t.Qp ["rules","number_lists"] (aDO t):=by
 refine T.GC.cY G6 fQ.cW ?_;rintro bJ A outer s H _ Q E aA ⟨bV,a1,rfl,rl,nl,nF,T7,nums,rfl,rfl,rI,q4,g_,aDP,aHZ,hnb,k1⟩;refine⟨_,(aV (cp (i:=2) G6.nd Z (Or.inl Z) FJ) (aV (ho (gO dH Z) Z (gG (aj 1)) (dj (i:=3) G6.nd Z (Or.inl Z)) (bj (ho (gO dH Z) Z (gG (aj 3)) (dj (i:=4) G6.nd Z (Or.inl Z)) (bj (J_ (k4 aA) (aj 2) (aj 4) ajv Z))))) (bj (dK (iH (own:=[("number",4)]) dH (fun _ _ z=>z) Z G6.nd (gG (hv (awp Z) Z T.afC ax7 (aD (aj 2) aM))) (gW (by rfl)) (fun _ _ _ _ _=>dj (i:=4) G6.nd Z (Or.inl Z)) (fun _ _ _ _ _=>hx) (fun _ _ _ _ _=>(eN (Cu (K':=K) Z) (aj 0) (aj 4) (fun _ _=>Z)))))))),?_⟩;apply dY;intros;intro vQ Hg;have aDQ:T7.length=nums.length:=f5 g_;have s1:aQ H (upd H vQ (.dW [])):=ef (aQ.refl _) Hg;have aDR:(upd H vQ (.dW [])) vQ=some (.dW (o8 [] ((nums.take 0).flatten))):=a7;generalize upd H vQ (.dW [])=H1 at *;have ahY:∀ i,(nums.take i).flatten.length<=4096:=fun i=>by
  have:=ao7 (nums.take i) fun x aq=>(hnb x (Ea aq)).1;rw[g0]at this;omega
 refine⟨_,Z,nl,Z,⟨_,aT.of (s1 _ _ q4)⟩,?_⟩;refine qy (xs:=T7) (fun i σ aB=>(∃ s3 s4,σ=[some (.ref rl),some (.ref nl),some (.ref vQ),s3,s4])/\aQ H aB/\aB vQ=some (.dW (o8 [] ((nums.take i).flatten)))) ⟨⟨_,_,rfl⟩,s1,aDR⟩ (fun i σ aB _ ⟨_,s,_⟩=>aT.of (s _ _ q4)) (fun i v σ aB aZ ⟨⟨s3,s4,e⟩,s2,Z6⟩=>?_) fun σ aB ⟨⟨s3,s4,e⟩,s2,Z6⟩=>?_
 ·subst e;obtain⟨x,aq,q,rfl,a0⟩:=mF g_ aZ;have Gi:=(hnb x (f9 aq)).1;refine⟨_,Z,q,Z,⟨_,aT.of (s2 _ _ a0)⟩,?_⟩;refine qy (xs:=x.map nat) (fun j σ aJ=>(∃ s4,σ=[some (.ref rl),some (.ref nl),some (.ref vQ),some (.ref q),s4])/\aQ H aJ/\aJ vQ=some (.dW (o8 [] ((nums.take i).flatten++x.take j)))) ⟨⟨_,rfl⟩,s2,by simpa using Z6⟩ (fun j σ aJ _ ⟨_,s,_⟩=>aT.of (s _ _ a0)) (fun j u σ aJ cD ⟨⟨s4,e⟩,DQ,Z7⟩=>?_) fun σ aJ ⟨⟨s4,e⟩,DQ,Z7⟩=>?_
  ·subst e;have bM:j<x.length:=by simpa using(eE.mp cD).1
   have ao9:x[j]?=some x[j]:=dR bM;rw[ei,ao9]at cD;cases cD;refine⟨_,Z,_,Z,vQ,_,Z,tA.k (k:=bI x[j]) Z7 ?_,⟨_,Z⟩,ef DQ Hg,?_⟩
   ·have h1:=ZC ((nums.take i).flatten++x.take j) []
    have aC:=ahY i;rw[gB,g0,rW]at h1;exact jQ (by omega)
   ·rw[a7,take_snoc ao9,← uH];show some (HO.dW (putK (o8 [] _) _ _))=some (HO.dW (o8 [] _));unfold o8;rw[oh (l':=[x[j]])];rfl
  ·rw[ew,fZ (cG _)]at Z7;subst e;refine⟨⟨_,_,Z⟩,DQ,?_⟩;rw[Z7,take_snoc aq,List.flatten_append];simp
 ·subst e;rw[aDQ,fZ (cG _)]at Z6;obtain⟨ks,bD,a8,dr⟩:=ahX nums.flatten [] [] rfl List.nodup_nil;refine⟨_,Z,vQ,_,ks.map fun n:Nat=>(n:Int),Z,Z6,by rw[bD,kh];rfl,fun oL p aDS ZM aL=>?_⟩;have Z8:oL=(asked nF.length nums).map fun n:Nat=>(n:Int):=by
   refine aqU (fun x aq n aR=>(hnb x aq).2 n aR) (fun z=>?_) (aDN a8) aDS ZM;rw[g5];constructor
   ·rintro⟨n,aR,rfl⟩;have:=(dr n).mp aR;simp only[Ej,false_or]at this;obtain⟨x,aq,wz⟩:=List.mem_flatten.mp this;exact⟨x,aq,n,wz,Z⟩
   ·rintro⟨x,aq,n,aR,rfl⟩;exact⟨n,(dr n).mpr (.inr (List.mem_flatten.mpr ⟨x,aq,aR⟩)),Z⟩
  subst Z8;have yO:(asked nF.length nums).length<=64:=by
   unfold asked;exact jf (Eh _ _) (by simp;exact aDP)
  have an2:∀ n∈asked nF.length nums,n<nF.length:=fun n aR=>(Jt.mp aR).1;generalize asked nF.length nums=Io at *;have ZQ:(upd aB p (.lst ((Io.map fun n:Nat=>(n:Int)).map V.int))) p=some (.lst (Io.map nat)):=by rw[a7,kh];rfl
  have DQ:aQ aB (upd aB p (.lst ((Io.map fun n:Nat=>(n:Int)).map V.int))):=ef (aQ.refl _) aL;generalize upd aB p (.lst ((Io.map fun n:Nat=>(n:Int)).map V.int))=aJ at *;have oa:=s2.trans DQ;refine⟨p,Z,⟨_,aT.of ZQ⟩,fun D bp=>?_⟩;refine n3 (Io.map fun n=>nF.getD n .non) (by simp) (aT.of ZQ) (by simp;omega) bp (fun i v y H' eo aZ aP aH q=>?_) ?_
  ·rw[ei]at aZ aP;cases e:Io[i]? with
   |none=>rw[e]at aZ;cases aZ
   |some n =>
    rw[e]at aZ aP;cases aZ;cases aP;have aDT:=an2 n (f9 e);refine⟨_,Z,_,Z,rl,_,_,_,Z,Z,aT.of (aH _ _ (oa _ _ rI)),gM (v:=nF.getD n .non) (by simp[List.getD,dR aDT]),q⟩
  ·exact k1 D _ (oa.trans (ef (aQ.refl _) bp)) (oa.free bp) a7
inductive ao_(t:bW)(a:V)(H:ao)(Q:bx)(uy:cM):Prop
 |mk (row G cQ cu dh l):a=.ref row->PR t G H row cQ cu dh l->l.length<=4096->(∀ D H',aQ H H'->H D=none->H' D=some (.lst ((nat l.length)::(l.flatMap Sw28.told).map nat))->Q (.ref D) H')->ao_ t a H Q uy
def aDU(t:bW):eX:=fa (ao_ t)
theorem ahZ(z:Int):V.int (z % 4294967296)=nat (word z):=by
 unfold word;have:=Int.emod_nonneg z (show(4294967296:Int)≠0 by decide);show V.int (z % 4294967296)=V.int ((z % 4294967296).toNat:Int);rw[I4 this]
theorem ao':∀ l:List Item,(l.flatMap Sw28.told).length=5 * l.length
 | []=>rfl
 |x::l=>by
  rw[IK,gB,ao' l,ek];show 5+_=_;omega
theorem aDV(T:Txt K av t):cI P w K av base (cL P w) 1 t.Qt t.Qu ["row"] (aDU t):=by
 obtain⟨aH0,ah0,ah1⟩:=T.k_MODULUS;refine T.RM.cY Yg fa.cW ?_;rintro bJ A outer s H _ Q E aA ⟨bV,rfl,row,G,cQ,cu,dh,l,rfl,P,aF,k1⟩;refine⟨_,(aV (cp (i:=1) Yg.nd Z (Or.inl Z) (hb (aD (hv iG Z T.hA hM (aD (bO (aj 0) Z) aM)) aM))) (aV (ho (gO dH Z) Z (BK Z T.w7 (aD (bO (aj 0) Z) aM)) (s7 Z (jL (dj (i:=2) Yg.nd Z (Or.inl Z)) (jL (dj (i:=3) Yg.nd Z (Or.inl Z)) r6))) (aV (er (mz lV pk pn pP (aj 1) (aD (aj 3) aM))) (aV (er (mz lV pk pn pP (aj 1) (aD (eN gx (bO (aj 0) Z) (aj 2) (fun _ _=>Z)) aM))) (aV (er (mz lV pk pn pP (aj 1) (aD (e4 abv (eN gx (bO (aj 0) Z) (aj 2) (fun _ _=>Z)) (gV Z ah0 ah1)) aM))) (aV (er (mz lV pk pn pP (aj 1) (aD (e4 abv (eN gx (bO (aj 0) Z) (aj 2) (fun _ _=>Z)) (gV Z ah0 ah1)) aM))) (bj (er (mz lV pk pn pP (aj 1) (aD (e4 abv (eN gx (bO (aj 0) Z) (aj 2) (fun _ _=>Z)) (gV Z ah0 ah1)) aM))))))))) (bj (dK (aj 1))))),?_⟩;apply dY;intros;obtain⟨dx,bF,ca,dO,e2,hW⟩:=P.cX;refine⟨_,Z,row,_,dx,_,_,Z,P.bY _ _ dO,T.eA,T.iv,Z,bF,_,Z,.inl (aT.of (P.bY _ _ e2)),nY,fun D bp=>?_⟩;have s1:aQ H (upd H D (.lst [V.int (((l.map fun x=>x.sign).map nat).length:Nat)])):=ef (aQ.refl _) bp;have ago:(upd H D (.lst [V.int (((l.map fun x=>x.sign).map nat).length:Nat)])) D=some (.lst (nat l.length::((l.take 0).flatMap Sw28.told).map nat)):=by rw[a7];simp
 generalize upd H D (.lst [V.int (((l.map fun x=>x.sign).map nat).length:Nat)])=H1 at *;refine⟨_,Z,row,_,dx,_,_,Z,s1 _ _ (P.bY _ _ dO),T.eA,T.iv,Z,bF,_,Z,aT.of (s1 _ _ (P.bY _ _ e2)),?_⟩;refine Ho (xs:=(l.map fun x=>x.sign).map nat) (fun i σ aB=>(∃ s2 s3,σ=[some (.ref row),some (.ref D),s2,s3])/\aQ H aB/\aB D=some (.lst (nat l.length::((l.take i).flatMap Sw28.told).map nat))) ⟨⟨_,_,rfl⟩,s1,ago⟩ (fun i σ aB _ ⟨_,s,_⟩=>aT.of (s _ _ (P.bY _ _ e2))) (fun i v ey σ aB aZ ⟨⟨aDW,DQ,e⟩,s2,jn⟩ cv=>?_) fun σ aB ⟨⟨aDW,DQ,e⟩,s2,jn⟩=>?_
 ·subst e;have hi:i<l.length:=by simpa using(eE.mp aZ).1
  have rO:l[i]?=some l[i]:=dR hi;have ev:v=nat l[i].sign:=by
   rw[ei,ei,rO]at aZ;exact(Option.some.inj aZ).symm
  subst ev;have hlen:=ao' (l.take i);rw[g0]at hlen;rw[anY rO];generalize (l.take i).flatMap Sw28.told=acc at *;have hw:=P.w;have DR:=P.r;have aDX:=P.u;have Ih:(mR l)[i]?=some (.int l[i].advance):=by simp[mR,rO]
  have gr:(jc l)[i]?=some (.int l[i].dx):=by simp[jc,rO]
  have TX:(lg l)[i]?=some (.int l[i].dy):=by simp[lg,rO]
  have aDY:((l.map fun x=>x.from_).map nat)[i]?=some (nat l[i].from_):=by simp[rO]
  generalize l[i]=x at *;have s3:aQ aB (upd aB ey (.tup [nat i,nat x.sign])):=ef (aQ.refl _) cv;generalize upd aB ey (.tup [nat i,nat x.sign])=aJ at *;have o1:=s3 _ _ jn;have oa:=s2.trans s3;have nd:∀ b o,H b=some o->b≠D:=fun b o e=>bQ e bp;have app:∀ {bB:ao} {w:List V} (y:V),aQ H bB->bB D=some (.lst w)->aQ H (upd bB D (.lst (w++[y])))/\(upd bB D (.lst (w++[y]))) D=some (.lst (w++[y])):=fun y s h=>⟨ef s bp,a7⟩;have fit:∀ k,k<=5->(nat l.length::acc.map nat).length+k<sizeLine:=fun k aN=>by
   simp only[ek,ew];exact jQ (by omega)
  refine⟨_,Z,.inl ⟨Z,_,aT.of o1⟩,_,Z,D,_,_,Z,Z,o1,fit 0 (by omega),?_⟩;obtain⟨s4,dw⟩:=app (nat x.sign) oa o1;generalize upd aJ D (.lst (nat l.length::acc.map nat++[nat x.sign]))=bB at *;refine⟨_,Z,.inl ⟨Z,_,aT.of dw⟩,_,Z,row,_,dx,_,_,Z,s4 _ _ (P.bY _ _ dO),T.eA,T.w5,Z,_,Z,ca,_,_,_,Z,Z,aT.of (s4 _ _ (P.bY _ _ hW)),gM aDY,D,_,_,Z,Z,dw,by rw[gB];exact fit 1 (by omega),?_⟩;obtain⟨s5,jr⟩:=app (nat x.from_) s4 dw;generalize upd bB D (.lst (nat l.length::acc.map nat++[nat x.sign]++[nat x.from_]))=b2 at *;refine⟨_,Z,.inl ⟨Z,_,aT.of jr⟩,_,Z,row,_,dx,_,_,Z,s5 _ _ (P.bY _ _ dO),T.eA,T.vp,Z,_,Z,cQ,_,_,_,Z,Z,aT.of (s5 _ _ hw),gM Ih,_,_,Z,Z,(by show(0:Int)<4294967296;decide),D,_,_,Z,Z,jr,by rw[gB,gB];exact fit 2 (by omega),?_⟩;dsimp only;rw[ahZ];obtain⟨cU,tD⟩:=app (nat (word x.advance)) s5 jr;generalize upd b2 D (.lst (nat l.length::acc.map nat++[nat x.sign]++[nat x.from_]++[nat (word x.advance)]))=eH at *;refine⟨_,Z,.inl ⟨Z,_,aT.of tD⟩,_,Z,row,_,dx,_,_,Z,cU _ _ (P.bY _ _ dO),T.eA,T.yU,Z,_,Z,cu,_,_,_,Z,Z,aT.of (cU _ _ DR),gM gr,_,_,Z,Z,(by show(0:Int)<4294967296;decide),D,_,_,Z,Z,tD,by rw[gB,gB,gB];exact fit 3 (by omega),?_⟩;dsimp only;rw[ahZ];obtain⟨fx,Di⟩:=app (nat (word x.dx)) cU tD;generalize upd eH D (.lst (nat l.length::acc.map nat++[nat x.sign]++[nat x.from_]++[nat (word x.advance)]++[nat (word x.dx)]))=dB at *;refine⟨_,Z,.inl ⟨Z,_,aT.of Di⟩,_,Z,row,_,dx,_,_,Z,fx _ _ (P.bY _ _ dO),T.eA,T.yV,Z,_,Z,dh,_,_,_,Z,Z,aT.of (fx _ _ aDX),gM TX,_,_,Z,Z,(by show(0:Int)<4294967296;decide),D,_,_,Z,Z,Di,by rw[gB,gB,gB,gB];exact fit 4 (by omega),⟨_,_,Z⟩,ef fx bp,?_⟩;rw[a7];simp[Sw28.told,ahZ]
 ·subst e;rw[ew,ew,fZ (cG _)]at jn;exact⟨_,Z,k1 D aB s2 bp jn⟩
inductive apa(t:bW)(a b c:V)(H:ao)(Q:bx)(E:cM):Prop
 |mk (aY f cl tl) (cs tags:aK):a=.ref aY->b=.ref cl->c=.ref tl->lO t H aY f->pF f->H cl=some (.lst (cs.map nat))->H tl=some (.lst (tags.map nat))->cs.length<=4096->tags.length<=64->(∀ l H' row G cQ cu dh,Sw28.set_ f tags cs=some l->aQ H H'->PR t G H' row cQ cu dh l->l.length<=4096->Q (.ref row) H')->(Sw28.set_ f tags cs=none->∀ H',aQ H H'->E (.ref t.BZ) none H')->apa t a b c H Q E
def aDZ(t:bW):eX:=gb (apa t)
theorem aD0{H:ao}{vs:List V}{fs:List (Nat×aK×aK)}(h:Paired (uh t H) vs fs):∃ ya sJ,ya.length=vs.length/\sJ.length=vs.length/\Paired (hq H) ya (fs.map fun x=>x.2.1)/\Paired (hq H) sJ (fs.map fun x=>x.2.2)/\∀ (i:Nat) v a b,vs[i]?=some v->ya[i]?=some a->sJ[i]?=some b->∃ p dx,v=.ref p/\H p=some (.ins t.qI dx [("change_numbers",a),("place_numbers",b)]):=by
 induction h with
 |nil=>exact⟨[],[],Z,Z,.nil,.nil,fun i v a b h=>by cases h⟩
 |cons h _ bU =>
  obtain⟨ya,sJ,h1,aC,bH,dw,jr⟩:=bU;obtain⟨p,dx,jD,ez,rfl,aL,aW,ak⟩:=h;refine⟨jD::ya,ez::sJ,by simp[h1],by simp[aC],.cons aW bH,.cons ak dw,fun i v a b bD a8 dr=>?_⟩;cases i with
  |zero =>
   cases bD;cases a8;cases dr;exact⟨p,dx,Z,aL⟩
  |succ i=>exact jr i v a b bD a8 dr
theorem ah2{f:Font}(ok:pF f)(tags:aK)(x:Nat×aK×aK):x∈tags.filterMap (ux f)↔x∈f.features.filter fun x=>tags.contains x.1:=by
 rw[I7,rR];constructor
 ·rintro⟨e0,aD1,h⟩;unfold ux at h;have h1:=vY h;have aC:=vZ h;simp only[pe]at aC;refine⟨h1,?_⟩;rw[List.contains_iff_mem,aC];exact aD1
 ·rintro⟨h1,aC⟩;exact⟨x.1,by rw[List.contains_iff_mem]at aC;exact aC,ajn ok.fr h1⟩
theorem apb{f:Font}(ok:pF f)(tags:aK)(k:Nat)(g:Nat×aK×aK->aK):asked k ((tags.filterMap (ux f)).map g)=asked k ((f.features.filter fun x=>tags.contains x.1).map g):=aro fun x=>by
 rw[g5,g5];exact⟨fun⟨y,aP,e⟩=>⟨y,(ah2 ok tags y).mp aP,e⟩,fun⟨y,aP,e⟩=>⟨y,(ah2 ok tags y).mpr aP,e⟩⟩
theorem ah3{f:Font}:∀ {rs:List (Rule Sw28.Sub)} {r:Rule Sw28.Sub} {l:List Item},nJ f (rs++[r]) l=(nJ f rs l).bind (chg f r)
 | [],r,l=>by
  show(chg f r l).bind (fun m=>some m)=chg f r l;cases chg f r l<;>rfl
 |q::rs,r,l=>by
  show(chg f q l).bind (fun m=>nJ f (rs++[r]) m)=((chg f q l).bind fun m=>nJ f rs m).bind (chg f r);cases chg f q l with
  |none=>rfl
  |some m=>exact ah3
theorem apc{f:Font}:∀ {rs oT:List (Rule Sw28.Sub)} {l:List Item},nJ f rs l=none->nJ f (rs++oT) l=none
 | [],oT,l,h=>by cases h
 |q::rs,oT,l,h=>by
  show(chg f q l).bind (fun m=>nJ f (rs++oT) m)=none;have h:(chg f q l).bind (fun m=>nJ f rs m)=none:=h;cases e:chg f q l with
  |none=>rfl
  |some m=>rw[e]at h;exact apc (rs:=rs) h
theorem apd{f:Font}:∀ {rs:List (Rule Sw28.Pos)} {r:Rule Sw28.Pos} {l:List Item},wu f (rs++[r]) l=(dz (passed f r.skip) 0 (wu f rs l)).foldl (placeAt f r) (wu f rs l)
 | [],_,_=>rfl
 |q::rs,r,l=>apd (rs:=rs)
theorem ah4{f:Font}:∀ (rs:List (Rule Sw28.Pos)) (l:List Item),(wu f rs l).map (fun x=>x.sign)=l.map fun x=>x.sign
 | [],_=>rfl
 |q::rs,l=>by
  show(wu f rs _).map _=_;rw[ah4 rs,Es]
theorem ah5{α:Type}{H:ao}{R:ao->V->α->Prop}{vs:List V}{xs:List α}(p:Paired (R H) vs xs):∀ (ks:aK),(∀ k∈ks,k<vs.length)->Paired (R H) (ks.map fun n=>vs.getD n .non) (ks.filterMap fun k=>xs[k]?)
 | [],_=>.nil
 |k::ks,h=>by
  have bU:=ah5 p ks fun j bM=>h j (hZ _ bM);have aN:=h k h9;have aZ:vs[k]?=some vs[k]:=dR aN;obtain⟨x,aq,aA⟩:=mF p aZ;rw[fT,Ac,aq];refine .cons ?_ bU;rw[List.getD,aZ];exact aA
theorem aD2{H H':ao}{L:d1}(s:aQ H H')(h:∀ b∈L,H b=none):aQ H (bG fy L H'):=fun b o e=>n7.mpr ⟨fun z=>(by rw[h b z]at e;cases e),s _ _ e⟩
theorem aD3(f:Font)(cs:aK):(begun f cs).map (fun x=>x.sign)=cs.map (mapped f):=by
 apply vV;intro i;simp only[begun,ei,Iw,uF];cases cs[i]?<;>rfl
theorem aD4(f:Font)(cs:aK):(begun f cs).map (fun x=>x.from_)=List.range cs.length:=by
 apply vV;intro i;simp only[begun,ei,Iw,uF];by_cases h:i<cs.length
 ·rw[dR h,List.getElem?_range h];simp
 ·rw[qY (by omega),qY (by simp;omega)];rfl
theorem aD5(T:Txt K av t):cI P w K av base (cL P w) 5 t.Qq t.Qs ["font","characters","tags"] (aDZ t):=by
 refine T.RL.cY tR gb.cW ?_;rintro bJ A outer s H _ Q E aA ⟨bV,a1,a2,rfl,aY,f,cl,tl,cs,tags,rfl,rfl,rfl,hf,d9,iU,vh,Dh,Kp,k1,k2⟩;try simp only at k1 k2
 refine⟨_,(aV (cp (i:=3) tR.nd Z (Or.inl Z) (dG (aDM T) aA.bf Z T.afv T.RK.aG T.axz .nil bh (aD (aj 0) (aD (aj 2) aM)))) (aV (cp (i:=4) tR.nd Z (Or.inl Z) (qC T.aeJ (aBC T) aA.bf Z T.aeI T.awP .nil bh (aD (iH (own:=[("character",6)]) dH (fun _ _ z=>z) Z tR.nd (gG (aj 1)) (gW (by rfl)) (fun _ _ _ _ _=>dj (i:=6) tR.nd Z (Or.inl Z)) (fun _ _ _ _ _=>hx) (fun _ _ _ _ _=>(fj (aj 0) T.gn T.WR (anI T) aA.bf T.ak8 .nil bh (aD (aj 6) aM)))) (aD (q' (awk Z) Z T.GD Yi (aD (q' awi Z T.jz ax8 (aD (hv iG Z T.hA hM (aD (aj 1) aM)) aM)) aM)) aM)))) (aV (ho (gO dH Z) Z (gG (dG (ao8 T) aA.bf Z T.XR T.GC.aG T.alc .nil bh (aD (bO (aj 0) Z) (aD (iH (own:=[("feature",7)]) dH (fun _ _ z=>z) Z tR.nd (gG (aj 3)) (gW (by rfl)) (fun _ _ _ _ _=>dj (i:=7) tR.nd Z (Or.inl Z)) (fun _ _ _ _ _=>hx) (fun _ _ _ _ _=>(ry (K':=K) Z (aj 7) Z))) aM)))) (dj (i:=5) tR.nd Z (Or.inl Z)) (bj (er (dG (aDc T) aA.bf Z T.afb T.Rk.aG T.axf .nil bh (aD (aj 0) (aD (aj 5) (aD (aj 4) aM))))))) (aV (er (fj (aj 4) T.eA T.aeK (aDI T) aA.bf T.awQ .nil bh (aD (aj 0) aM))) (aV (ho (gO dH Z) Z (gG (dG (ao8 T) aA.bf Z T.XR T.GC.aG T.alc .nil bh (aD (bO (aj 0) Z) (aD (iH (own:=[("feature",7)]) dH (fun _ _ z=>z) Z tR.nd (gG (aj 3)) (gW (by rfl)) (fun _ _ _ _ _=>dj (i:=7) tR.nd Z (Or.inl Z)) (fun _ _ _ _ _=>hx) (fun _ _ _ _ _=>(ry (K':=K) Z (aj 7) Z))) aM)))) (dj (i:=5) tR.nd Z (Or.inl Z)) (bj (er (dG (aDE T) aA.bf Z T.afu T.RJ.aG T.axy .nil bh (aD (aj 0) (aD (aj 5) (aD (aj 4) aM))))))) (bj (dK (aj 4)))))))),?_⟩;apply wL;intros;have Ar:=aqA f d9.so tags cs Dh;rw[← apb d9,← apb d9]at Ar;refine⟨_,Z,_,Z,_,_,Z,aY,f,tl,tags,Z,Z,hf,vh,Kp,fun uz z1 aD6 pf=>?_⟩;have yd:(tags.filterMap (ux f)).length<=64:=jf (List.length_filterMap_le _ _) Kp;have Zw:∀ x∈tags.filterMap (ux f),x∈f.features:=fun x aq=>(rR.mp ((ah2 d9 tags x).mp aq)).1;generalize tags.filterMap (ux f)=fs at *;have s1:aQ H (upd H uz (.lst z1)):=ef (aQ.refl _) aD6;have ape:(upd H uz (.lst z1)) uz=some (.lst z1):=a7;generalize upd H uz (.lst z1)=H1 at *;obtain⟨ya,sJ,aD7,aD8,m',pb,V7⟩:=aD0 pf;have aH1:z1.length=fs.length:=f5 pf;obtain⟨dN,fp,aH2,aH3,aoW,vc,gs,gA,fc,_,_,_,_,⟨rc,nF,ec,aD9,apf⟩,⟨fl,j9,ep,hY,apg⟩,_⟩:=id hf;subst ec ep;have rI:nF.length=f.subs.length:=f5 apf;have g6:j9.length=f.poss.length:=f5 apg;refine⟨_,Z,cl,Z,⟨_,aT.of (s1 _ _ iU)⟩,fun bF e2=>?_⟩;refine n3 ((cs.map (mapped f)).map nat) (by simp) (aT.of (s1 _ _ iU)) (by simp;omega) e2 (fun i v y H' eo aZ aP aH q=>?_) ?_
 ·rw[ei]at aZ aP;rw[ei]at aP;cases e:cs[i]? with
  |none=>rw[e]at aZ;cases aZ
  |some c =>
   rw[e]at aZ aP;cases aZ;cases aP;exact⟨_,Z,aY,dN,_,Z,aH _ _ (s1 _ _ fc),Z,_,Z,_,_,Z,aY,f,c,Z,Z,mJ (s1.trans aH) hf,d9.mo,q⟩
 have s2:aQ H1 (upd H1 bF (.lst ((cs.map (mapped f)).map nat))):=ef (aQ.refl _) e2;have sI:(upd H1 bF (.lst ((cs.map (mapped f)).map nat))) bF=some (.lst ((cs.map (mapped f)).map nat)):=a7;generalize upd H1 bF (.lst ((cs.map (mapped f)).map nat))=aB at *;refine⟨_,Z,cl,_,Z,.inl (aT.of (s2 _ _ (s1 _ _ iU))),_,Z,fun pr jO=>⟨pr,cs.length,rfl,by rw[a7,ew],by omega,fun ca hW=>?_⟩⟩;have s3:aQ aB (upd (upd aB pr (.uT 0 ((cs.map nat).length:Nat))) ca (.lst ((List.range cs.length).map fun i=>V.int (i:Nat)))):=ef (ef (aQ.refl _) jO) ((ef (aQ.refl _) jO).free hW);have aD_:(upd (upd aB pr (.uT 0 ((cs.map nat).length:Nat))) ca (.lst ((List.range cs.length).map fun i=>V.int (i:Nat)))) ca=some (.lst ((List.range cs.length).map nat)):=a7;generalize upd (upd aB pr (.uT 0 ((cs.map nat).length:Nat))) ca (.lst ((List.range cs.length).map fun i=>V.int (i:Nat)))=aJ at *;have oa:=s1.trans (s2.trans s3);intro row fX cT nd ne;have s4:aQ aJ (iJ aJ row fX t.fB []):=nZ cT nd;refine⟨_,_,_,Z,row,fX,bF,ca,_,Z,Z,Z,rz,s4 _ _ (s3 _ _ sI),by simp;exact Dh,fun b2 hC gw fO fW zP=>?_⟩;have T8:aQ aJ b2:=fun b o e=>fW b o (by simp only[g4];exact bQ e cT) (s4 _ _ e);have RA:H5 t b2 row (begun f cs):=⟨fX,bF,ca,hC,gw,fO,zP,by rw[aD3];exact T8 _ _ (s3 _ _ sI),by rw[aD4];exact T8 _ _ aD_⟩;have pX:=oa.trans T8;have aD':H row=none:=oa.free cT;have aph:b2 uz=some (.lst z1):=T8 _ _ (s3 _ _ (s2 _ _ ape));have aEa:aJ uz=some (.lst z1):=s3 _ _ (s2 _ _ ape);have bl:(begun f cs).length<=4096:=by simpa [begun]using Dh
 have bi:=arn d9 cs;clear fW s4 zP nd ne;refine⟨Z,_,Z,aY,_,dN,_,_,Z,pX _ _ fc,T.gn,T.Ca,Z,_,Z,uz,Z,⟨_,aT.of aph⟩,fun D bp=>?_⟩;refine n3 ya aD7 (aT.of aph) (by omega) bp (fun i v y H' eo aZ aP aH q=>?_) ?_
 ·obtain⟨p,eO,rfl,aL⟩:=V7 i v y _ aZ aP (dR (by have:=(eE.mp aZ).1;omega));exact⟨_,Z,p,_,eO,_,_,Z,aH _ _ (pX _ _ aL),T.Gn,T.Wz,Z,q⟩
 have cU:aQ b2 (upd b2 D (.lst ya)):=ef (aQ.refl _) bp;have ah6:(upd b2 D (.lst ya)) D=some (.lst ya):=a7;generalize upd b2 D (.lst ya)=eH at *;have vN:=pX.trans cU;refine⟨_,_,Z,rc,D,nF,ya,_,Z,Z,vN _ _ aD9,ah6,Paired.d7 m' fun _ _ r=>hc _ _ _ _ vN r,by rw[rI];exact d9.fL,by simp;exact yd,fun x aq=>?_,fun L dB fx c4 S8=>?_⟩
 ·obtain⟨y,aP,rfl⟩:=g5.mp aq;have:=d9.b0 y (Zw y aP);exact⟨this.2.2.1,fun n aR=>by rw[rI];exact this.1 n aR⟩
 rw[rI]at S8;have mH:∀ k∈asked f.subs.length (fs.map fun x=>x.2.1),k<nF.length:=fun k aN=>by rw[rI];exact(Jt.mp aN).1
 have prs:=ah5 apf _ mH;have aEb:∀ r∈(asked f.subs.length (fs.map fun x=>x.2.1)).filterMap (fun k=>f.subs[k]?),r∈f.subs:=fun r aA=>by
  obtain⟨k,_,e⟩:=I7.mp aA;exact f9 e
 generalize (asked f.subs.length (fs.map fun x=>x.2.1)).filterMap (fun k=>f.subs[k]?)=rs at *;generalize (asked f.subs.length (fs.map fun x=>x.2.1)).map (fun n=>nF.getD n .non)=lv at *;have pY:=vN.trans fx;have aEc:H5 t dB row (begun f cs):=by
  obtain⟨dx,bF,ca,hC,gw,fO,h1,aC,bH⟩:=RA;exact⟨dx,bF,ca,hC,gw,fO,fx _ _ (cU _ _ h1),fx _ _ (cU _ _ aC),fx _ _ (cU _ _ bH)⟩
 have apj:aQ aJ (bG fy [row] dB):=aD2 (T8.trans (cU.trans fx)) (by simpa using cT);have z2:aQ H (bG fy [row] dB):=oa.trans apj;have aEd:L≠row:=fun e=>by
  obtain⟨dx,bF,ca,hC,gw,fO,h1,_⟩:=RA;rw[e,cU _ _ h1]at c4;cases c4
 have aEe:(bG fy [row] dB) L=some (.lst lv):=n7.mpr ⟨by simpa using aEd,S8⟩;have ah7:(bG fy [row] dB) row=none:=by
  cases e:(bG fy [row] dB) row with
  |none=>rfl
  |some o=>exact absurd (n7.mp e).1 (by simp)
 have aEf:lv.length=rs.length:=f5 prs;have aEg:aQ (bG fy [row] dB) dB:=hB;generalize bG fy [row] dB=B at *;refine⟨L,Z,⟨_,aT.of S8⟩,?_⟩;refine qy (xs:=lv) (fun i σ mD=>(∃ s5,σ=[some (.ref aY),some (.ref cl),some (.ref tl),some (.ref uz),some (.ref row),s5,none,none])/\aQ B mD/\∃ l,nJ f (rs.take i) (begun f cs)=some l/\H5 t mD row l/\l.length<=4096/\In f.signs l) ⟨⟨_,rfl⟩,aEg,_,rfl,aEc,bl,bi⟩ (fun i σ mD _ ⟨_,s,_⟩=>aT.of (s _ _ aEe)) (fun i v σ mD aZ ⟨⟨s5,e⟩,kE,l,aF,ah8,hD,li⟩=>?_) fun σ mD ⟨⟨s5,e⟩,kE,l,aF,ah8,hD,li⟩=>?_
 ·subst e;obtain⟨r,DR,lZ⟩:=mF prs aZ;have iy:=aEb r (f9 DR);have st:=take_snoc DR;refine⟨_,Z,_,Z,_,Z,_,_,_,Z,aY,f,r,row,l,Z,Z,trivial,mJ (z2.trans kE) hf,d9,iy,zE _ _ _ _ (z2.trans kE) lZ,ah8,hD,fun x aq=>(li x aq).1,fun l' iV aU n8 aEh=>⟨⟨_,rfl⟩,?_,l',?_,aEh,aaL hD aU,ark d9 iy hD li aU⟩,fun aU iV n8=>k2 ?_ iV ?_⟩
  ·exact fun b o e=>n8 b o (by simp only[g4];exact bQ e ah7) (kE _ _ e)
  ·rw[st,ah3,aF];exact aU
  ·have:nJ f rs (begun f cs)=none:=by
    rw[← I1 (i+1) rs];refine apc ?_;rw[st,ah3,aF];exact aU
   rw[Ar,this];rfl
  ·exact fun b o e=>n8 b o (by simp only[g4];exact bQ e aD') (kE _ _ (z2 _ _ e))
 subst e;rw[aEf,fZ (cG _)]at aF;rw[aF]at Ar;simp only[gd]at Ar;obtain⟨ah9,xT,Dp,aEi,aEj,aEk,Ip,T9,Z9⟩:=ah8;refine⟨_,Z,row,ah9,_,Z,Ip,Z,_,Z,_,_,Z,row,ah9,xT,Dp,aEi,aEj,aEk,l.map fun x=>x.sign,aY,f,B,Z,Z,mJ z2 hf,kE,ah7,Ip,T9,fun s aH=>?_,by simpa using hD,fun iV cQ cu dh n8 apk ah_ ah' aia nw iZ aEm n1 n2 qx=>?_⟩
 ·obtain⟨x,aq,rfl⟩:=g5.mp aH;rw[d9.ad];exact(li x aq).1
 have Z1:xT≠row:=hN T9 Ip (by intro z;cases z);have Tv:Dp≠row:=hN Z9 Ip (by intro z;cases z);have apl:=n8 _ _ (by simpa using Z1) T9;have apm:=n8 _ _ (by simpa using Tv) Z9;have Ir:aQ B iV:=fun b o e=>n8 b o (by simp only[g4];exact bQ e ah7) (kE _ _ e);have apn:B uz=some (.lst z1):=apj _ _ aEa;have Y2:mR (wide f l)=(l.map fun x=>x.sign).map fun s=>nat (f.advance.getD s 0):=by simp[mR,wide]
 have mq:jc (wide f l)=(l.map fun x=>x.sign).map fun _=>V.int 0:=by
  simp only[jc,wide,kh];exact Ag fun x aq=>by simp[(li x aq).2.1]
 have kN:lg (wide f l)=(l.map fun x=>x.sign).map fun _=>V.int 0:=by
  simp only[lg,wide,kh];exact Ag fun x aq=>by simp[(li x aq).2.2]
 have dZ:(wide f l).map (fun x=>x.sign)=l.map fun x=>x.sign:=by simp[wide]
 have apo:(wide f l).map (fun x=>x.from_)=l.map fun x=>x.from_:=by simp[wide]
 have s6:∀ b o,mD b=some o->b∉[cQ,cu,dh]:=fun b o e z=>by
  simp only[gQ,Ej,or_false]at z;rcases z with z|z|z<;>subst z
  ·rw[nw]at e;cases e
  ·rw[iZ]at e;cases e
  ·rw[aEm]at e;cases e
 have aH4:(wide f l).length<=4096:=by simpa [wide]using hD
 have aEn:∀ s∈(wide f l).map (fun x=>x.sign),s<f.signs:=fun s aH=>by
  rw[dZ]at aH;obtain⟨x,aq,rfl⟩:=g5.mp aH;exact(li x aq).1
 have aEo:∀ H',aQ iV H'->PR t (bG fy [cQ,cu,dh] H') H' row cQ cu dh (wide f l):=fun H' s=>by
  have no:∀ b,b∈[cQ,cu,dh]->(bG fy [cQ,cu,dh] H') b=none:=fun b ak=>by
   cases e:(bG fy [cQ,cu,dh] H') b with
   |none=>rfl
   |some o=>exact absurd ak (n7.mp e).1
  exact⟨hB,no _ (by simp),no _ (by simp),no _ (by simp),n1,n2,qx,⟨ah9,xT,Dp,n7.mpr ⟨s6 _ _ Ip,s _ _ apk⟩,n7.mpr ⟨s6 _ _ T9,by rw[dZ];exact s _ _ apl⟩,n7.mpr ⟨s6 _ _ Z9,by rw[apo];exact s _ _ apm⟩⟩,by rw[Y2];exact s _ _ ah_,by rw[mq];exact s _ _ ah',by rw[kN];exact s _ _ aia⟩
 have aEp:∀ H',aQ iV H'->aQ B (bG fy [cQ,cu,dh] H'):=fun H' s b o e=>n7.mpr ⟨s6 _ _ (kE _ _ e),s _ _ (Ir _ _ e)⟩;have aEq:=j4 ah_;have aEr:=j4 ah';have aEs:=j4 aia;generalize wide f l=wl at *;clear Y2 mq kN dZ apo ah_ ah' aia T9 Z9 apl apm Ip apk;refine⟨_,Z,aY,_,dN,_,_,Z,Ir _ _ (z2 _ _ fc),T.gn,T.Gp,Z,_,Z,uz,Z,⟨_,aT.of (Ir _ _ apn)⟩,fun D2 jn=>?_⟩;refine n3 sJ aD8 (aT.of (Ir _ _ apn)) (by omega) jn (fun i v y H' eo aZ aP aH q=>?_) ?_
 ·obtain⟨p,eO,rfl,aL⟩:=V7 i v _ y aZ (dR (by have:=(eE.mp aZ).1;omega)) aP;exact⟨_,Z,p,_,eO,_,_,Z,aH _ _ (Ir _ _ (z2 _ _ aL)),T.Gn,T.WD,Z,q⟩
 have tE:aQ iV (upd iV D2 (.lst sJ)):=ef (aQ.refl _) jn;have acJ:(upd iV D2 (.lst sJ)) D2=some (.lst sJ):=a7;generalize upd iV D2 (.lst sJ)=Ks at *;have apq:=z2.trans (Ir.trans tE);refine⟨_,_,Z,fl,D2,j9,sJ,_,Z,Z,apq _ _ hY,acJ,Paired.d7 pb fun _ _ r=>hc _ _ _ _ apq r,by rw[g6];exact d9.pl,by simp;exact yd,fun x aq=>?_,fun L2 Z_ BR nq aib=>?_⟩
 ·obtain⟨y,aP,rfl⟩:=g5.mp aq;have:=d9.b0 y (Zw y aP);exact⟨this.2.2.2,fun n aR=>by rw[g6];exact this.2.1 n aR⟩
 rw[g6]at aib;have aEt:∀ k∈asked f.poss.length (fs.map fun x=>x.2.2),k<j9.length:=fun k aN=>by rw[g6];exact(Jt.mp aN).1
 have apr:=ah5 apg _ aEt;have acv:∀ r∈(asked f.poss.length (fs.map fun x=>x.2.2)).filterMap (fun k=>f.poss[k]?),r∈f.poss:=fun r aA=>by
  obtain⟨k,_,e⟩:=I7.mp aA;exact f9 e
 generalize (asked f.poss.length (fs.map fun x=>x.2.2)).filterMap (fun k=>f.poss[k]?)=ps at *;generalize (asked f.poss.length (fs.map fun x=>x.2.2)).map (fun n=>j9.getD n .non)=aic at *;have aEu:=aEo Z_ (tE.trans BR);have nr:=z2.trans (aEp Z_ (tE.trans BR));have aEv:(bG fy [cQ,cu,dh] Z_) L2=some (.lst aic):=by
  refine n7.mpr ⟨fun z=>?_,aib⟩;simp only[gQ,Ej,or_false]at z;rcases z with z|z|z<;>rw[z]at nq
  ·exact aEq (tE.free nq)
  ·exact aEr (tE.free nq)
  ·exact aEs (tE.free nq)
 have zR:aic.length=ps.length:=f5 apr;generalize bG fy [cQ,cu,dh] Z_=G at *;refine⟨L2,Z,⟨_,aT.of aib⟩,?_⟩;refine qy (xs:=aic) (fun i σ T_=>(∃ s5,σ=[some (.ref aY),some (.ref cl),some (.ref tl),some (.ref uz),some (.ref row),s5,none,none])/\PR t G T_ row cQ cu dh (wu f (ps.take i) wl)) ⟨⟨_,rfl⟩,aEu⟩ (fun i σ T_ _ ⟨_,P⟩=>aT.of (P.bY _ _ aEv)) (fun i v σ T_ aZ ⟨⟨s5,e⟩,T'⟩=>?_) fun σ T_ ⟨⟨s5,e⟩,T'⟩=>?_
 ·subst e;obtain⟨r,DR,lZ⟩:=mF apr aZ;have iy:=acv r (f9 DR);have st:=take_snoc DR;have bY:=ah4 (f:=f) (ps.take i) wl;refine⟨_,Z,_,Z,_,Z,_,_,_,Z,aY,f,r,row,G,cQ,cu,dh,_,Z,Z,trivial,mJ nr hf,d9,iy,HD _ _ _ _ nr lZ,T',?_,fun x aq=>?_,fun aH5 aEw=>⟨⟨_,rfl⟩,?_⟩⟩
  ·have:=congrArg List.length bY
   rw[ew,ew]at this;omega
  ·exact aEn _ (by rw[← bY];exact g5.mpr ⟨x,aq,rfl⟩)
  ·rw[st,apd];exact aEw
 ·subst e;rw[zR,fZ (cG _)]at T';refine⟨_,Z,k1 _ T_ row G cQ cu dh Ar (nr.trans T'.bY) T' ?_⟩;have:=congrArg List.length (ah4 (f:=f) ps wl);rw[ew,ew]at this;omega
def Z'(y:Sw28.St×(Int×aK)):List Int:=y.2.1::y.2.2.map fun n:Nat=>(n:Int)
def nG(t:bW)(M:d1)(H:ao)(cR:au)(s:Sw28.St):Prop:=∃ dx v,H cR=some (.ins t.jw dx [("font",v)])/\match s with
 |none=>v=.non
 |some f=>∃ aY,v=.ref aY/\lO t (bG fy M H) aY f/\pF f
theorem nG.keep{M L:d1}{H H':ao}{cR:au}{s:Sw28.St}(h:nG t M H cR s)(k:a9 L H H')(aF:∀ b∈L,b∈M)(aH:cR∉L):nG t M H' cR s:=by
 obtain⟨dx,v,h1,aC⟩:=h;refine⟨dx,v,k _ _ aH h1,?_⟩;cases s with
 |none=>exact aC
 |some f =>
  obtain⟨aY,e,hf,ok⟩:=aC;exact⟨aY,e,mJ (jA k fun b ak=>.inr (aF b ak)) hf,ok⟩
def Tells(t:bW)(M:d1)(H:ao)(cR:au)(s:Sw28.St)(c:Sw28.Call)(Q:bx):Prop :=
 ∀ D H',a9 [cR] H H'->H D=none->H' D=some (.lst ((Z' (Sw28.step s c)).map V.int))->nG t M H' cR (Sw28.step s c).1->Q (.ref D) H'
inductive aps(t:bW)(a:V)(H:ao)(Q:bx)(uy:cM):Prop
 |mk (cR M s):a=.ref cR->nG t M H cR s->Tells t M H cR s .start Q->aps t a H Q uy
def aEx(t:bW):eX:=fa (aps t)
inductive apt(t:bW)(a b:V)(H:ao)(Q:bx)(rQ:cM):Prop
 |mk (cR M s ca) (bs:aK):a=.ref cR->b=.ref ca->nG t M H cR s->cR∈M->(∀ b∈M,H b≠none)->H ca=some (.lst (bs.map nat))->(∀ b∈bs,b<256)->bs.length<=65536->(∀ f,ql bs=some f->pF f)->Tells t M H cR s (.open_ bs (bs.length:Nat)) Q->apt t a b H Q rQ
def aEy(t:bW):eX:=fQ (apt t)
inductive apu(t:bW)(a b:V)(H:ao)(Q:bx)(rQ:cM):Prop
 |mk (cR M s c):a=.ref cR->b=nat c->nG t M H cR s->Tells t M H cR s (.sign c) Q->apu t a b H Q rQ
def aEz(t:bW):eX:=fQ (apu t)
inductive apv(t:bW)(a b:V)(H:ao)(Q:bx)(rQ:cM):Prop
 |mk (cR M s c):a=.ref cR->b=nat c->nG t M H cR s->Tells t M H cR s (.has c) Q->apv t a b H Q rQ
def aEA(t:bW):eX:=fQ (apv t)
inductive apw(t:bW)(a b c d:V)(H:ao)(Q:bx)(xC:cM):Prop
 |mk (cR M s cl tl) (z:Int) (cs tags:aK):a=.ref cR->b=.int z->c=.ref cl->d=.ref tl->nG t M H cR s->cR∈M->H cl=some (.lst (cs.map nat))->H tl=some (.lst (tags.map nat))->cs.length<=1024->tags.length<=64->Tells t M H cR s (.set_ cs (cs.length:Nat) tags (tags.length:Nat) z) Q->apw t a b c d H Q xC
def aEB(t:bW):eX:=nk (apw t)
theorem aEC(T:Txt K av t):cI P w K av base (cL P w) 1 t.Mz t.MF ["self"] (fa fun s H Q _=>∃ x dx,s=.ref x/\H x=some (.ins t.jw dx [])/\Q .non (upd H x (.ins t.jw dx [("font",.non)]))):=by
 refine T.Xv.cY axU fa.cW ?_;rintro bJ A outer s H _ Q E aA ⟨bV,rfl,x,dx,rfl,aq,k1⟩;refine⟨_,(bj (eV (aj 0) Fb Z)),?_⟩;exact⟨_,Z,x,_,dx,_,Z,aq,T.oU,T.tM,by show 0<1000;decide,k1⟩
theorem aED(T:Txt K av t):cI P w K av base (cL P w) 1 t.MJ t.MK ["self"] (aEx t):=by
 refine T.Xw.cY axV fa.cW ?_;rintro bJ A outer s H _ Q E aA ⟨bV,rfl,cR,M,s0,rfl,⟨dx,v,lQ,lR⟩,k1⟩;refine⟨_,(aV (eV (aj 0) Fb Z) (bj (dK (hb (aD b3 aM))))),?_⟩;apply cA;intros;refine⟨_,Z,cR,_,dx,_,Z,lQ,T.oU,T.tM,by show 1<1000;decide,?_⟩;refine⟨nY,fun D bp=>k1 D _ ((a9.pR (by simp)).jl bp) ((a9.pR (L:=[cR]) (by simp)).free ?_ bp) a7 ⟨dx,.non,?_,rfl⟩⟩
 ·intro z;simp only[g4]at z;subst z;rw[a7]at bp;cases bp
 ·rw[a6 (bQ (o:=.ins t.jw dx [("font",.non)]) a7 bp)];exact a7
theorem aEE(T:Txt K av t):cI P w K av base (cL P w) 15 t.MN t.MP ["self","content"] (aEy t):=by
 obtain⟨aH6,aEF,aEG⟩:=T.k_WRONG_FILE;refine T.Xx.cY ali fQ.cW ?_;rintro bJ A outer s H _ Q E aA ⟨bV,a1,rfl,cR,M,s0,ca,bs,rfl,rfl,⟨dx,v,lQ,lR⟩,zK,aie,hW,cZ,ji,bK,k1⟩;refine⟨_,(aV (akU dH Z T.W6 T.W7 (fun _ _=>(bj (cp (i:=2) ali.nd Z (Or.inl Z) (dG (aA2 T) aA.bf Z T.afp T.Rz.aG T.axt .nil bh (aD (aj 1) aM))))) (fun _ _=>(bj (dK (hb (aD (gV Z aEF aEG) aM)))))) (aV (eV (aj 0) (aj 2) Z) (bj (dK (hb (aD (hv iG Z T.hA hM (aD (bO (aj 2) Z) aM)) aM)))))),?_⟩;apply dY;intros;have hw:within ((bs.length:Nat):Int) 0 65536=true:=by
  unfold within;rw[fu (by omega),fu (by omega)];rfl
 refine⟨_,Z,_,Z,ca,bs,Z,hW,cZ,ji,fun f aY H1 aL s1 hf=>?_,fun aL H1 s1=>⟨rfl,fun dc=>?_⟩⟩
 ·have mU:Sw28.step s0 (.open_ bs (bs.length:Nat))=(some f,((f.signs:Int),[])):=by
   show(if _=false then _ else _)=_;rw[hw,bw (by decide),aak,aL]
  have d9:=bK f aL;unfold Tells at k1;rw[mU]at k1;refine⟨_,Z,_,Z,cR,_,dx,_,Z,s1 _ _ lQ,T.oU,T.tM,by show 1<1000;decide,?_⟩;have apx:lO t (bG fy M (upd H1 cR (.ins t.jw dx (cB "font" (.ref aY) [("font",v)])))) aY f:=mJ (fun b o e=>by
   obtain⟨h1,_,aC⟩:=eu.mp e;have nb:b∉M:=fun z=>aie b z h1;refine n7.mpr ⟨nb,?_⟩;rw[a6 (fun z:b=cR=>nb (z.symm▸zK))];exact aC) hf
  have cC:a9 [cR] H (upd H1 cR (.ins t.jw dx (cB "font" (.ref aY) [("font",v)]))):=(hp s1 _).qM (by simp);have aif:(upd H1 cR (.ins t.jw dx (cB "font" (.ref aY) [("font",v)]))) cR=some (.ins t.jw dx [("font",.ref aY)]):=a7;generalize upd H1 cR (.ins t.jw dx (cB "font" (.ref aY) [("font",v)]))=aB at *;obtain⟨dN,p,c,w',bF,vc,gs,gA,fc,_,aU,_⟩:=id apx;have aEH:=(n7.mp fc).2;have Vy:=(n7.mp aU).2;refine⟨_,Z,aY,_,dN,_,_,Z,aEH,T.gn,T.QC,Z,c,_,Z,.inl (aT.of Vy),nY,fun D bp=>?_⟩;refine k1 D _ (cC.jl bp) (cC.free (fun z=>?_) bp) ?_ ⟨dx,_,by rw[a6 (bQ aif bp)];exact aif,aY,rfl,mJ (jA (M:=[]) (a9.iY bp) (by simp)) apx,d9⟩
  ·simp only[g4]at z;rw[z,aif]at bp;cases bp
  ·rw[a7,ew,d9.cl];rfl
 ·have mU:Sw28.step s0 (.open_ bs (bs.length:Nat))=(s0,(-2,[])):=by
   show(if _=false then _ else _)=_;rw[hw,bw (by decide),aak,aL]
  unfold Tells at k1;rw[mU]at k1;refine⟨nY,fun D bp=>k1 D _ ((hp s1 _).jl bp) (s1.free bp) a7 ?_⟩;exact nG.keep ⟨dx,v,lQ,lR⟩ (L:=[]) ((hp s1 _).jl bp) (by simp) (by simp)
theorem aEI(T:Txt K av t):cI P w K av base (cL P w) 2 t.M4 t.M5 ["self","character"] (aEz t):=by
 obtain⟨apy,Ua,Ub⟩:=T.k_NO_FILE;refine T.Xy.cY axW fQ.cW ?_;rintro bJ A outer s H _ Q E aA ⟨bV,a1,rfl,cR,M,s0,c,rfl,rfl,⟨dx,v,lQ,lR⟩,k1⟩;refine⟨_,(aV (gh (pL (yp (bO (aj 0) Z))) (bj (dK (hb (aD (gV Z Ua Ub) aM)))) ht) (bj (dK (hb (aD (fj (bO (aj 0) Z) T.gn T.WR (anI T) aA.bf T.ak8 .nil bh (aD (aj 1) aM)) aM))))),?_⟩;apply cA;intros;have done:∀ D (z:Int),H D=none->Sw28.step s0 (.sign c)=(s0,(z,[]))->Q (.ref D) (upd H D (.lst [.int z])):=fun D z bp mU=>by
  unfold Tells at k1;rw[mU]at k1;exact k1 D _ (a9.iY bp) bp a7 (nG.keep ⟨dx,v,lQ,lR⟩ (L:=[]) (a9.iY bp) (by simp) (by simp))
 refine⟨_,Z,cR,_,dx,_,_,Z,lQ,T.oU,T.tM,Z,?_⟩;cases s0 with
 |none =>
  have lR:v=.non:=lR;subst lR;exact⟨_,Z,dD (fun _=>⟨nY,fun D bp=>done D _ bp rfl⟩) fun ak=>absurd (fu rfl) ak⟩
 |some f =>
  obtain⟨aY,e,hf,d9⟩:=lR;subst e;have Iu:lO t H aY f:=mJ hB hf;obtain⟨dN,p,Dm,w',bF,vc,gs,gA,fc,_⟩:=id Iu;refine⟨_,Z,dD (fun ak=>nomatch h2 ak) fun _=>?_⟩;refine⟨_,Z,cR,_,dx,_,_,Z,lQ,T.oU,T.tM,Z,aY,dN,_,Z,fc,Z,_,Z,_,_,Z,aY,f,c,Z,Z,Iu,d9.mo,nY,fun D bp=>done D _ bp rfl⟩
theorem aEJ(T:Txt K av t):cI P w K av base (cL P w) 1 t.M6 t.M7 ["self","tag"] (aEA t):=by
 obtain⟨apy,Ua,Ub⟩:=T.k_NO_FILE;refine T.Xz.cY axX fQ.cW ?_;rintro bJ A outer s H _ Q E aA ⟨bV,a1,rfl,cR,M,s0,c,rfl,rfl,⟨dx,v,lQ,lR⟩,k1⟩;refine⟨_,(aV (gh (pL (yp (bO (aj 0) Z))) (bj (dK (hb (aD (gV Z Ua Ub) aM)))) ht) (bj (dK (hb (aD (Vi (pL (ab9 (k4 aA) (aj 1) (bO (bO (aj 0) Z) Z))) b3 b3) aM))))),?_⟩;apply cA;intros;have done:∀ D (z:Int),H D=none->Sw28.step s0 (.has c)=(s0,(z,[]))->Q (.ref D) (upd H D (.lst [.int z])):=fun D z bp mU=>by
  unfold Tells at k1;rw[mU]at k1;exact k1 D _ (a9.iY bp) bp a7 (nG.keep ⟨dx,v,lQ,lR⟩ (L:=[]) (a9.iY bp) (by simp) (by simp))
 refine⟨_,Z,cR,_,dx,_,_,Z,lQ,T.oU,T.tM,Z,?_⟩;cases s0 with
 |none =>
  have lR:v=.non:=lR;subst lR;exact⟨_,Z,dD (fun _=>⟨nY,fun D bp=>done D _ bp rfl⟩) fun ak=>absurd (fu rfl) ak⟩
 |some f =>
  obtain⟨aY,e,hf,d9⟩:=lR;subst e;have Iu:lO t H aY f:=mJ hB hf;obtain⟨dN,p,Dm,w',bF,vc,gs,gA,fc,_,_,_,_,_,_,jt⟩:=id Iu;obtain⟨dM,kvs,e,mO,o7⟩:=ao3 jt;subst e;refine⟨_,Z,dD (fun ak=>nomatch h2 ak) fun _=>?_⟩;refine⟨_,Z,_,Z,cR,_,dx,_,_,Z,lQ,T.oU,T.tM,Z,aY,_,dN,_,_,Z,fc,T.gn,T.Cd,Z,?_⟩;refine⟨dM,_,Z,hT.k (k:=bI c) mO,_,Z,?_⟩;have DN:(f.features.any fun x=>x.1 == c)=(dX kvs (bI c)).isSome:=by
   cases z:f.features.find? fun x=>decide (x.1=c)with
   |none =>
    rw[(o7 c).1 z];show _=false;rw[Ae]at z;rw[Bool.eq_false_iff];intro q;obtain⟨x,aq,e⟩:=sS.mp q;exact z x aq (fu (v9.mp e))
   |some x =>
    obtain⟨u,cD,_⟩:=(o7 c).2 x z;rw[cD];refine sS.mpr ⟨x,vY z,v9.mpr ?_⟩;exact h2 (vZ (p:=fun x:Nat×aK×aK=>decide (x.1=c)) z)
  cases z:dX kvs (bI c)with
  |none=>exact FT ⟨nY,fun D bp=>done D 0 bp (by
    show(some f,((if(f.features.any fun x=>x.1 == c)=true then(1:Int)else 0),([]:aK)))=_;rw[DN,z];rfl)⟩
  |some u=>exact FW ⟨nY,fun D bp=>done D 1 bp (by
    show(some f,((if(f.features.any fun x=>x.1 == c)=true then(1:Int)else 0),([]:aK)))=_;rw[DN,z];rfl)⟩
theorem aEK(T:Txt K av t):cI P w K av base (cL P w) 6 t.M8 t.M9 ["self","room","characters","tags"] (aEB t):=by
 obtain⟨aBA,ahm,ahn⟩:=T.k_MOST_SIGNS;obtain⟨apy,Ua,Ub⟩:=T.k_NO_FILE;obtain⟨aH7,aEL,aEM⟩:=T.k_NO_ROOM;obtain⟨aH8,aEN,aEO⟩:=T.k_TOO_LONG;obtain⟨aH9,aEP,aEQ⟩:=T.k_WRONG_NUMBER;refine T.XC.cY alj nk.cW ?_;rintro bJ A outer s H _ Q E aA ⟨bV,a1,a2,a3,rfl,cR,M,s0,cl,tl,z,cs,tags,rfl,rfl,rfl,rfl,⟨dx,v,lQ,lR⟩,zK,iU,vh,Dh,Kp,k1⟩;refine⟨_,(aV (gh (pL (yp (bO (aj 0) Z))) (bj (dK (hb (aD (gV Z Ua Ub) aM)))) ht) (aV (gh (PW.pt (abf (gK q9 (aj 1) b3 (fe _)) (abd (gK JT (aj 1) (gV Z ahm ahn) (fe _))))) (bj (dK (hb (aD (gV Z aEP aEQ) aM)))) ht) (aV (akU dH Z T.Xo T.Xp (fun _ _=>(bj (cp (i:=4) alj.nd Z (Or.inl Z) (dG (aD5 T) aA.bf Z T.afw T.RL.aG T.axA .nil bh (aD (ry (K':=K) Z (aj 0) Z) (aD (aj 2) (aD (aj 3) aM))))))) (fun _ _=>(bj (dK (hb (aD (gV Z aEN aEO) aM)))))) (aV (gh (gK JT (hv iG Z T.hA hM (aD (bO (aj 4) Z) aM)) (aj 1) (fe _)) (bj (dK (hb (aD (gV Z aEL aEM) aM)))) ht) (bj (dK (dG (aDV T) aA.bf Z T.afx T.RM.aG T.axB .nil bh (aD (aj 4) aM)))))))),?_⟩;apply mb;intros;have done:∀ D H' (lF:Int),aQ H H'->H' D=none->Sw28.step s0 (.set_ cs (cs.length:Nat) tags (tags.length:Nat) z)=(s0,(lF,[]))->Q (.ref D) (upd H' D (.lst [.int lF])):=fun D H' lF s1 bp mU=>by
  unfold Tells at k1;rw[mU]at k1;exact k1 D _ ((hp s1 _).jl bp) (s1.free bp) a7 (nG.keep ⟨dx,v,lQ,lR⟩ (L:=[]) ((hp s1 _).jl bp) (by simp) (by simp))
 refine⟨_,Z,cR,_,dx,_,_,Z,lQ,T.oU,T.tM,Z,?_⟩;cases s0 with
 |none =>
  have lR:v=.non:=lR;subst lR;exact⟨_,Z,dD (fun _=>⟨nY,fun D bp=>done D _ _ (aQ.refl _) bp rfl⟩) fun ak=>absurd (fu rfl) ak⟩
 |some f =>
  obtain⟨aY,e,hf,d9⟩:=lR;subst e;have Iu:lO t H aY f:=mJ hB hf;refine⟨_,Z,dD (fun ak=>nomatch h2 ak) fun _=>?_⟩;have hw:(within ((cs.length:Nat):Int) 0 1024 && (within ((tags.length:Nat):Int) 0 64 && within z 0 4096))=within z 0 4096:=by
   unfold within;rw[fu (show((0:Nat):Int)<=(cs.length:Nat) by omega),fu (show((cs.length:Nat):Int)<=(1024:Nat) by omega),fu (show((0:Nat):Int)<=(tags.length:Nat) by omega),fu (show((tags.length:Nat):Int)<=(64:Nat) by omega)];simp
  have mU:Sw28.step (some f) (.set_ cs (cs.length:Nat) tags (tags.length:Nat) z)=if within z 0 4096=false then(some f,(-1,[]))else match Sw28.set_ f tags cs with
   |none=>(some f,(-5,[]))
   |some l=>if z<(l.length:Int)then(some f,(-6,[]))else(some f,((l.length:Int),l.flatMap Sw28.told)):=by
   show(if(within ((cs.length:Nat):Int) 0 1024 && (within ((tags.length:Nat):Int) 0 64 && within z 0 4096))=false then _ else _)=_;rw[hw];rfl
  refine⟨_,Z,_,_,Z,Z,_,Z,dD (fun ak=>FW ⟨nY,fun D bp=>done D _ _ (aQ.refl _) bp ?_⟩) fun ak=>⟨_,rfl,_,_,rfl,rfl,_,rfl,dD (fun jF=>⟨nY,fun D bp=>done D _ _ (aQ.refl _) bp ?_⟩) fun jF=>?_⟩⟩
  ·have:within z 0 4096=false:=by
    have:=h2 ak;unfold within;rw[oo (by omega)];rfl
   rw[mU,this];rfl
  ·have:within z 0 4096=false:=by
    have:=h2 jF;unfold within;rw[oo (show ¬ z<=((4096:Nat):Int) by omega),Bool.and_false]
   rw[mU,this];rfl
  have rF:within z 0 4096=true:=by
   have h1:¬ z<0:=fun q=>ak (fu q);have aC:¬ 4096<z:=fun q=>jF (fu q);unfold within;rw[fu (by omega),fu (by omega)];rfl
  rw[rF,bw (by decide)]at mU;refine⟨_,Z,cR,_,dx,_,_,Z,lQ,T.oU,T.tM,Z,_,Z,_,Z,_,_,_,Z,aY,f,cl,tl,cs,tags,Z,Z,Z,Iu,d9,iU,vh,by omega,Kp,fun l H1 row G cQ cu dh aH s1 P zv=>?_,fun aH H1 s1=>⟨rfl,fun dc=>⟨nY,fun D bp=>done D _ _ s1 bp (by rw[mU,aH])⟩⟩⟩;rw[aH]at mU;obtain⟨fX,bF,ca,dO,e2,hW⟩:=P.cX;refine⟨_,Z,row,_,fX,_,_,Z,P.bY _ _ dO,T.eA,T.iv,Z,bF,_,Z,.inl (aT.of (P.bY _ _ e2)),_,Z,_,_,Z,Z,_,Z,dD (fun xR=>⟨nY,fun D bp=>done D _ _ s1 bp ?_⟩) fun xR=>?_⟩
  ·have:=h2 xR
   simp only[ew]at this;rw[mU];exact bL this
  ·have bH:¬ z<(l.length:Int):=fun q=>xR (fu (by simpa using q))
   simp only[]at mU;rw[bw bH]at mU;refine⟨_,Z,_,Z,row,G,cQ,cu,dh,l,Z,P,zv,fun D aB s2 bp jn=>?_⟩;unfold Tells at k1;rw[mU]at k1;refine k1 D aB (hp (s1.trans s2) _) (s1.free bp) ?_ (nG.keep ⟨dx,.ref aY,lQ,aY,rfl,hf,d9⟩ (L:=[]) (hp (s1.trans s2) _) (by simp) (by simp));rw[jn];simp[Z']
def pZ(t:bW)(K:cn)(H:ao)(b0 p:au)(ns:List Int)(n:Nat):Prop:=(∃ dx,H b0=some (.ins t.iW dx [("calls",.ref p),("at",nat n)]))/\aT K H p (ns.map V.int)
theorem aER{H H':ao}{L:d1}{p:au}{xs:List V}(k:a9 L H H')(h:aT K H p xs)(aL:p∈L->H p=none):aT K H' p xs:=by
 rcases h with(h|⟨o,h⟩)|h
 ·refine .inl (.inl (k _ _ (fun z=>?_) h));rw[aL z]at h;cases h
 ·refine .inl (.inr ⟨o,k _ _ (fun z=>?_) h⟩);rw[aL z]at h;cases h
 ·exact .inr h
theorem aii{H H':ao}{x p C dx:au}{fs:List (Str×V)}{xs:List V}(k:a9 [x] H H')(aq:H x=some (.ins C dx fs))(h:aT K H p xs):aT K H' p xs:=by
 rcases h with(h|⟨o,h⟩)|h
 ·refine .inl (.inl (k _ _ (fun z=>?_) h));simp only[g4]at z;subst z;rw[aq]at h;cases h
 ·refine .inl (.inr ⟨o,k _ _ (fun z=>?_) h⟩);simp only[g4]at z;subst z;rw[aq]at h;cases h
 ·exact .inr h
inductive apz(t:bW)(K:cn)(a:V)(H:ao)(Q:bx)(uy:cM):Prop
 |mk (b0 p ns n):a=.ref b0->pZ t K H b0 p ns n->Q (.bl (decide (n<ns.length))) H->apz t K a H Q uy
def aES(t:bW)(K:cn):eX:=fa (apz t K)
inductive apA(t:bW)(K:cn)(a:V)(H:ao)(Q:bx)(uy:cM):Prop
 |mk (b0 p ns n z):a=.ref b0->pZ t K H b0 p ns n->ns[n]?=some z->(∀ H',a9 [b0] H H'->pZ t K H' b0 p ns (n+1)->Q (.int z) H')->apA t K a H Q uy
def aET(t:bW)(K:cn):eX:=fa (apA t K)
inductive apB(t:bW)(K:cn)(a:V)(H:ao)(Q:bx)(uy:cM):Prop
 |mk (b0 p ns n) (x r:List Int):a=.ref b0->pZ t K H b0 p ns n->ns.drop n=(x.length:Int)::(x++r)->(∀ D H',a9 [b0] H H'->H D=none->H' D=some (.lst (x.map V.int))->pZ t K H' b0 p ns (n+1+x.length)->Q (.ref D) H')->apB t K a H Q uy
def aEU(t:bW)(K:cn):eX:=fa (apB t K)
theorem apC{ns:List Int}{n:Nat}{z:Int}(h:ns[n]?=some z):wO (ns.map V.int) (n:Int)=some (V.int z):=gM (by rw[ei,h];rfl)
theorem aEV(l:List Int){k n:Nat}(aN:k+n<=l.length):ti (l.map V.int) (some (k:Int)) (some ((k:Int)+(n:Int)))=((l.drop k).take n).map V.int:=by
 unfold ti;rw[show((k:Int)+(n:Int))=((k+n:Nat):Int) by omega,HT.Vz,HT.Vz,ew,D' (show k<=l.length by omega),D' aN,← Aa,← List.map_take,Nat.add_sub_cancel_left]
theorem aEW(T:Txt K av t):cI P w K av base (cL P w) 1 t.M_ t.Nb ["self","calls"] (fQ fun s a H Q _=>∃ x dx,s=.ref x/\H x=some (.ins t.iW dx [])/\Q .non (upd H x (.ins t.iW dx [("calls",a),("at",nat 0)]))):=by
 refine T.XD.cY axY fQ.cW ?_;rintro bJ A outer s H _ Q E aA ⟨bV,a1,rfl,x,dx,rfl,aq,k1⟩;refine⟨_,(aV (eV (aj 0) (aj 1) Z) (bj (eV (aj 0) b3 Z))),?_⟩;apply cA;intros;refine⟨_,Z,_,Z,x,_,dx,_,Z,aq,T.kG,T.Cj,by show 0<1000;decide,?_⟩;refine⟨_,Z,x,_,dx,_,Z,a7,T.kG,T.w6,by show 1<1000;decide,?_⟩;rw[ig];exact k1
theorem aEX(T:Txt K av t):cI P w K av base (cL P w) 1 t.Nf t.Ng ["self"] (aES t K):=by
 refine T.XF.cY axZ fa.cW ?_;rintro bJ A outer s H _ Q E aA ⟨bV,rfl,b0,p,ns,n,rfl,⟨⟨dx,jt⟩,aL⟩,k1⟩;refine⟨_,(bj (dK (nQ q9 (bO (aj 0) Z) (hv iG Z T.hA hM (aD (bO (aj 0) Z) aM)) (fe _)))),?_⟩;refine⟨_,Z,b0,_,dx,_,_,Z,jt,T.kG,T.w6,Z,_,Z,b0,_,dx,_,_,Z,jt,T.kG,T.Cj,Z,p,_,Z,.inl aL,_,_,Z,Z,?_⟩;have e:decide ((n:Int)<(((ns.map V.int).length:Nat):Int))=decide (n<ns.length):=by
  rw[ew];exact wa.mpr (by omega)
 show Q (.bl (decide ((n:Int)<(((ns.map V.int).length:Nat):Int)))) H;rw[e];exact k1
theorem aac(T:Txt K av t):cI P w K av base (cL P w) 1 t.Nh t.Ni ["self"] (aET t K):=by
 refine T.XH.cY ax0 fa.cW ?_;rintro bJ A outer s H _ Q E aA ⟨bV,rfl,b0,p,ns,n,z,rfl,⟨⟨dx,jt⟩,aL⟩,hz,k1⟩;refine⟨_,(aV (ajX (aj 0) b3 ajY) (bj (dK (eN gx (bO (aj 0) Z) (e4 kv (bO (aj 0) Z) b3) (fun _ _=>Z))))),?_⟩;apply cA;intros;refine⟨_,Z,b0,_,dx,_,_,Z,jt,T.kG,T.w6,Z,_,_,Z,Z,dx,_,jt,by show 2<1000;decide,?_⟩;have aG:a9 [b0] H (upd H b0 (.ins t.iW dx (cB "at" (.int ((n:Int)+1)) [("calls",.ref p),("at",nat n)]))):=a9.pR (by simp);have xX:(upd H b0 (.ins t.iW dx (cB "at" (.int ((n:Int)+1)) [("calls",.ref p),("at",nat n)]))) b0=some (.ins t.iW dx [("calls",.ref p),("at",nat (n+1))]):=a7;show c3 _ _ _ _ _;generalize upd H b0 (.ins t.iW dx (cB "at" (.int ((n:Int)+1)) [("calls",.ref p),("at",nat n)]))=H1 at *;have Uc:=aii aG jt aL;exact⟨_,Z,b0,_,dx,_,_,Z,xX,T.kG,T.Cj,Z,_,Z,b0,_,dx,_,_,Z,xX,T.kG,T.w6,Z,_,_,Z,Z,p,_,_,_,Z,Z,Uc,by
  have:=apC hz;rw[show((n+1:Nat):Int)-1=(n:Int) by omega];exact this,k1 H1 aG ⟨⟨dx,xX⟩,Uc⟩⟩
theorem aij(T:Txt K av t):cI P w K av base (cL P w) 1 t.Nj t.Nk ["self"] (aEU t K):=by
 refine T.XJ.cY alk fa.cW ?_;rintro bJ A outer s H _ Q E aA ⟨bV,rfl,b0,p,ns,n,x,r,rfl,⟨⟨dx,jt⟩,aL⟩,hd,k1⟩;refine⟨_,(aV (cp (i:=1) alk.nd Z (Or.inl Z) (e4 m7 (bO (aj 0) Z) b3)) (aV (eV (aj 0) (e4 m7 (aj 1) (eN gx (bO (aj 0) Z) (e4 kv (aj 1) b3) (fun _ _=>Z))) Z) (bj (dK (VB VF (bO (aj 0) Z) (yw (aj 1)) (yw (bO (aj 0) Z))))))),?_⟩;apply dY;intros;have aR:ns[n]?=some (x.length:Int):=by
  have:=congrArg (fun l:List Int=>l[0]?) hd;simpa using this
 have aF:n+1+x.length<=ns.length:=by
  have:=congrArg List.length hd;rw[oc,ek,gB]at this;omega
 have aq:(ns.drop (n+1)).take x.length=x:=by
  rw[show n+1=n+1 from rfl,← Al,hd];simp
 refine⟨_,Z,b0,_,dx,_,_,Z,jt,T.kG,T.w6,Z,_,_,Z,Z,?_⟩;refine⟨_,Z,_,Z,b0,_,dx,_,_,Z,jt,T.kG,T.Cj,Z,_,Z,_,_,Z,Z,p,_,_,_,Z,Z,aL,by
  rw[show(n:Int)+1-1=(n:Int) by omega];exact apC aR,_,_,Z,Z,_,Z,b0,_,dx,_,Z,jt,T.kG,T.w6,by show 2<1000;decide,?_⟩
 have aG:a9 [b0] H (upd H b0 (.ins t.iW dx (cB "at" (.int ((n:Int)+1+(x.length:Int))) [("calls",.ref p),("at",nat n)]))):=a9.pR (by simp);have xX:(upd H b0 (.ins t.iW dx (cB "at" (.int ((n:Int)+1+(x.length:Int))) [("calls",.ref p),("at",nat n)]))) b0=some (.ins t.iW dx [("calls",.ref p),("at",nat (n+1+x.length))]):=by
  rw[a7];show some (HO.ins t.iW dx [("calls",.ref p),("at",.int ((n:Int)+1+(x.length:Int)))])=_;rw[show(n:Int)+1+(x.length:Int)=((n+1+x.length:Nat):Int) by omega]
 dsimp only;generalize upd H b0 (.ins t.iW dx (cB "at" (.int ((n:Int)+1+(x.length:Int))) [("calls",.ref p),("at",nat n)]))=H1 at *;have Uc:=aii aG jt aL;have ec:ti (ns.map V.int) (some ((n:Int)+1)) (some ((n+1+x.length:Nat):Int))=x.map V.int:=by
  have:=aEV ns (k:=n+1) (n:=x.length) aF;rw[aq]at this;rw[← this];congr 2
 refine⟨_,Z,b0,_,dx,_,_,Z,xX,T.kG,T.Cj,Z,_,Z,_,Z,_,Z,b0,_,dx,_,_,Z,xX,T.kG,T.w6,Z,_,Z,p,_,Z,Uc,fun D bp=>?_⟩;refine k1 D _ (aG.jl bp) (aG.free (fun z=>?_) bp) (by rw[a7,ec]) ⟨⟨dx,by rw[a6 (bQ xX bp)];exact xX⟩,aER (L:=[]) (a9.iY bp) Uc (by simp)⟩;simp only[g4]at z;rw[z,xX]at bp;cases bp
def aik:Prop:=∀ (bs:aK) (f:Font),(∀ b∈bs,b<256)->ql bs=some f->pF f
inductive apD(t:bW)(K:cn)(a b:V)(H:ao)(Q:bx)(rQ:cM):Prop
 |mk (cR b0 M s p ns n c r):a=.ref cR->b=.ref b0->nG t M H cR s->pZ t K H b0 p ns n->cR∈M->b0∈M->(∀ b∈M,H b≠none)->Shaped (ns.drop n) c r->Sw28Neutral.asked1 (PySw28.whole c)=true->aik->(∀ D H' n',a9 [cR,b0] H H'->H D=none->H' D=some (.lst ((Sw28Neutral.step s (PySw28.whole c)).2.map V.int))->nG t M H' cR (Sw28Neutral.step s (PySw28.whole c)).1->pZ t K H' b0 p ns n'->ns.drop n'=r->n<n'->n'<=ns.length->Q (.ref D) H')->apD t K a b H Q rQ
def aEY(t:bW)(K:cn):eX:=fQ (apD t K)
theorem pZ.keep{H H':ao}{b0 p cR C dx:au}{fs:List (Str×V)}{ns:List Int}{n:Nat}(F:pZ t K H b0 p ns n)(k:a9 [cR] H H')(aH:H cR=some (.ins C dx fs))(aR:b0≠cR):pZ t K H' b0 p ns n:=by
 obtain⟨⟨dx,h⟩,aL⟩:=F;exact⟨⟨dx,k _ _ (by simpa using aR) h⟩,aii k aH aL⟩
theorem DW{ns:List Int}{n:Nat}{z:Int}{r:List Int}(h:ns.drop n=z::r):ns[n]?=some z/\ns.drop (n+1)=r/\n+1<=ns.length:=by
 refine⟨?_,?_,?_⟩
 ·have:=congrArg (fun l:List Int=>l[0]?) h
  simpa using this
 ·rw[← Al,h];rfl
 ·have:=congrArg List.length h
  rw[oc,ek]at this;omega
theorem ail{ns x r:List Int}{n:Nat}(h:ns.drop n=x++r):ns.drop (n+x.length)=r:=by
 rw[← Al,h];simp
theorem Ud{cR b0:au}{H H':ao}(k:a9 [cR] H H'):a9 [cR,b0] H H':=k.mono (by simp)
theorem uD{cR b0:au}{H H':ao}(k:a9 [b0] H H'):a9 [cR,b0] H H':=k.mono (by simp)
theorem ints_map(l:aK):(l.map fun n:Nat=>(n:Int)).map V.int=l.map nat:=by rw[kh];rfl
theorem aEZ{s:Sw28.St}{c:List (List Int)}{x:Sw28.Call}(h:Sw28Neutral.callOf c=some x):(Sw28Neutral.step s c).2=Z' (Sw28.step s x)/\(Sw28Neutral.step s c).1=(Sw28.step s x).1:=by
 unfold Sw28Neutral.step;rw[h];exact⟨Z,Z⟩
theorem aE0(T:Txt K av t):cI P w K av base (cL P w) 16 t.Qv t.Qw ["session","feed"] (aEY t K):=by
 obtain⟨aH_,aE1,aE2⟩:=T.k_SG_HAS;obtain⟨aH',aE3,aE4⟩:=T.k_SG_OPEN;obtain⟨aIa,aE5,aE6⟩:=T.k_SG_SIGN;obtain⟨aIb,aE7,aE8⟩:=T.k_SG_START;refine T.RN.cY Yh fQ.cW ?_;rintro bJ A outer s H _ Q E aA ⟨bV,a1,rfl,cR,b0,M,s0,p,ns,n,c,r,rfl,rfl,RS,FE,lQ,jt,aie,DX,z3,ain,k1⟩;refine⟨_,(aV (cp (i:=2) Yh.nd Z (Or.inl Z) (gu (aj 1) T.kG T.Gv (aac T) aA.bf T.X7 .nil bh)) (aV (gh (gK jN (aj 2) (gV Z aE7 aE8) (fe _)) (bj (dK (gu (aj 0) T.oU T.aeN (aED T) aA.bf T.awS .nil bh))) ht) (aV (gh (gK jN (aj 2) (gV Z aE3 aE4) (fe _)) (bj (dK (fj (aj 0) T.oU T.aeO (aEE T) aA.bf T.awT .nil bh (aD (gu (aj 1) T.kG T.QV (aij T) aA.bf T.afG .nil bh) aM)))) ht) (aV (gh (gK jN (aj 2) (gV Z aE5 aE6) (fe _)) (bj (dK (fj (aj 0) T.oU T.aeP (aEI T) aA.bf T.awU .nil bh (aD (gu (aj 1) T.kG T.Gv (aac T) aA.bf T.X7 .nil bh) aM)))) ht) (aV (gh (gK jN (aj 2) (gV Z aE1 aE2) (fe _)) (bj (dK (fj (aj 0) T.oU T.aeQ (aEJ T) aA.bf T.awV .nil bh (aD (gu (aj 1) T.kG T.Gv (aac T) aA.bf T.X7 .nil bh) aM)))) ht) (aV (cp (i:=3) Yh.nd Z (Or.inl Z) (gu (aj 1) T.kG T.Gv (aac T) aA.bf T.X7 .nil bh)) (aV (cp (i:=4) Yh.nd Z (Or.inl Z) (gu (aj 1) T.kG T.QV (aij T) aA.bf T.afG .nil bh)) (bj (dK (fj (aj 0) T.oU T.aeR (aEK T) aA.bf T.awW .nil bh (aD (aj 3) (aD (aj 4) (aD (gu (aj 1) T.kG T.QV (aij T) aA.bf T.afG .nil bh) aM))))))))))))),?_⟩;apply Gg;intros;have sL:b0≠cR:=by
  obtain⟨dx,v,h1,_⟩:=RS;obtain⟨⟨aIc,aC⟩,_⟩:=FE;exact hN aC h1 (by
   intro z;injection z with _ _ eG
   have:=congrArg List.length eG;simp at this)
 have hd:∃ z l,ns.drop n=z::l/\((z=1/\c=[[1]]/\l=r)\/(∃ x:List Int,z=2/\c=[[2],x]/\l=(x.length:Int)::(x++r))\/(∃ u,z=3/\c=[[3,u]]/\l=u::r)\/(∃ u,z=4/\c=[[4,u]]/\l=u::r)\/∃ u,∃ x y:List Int,z=5/\c=[[5,u],x,y]/\l=u::(x.length:Int)::(x++(y.length:Int)::(y++r))):=by
  generalize ns.drop n=Ax at DX;cases DX with
  |start=>exact⟨_,_,Z,.inl ⟨Z,Z,Z⟩⟩
  |open_ x=>exact⟨_,_,Z,.inr (.inl ⟨x,rfl,rfl,rfl⟩)⟩
  |sign u=>exact⟨_,_,Z,.inr (.inr (.inl ⟨u,rfl,rfl,rfl⟩))⟩
  |has u=>exact⟨_,_,Z,.inr (.inr (.inr (.inl ⟨u,rfl,rfl,rfl⟩)))⟩
  |set_ u x y=>exact⟨_,_,Z,.inr (.inr (.inr (.inr ⟨u,x,y,rfl,rfl,rfl⟩)))⟩
 obtain⟨z,l,V6,hd⟩:=hd;obtain⟨hz,aF,aR⟩:=DW V6;obtain⟨⟨dN,iQ⟩,_⟩:=id FE;refine⟨_,Z,b0,dN,_,Z,iQ,Z,_,Z,b0,p,ns,n,z,Z,FE,hz,fun H1 cC FE1=>?_⟩;have Iv:=RS.keep cC (by simpa using jt) (by simpa using sL.symm);have aE9:∀ b∈M,H1 b≠none:=fun b ak=>a9.dom cC (by obtain⟨⟨dx,h⟩,_⟩:=FE1;simp only[g4];rintro b rfl;rw[h];simp) b (aie b ak);have fresh:∀ {D:au},H1 D=none->H D=none:=fun{D} h=>cC.free (fun z=>(by
  obtain⟨⟨dx,h'⟩,_⟩:=FE1;simp only[g4]at z;rw[z,h']at h;cases h)) h
 have fin:∀ x D aB n',Sw28Neutral.callOf (PySw28.whole c)=some x->a9 [cR,b0] H aB->H D=none->aB D=some (.lst ((Z' (Sw28.step s0 x)).map V.int))->nG t M aB cR (Sw28.step s0 x).1->pZ t K aB b0 p ns n'->ns.drop n'=r->n<n'->n'<=ns.length->Q (.ref D) aB:=fun x D aB n' aU aG bp jn qW FE2 aA YP m8=>by
  obtain⟨bD,a8⟩:=aEZ (s:=s0) aU;exact k1 D aB n' aG bp (by rw[bD];exact jn) (by rw[a8];exact qW) FE2 aA YP m8
 obtain⟨sO,qU,dZ,_⟩:=id Iv;obtain⟨⟨aad,um⟩,_⟩:=id FE1;have dom:∀ {H1 aB:ao} {m:Nat},(∀ b∈M,H1 b≠none)->a9 [b0] H1 aB->pZ t K aB b0 p ns m->∀ b∈M,aB b≠none:=fun{H1 aB m} h k F b ak=>a9.dom k (by
  obtain⟨⟨dx,h⟩,_⟩:=F;simp only[g4];rintro b rfl;rw[h];simp) b (h b ak)
 have free:∀ {H1 aB:ao} {D:au} {m:Nat},a9 [b0] H1 aB->pZ t K aB b0 p ns m->aB D=none->H1 D=none:=fun{H1 aB D m} k F h=>k.free (fun z=>(by
  obtain⟨⟨dx,h'⟩,_⟩:=F;simp only[g4]at z;rw[z,h']at h;cases h)) h
 have aIe:∀ {aB:ao} {m:Nat},pZ t K aB b0 p ns m->m<=ns.length->True:=fun _ _=>trivial;rcases hd with⟨rfl,rfl,rfl⟩|⟨x,rfl,rfl,rfl⟩|⟨u,rfl,rfl,rfl⟩|⟨u,rfl,rfl,rfl⟩|⟨u,x,y,rfl,rfl,rfl⟩
 ·refine⟨_,Z,Z,_,Z,dD (fun _=>?_) fun ak=>absurd (fu rfl) ak⟩;exact⟨_,Z,cR,sO,_,Z,dZ,Z,_,Z,cR,M,s0,Z,Iv,fun D aB bZ bp jn qW=>fin .start D aB (n+1) rfl ((uD cC).trans (Ud bZ)) (fresh bp) jn qW (FE1.keep bZ dZ sL) aF (by omega) aR⟩
 ·refine⟨_,Z,Z,_,Z,dD (fun ak=>absurd (j8 ak) (by decide)) fun _=>?_⟩;refine⟨_,Z,Z,_,Z,dD (fun _=>?_) fun ak=>absurd (fu rfl) ak⟩;obtain⟨h1,aC⟩:=arq z3;have ex:=aa0 fun z hz=>(h1 z hz).1;obtain⟨_,oN,m8⟩:=DW aF;have ZW:=ail oN;have ZP:n+1+1+x.length<=ns.length:=by
   have:=congrArg List.length oN;rw[oc,gB]at this;omega
  refine⟨_,Z,cR,sO,_,Z,dZ,Z,_,Z,b0,aad,_,Z,um,Z,_,Z,b0,p,ns,n+1,x,r,Z,FE1,aF,fun D aB bZ bp jn FE2=>?_⟩;have qW:=Iv.keep bZ (by simpa using jt) (by simpa using sL.symm);obtain⟨apE,apF,Ue,_⟩:=id qW;rw[ex,ints_map]at jn;have hlen:(Sw28Neutral.nats x).length=x.length:=by simp[Sw28Neutral.nats]
  refine⟨_,_,Z,cR,M,s0,D,Sw28Neutral.nats x,Z,Z,qW,lQ,dom aE9 bZ FE2,jn,fun b ak=>?_,by rw[hlen];exact aC,fun f hf=>ain _ f (fun b ak=>?_) hf,fun D3 aJ dg o1 Ug z4=>?_⟩
  ·obtain⟨z,hz,rfl⟩:=g5.mp ak;have:=h1 z hz;omega
  ·obtain⟨z,hz,rfl⟩:=g5.mp ak;have:=h1 z hz;omega
  ·refine fin (.open_ (Sw28Neutral.nats x) ((Sw28Neutral.nats x).length:Nat)) D3 aJ (n+1+1+x.length) (by rw[hlen];rfl) ((uD cC).trans ((uD bZ).trans (Ud dg))) (fresh (free bZ FE2 o1)) Ug z4 (FE2.keep dg Ue sL) ZW (by omega) ZP
 ·refine⟨_,Z,Z,_,Z,dD (fun ak=>absurd (j8 ak) (by decide)) fun _=>?_⟩;refine⟨_,Z,Z,_,Z,dD (fun ak=>absurd (j8 ak) (by decide)) fun _=>?_⟩;refine⟨_,Z,Z,_,Z,dD (fun _=>?_) fun ak=>absurd (fu rfl) ak⟩;have cD:=(Jw (show Sw28Neutral.natural u 32=true from z3)).1;obtain⟨sH,oN,m8⟩:=DW aF;refine⟨_,Z,cR,sO,_,Z,dZ,Z,_,Z,b0,aad,_,Z,um,Z,_,Z,b0,p,ns,n+1,u,Z,FE1,sH,fun aB bZ FE2=>?_⟩;have qW:=Iv.keep bZ (by simpa using jt) (by simpa using sL.symm);obtain⟨apE,apF,Ue,_⟩:=id qW;exact⟨_,_,Z,cR,M,s0,u.toNat,Z,by show V.int u=V.int (u.toNat:Int);rw[I4 cD],qW,fun D3 aJ dg o1 Ug z4=>fin (.sign u.toNat) D3 aJ (n+1+1) rfl ((uD cC).trans ((uD bZ).trans (Ud dg))) (fresh (free bZ FE2 o1)) Ug z4 (FE2.keep dg Ue sL) oN (by omega) m8⟩
 ·refine⟨_,Z,Z,_,Z,dD (fun ak=>absurd (j8 ak) (by decide)) fun _=>?_⟩;refine⟨_,Z,Z,_,Z,dD (fun ak=>absurd (j8 ak) (by decide)) fun _=>?_⟩;refine⟨_,Z,Z,_,Z,dD (fun ak=>absurd (j8 ak) (by decide)) fun _=>?_⟩;refine⟨_,Z,Z,_,Z,dD (fun _=>?_) fun ak=>absurd (fu rfl) ak⟩;have cD:=(Jw (show Sw28Neutral.natural u 32=true from z3)).1;obtain⟨sH,oN,m8⟩:=DW aF;refine⟨_,Z,cR,sO,_,Z,dZ,Z,_,Z,b0,aad,_,Z,um,Z,_,Z,b0,p,ns,n+1,u,Z,FE1,sH,fun aB bZ FE2=>?_⟩;have qW:=Iv.keep bZ (by simpa using jt) (by simpa using sL.symm);obtain⟨apE,apF,Ue,_⟩:=id qW;exact⟨_,_,Z,cR,M,s0,u.toNat,Z,by show V.int u=V.int (u.toNat:Int);rw[I4 cD],qW,fun D3 aJ dg o1 Ug z4=>fin (.has u.toNat) D3 aJ (n+1+1) rfl ((uD cC).trans ((uD bZ).trans (Ud dg))) (fresh (free bZ FE2 o1)) Ug z4 (FE2.keep dg Ue sL) oN (by omega) m8⟩
 ·refine⟨_,Z,Z,_,Z,dD (fun ak=>absurd (j8 ak) (by decide)) fun _=>?_⟩;refine⟨_,Z,Z,_,Z,dD (fun ak=>absurd (j8 ak) (by decide)) fun _=>?_⟩;refine⟨_,Z,Z,_,Z,dD (fun ak=>absurd (j8 ak) (by decide)) fun _=>?_⟩;refine⟨_,Z,Z,_,Z,dD (fun ak=>absurd (j8 ak) (by decide)) fun _=>?_⟩;obtain⟨h1,aC,bH,dw⟩:=ars z3;have ex:=aa0 h1;have gj:=aa0 aC;have aE_:(Sw28Neutral.nats x).length=x.length:=by simp[Sw28Neutral.nats]
  have aE':(Sw28Neutral.nats y).length=y.length:=by simp[Sw28Neutral.nats]
  obtain⟨sH,oN,m8⟩:=DW aF;obtain⟨_,ZW,ZP⟩:=DW oN;have apG:=ail ZW;obtain⟨_,apH,Dw⟩:=DW apG;have ZG:=ail apH;have aFa:n+1+1+1+x.length+1+y.length<=ns.length:=by
   have:=congrArg List.length apH;rw[oc,gB]at this;omega
  refine⟨_,Z,b0,aad,_,Z,um,Z,_,Z,b0,p,ns,n+1,u,Z,FE1,sH,fun aB bZ FE2=>?_⟩;obtain⟨⟨aFb,vG⟩,_⟩:=id FE2;refine⟨_,Z,b0,aFb,_,Z,vG,Z,_,Z,b0,p,ns,n+1+1,x,_,Z,FE2,oN,fun apI aJ dg aIf apJ FE3=>?_⟩;obtain⟨⟨aFc,HW⟩,_⟩:=id FE3;have qW:=Iv.keep bZ (by simpa using jt) (by simpa using sL.symm);have z4:=qW.keep dg (by simpa using jt) (by simpa using sL.symm);obtain⟨aFd,aIg,mQ,_⟩:=id z4;refine⟨_,Z,cR,aFd,_,Z,mQ,Z,_,Z,_,Z,_,Z,b0,aFc,_,Z,HW,Z,_,Z,b0,p,ns,n+1+1+1+x.length,y,r,Z,FE3,apG,fun z0 bB dF ahB apK FE4=>?_⟩;have apL:=z4.keep dF (by simpa using jt) (by simpa using sL.symm);obtain⟨aIh,aIi,ahy,_⟩:=id apL;have zO:apI≠b0:=fun z=>by
   obtain⟨⟨dx,h⟩,_⟩:=FE3;rw[← z,apJ]at h;cases h
  have apM:=dF _ _ (by simpa using zO) apJ;rw[ex,ints_map]at apM;rw[gj,ints_map]at apK;refine⟨_,_,_,_,Z,cR,M,s0,apI,z0,u,Sw28Neutral.nats x,Sw28Neutral.nats y,Z,Z,Z,Z,apL,lQ,apM,apK,by omega,by omega,fun D5 b2 fW xJ aFe aio=>?_⟩;refine fin (.set_ (Sw28Neutral.nats x) ((Sw28Neutral.nats x).length:Nat) (Sw28Neutral.nats y) ((Sw28Neutral.nats y).length:Nat) u) D5 b2 (n+1+1+1+x.length+1+y.length) (by rw[aE_,aE'];rfl) ((uD cC).trans ((uD bZ).trans ((uD dg).trans ((uD dF).trans (Ud fW))))) (fresh (free bZ FE2 (free dg FE3 (free dF FE4 xJ)))) aFe aio (FE4.keep fW ahy sL) ZG (by omega) aFa
theorem aFf{ns:List Int}(h:PySw28.answers_asked ns=true):∃ cs,PyFlat.calls PySw28.shape ns.length ns=some cs/\cs.length<=300/\(∀ c∈cs,Sw28Neutral.asked1 (PySw28.whole c)=true)/\PySw28.answers ns=PyFlat.told (PyFlat.played Sw28Neutral.step Sw28Neutral.start (cs.map PySw28.whole)):=by
 unfold PySw28.answers_asked at h;cases e:PyFlat.calls PySw28.shape ns.length ns with
 |none =>
  have:PySw28.calls ns=none:=by unfold PySw28.calls;rw[e]
  rw[this]at h;cases h
 |some cs =>
  have ec:PySw28.calls ns=some (cs.map PySw28.whole):=by unfold PySw28.calls;rw[e]
  rw[ec]at h;simp only[je]at h;have h1:=h2 h.1;have aC:=h.2;unfold Sw28Neutral.asked at aC;simp only[je,rT]at aC;refine⟨cs,Z,by simpa using h1,fun c aU=>aC.1 _ (g5.mpr ⟨c,aU,rfl⟩),?_⟩;unfold PySw28.answers;rw[ec]
theorem aFg{fuel:Nat}{q:Int}{l:List Int}{cs:List (List (List Int))}(h:PyFlat.calls PySw28.shape fuel (q::l)=some cs):∃ c r z5 aip,cs=c::z5/\Shaped (q::l) c r/\PyFlat.calls PySw28.shape aip r=some z5:=by
 match fuel,h with
 |0,h=>cases h
 |f+1,h =>
  rw[PyFlat.calls]at h;cases e:PyFlat.call PySw28.shape (q::l)with
  |none=>rw[e]at h;cases h
  |some y =>
   obtain⟨c,r⟩:=y;rw[e]at h;simp only[]at h;cases a8:PyFlat.calls PySw28.shape f r with
   |none=>rw[a8]at h;cases h
   |some z5 =>
    rw[a8]at h;cases h;exact⟨c,r,z5,f,Z,arp e,a8⟩
def apO(t:bW)(K:cn)(H:ao)(p cR b0 jV:au)(ns:List Int)(m:Nat)(σ:St)(aB:ao):Prop :=
 ∃ s n cs acc fuel s4,σ=[some (.ref p),some (.ref cR),some (.ref b0),some (.ref jV),s4]/\m=ns.length-n/\nG t [cR,b0,jV] aB cR s/\pZ t K aB b0 p ns n/\aB jV=some (.lst ((acc:List Int).map V.int))/\PyFlat.calls PySw28.shape fuel (ns.drop n)=some cs/\(∀ c∈cs,Sw28Neutral.asked1 (PySw28.whole c)=true) /\
  acc++PyFlat.told (PyFlat.played Sw28Neutral.step s (cs.map PySw28.whole))=PySw28.answers ns/\acc.length+20500 * cs.length<=6150000/\n<=ns.length/\aQ H aB
inductive apP(t:bW)(K:cn)(a:V)(H:ao)(Q:bx)(uy:cM):Prop
 |mk (p ns):a=.ref p->aT K H p (ns.map V.int)->PySw28.answers_asked ns=true->aik->(∀ D H',H' D=some (.lst ((PySw28.answers ns).map V.int))->aQ H H'->Q (.ref D) H')->apP t K a H Q uy
def apQ(t:bW)(K:cn):eX:=fa (apP t K)
theorem aFh(T:Txt K av t):cI P w K av base (cL P w) 17 t.Qx t.Wj ["calls"] (apQ t K):=by
 refine T.XS.cY RV fa.cW ?_;rintro bJ A outer s H _ Q E aA ⟨bV,rfl,p,ns,rfl,aL,z3,ain,k1⟩;refine⟨_,(aV (cp (i:=1) RV.nd Z (Or.inl Z) (aj1 T.aeM (aEC T) aA.bf Z T.aeL T.awR .nil bh)) (aV (cp (i:=2) RV.nd Z (Or.inl Z) (qC T.aeT (aEW T) aA.bf Z T.aeS T.awX .nil bh (aD (aj 0) aM))) (aV (cp (i:=3) RV.nd Z (Or.inl Z) (hb aM)) (aV (Vo (gO dH Z) (Bp (gu (aj 2) T.kG T.aeU (aEX T) aA.bf T.awY .nil bh) (fun _=>Z)) (aV (cp (i:=4) RV.nd Z (Or.inl Z) (dG (aE0 T) aA.bf Z T.afy T.RN.aG T.axC .nil bh (aD (aj 1) (aD (aj 2) aM)))) (aV (er (mz lV pk pn pP (aj 3) (aD (hv iG Z T.hA hM (aD (aj 4) aM)) aM))) (bj (er (mz lV Un Uo VG (aj 3) (aD (aj 4) aM))))))) (bj (dK (aj 3))))))),?_⟩;apply mb;intros;obtain⟨aFi,xP,aIj,hW,aFj⟩:=aFf z3;intro cR sO apR aFk aIk;refine⟨_,Z,cR,sO,Z,a7,Z,?_⟩;rw[ig];have s1:aQ H (iJ H cR sO t.jw [("font",.non)]):=nZ apR aFk;have jZ:(iJ H cR sO t.jw [("font",.non)]) cR=some (.ins t.jw sO [("font",.non)]):=rz;show c3 _ _ _ _ (iJ H cR sO t.jw [("font",.non)]);generalize iJ H cR sO t.jw [("font",.non)]=H1 at *;refine⟨_,Z,?_⟩;intro b0 dN Tj Zh aIl;refine⟨_,_,Z,b0,dN,Z,a7,Z,?_⟩;rw[ig];have s2:aQ H1 (iJ H1 b0 dN t.iW [("calls",.ref p),("at",nat 0)]):=nZ Tj Zh;have vG:(iJ H1 b0 dN t.iW [("calls",.ref p),("at",nat 0)]) b0=some (.ins t.iW dN [("calls",.ref p),("at",nat 0)]):=rz;show c3 _ _ _ _ (iJ H1 b0 dN t.iW [("calls",.ref p),("at",nat 0)]);generalize iJ H1 b0 dN t.iW [("calls",.ref p),("at",nat 0)]=aB at *;refine⟨eY _,fun jV aae=>?_⟩;have s3:aQ aB (upd aB jV (.lst [])):=ef (aQ.refl _) aae;have aFl:(upd aB jV (.lst [])) jV=some (.lst []):=a7;generalize upd aB jV (.lst [])=aJ at *;have oa:=s1.trans (s2.trans s3);have aFm:H cR=none:=apR;have aFo:H b0=none:=s1.free Tj;have aFp:H jV=none:=(s1.trans s2).free aae;have anr:cR≠b0:=bQ jZ Tj;have apS:cR≠jV:=bQ (s2 _ _ jZ) aae;have apT:b0≠jV:=bQ vG aae;have hsz:sizeLine=16777216:=sizeLine_eq;refine⟨apO t K H p cR b0 jV ns,⟨_,⟨none,0,aFi,[],ns.length,_,Z,Z,⟨sO,_,s3 _ _ (s2 _ _ jZ),Z⟩,⟨⟨dN,s3 _ _ vG⟩,oa.seq aL⟩,aFl,xP,hW,by rw[aFj];rfl,by simp only[rW];omega,eY _,oa⟩⟩,?_⟩;rintro m σ bB ⟨s0,n,cs,acc,fuel,s4,rfl,rfl,RS,FE,b5,iU,apU,ro,hlen,aR,Ig⟩;obtain⟨⟨aFq,Ht⟩,_⟩:=id FE;refine⟨_,Z,b0,aFq,_,Z,Ht,Z,_,Z,b0,p,ns,n,Z,FE,_,Z,dD (fun ak=>?_) fun ak=>?_⟩
 ·have cZ:n<ns.length:=h2 ak
  have apV:ns.drop n=ns[n]::ns.drop (n+1):=z7 cZ;rw[apV]at iU;obtain⟨c,r,z5,aip,rfl,DX,aFr⟩:=aFg iU;rw[← apV]at DX;refine⟨fun dc H'=>∃ dT,dT<ns.length-n/\apO t K H p cR b0 jV ns dT dc H',fun _ _ h=>h,?_⟩;refine⟨_,Z,_,Z,_,_,Z,cR,b0,[cR,b0,jV],s0,p,ns,n,c,r,Z,Z,RS,FE,by simp,by simp,fun b ak=>?_,DX,apU c h9,ain,fun D b2 n' aG bp xJ aio FE5 aFs YP m8=>?_⟩
  ·obtain⟨dx,v,dZ,_⟩:=RS;simp only[gQ,Ej,or_false]at ak;rcases ak with rfl|rfl|rfl
   ·rw[dZ];simp
   ·rw[Ht];simp
   ·rw[b5];simp
  have Ib:=aG _ _ (by simp[apS.symm,apT.symm]) b5;have aFt:D≠jV:=fun z=>by rw[z,b5]at bp;cases bp
  have aFu:aQ H b2:=fun b o e=>aG b o (by
   simp only[gQ,Ej,or_false];rintro(rfl|rfl)
   ·rw[aFm]at e;cases e
   ·rw[aFo]at e;cases e) (Ig _ _ e)
  have yO:=arv s0 (PySw28.whole c);have aFv:PyFlat.told (PyFlat.played Sw28Neutral.step s0 ((c::z5).map PySw28.whole))=((Sw28Neutral.step s0 (PySw28.whole c)).2.length:Int)::(Sw28Neutral.step s0 (PySw28.whole c)).2++PyFlat.told (PyFlat.played Sw28Neutral.step (Sw28Neutral.step s0 (PySw28.whole c)).1 (z5.map PySw28.whole)):=by
   simp[PyFlat.told,PyFlat.played]
  rw[aFv]at ro;generalize (Sw28Neutral.step s0 (PySw28.whole c)).2=vR at *;generalize (Sw28Neutral.step s0 (PySw28.whole c)).1=aFw at *;rw[ek]at hlen;refine⟨_,Z,.inl ⟨Z,_,aT.of Ib⟩,_,Z,D,_,Z,.inl (aT.of xJ),jV,_,_,Z,Z,Ib,by rw[ew];omega,?_⟩;have apW:(upd b2 jV (.lst (acc.map V.int++[V.int ((vR.map V.int).length:Nat)]))) jV=some (.lst (acc.map V.int++[V.int ((vR.map V.int).length:Nat)])):=a7;have ah6:(upd b2 jV (.lst (acc.map V.int++[V.int ((vR.map V.int).length:Nat)]))) D=some (.lst (vR.map V.int)):=by rw[a6 aFt];exact xJ
  refine⟨_,Z,.inl ⟨Z,_,aT.of apW⟩,_,Z,jV,D,_,_,Z,Z,apW,ah6,by simp only[gB,ew,ek,rW];omega,?_⟩;rw[ig];have aiq:a9 [jV] b2 (upd b2 jV (.lst (acc.map V.int++[V.int ((vR.map V.int).length:Nat)]++vR.map V.int))):=a9.pR (by simp);have apY:aQ H (upd b2 jV (.lst (acc.map V.int++[V.int ((vR.map V.int).length:Nat)]++vR.map V.int))):=fun b o e=>aiq b o (by
   simp only[g4];rintro rfl;rw[aFp]at e;cases e) (aFu _ _ e)
  obtain⟨⟨aFx,aFy⟩,_⟩:=FE5;refine⟨ns.length-n',by omega,aFw,n',z5,acc++(vR.length:Int)::vR,aip,_,Z,Z,aio.keep aiq (by simp) (by simpa using apS),⟨⟨aFx,aiq _ _ (by simpa using apT) aFy⟩,apY.seq aL⟩,?_,by rw[aFs];exact aFr,fun c aU=>apU c (hZ _ aU),?_,?_,m8,apY⟩
  ·rw[a7];simp
  ·rw[← ro];simp
  ·rw[gB,ek];omega
 ·have aFz:n=ns.length:=by
   have:¬ n<ns.length:=fun q=>ak (fu q);omega
  subst aFz;rw[List.drop_length]at iU;have aFA:cs=[]:=by
   cases fuel<;>cases iU<;>rfl
  subst aFA;have e:acc=PySw28.answers ns:=by
   rw[← ro];simp[PyFlat.played,PyFlat.told]
  exact⟨_,Z,k1 jV bB (by rw[b5,e]) Ig⟩
end
end Sg
namespace Sr
open Sw28
theorem uE{α:Type}{good:α->Bool}{p:P α}{t:B}{y:α×B}(h:only good p t=some y):p t=some y/\good y.1=true:=by
 obtain⟨x,aq,h⟩:=pq.mp h;split at h
 ·cases h;exact⟨aq,by assumption⟩
 ·cases h
theorem vU{α β:Type}{p:P α}{q:P β}{t:B}{y:(α×β)×B}(h:pair p q t=some y):∃ z,p t=some (y.1.1,z)/\q z=some (y.1.2,y.2):=by
 obtain⟨x,aq,h⟩:=pq.mp h;obtain⟨z,hz,rfl⟩:=qX.mp h;exact⟨x.2,aq,hz⟩
theorem aaf{α:Type}{p:P α}:∀ {n:Nat} {t:B} {y:List α×B},times p n t=some y->y.1.length=n
 |0,t,y,h=>by cases h;rfl
 |n+1,t,y,h=>by
  obtain⟨x,aq,h⟩:=pq.mp h;obtain⟨z,hz,rfl⟩:=qX.mp h;rw[ek,aaf hz]
theorem DY{α:Type}{p:P α}{lo hi:Nat}{t:B}{y:List α×B}(h:many lo hi p t=some y):lo<=y.1.length/\y.1.length<=hi:=by
 obtain⟨x,aq,h⟩:=pq.mp h;split at h
 ·cases h
 ·rename_i aR;rw[aaf h];omega
theorem air{g:Nat}{t:B}{x:Nat}{r:B}(h:sign g t=some (x,r)):x<g:=by
 have:=(uE h).2;simpa using this
theorem apZ{t:B}{x:Nat}{r:B}(h:skip t=some (x,r)):x<8:=by
 have:=(uE h).2;simpa using this
theorem aFB{g:Nat}{t:B}{a:Around}{r:B}(h:around g t=some (a,r)):yc a:=by
 obtain⟨x,aq,h⟩:=pq.mp h;obtain⟨gk,_,h1⟩:=vU aq;obtain⟨eG,aC,_⟩:=vU h1;have m:=(DY aC).1;simp only[]at h;split at h
 ·rename_i aW;cases h;refine⟨m,fun y aP=>?_⟩;have:=rT.mp aW y aP;simpa using this
 ·cases h
theorem z6{α β:Type}{x:(Nat×Nat)×B}{p:P α}{f:α->β}{y:Rule β×B}(h:body x p f=some y):∃ z,p x.2=some z/\y.1=⟨x.1.2,f z.1⟩:=by
 obtain⟨z,hz,rfl⟩:=qX.mp h;exact⟨z,hz,Z⟩
theorem aFC{g:Nat}{t:B}{y:Rule Sub}{r:B}(h:sub g t=some (y,r)):y.skip<8/\Et y.rule/\aaU g y.rule/\∀ l,y.rule=.around l->l.length<=64:=by
 obtain⟨x,aq,h⟩:=pq.mp h;obtain⟨ais,_,aH⟩:=vU aq;have rM:=apZ aH;split at h
 ·obtain⟨z,hz,e⟩:=z6 h;have e:y=_:=e;subst e;refine⟨rM,trivial,fun y aP=>?_,fun l e=>by cases e⟩;exact Sg.rG (iM:=fun y:Nat×Nat=>y.2<g) (fun t x r h=>by
   obtain⟨_,_,h⟩:=vU h;exact air h) (uE hz).1 y aP
 split at h
 ·obtain⟨z,hz,e⟩:=z6 h;have e:y=_:=e;subst e;have q:=Sg.rG (iM:=fun y:Nat×aK=>y.2≠[]/\y.2.length<=8/\∀ s∈y.2,s<g) (fun t x r h=>by
   obtain⟨_,_,h⟩:=vU h;have:=DY h;refine⟨fun e=>?_,this.2,fun s aH=>Sg.rG (iM:=fun s:Nat=>s<g) (fun t x r h=>air h) h s aH⟩;simp only[]at this;rw[e]at this;exact absurd this.1 (by simp)) (uE hz).1
  exact⟨rM,fun y aP=>(q y aP).1,fun y aP=>(q y aP).2,fun l e=>by cases e⟩
 split at h
 ·obtain⟨z,hz,e⟩:=z6 h;have e:y=_:=e;subst e;refine⟨rM,trivial,fun y aP=>?_,fun l e=>by cases e⟩;exact Sg.rG (iM:=fun y:Nat×aK×Nat=>y.2.2<g) (fun t x r h=>by
   obtain⟨_,_,h⟩:=vU h;obtain⟨_,_,h⟩:=vU h;exact air h) (uE hz).1 y aP
 split at h
 ·obtain⟨z,hz,e⟩:=z6 h;have e:y=_:=e;subst e;refine⟨rM,fun a aW=>?_,trivial,fun l e=>?_⟩
  ·exact Sg.rG (iM:=fun a:Around=>yc a) (fun t x r h=>aFB h) hz a aW
  ·cases e;exact(DY hz).2
 ·cases h
theorem aFD{g:Nat}{t:B}{y:Rule Sw28.Pos}{r:B}(h:pos g t=some (y,r)):y.skip<8:=by
 obtain⟨x,aq,h⟩:=pq.mp h;obtain⟨ais,_,aH⟩:=vU aq;have rM:=apZ aH;split at h
 ·obtain⟨z,hz,e⟩:=z6 h;have e:y=_:=e;subst e;exact rM
 split at h
 ·obtain⟨z,hz,e⟩:=z6 h;have e:y=_:=e;subst e;exact rM
 split at h
 ·obtain⟨z,hz,e⟩:=z6 h;have e:y=_:=e;subst e;exact rM
 split at h
 ·obtain⟨z,hz,e⟩:=z6 h;have e:y=_:=e;subst e;exact rM
 ·cases h
theorem aFE{g:Nat}{t:B}{s:Span}{r:B}(h:span g t=some (s,r)):s.first<=s.last/\s.sign+(s.last-s.first)<g:=by
 obtain⟨x,aq,h⟩:=pq.mp h;simp only[]at h;split at h
 ·cases h
 ·rename_i aR;cases h;dsimp only at *;omega
theorem ap0:∀ {m:List Span},(∀ s∈m,s.first<=s.last)->apart m=true->m.Pairwise fun a b=>a.last<b.first
 | [],_,_=>.nil
 | [a],_,_=>List.pairwise_singleton _ _
 |a::b::r,hle,h=>by
  simp only[apart,je,pe]at h;have bU:=ap0 (fun s aH=>hle s (hZ _ aH)) h.2;refine x7.mpr ⟨fun s aH=>?_,bU⟩;rcases gQ.mp aH with rfl|aH
  ·exact h.1
  ·have:=(x7.mp bU).1 s aH
   have:=hle b (hZ _ h9);omega
theorem aFF{t:B}{y:Font×B}(h:file t=some y):pF y.1:=by
 unfold file at h;split at h
 ·obtain⟨g,b5,h⟩:=pq.mp h;obtain⟨m,hm,h⟩:=pq.mp h;obtain⟨c,aU,h⟩:=pq.mp h;obtain⟨w,hw,h⟩:=pq.mp h;obtain⟨s,aH,h⟩:=pq.mp h;obtain⟨p,aL,h⟩:=pq.mp h;simp only[]at h;obtain⟨f,hf,rfl⟩:=qX.mp h;have Ds:=(uE b5).2;simp only[je,pe]at Ds;have yI:=uE hm;have sp:=Sg.rG (iM:=fun s:Span=>s.first<=s.last/\s.sign+(s.last-s.first)<g.1) (fun t x r h=>aFE h) yI.1;have lH:=uE aH;have sub:=Sg.rG (iM:=fun y:Rule Sub=>y.skip<8/\Et y.rule/\aaU g.1 y.rule/\∀ l,y.rule=.around l->l.length<=64) (fun t x r h=>aFC h) lH.1;have ps:=Sg.rG (iM:=fun y:Rule Sw28.Pos=>y.skip<8) (fun t x r h=>aFD h) aL;have ait:=uE hf;have idx:∀ {k:Nat} {t:B} {x:aK} {r:B},only (fun l=>rising l && l.all fun i=>decide (i<k)) (many 0 64 u16) t=some (x,r)->(∀ n∈x,n<k)/\x.length<=64:=fun{k t x r} h=>by
   obtain⟨h1,aC⟩:=uE h;simp only[je,rT,pe]at aC;exact⟨aC.2,(DY h1).2⟩
  have b0:=Sg.rG (iM:=fun x:Nat×aK×aK=>(∀ n∈x.2.1,n<s.1.length)/\(∀ n∈x.2.2,n<p.1.length)/\x.2.1.length<=64/\x.2.2.length<=64) (fun t x r h=>by
   obtain⟨_,_,h⟩:=vU h;obtain⟨_,h1,aC⟩:=vU h;obtain⟨a1,a2⟩:=idx h1;obtain⟨b1,iu⟩:=idx aC;exact⟨a1,b1,a2,iu⟩) ait.1
  exact{
   cl:=aaf aU
   ad:=aaf hw
   g1:=Ds.1
   Jv:=Ds.2
   r4:=Sg.CX (iM:=fun z=>z<4) (fun t x r h=>by simpa using(uE h).2) aU
   mo:=⟨fun s aH=>(sp s aH).1,ap0 (fun s aH=>(sp s aH).1) yI.2⟩
   ms:=fun s aH=>(sp s aH).2
   sk:=fun r aA=>(sub r aA).1
   pG:=fun r aA=>ps r aA
   so:=fun r aA=>(sub r aA).2.1
   fV:=fun r aA=>(sub r aA).2.2.1
   ac:=fun r aA l e=>by
    refine⟨(sub r aA).2.2.2 l e,fun a aW y aP=>?_⟩;have:=rT.mp lH.2 r aA;rw[e]at this;have:=rT.mp this a aW;have:=rT.mp this y aP;show aaV s.1 y.2;cases a8:s.1[y.2]? with
    |none=>rw[a8]at this;cases this
    |some q =>
     rw[a8]at this;simp only[]at this;cases dr:q.rule with
     |one u=>exact⟨q,u,a8,dr⟩
     |more u=>rw[dr]at this;cases this
     |joined u=>rw[dr]at this;cases this
     |around u=>rw[dr]at this;cases this
   fL:=(DY lH.1).2
   pl:=(DY aL).2
   b0:=b0
   wA:=(DY ait.1).2
   fr:=ait.2 }
 ·cases h
theorem aFG:Sg.aik:=fun bs f _ h=>by
 rw[← aak]at h;obtain⟨x,aq,h⟩:=pq.mp h;split at h
 ·cases h;exact aFF aq
 ·cases h
end Sr
namespace Sg
open PySem L2 Sr
open Sw28 (Item Font passed times many signAt rising Rule u16 within asked byte setOn begun s16 Anchor mapped word)
def fD(K:cn)(av:g9)(x g:Str)(st:Stmt):Prop:=∃ f d,ct K x x st f d/\av g=some (.ref f)
def aiu(K:cn)(av:g9)(g:Str):Prop:=∃ C,av g=some (.ref C)/\yM K C
def aag(K:cn)(av:g9)(g:Str)(xs:List V):Prop:=∃ p,av g=some (.ref p)/\∀ H,fM K H p xs
def o_(K:cn)(av:g9)(g:Str)(C:au):Prop:=av g=some (.ref C)/\iT K C
def o'(K:cn)(C:au)(q:Str)(st:Stmt):Prop:=∃ f d,ct K "__init__" q st f d/\ml K C f
def jd(K:cn)(C:au)(m q:Str)(st:Stmt):Prop:=∃ f d,ct K m q st f d/\Meth K C m f
section
variable{K:cn}{h:Heap}{av:g9}{g m q:Str}{C f:au}{st:Stmt}{jK:aO}{hP an:Option au}{pO:Array (Option aO)}{c0 doc pm bJ ft:aO}
theorem aFH(X:K.In h)(G:h.Ns mainGlobals av)(a:PySem.W.nsIn K mainGlobals g=some (some (.ref f)):=by k_is)(l:K.lookup f=some ⟨jK,hP,.func (PySem.W.fnOf m m (sg st) (rh st) (cx st) .none c0 doc pm an bJ ft),pO⟩:=by k_is)
  (c:PySem.W.codeIn K bJ m=true:=by k_is) (k:PySem.W.keepIn K (.ref f)=true:=by k_is):fD K av m g st:=⟨f,_,acp l c k,Ek X G a⟩
theorem p0(X:K.In h)(G:h.Ns mainGlobals av)(a:PySem.W.nsIn K mainGlobals g=some (some (.ref C)):=by k_is)(yu:PySem.W.plainGet K C Str.empty=true:=by k_is)(hd:PySem.W.hasDictIn K C=true:=by k_is)(po:PySem.W.plainOver K C=true:=by k_is)(bF:PySem.W.findIn K (.ref C) "__setattr__"=some (some (.builtin "object.__setattr__")):=by k_is):o_ K av g C:=⟨Ek X G a,yu,hd,po,bF⟩
theorem jo(a:PySem.W.findIn K (.ref C) m=some (some (.ref f)):=by k_is)(i:PySem.W.isFn K (.ref f)=true:=by k_is)(l:K.lookup f=some ⟨jK,hP,.func (PySem.W.fnOf m q (sg st) (rh st) (cx st) .none c0 doc pm an bJ ft),pO⟩:=by k_is)
  (c:PySem.W.codeIn K bJ q=true:=by k_is) (k:PySem.W.keepIn K (.ref f)=true:=by k_is):jd K C m q st:=⟨f,_,acp l c k,a,i,k⟩
theorem p1(a:PySem.W.findIn K (.ref C) "__init__"=some (some (.ref f)):=by k_is) (i:PySem.W.isFn K (.ref f)=true:=by k_is) (l:K.lookup f=some ⟨jK,hP,.func (PySem.W.fnOf "__init__" q (sg st) (rh st) (cx st) .none c0 doc pm an bJ ft),pO⟩:=by k_is)
  (c:PySem.W.codeIn K bJ q=true:=by k_is) (k:PySem.W.keepIn K (.ref f)=true:=by k_is) (mk:PySem.W.makesIn K C=true:=by k_is) (aFI:PySem.W.keepIn K (.ref C)=true:=by k_is):o' K C q st:=⟨f,_,acp l c k,mk,a,i,aFI⟩
theorem fY(a:PySem.W.findIn K (.ref C) g=some none:=by k_is):cP K C g:=a
theorem ap1(X:K.In h)(G:h.Ns mainGlobals av)(a:PySem.W.nsIn K mainGlobals g=some (some (.ref C)):=by k_is)(e:PySem.W.excIn K C [.type "Exception",.type "BaseException",.type "object"] "Exception.__new__"=true:=by kernel_rfl):aiu K av g:=⟨C,Ek X G a,e⟩
theorem aFJ(X:K.In h)(G:h.Ns mainGlobals av){v:Int}{tk:Nat}(a:PySem.W.nsIn K mainGlobals g=some (some (.int v tk)):=by k_is):∃ u,av g=some u/\RelV (.int v) u:=⟨_,Ek X G a,tk,rfl⟩
theorem aFK(X:K.In h)(G:h.Ns mainGlobals av){p:au}{x0 x1:Int}{t0 t1 n:Nat}(a:PySem.W.nsIn K mainGlobals g=some (some (.ref p)):=by k_is)(l:K.lookup p=some ⟨.type "tuple",hP,.seq #[.int x0 t0,.int x1 t1] n,pO⟩:=by k_is):aag K av g [.int x0,.int x1] :=
 ⟨p,Ek X G a,fun H=>.inr ⟨_,_,_,l,rfl,rfl,by show 2<=sizeLine;decide,(.cons ⟨t0,rfl⟩ (.cons ⟨t1,rfl⟩ .nil))⟩⟩
theorem aFL(X:K.In h)(G:h.Ns mainGlobals av){p:au}{x0 x1 iD kp:Int}{t0 t1 t2 t3 n:Nat}(a:PySem.W.nsIn K mainGlobals g=some (some (.ref p)):=by k_is)(l:K.lookup p=some ⟨.type "tuple",hP,.seq #[.int x0 t0,.int x1 t1,.int iD t2,.int kp t3] n,pO⟩:=by k_is):aag K av g [.int x0,.int x1,.int iD,.int kp] :=
 ⟨p,Ek X G a,fun H=>.inr ⟨_,_,_,l,rfl,rfl,by show 4<=sizeLine;decide,(.cons ⟨t0,rfl⟩ (.cons ⟨t1,rfl⟩ (.cons ⟨t2,rfl⟩ (.cons ⟨t3,rfl⟩ .nil))))⟩⟩
theorem aFM(ais:∃ C,o_ K av "Context" C/\o' K C "Context.__init__" acL/\cP K C "before"/\cP K C "there"/\cP K C "behind"/\cP K C "acts") (gk:∃ C,o_ K av "Slot" C/\o' K C "Slot.__init__" acM/\jd K C "bits_at" "Slot.bits_at" acN/\cP K C "free"/\cP K C "allowed") (eG:∃ C,o_ K av "Contexts" C/\o' K C "Contexts.__init__" acO/\jd K C "first_fitting" "Contexts.first_fitting" acP/\cP K C "entries"/\cP K C "onward"/\cP K C "backward") (nf:∃ C,o_ K av "Rule" C/\o' K C "Rule.__init__" acQ/\cP K C "kind"/\cP K C "passes"/\cP K C "body") (Gh:∃ C,o_ K av "Feature" C/\o' K C "Feature.__init__" acR/\cP K C "change_numbers"/\cP K C "place_numbers") (BX:∃ C,o_ K av "Font" C/\o' K C "Font.__init__" acS/\jd K C "sign_of" "Font.sign_of" acT/\jd K C "is_mark" "Font.is_mark" acU/\jd K C "passes_over" "Font.passes_over" acV/\jd K C "left_places" "Font.left_places" acW/\cP K C "pieces"/\cP K C "classes"/\cP K C "widths"/\cP K C "passing"/\cP K C "changes"/\cP K C "places"/\cP K C "features") (aFN:∃ C,o_ K av "Joining" C/\o' K C "Joining.__init__" acX/\cP K C "order"/\cP K C "length"/\cP K C "joined") (aFO:∃ C,o_ K av "Joinings" C/\o' K C "Joinings.__init__" acY/\jd K C "tell" "Joinings.tell" acZ/\jd K C "first_fitting" "Joinings.first_fitting" ac0/\cP K C "by_signs"/\cP K C "lengths") (aFP:aiu K av "WrongFile") (aFQ:∃ C,o_ K av "Reader" C/\o' K C "Reader.__init__" ac1/\jd K C "byte" "Reader.byte" ac2/\jd K C "number" "Reader.number" ac3/\jd K C "long_number" "Reader.long_number" ac4/\jd K C "signed_number" "Reader.signed_number" ac5/\jd K C "within" "Reader.within" ac6/\jd K C "sign" "Reader.sign" ac7/\jd K C "many_signs" "Reader.many_signs" ac8/\jd K C "require_end" "Reader.require_end" ac9/\cP K C "content"/\cP K C "at"/\cP K C "sign_count") (aFR:∃ C,o_ K av "Anchor" C/\o' K C "Anchor.__init__" ac_/\cP K C "mark_class"/\cP K C "right"/\cP K C "up") (aFS:∃ C,o_ K av "Anchors" C/\o' K C "Anchors.__init__" ac'/\cP K C "marks"/\cP K C "bases") (aFT:∃ C,o_ K av "Move" C/\o' K C "Move.__init__" ada/\cP K C "right"/\cP K C "up"/\cP K C "wider") (aFU:aiu K av "TooLong") (aFV:∃ C,o_ K av "Row" C/\o' K C "Row.__init__" adb/\jd K C "become" "Row.become" ade/\jd K C "begin_placing" "Row.begin_placing" adf/\cP K C "signs"/\cP K C "characters"/\cP K C "widths"/\cP K C "rights"/\cP K C "ups") (aFW:∃ C,o_ K av "Session" C/\o' K C "Session.__init__" adg/\jd K C "start" "Session.start" adh/\jd K C "take_file" "Session.take_file" adi/\jd K C "tell_sign" "Session.tell_sign" adk/\jd K C "tell_feature" "Session.tell_feature" adl/\jd K C "tell_set" "Session.tell_set" adn/\cP K C "font") (aFX:∃ C,o_ K av "Feed" C/\o' K C "Feed.__init__" ado/\jd K C "has_more" "Feed.has_more" adp/\jd K C "take" "Feed.take" adq/\jd K C "take_list" "Feed.take_list" adt/\cP K C "calls"/\cP K C "at") (aFY:fD K av "make_slot" "make_slot" adu) (aFZ:fD K av "make_slots" "make_slots" adv) (aF0:fD K av "require" "require" adw) (aF1:fD K av "require_rising" "require_rising" adx) (aF2:fD K av "require_not_falling" "require_not_falling" ady) (aF3:fD K av "read_exchanges" "read_exchanges" adz) (aF4:fD K av "read_spreads" "read_spreads" adA) (aF5:fD K av "read_joinings" "read_joinings" adB) (aF6:fD K av "read_set" "read_set" adC) (aF7:fD K av "read_sets" "read_sets" adD) (aF8:fD K av "read_act" "read_act" adE) (aF9:fD K av "read_context" "read_context" adF) (aF_:fD K av "read_contexts" "read_contexts" adG) (aF':fD K av "read_body" "read_body_changefile" adH) (aGa:fD K av "read_rule" "read_rule_changefile" adI) (aGb:fD K av "require_acts" "require_acts" adJ) (aGc:fD K av "read_change_rules" "read_change_rules" adK) (aGd:fD K av "exchange_signs" "exchange_signs" adL) (aGe:fD K av "spread_signs" "spread_signs" adM) (aGf:fD K av "join_signs" "join_signs" adN) (aGg:fD K av "do_acts" "do_acts" adO) (aGh:fD K av "change_around" "change_around" adP) (aGi:fD K av "change_by" "change_by" adQ) (aGj:fD K av "read_move" "read_move" adR) (aGk:fD K av "read_moves" "read_moves" adS) (aGl:fD K av "read_pairs" "read_pairs" adT) (aGm:fD K av "read_anchor" "read_anchor" adU) (aGn:fD K av "read_anchor_list" "read_anchor_list" adV) (aGo:fD K av "read_anchors" "read_anchors" adW) (aGp:fD K av "read_body" "read_body_placefile" adX) (aGq:fD K av "read_rule" "read_rule_placefile" adY) (aGr:fD K av "read_place_rules" "read_place_rules" adZ) (aGs:fD K av "read_piece" "read_piece" ad0) (aGt:fD K av "read_pieces" "read_pieces" ad1) (aGu:fD K av "read_class" "read_class" ad2) (aGv:fD K av "read_rule_numbers" "read_rule_numbers" ad3) (aGw:fD K av "read_features" "read_features" ad4) (aGx:fD K av "read_font" "read_font" ad5) (aGy:fD K av "move_signs" "move_signs" ad6) (aGz:fD K av "widen_pairs" "widen_pairs" ad7) (aGA:fD K av "attach" "attach" ad8) (aGB:fD K av "attach_to_bases" "attach_to_bases" ad9) (aGC:fD K av "attach_to_marks" "attach_to_marks" ad_) (aGD:fD K av "place_by" "place_by" ad') (aGE:fD K av "asked_features" "asked_features" aea) (aGF:fD K av "rules_in_order" "rules_in_order" aeb) (aGG:fD K av "set_characters" "set_characters" aec) (aGH:fD K av "tell_row" "tell_row" aed) (aGI:fD K av "answer_call" "answer_call" aee) (aGJ:fD K av "answers" "answers" aef) (k_MARK:∃ u,av "MARK"=some u/\RelV (.int (3)) u) (k_EXCHANGE:∃ u,av "EXCHANGE"=some u/\RelV (.int (1)) u) (k_SPREAD:∃ u,av "SPREAD"=some u/\RelV (.int (2)) u) (k_JOIN:∃ u,av "JOIN"=some u/\RelV (.int (3)) u) (k_LOOK_AROUND:∃ u,av "LOOK_AROUND"=some u/\RelV (.int (4)) u) (k_MOVE:∃ u,av "MOVE"=some u/\RelV (.int (1)) u) (k_PAIR:∃ u,av "PAIR"=some u/\RelV (.int (2)) u) (k_MARK_TO_BASE:∃ u,av "MARK_TO_BASE"=some u/\RelV (.int (3)) u) (k_MARK_TO_MARK:∃ u,av "MARK_TO_MARK"=some u/\RelV (.int (4)) u) (k_LAST_CHARACTER:∃ u,av "LAST_CHARACTER"=some u/\RelV (.int (1114111)) u) (k_MOST_SIGNS:∃ u,av "MOST_SIGNS"=some u/\RelV (.int (4096)) u) (k_SG_START:∃ u,av "SG_START"=some u/\RelV (.int (1)) u) (k_SG_OPEN:∃ u,av "SG_OPEN"=some u/\RelV (.int (2)) u) (k_SG_SIGN:∃ u,av "SG_SIGN"=some u/\RelV (.int (3)) u) (k_SG_HAS:∃ u,av "SG_HAS"=some u/\RelV (.int (4)) u) (k_WRONG_NUMBER:∃ u,av "WRONG_NUMBER"=some u/\RelV (.int (-1)) u) (k_WRONG_FILE:∃ u,av "WRONG_FILE"=some u/\RelV (.int (-2)) u) (k_NO_FILE:∃ u,av "NO_FILE"=some u/\RelV (.int (-4)) u) (k_TOO_LONG:∃ u,av "TOO_LONG"=some u/\RelV (.int (-5)) u) (k_NO_ROOM:∃ u,av "NO_ROOM"=some u/\RelV (.int (-6)) u) (k_MODULUS:∃ u,av "MODULUS"=some u/\RelV (.int (4294967296)) u) (aGK:aag K av "PASSING" [.int 0,.int 1,.int 2,.int 4]) (aGL:aag K av "FIRST_BYTES" [.int 73,.int 112]) (hA:av "len"=none) (jz:av "range"=none) (w7:av "enumerate"=none) (X4:av "zip"=none) (yW:av "dict"=none) (X5:av "tuple"=none) (GD:av "list"=none) (afB:av "max"=none) (afC:av "sorted"=none):∃ t,Txt K av t:=by
 obtain⟨rp,⟨aeg,su⟩,⟨Kw,Ky,Wm,aeh⟩,Wk,Qy,Wl,Qz⟩:=ais;obtain⟨tG,⟨aei,vm⟩,⟨Kz,KC,Wo,aej⟩,⟨KD,KH,Wq,Wr⟩,Gl,Wn⟩:=gk;obtain⟨ju,⟨aek,tH⟩,⟨KJ,KN,Wu,ael⟩,⟨KQ,KR,Wv,aem⟩,Gm,Ws,Wt⟩:=eG;obtain⟨rq,⟨Ww,jx⟩,⟨KX,KY,Wy,Wx⟩,tK,QB,rt⟩:=nf;obtain⟨qI,⟨aen,Gn⟩,⟨KZ,K4,WK,aeo⟩,Wz,WD⟩:=Gh;obtain⟨et,⟨aep,gn⟩,⟨K5,K6,WM,aer⟩,⟨K7,K8,WQ,WR⟩,⟨K9,K_,WT,WW⟩,⟨La,Lb,WX,QF⟩,⟨Ld,Le,WY,yP⟩,B_,QC,WL,QD,Ca,Gp,Cd⟩:=BX;obtain⟨ni,⟨aes,vo⟩,⟨Lf,Lg,W2,aeu⟩,QG,QH,W0⟩:=aFN;obtain⟨sq,⟨aev,sv⟩,⟨Lh,Li,W3,aew⟩,⟨Lj,Lk,W4,aex⟩,⟨Ln,Lp,W5,aey⟩,Ce,QJ⟩:=aFO;obtain⟨jk,W6,W7⟩:=aFP;obtain⟨iI,⟨aez,dU⟩,⟨Lq,Lr,W8,aeA⟩,⟨Ls,Lw,W9,Gs⟩,⟨Lx,Ly,W_,w4⟩,⟨Lz,LC,Xa,QK⟩,⟨LK,LQ,Xb,yR⟩,⟨LR,L1,Xc,jy⟩,⟨L_,Ma,Xd,ru⟩,⟨Mf,Mg,Xe,QL⟩,⟨Mh,Mi,Xf,aeB⟩,Gq,Cg,yQ⟩:=aFQ;obtain⟨qJ,⟨aeC,tL⟩,⟨Mj,Mk,Xg,aeD⟩,QM,QS,QT⟩:=aFR;obtain⟨rr,⟨aeE,Gu⟩,⟨Ml,Mp,Xj,aeF⟩,Xh,Xi⟩:=aFS;obtain⟨vl,⟨aeG,yS⟩,⟨Mq,Mr,Xn,aeH⟩,Xk,Xl,Xm⟩:=aFT;obtain⟨BZ,Xo,Xp⟩:=aFU;obtain⟨fB,⟨aeI,eA⟩,⟨Ms,Mt,Xq,aeJ⟩,⟨Mu,Mv,Xr,Ci⟩,⟨Mw,Mx,Xu,aeK⟩,iv,w5,vp,yU,yV⟩:=aFV;obtain⟨jw,⟨aeL,oU⟩,⟨Mz,MF,Xv,aeM⟩,⟨MJ,MK,Xw,aeN⟩,⟨MN,MP,Xx,aeO⟩,⟨M4,M5,Xy,aeP⟩,⟨M6,M7,Xz,aeQ⟩,⟨M8,M9,XC,aeR⟩,tM⟩:=aFW;obtain⟨iW,⟨aeS,kG⟩,⟨M_,Nb,XD,aeT⟩,⟨Nf,Ng,XF,aeU⟩,⟨Nh,Ni,XH,Gv⟩,⟨Nj,Nk,XJ,QV⟩,Cj,w6⟩:=aFX;obtain⟨Nm,Np,QW,aeV⟩:=aFY;obtain⟨Nq,Nr,Gw,XK⟩:=aFZ;obtain⟨Nt,Nu,nj,oV⟩:=aF0;obtain⟨Nv,Nx,rv,tO⟩:=aF1;obtain⟨Ny,Nz,QX,aeW⟩:=aF2;obtain⟨NK,NP,QZ,aeX⟩:=aF3;obtain⟨NQ,NT,Q0,aeY⟩:=aF4;obtain⟨NZ,N5,Q5,aeZ⟩:=aF5;obtain⟨N6,N7,Q6,ae0⟩:=aF6;obtain⟨N8,N_,Ck,Q7⟩:=aF7;obtain⟨Oa,Ob,Q8,ae1⟩:=aF8;obtain⟨Oc,Od,Q9,ae2⟩:=aF9;obtain⟨Oe,Og,Q_,ae3⟩:=aF_;obtain⟨Oh,Oi,Q',ae4⟩:=aF';obtain⟨Oj,Ol,Ra,ae5⟩:=aGa;obtain⟨Om,Oo,Rb,ae6⟩:=aGb;obtain⟨Oq,Ot,Rd,ae7⟩:=aGc;obtain⟨Ou,Ov,Rf,ae8⟩:=aGd;obtain⟨Ow,Ox,Rg,ae9⟩:=aGe;obtain⟨Oz,OD,Rh,ae_⟩:=aGf;obtain⟨OJ,O1,Ri,ae'⟩:=aGg;obtain⟨O2,O3,Rj,afa⟩:=aGh;obtain⟨O4,O5,Rk,afb⟩:=aGi;obtain⟨O6,O7,Rm,afc⟩:=aGj;obtain⟨O8,O9,Rn,afd⟩:=aGk;obtain⟨O_,O',Ro,afe⟩:=aGl;obtain⟨Pa,Pb,Rp,afg⟩:=aGm;obtain⟨Pg,Ph,Gx,XM⟩:=aGn;obtain⟨Pj,Pk,Rq,afh⟩:=aGo;obtain⟨Pn,Pq,Rr,afi⟩:=aGp;obtain⟨Pr,Pu,Rt,afj⟩:=aGq;obtain⟨Px,Py,Ru,afk⟩:=aGr;obtain⟨Pz,PB,Rv,afl⟩:=aGs;obtain⟨PJ,PK,Rw,afm⟩:=aGt;obtain⟨PL,PN,Rx,afn⟩:=aGu;obtain⟨PT,PX,Gy,XP⟩:=aGv;obtain⟨P0,P1,Ry,afo⟩:=aGw;obtain⟨P4,P_,Rz,afp⟩:=aGx;obtain⟨P',Qa,RB,afq⟩:=aGy;obtain⟨Qc,Qd,RC,afr⟩:=aGz;obtain⟨Qe,Qf,Gz,XQ⟩:=aGA;obtain⟨Qg,Qh,RD,afs⟩:=aGB;obtain⟨Qi,Qj,RG,aft⟩:=aGC;obtain⟨Qk,Ql,RJ,afu⟩:=aGD;obtain⟨Qm,Qn,RK,afv⟩:=aGE;obtain⟨Qo,Qp,GC,XR⟩:=aGF;obtain⟨Qq,Qs,RL,afw⟩:=aGG;obtain⟨Qt,Qu,RM,afx⟩:=aGH;obtain⟨Qv,Qw,RN,afy⟩:=aGI;obtain⟨Qx,Wj,XS,afz⟩:=aGJ;obtain⟨Gj,k_PASSING,afA⟩:=aGK;obtain⟨Gk,k_FIRST_BYTES,X3⟩:=aGL;exact⟨⟨rp,Kw,Ky,tG,Kz,KC,KD,KH,ju,KJ,KN,KQ,KR,rq,KX,KY,qI,KZ,K4,et,K5,K6,K7,K8,K9,K_,La,Lb,Ld,Le,ni,Lf,Lg,sq,Lh,Li,Lj,Lk,Ln,Lp,jk,iI,Lq,Lr,Ls,Lw,Lx,Ly,Lz,LC,LK,LQ,LR,L1,L_,Ma,Mf,Mg,Mh,Mi,qJ,Mj,Mk,rr,Ml,Mp,vl,Mq,Mr,BZ,fB,Ms,Mt,Mu,Mv,Mw,Mx,jw,Mz,MF,MJ,MK,MN,MP,M4,M5,M6,M7,M8,M9,iW,M_,Nb,Nf,Ng,Nh,Ni,Nj,Nk,Nm,Np,Nq,Nr,Nt,Nu,Nv,Nx,Ny,Nz,NK,NP,NQ,NT,NZ,N5,N6,N7,N8,N_,Oa,Ob,Oc,Od,Oe,Og,Oh,Oi,Oj,Ol,Om,Oo,Oq,Ot,Ou,Ov,Ow,Ox,Oz,OD,OJ,O1,O2,O3,O4,O5,O6,O7,O8,O9,O_,O',Pa,Pb,Pg,Ph,Pj,Pk,Pn,Pq,Pr,Pu,Px,Py,Pz,PB,PJ,PK,PL,PN,PT,PX,P0,P1,P4,P_,P',Qa,Qc,Qd,Qe,Qf,Qg,Qh,Qi,Qj,Qk,Ql,Qm,Qn,Qo,Qp,Qq,Qs,Qt,Qu,Qv,Qw,Qx,Wj,Gj,Gk⟩,⟨aeg,su,aeh,Wk,Qy,Wl,Qz,Wm,aei,vm,aej,Gl,Wn,Wo,Wq,Wr,aek,tH,ael,Gm,Ws,Wt,Wu,Wv,aem,Ww,jx,Wx,tK,QB,rt,Wy,aen,Gn,aeo,Wz,WD,WK,aep,gn,aer,B_,QC,WL,QD,Ca,Gp,Cd,WM,WQ,WR,WT,WW,WX,QF,WY,yP,aes,vo,aeu,QG,QH,W0,W2,aev,sv,aew,Ce,QJ,W3,W4,aex,W5,aey,W6,W7,aez,dU,aeA,Gq,Cg,yQ,W8,W9,Gs,W_,w4,Xa,QK,Xb,yR,Xc,jy,Xd,ru,Xe,QL,Xf,aeB,aeC,tL,aeD,QM,QS,QT,Xg,aeE,Gu,aeF,Xh,Xi,Xj,aeG,yS,aeH,Xk,Xl,Xm,Xn,Xo,Xp,aeI,eA,aeJ,iv,w5,vp,yU,yV,Xq,Xr,Ci,Xu,aeK,aeL,oU,aeM,tM,Xv,Xw,aeN,Xx,aeO,Xy,aeP,Xz,aeQ,XC,aeR,aeS,kG,aeT,Cj,w6,XD,XF,aeU,XH,Gv,XJ,QV,QW,aeV,Gw,XK,nj,oV,rv,tO,QX,aeW,QZ,aeX,Q0,aeY,Q5,aeZ,Q6,ae0,Ck,Q7,Q8,ae1,Q9,ae2,Q_,ae3,Q',ae4,Ra,ae5,Rb,ae6,Rd,ae7,Rf,ae8,Rg,ae9,Rh,ae_,Ri,ae',Rj,afa,Rk,afb,Rm,afc,Rn,afd,Ro,afe,Rp,afg,Gx,XM,Rq,afh,Rr,afi,Rt,afj,Ru,afk,Rv,afl,Rw,afm,Rx,afn,Gy,XP,Ry,afo,Rz,afp,RB,afq,RC,afr,Gz,XQ,RD,afs,RG,aft,RJ,afu,RK,afv,GC,XR,RL,afw,RM,afx,RN,afy,XS,afz,k_MARK,k_EXCHANGE,k_SPREAD,k_JOIN,k_LOOK_AROUND,k_MOVE,k_PAIR,k_MARK_TO_BASE,k_MARK_TO_MARK,k_LAST_CHARACTER,k_MOST_SIGNS,k_SG_START,k_SG_OPEN,k_SG_SIGN,k_SG_HAS,k_WRONG_NUMBER,k_WRONG_FILE,k_NO_FILE,k_TOO_LONG,k_NO_ROOM,k_MODULUS,k_PASSING,afA,k_FIRST_BYTES,X3,hA,jz,w7,X4,yW,X5,GD,afB,afC⟩⟩
end
end Sg
namespace Att
open PySem PySem.W PySem.Calls PyProof.Rows
theorem aGM{P:Params}{h:Heap}:∀ (ns:List Int) (vs:dI),WellAll P h vs (ns.map WData.int)->IntsAre vs ns:=by
 intro ns;induction ns with
 |nil =>
  intro vs w;rw[v5]at w;cases w;exact .nil
 |cons n ns bU =>
  intro vs w;rw[fT]at w;cases w with
  |cons a b =>
   cases a;exact .cons _ _ (bU _ b)
end Att
namespace L2
open PySem PySem.Spec PyProof.Rows
theorem ap2:∀ {vs:dI} {ns:List Int},IntsAre vs ns->Vals (ns.map V.int) vs
 |_,_,.nil=>.nil
 |_,_,.cons n t h=>.cons ⟨t,rfl⟩ (ap2 h)
def Only(H:ao):Prop:=∀ b,H b=none\/∃ o xs,H b=some (.sW o (.lst xs))
theorem aGN{P:fw}{w:e3}{K:cn}{av pI:g9}{gH:tg}{k:Nat}{aY a:au}{fd:cF}{x:Str}{sp:eX}{fU:aX}{vs:dI}{ns out:List Int}
  (hS:K.In fU.heap) (Z8:fU.heap.Ns mainGlobals av) (ak:fU.heap.Ns builtinsNs pI) (sD:∀ x:Str,x≠"__name__"->pI x=bootBuiltins x) (aGO:fU.heap.NoLimit) (b5:fU.gens=#[])
  (aW:fU.heap.get? a=some { cls:=.type "list",data:=.seq vs.toArray }) (hi:IntsAre vs ns) (aF:ns.length<=sizeLine) (aA:hH k callerA)
  (F:∀ base:Heap,K.In base->base.Ns mainGlobals av->cI P w K av base gH k aY fd [x] sp) (aGP:∀ (s:aX) (u:aO),BindsTo s fd ⟨[u],[]⟩ [(x,u)])
  (yv:∀ H:ao,Only H->aT K H a (ns.map V.int)->sp [.ref a] H (fun v H1=>∃ D,v=.ref D/\H1 D=some (.lst (out.map V.int))) fun _ _ _=>False)
  (aGQ:∀ H e s',gH [] H fU (fun _ _ _=>False) e s'->False) :
  codeAny (model P w) callerA (.call (.ref aY) ⟨[.ref a],[]⟩) (fun r s'=>(∃ (D:au) (its:dI) (n:Nat),r=.ok (.ret (.ref D))/\s'.heap.get? D=some { cls:=.type "list",data:=.seq its.toArray n }/\Vals (out.map V.int) its)/\OldK fU.heap s'.heap/\s'.os=fU.os/\AllBare s'.gens) fU:=by
 have eZ:=ap2 hi;have aGR:=hi.length;have core:∀ H:ao,Only H->aT K H a (ns.map V.int)->hs P w H fU.heap->(∀ b,H b≠none->b=a)->(H a≠none->K.lookup a=none) ->
   codeAny (model P w) callerA (.call (.ref aY) ⟨[.ref a],[]⟩) (fun r s'=>(∃ (D:au) (its:dI) (n:Nat),r=.ok (.ret (.ref D))/\s'.heap.get? D=some { cls:=.type "list",data:=.seq its.toArray n }/\Vals (out.map V.int) its)/\OldK fU.heap s'.heap/\s'.os=fU.os/\AllBare s'.gens) fU:=by
  intro H ap3 dZ bK mA hu;have ap4:∀ {b:au} {o:Obj},fU.heap.get? b=some o->H b=none->(wF fU.heap H).get? b=some o:=fun e n=>arI e n;have JW:∀ {b:au} {o:Obj} {es:Array DictEntry} {ep:Nat},fU.heap.get? b=some o->o.data=.dict es ep->H b=none:=fun{b o es ep} e d=>by
   cases q:H b with
   |none=>rfl
   |some u =>
    have e':b=a:=mA b (by rw[q];simp);subst e';rw[aW]at e;cases e;have d':Data.seq vs.toArray _=Data.dict es ep:=d;cases d'
  have aah:∀ {b:au} {m:g9},fU.heap.Ns b m->(wF fU.heap H).Ns b m:=fun{b m} ⟨o,es,ep,e,d,r⟩=>⟨o,es,ep,ap4 e (JW e d),d,r⟩;have ap5:K.In (wF fU.heap H):=fun b o e=>ap4 (hS b o e) (by
   cases q:H b with
   |none=>rfl
   |some u =>
    have e':b=a:=mA b (by rw[q];simp);subst e';rw[hu (by rw[q];simp)]at e;cases e)
  have zK:Mod K av (wF fU.heap H):=⟨ap5,aah Z8,⟨pI,aah ak,sD⟩,let ⟨aGS,h1,aC⟩:=aGO;⟨aGS,aah h1,aC⟩⟩;have fy:Bs P w K av (wF fU.heap H) callerA [] fU H:=⟨rfl,zK,fun b o e=>arJ e,Ai (arH _ _),trivial,fun b ak=>absurd (show b∈([]:d1) from ak) (by simp),bK,.of_eq b5⟩;refine codeAny_mono ((F _ ap5 (aah Z8)).run callerA [] fU H ⟨[.ref a],[]⟩ [.ref a] [.ref a] _ _ aA fy (aGP fU (.ref a)) (.cons rfl .nil) (yv H ap3 dZ)) fun r s' h=>?_;cases r with
  |error e=>exact(aGQ H e s' h).elim
  |ok wA =>
   cases wA with
   |next=>exact False.elim h
   |brk=>exact False.elim h
   |cont=>exact False.elim h
   |ret u =>
    obtain⟨v,H',os,bare,un,ap6,r',q⟩:=h;obtain⟨D,d8,bp⟩:=q;subst d8;obtain rfl:u=Value.ref D:=r';obtain⟨_,its,n,aGT,Zf⟩:=ap6 D _ bp;refine⟨⟨D,its,n,Z,Zf,aGT⟩,OldK.of_keep fun b o e=>?_,os,bare⟩;cases q:H b with
    |none=>exact un.keep b o e q (by intro z;exact absurd (show b∈([]:d1) from z) (by simp)) (by simp)
    |some u =>
     rcases ap3 b with z|⟨cX,xs,z⟩
     ·rw[q]at z;cases z
     ·have eG:=un.uU b cX _ z
      obtain⟨bD,_⟩:=bK b _ z;obtain⟨a8,_⟩:=ap6 b _ eG;rw[e]at bD;cases bD;exact a8
 cases aN:K.lookup a with
 |some o =>
  have e:=hS a o aN;rw[aW]at e;cases e;refine core (fun _=>none) (fun _=>.inl rfl) (.inr ⟨_,vs.toArray,_,aN,rfl,rfl,rfl,by rw[iC,aGR];exact aF,by simpa using eZ⟩) (fun b u z=>by have lF:(none:Option HO)=some u:=z;cases lF) (fun b z=>absurd rfl z) fun z=>absurd rfl z
 |none =>
  refine core (fun b=>if b=a then some (.sW { cls:=.type "list",data:=.seq vs.toArray } (.lst (ns.map V.int)))else none) (fun b=>?_) (.inl (.inr ⟨{ cls:=.type "list",data:=.seq vs.toArray },bL rfl⟩)) (fun b u z=>?_) (fun b z=>?_) fun _=>aN
  ·by_cases ak:b=a
   ·exact .inr ⟨_,_,bL ak⟩
   ·exact .inl (bw ak)
  ·by_cases ak:b=a
   ·have lF:=(bL ak).symm.trans z
    cases lF;subst ak;exact⟨aW,by rw[ew];exact aF,vs,_,eZ,aW⟩
   ·have lF:=(bw ak).symm.trans z
    cases lF
  ·by_cases ak:b=a
   ·exact ak
   ·exact absurd (bw ak) z
end L2
namespace Sg
open PySem PySem.W L2 PyProof.Rows
theorem ap7:∀ {ns:List Int} {its:dI},Vals (ns.map V.int) its->CarriedAll its (ns.map PyData.int)
 | [],_,h=>by cases h;exact .nil
 |n::ns,_,h=>by
  cases h with
  |cons a b =>
   obtain⟨t,rfl⟩:=a;exact .cons (.int n t) (ap7 b)
theorem aGU{P:Params}{h:Heap}{args:List WData}{vals:dI}(uN:PySem.Challenge.rw_signrow_s01_answers.pre args=true)(lB:WellAll P h vals args) :
  ∃ a vs ns,vals=[Value.ref a]/\args=[WData.list (ns.map WData.int)]/\h.get? a=some { cls:=.type "list",data:=.seq vs.toArray }/\IntsAre vs ns/\ns.length<=30000/\PySw28.answers_asked ns=true /\
   ∀ d,same d (.list ((PySw28.answers ns).map WData.int))=true->PySem.Challenge.rw_signrow_s01_answers.post args d=true:=by
 have DX:WShape.hasAll [] args [.list .int]=true:=os_shapes args uN;obtain⟨d,r,rfl,h1,aC⟩:=hasAllW_cons DX;obtain rfl:=hasAllW_nil aC;obtain⟨xs,rfl,bH⟩:=hasW_list h1;obtain⟨ns,rfl⟩:=items_int bH;have e:ofPy (PyData.list (ns.map PyData.int))=.list (ns.map WData.int):=by
  rw[← ofPys_ints];rfl
 have zZ:=os_pre_isSome uN;rw[← e]at zZ uN;obtain⟨dec,_,most,_⟩:=os_dec_ints (least:=0) (most:=30000) (lo:=_root_.Int.negSucc 2147483647) (hi:=_root_.Int.ofNat 4294967295) zZ;have asked:=os_pre_asked (r:=PySem.Challenge.rw_signrow_s01_answers) uN dec;have post:∀ d,same d (.list ((PySw28.answers ns).map WData.int))=true->PySem.Challenge.rw_signrow_s01_answers.post [ofPy (PyData.list (ns.map PyData.int))] d=true:=fun d hd=>os_post (r:=PySem.Challenge.rw_signrow_s01_answers) dec hd;rw[e]at post;cases lB with
 |cons yb aa9 =>
  cases aa9;cases yb with
  |list bA ahY=>exact⟨_,_,ns,Z,Z,bA,Att.aGM ns _ ahY,most,asked,post⟩
theorem walk{q:fw}{loose:List Str}{aGV:(g9)->Heap->Prop}{ap8:e3->Heap->Prop}{d:DefRec}{K:Params->cn}(aGW:d.name="answers") (aIm:d.params.defaults=[])
  (iw:∀ (w:e3) (h:Heap),ap8 w h->(K w.params).In h)
  (F:∀ (w:e3) (av:g9) (h:Heap),(K w.params).In h->h.Ns mainGlobals av->∃ t,Txt (K w.params) av t) :
  WalkOS q loose aGV ap8 PySem.Challenge.rw_signrow_s01_answers d [] (fun f vs=>PySem.call f vs):=by
 intro w jY fU av pI G Y aY o pm cd doc abG c0 bA hd wJ bp T4 b5 args vals as uN hlay aIn lB aIo;have hS:=iw w _ Y;obtain⟨t,T⟩:=F w av _ hS G.T.g;obtain⟨a,vs,ns,rfl,rfl,aGX,hints,hlen,z3,aGY⟩:=aGU uN lB;rw[aGW]at T4;have fy:=T4.symm.trans T.afz;cases fy;have hz:ns.length<=sizeLine:=by
  have:sizeLine=16777216:=sizeLine_eq;omega
 refine enter_call (codeAny_mono (aGN (P:=PySem.Challenge.rw_signrow_s01_answers.prog) (out:=PySw28.answers ns) (gH:=cL PySem.Challenge.rw_signrow_s01_answers.prog w) (x:="calls") (k:=17) (sp:=apQ t (K w.params)) hS G.T.g G.T.b G.T.builtins G.T.nolimit b5 aGX hints hz ⟨rfl,by decide,by decide⟩ (fun base _ _=>aFh T) ?_ (fun H _ dZ=>⟨_,rfl,a,ns,rfl,dZ,z3,Sr.aFG,fun D H' aGZ _=>⟨D,rfl,aGZ⟩⟩) fun H e s' h=>?_) fun r s' h=>?_)
 ·intro s u;obtain⟨jK,hP,c0,doc,pm,an,bJ,ft,pO,e,_,_⟩:=T.XS.ex;rw[e];exact .of_eq rfl
 ·obtain⟨_,_,_,_,_,_,_,_,_,z⟩:=h;exact z
 ·obtain⟨⟨D,its,n,rfl,Zf,eZ⟩,aC,bH,dw⟩:=h;refine⟨.inl ⟨_,_,[D],Z,osNone,readsW_of_reads (reads_newData ⟨_,Zf,rfl,n,rfl⟩ (ap7 eZ)),osPost (aGY _ (os_same_ints rfl)),fun z=>absurd z jq⟩,aC,bH,dw⟩
end Sg
structure PySem.W.Fast:Prop where
 (tw7303573845391293568 tw12733296930793858432 tw3310122299758894048 tw12914744128056341537 tw3304597726236096097 tw13622522023581323522 tw4387075373943793026 tw13346147272947152420 tw12868841111235590084 tw10265063814379803620 tw1634764292850886501 tw16566752058838301862 tw9831050982072673606 tw4760035391072807654 tw17419864571076937702 tw17198334725073665479 tw1185243650751923464 tw12306814873944452712 tw7429092937204683945 tw2776553312494220137 tw7892801009559841769 tw4917558800827584556 tw13441851062203179277 tw3578328596779438445 tw2483792486223624589 tw16521168848774931854 tw11580765787584584495 tw17187457906645358320 tw7804849740388112 tw17864822773029955440 tw18118117452996822673 tw13563628656914669425 tw1013589752687786067 tw11037969710519543155 tw8976343641861108627 tw481346063221926230 tw7129556794960136249 tw5581683045349726649 tw3740902745089226169 tw5653318311306977721 tw3078003961765978875 tw16961612539301047740 tw2919354306202274588 tw787619308454529085 tw16940198642999970589 tw16627652918048553119 tw10477497921307307295 tw1517169688108450783 tw2065178344382569346 tw18155671332664343789 tw2875539057186267281 tw5915010791611805885 tw2776216258781015579 tw16875343185539652920 tw9516478987393022649 tw16963313384980916 tw16100428125399577474 tw7038691730325934565 tw5427906906448553528 tw14228958471404198859 tw3406188770913111994 tw940222361210683616 tw4743239003127517780 tw5802901130878270573 tw16671563242106044415 tw8119229950803529321 tw4948553106963766039 tw6338259824257396825 tw13735596136432583946 tw5878453700767705906 tw15238131849965930491 tw16559225740021409632 tw7163123012044194237 tw9933502617387315133 tw13452522387452255366 tw13308197192730602917 tw12317691649839166936 tw18139521064287005363 tw3524896765572904987 tw17650064786380210768 tw14800511520427980111 tw8114620025738995867 tw17951985785102340057 tw16760571434835283933 tw17257842819476184278 tw9191196386532070340 tw16986404966781386774 tw12271463200099728386 tw15656841884760703734 tw1995031928691772967 tw7986757144096199532 tw12592175929428522703 tw11352420798715368750 tw7466856035243461640 tw14528784065970786148 tw9342246869671372844 tw11455641093742926020 tw14597048399898748992 tw2296729224804976747 tw2816701013621229216 tw3617254145734317673 tw12602923063454017722 tw17125796386039896208 tw14628541338106216003 tw17886451936279328647 tw9067227959479442612 tw14897184556709351487 tw12358372427887513640 tw8880071237058323185 tw15065538199301595956 tw12529853190517723169 tw2686582093188590021 tw12022239894798153113 tw6870202573520611133 tw14283300026433343730 tw9997141894577298853 tw9124052380233195846 tw12269365061573365692 tw16373276008491959306 tw9547956352667687115 tw6209969360759034026 tw6226954796254163238 tw3925077497571429002 tw13067795295097406724 tw8655796270220781688 tw1024920308774690758 tw8127129054280130349 tw5469111275323722852 tw15118588024701984404 tw18277954033450675716 tw18081254168759878078 tw12643297513025013728 tw13088071966870093590 tw8819139819241780498 tw4999146841981408686 tw9845848564708864489 tw14460953234548297636 tw3146875915169919739 tw7141841750196717538 tw17871781006558848791 tw981066200104516303 tw13492155705567366744 tw5348067867094025913 tw7334974726649490240 tw16470289210882152062 tw14335183317951956335 tw12941982808379806532 tw18349012366028159835 tw14571763474602915780 tw8680397447819550108 tw1768781234869210779 tw8525039911482427956 tw9828967536283247158 tw9283367681044861055 tw12672086724788641245 tw12492934239777310094 tw6604742080349288074 tw6596210474645146383 tw16499275834574121569 tw11963562707229415357 tw5497318677928389810 tw12328208438058703833 tw11234098657426559840 tw1314943616887401823 tw1101815921895442261 tw18206664485209822618 tw10094819794898451453 tw14983250869380903744 tw8682933689507478968 tw1202832898027219723 tw8262518980453796317 tw12785192101616737827 tw6645625394224750329 tw18376545334469062267 tw16663763952640436337 tw18163662846280878350 tw452392132623467102 tw18094128427128232713 tw14501957722456146607 tw8894925033038217083 tw584497685265275863 tw11352369483533521247 tw17633499298238390751 tw2576812571937254018 tw7663959592259375476 tw2164853236558275848 tw6968231092250459600 tw8706676117297527357 tw775391464179469679 tw6640073344395898901 tw9177938138705435748 tw16244401544224073722 tw6256271552925358337 tw1292602236778457942 tw3645196519599120724 tw4978270238063401689 tw9692935511007643670 tw551159693943883786 tw9948671422217801710 tw11822412134838155339 tw16301388005885273221 tw16053671804433506338 tw412826297240881933 tw7570957091881013955 tw3688487537695107303 tw16661908749744883931 tw730042992954023772 tw3493879114171492318 tw9613310235960564268 tw11735098251017670252 tw4298923815800281224 tw17974456447640966376 tw17862203056850466633 tw397690523733415438 tw14616676266062713162 tw11248610963512300295 tw6112452746411577642 tw5747633212111586988 tw3023535110770641087 tw4558528985441765642 tw3212349375053393644 tw15654988021152989554 tw5370567161376499331:True)
open PySem PySem.W PyProof.Rows
set_option maxRecDepth 100000 in
set_option maxHeartbeats 0 in
theorem PySem.Challenge.cw_signrow_s01_answers_holds : PySem.Challenge.rw_signrow_s01_answers.Holds := by
 w_on
 k_headS
 (case hw=>exact⟨[.list [.int 1]],by decide +kernel,by decide +kernel⟩)
 k_fillS
 refine Sg.walk rfl rfl (fun w h Y=>PySem.W.kIn_of Y) ?F
 case F =>
  intro w av h hS G;apply Sg.aFM;exact⟨_,Sg.p0 hS G,Sg.p1,Sg.fY,Sg.fY,Sg.fY,Sg.fY⟩;exact⟨_,Sg.p0 hS G,Sg.p1,Sg.jo,Sg.fY,Sg.fY⟩;exact⟨_,Sg.p0 hS G,Sg.p1,Sg.jo,Sg.fY,Sg.fY,Sg.fY⟩;exact⟨_,Sg.p0 hS G,Sg.p1,Sg.fY,Sg.fY,Sg.fY⟩;exact⟨_,Sg.p0 hS G,Sg.p1,Sg.fY,Sg.fY⟩;exact⟨_,Sg.p0 hS G,Sg.p1,Sg.jo,Sg.jo,Sg.jo,Sg.jo,Sg.fY,Sg.fY,Sg.fY,Sg.fY,Sg.fY,Sg.fY,Sg.fY⟩;exact⟨_,Sg.p0 hS G,Sg.p1,Sg.fY,Sg.fY,Sg.fY⟩;exact⟨_,Sg.p0 hS G,Sg.p1,Sg.jo,Sg.jo,Sg.fY,Sg.fY⟩;exact Sg.ap1 hS G;exact⟨_,Sg.p0 hS G,Sg.p1,Sg.jo,Sg.jo,Sg.jo,Sg.jo,Sg.jo,Sg.jo,Sg.jo,Sg.jo,Sg.fY,Sg.fY,Sg.fY⟩;exact⟨_,Sg.p0 hS G,Sg.p1,Sg.fY,Sg.fY,Sg.fY⟩;exact⟨_,Sg.p0 hS G,Sg.p1,Sg.fY,Sg.fY⟩;exact⟨_,Sg.p0 hS G,Sg.p1,Sg.fY,Sg.fY,Sg.fY⟩;exact Sg.ap1 hS G;exact⟨_,Sg.p0 hS G,Sg.p1,Sg.jo,Sg.jo,Sg.fY,Sg.fY,Sg.fY,Sg.fY,Sg.fY⟩;exact⟨_,Sg.p0 hS G,Sg.p1,Sg.jo,Sg.jo,Sg.jo,Sg.jo,Sg.jo,Sg.fY⟩;exact⟨_,Sg.p0 hS G,Sg.p1,Sg.jo,Sg.jo,Sg.jo,Sg.fY,Sg.fY⟩
  iterate 50 exact Sg.aFH hS G
  iterate 21 exact Sg.aFJ hS G
  exact Sg.aFL hS G;exact Sg.aFK hS G
  iterate 9 exact PySem.W.mg_none_of hS G (by k_is)
#print axioms PySem.Challenge.cw_signrow_s01_answers_holds
