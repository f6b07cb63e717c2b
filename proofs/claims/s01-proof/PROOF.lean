import PyProof.Rows.All
import Sw28Spec
import PySw28
import Wide.All
import OpenK.AllK
import Wide.FinOn
import PyProof.EqAt
import PyProof.EqKinds
import PyProof.TupleCall
import KE.BitLaws
import PyProof.ExcBaseAll.Exception
import PyProof.StationsW
import PyProof.Rows.RuleM_int
import PyProof.Rows.SortShellAny
import KE.KDictLaws
import KE.KDictSum
import PyProof.ListRange
import PyProof.Rows.SortWalk
import KE.OsGo
import PySem.Challenge.RW_signrow_s01_answers
set_option Elab.async false
set_option linter.all false
set_option maxRecDepth 100000
noncomputable section
theorem Z.{u} {α:Sort u}{a:α}:a=a:=rfl
theorem bx:type_of% @if_neg:=@if_neg
theorem bM:type_of% @if_pos:=@if_pos
theorem cH:type_of% @Nat.le_refl:=@Nat.le_refl
theorem dT:type_of% @List.getElem?_eq_getElem:=@List.getElem?_eq_getElem
theorem d7:type_of% @Option.bind_some:=@Option.bind_some
theorem ek:type_of% @List.getElem?_map:=@List.getElem?_map
theorem eo:type_of% @List.length_cons:=@List.length_cons
theorem ey:type_of% @List.length_map:=@List.length_map
theorem eF:type_of% @List.getElem?_eq_some_iff:=@List.getElem?_eq_some_iff
theorem eZ:type_of% @Nat.zero_le:=@Nat.zero_le
theorem fw:type_of% @decide_eq_true:=@decide_eq_true
theorem fH:type_of% @PySem.Heap.lt_size:=@PySem.Heap.lt_size
theorem fU:type_of% @List.map_cons:=@List.map_cons
theorem f3:type_of% @List.take_of_length_le:=@List.take_of_length_le
theorem gb:type_of% @List.mem_of_getElem?:=@List.mem_of_getElem?
theorem gf:type_of% @Option.map_some:=@Option.map_some
theorem gC:type_of% @List.length_append:=@List.length_append
theorem gR:type_of% @List.mem_cons:=@List.mem_cons
theorem gU:type_of% @Nat.ne_of_lt:=@Nat.ne_of_lt
theorem g4:type_of% @List.length_take:=@List.length_take
theorem g5:type_of% @List.mem_singleton:=@List.mem_singleton
theorem g6:type_of% @List.mem_map:=@List.mem_map
theorem hs:type_of% @List.foldl_cons:=@List.foldl_cons
theorem hN:type_of% @PySem.boot_len:=@PySem.boot_len
theorem h2:type_of% @List.mem_cons_of_mem:=@List.mem_cons_of_mem
theorem h3:type_of% @of_decide_eq_true:=@of_decide_eq_true
theorem h_:type_of% @List.mem_cons_self:=@List.mem_cons_self
theorem iC:type_of% @PySem.Heap.get?_push_of_some:=@PySem.Heap.get?_push_of_some
theorem iD:type_of% @List.size_toArray:=@List.size_toArray
theorem jf:type_of% @Bool.and_eq_true:=@Bool.and_eq_true
theorem jg:type_of% @Nat.le_trans:=@Nat.le_trans
theorem jr:type_of% @Bool.false_ne_true:=@Bool.false_ne_true
theorem kg:type_of% @Bool.false_eq_true:=@Bool.false_eq_true
theorem kh:type_of% @List.find?_cons:=@List.find?_cons
theorem kj:type_of% @List.map_map:=@List.map_map
theorem lq:type_of% @Nat.lt_of_lt_of_le:=@Nat.lt_of_lt_of_le
theorem lV:type_of% @PySem.Heap.get?_push_size:=@PySem.Heap.get?_push_size
theorem lW:type_of% @PySem.F.plainAttrs_list:=@PySem.F.plainAttrs_list
theorem mW:type_of% @List.getElem_mem:=@List.getElem_mem
theorem oc:type_of% @List.drop_of_length_le:=@List.drop_of_length_le
theorem od:type_of% @List.length_drop:=@List.length_drop
theorem oh:type_of% @List.map_append:=@List.map_append
theorem oo:type_of% @List.foldl_append:=@List.foldl_append
theorem ou:type_of% @decide_eq_false:=@decide_eq_false
theorem pe:type_of% @List.mem_append:=@List.mem_append
theorem pg:type_of% @decide_eq_true_eq:=@decide_eq_true_eq
theorem pk:type_of% @PySem.mem_of_lookup:=@PySem.mem_of_lookup
theorem pn:type_of% @PySem.F.slot_list_append:=@PySem.F.slot_list_append
theorem pq:type_of% @PySem.F.type_list_append:=@PySem.F.type_list_append
theorem pv:type_of% @Option.bind_eq_some_iff:=@Option.bind_eq_some_iff
theorem p7:type_of% @List.range_succ:=@List.range_succ
theorem p8:type_of% @Nat.zero_add:=@Nat.zero_add
theorem qY:type_of% @Option.map_eq_some_iff:=@Option.map_eq_some_iff
theorem qZ:type_of% @List.getElem?_eq_none:=@List.getElem?_eq_none
theorem q0:type_of% @PySem.Heap.size_push:=@PySem.Heap.size_push
theorem rT:type_of% @List.mem_filter:=@List.mem_filter
theorem rU:type_of% @List.all_eq_true:=@List.all_eq_true
theorem rW:type_of% @List.foldl_nil:=@List.foldl_nil
theorem rY:type_of% @List.length_nil:=@List.length_nil
theorem rZ:type_of% @Nat.lt_trans:=@Nat.lt_trans
theorem sU:type_of% @List.any_eq_true:=@List.any_eq_true
theorem uG:type_of% @Option.map_map:=@Option.map_map
theorem uH:type_of% @List.lookup_cons:=@List.lookup_cons
theorem uI:type_of% @List.append_assoc:=@List.append_assoc
theorem uJ:type_of% @List.mem_append_left:=@List.mem_append_left
theorem uK:type_of% @Nat.lt_irrefl:=@Nat.lt_irrefl
theorem vW:type_of% @List.ext_getElem?:=@List.ext_getElem?
theorem vX:type_of% @List.take_add_one:=@List.take_add_one
theorem vY:type_of% @Nat.lt_succ_self:=@Nat.lt_succ_self
theorem vZ:type_of% @List.mem_of_find?_eq_some:=@List.mem_of_find?_eq_some
theorem v5:type_of% @List.find?_some:=@List.find?_some
theorem v7:type_of% @List.map_nil:=@List.map_nil
theorem v8:type_of% @Nat.ne_of_gt:=@Nat.ne_of_gt
theorem v9:type_of% @List.mem_append_right:=@List.mem_append_right
theorem v':type_of% @beq_iff_eq:=@beq_iff_eq
theorem wa:type_of% @of_decide_eq_false:=@of_decide_eq_false
theorem wg:type_of% @decide_eq_decide:=@decide_eq_decide
theorem xZ:type_of% @Bool.true_and:=@Bool.true_and
theorem x2:type_of% @List.filter_cons:=@List.filter_cons
theorem x3:type_of% @List.getElem?_cons_zero:=@List.getElem?_cons_zero
theorem x4:type_of% @List.filter_append:=@List.filter_append
theorem x5:type_of% @List.getElem?_take_of_lt:=@List.getElem?_take_of_lt
theorem x6:type_of% @List.zipIdx_cons:=@List.zipIdx_cons
theorem x7:type_of% @Bool.not_false:=@Bool.not_false
theorem x8:type_of% @List.pairwise_cons:=@List.pairwise_cons
theorem z8:type_of% @List.drop_eq_getElem_cons:=@List.drop_eq_getElem_cons
theorem z9:type_of% @List.getElem?_eq_none_iff:=@List.getElem?_eq_none_iff
theorem z_:type_of% @List.getElem?_cons_succ:=@List.getElem?_cons_succ
theorem z':type_of% @List.getElem?_drop:=@List.getElem?_drop
theorem Aa:type_of% @Nat.le_of_lt:=@Nat.le_of_lt
theorem Ab:type_of% @List.map_drop:=@List.map_drop
theorem Ac:type_of% @List.drop_succ_cons:=@List.drop_succ_cons
theorem Ad:type_of% @List.filterMap_cons:=@List.filterMap_cons
theorem Ae:type_of% @Bool.eq_iff_iff:=@Bool.eq_iff_iff
theorem Af:type_of% @List.find?_eq_none:=@List.find?_eq_none
theorem Ag:type_of% @List.nodup_cons:=@List.nodup_cons
theorem Ah:type_of% @List.map_congr_left:=@List.map_congr_left
theorem Ai:type_of% @Nat.not_lt_zero:=@Nat.not_lt_zero
theorem Aj:type_of% @Nat.le_of_eq:=@Nat.le_of_eq
theorem Ak:type_of% @PySem.Heap.get?_update_other:=@PySem.Heap.get?_update_other
theorem Al:type_of% @List.any_cons:=@List.any_cons
theorem Am:type_of% @List.drop_drop:=@List.drop_drop
theorem D':type_of% @Option.map_none:=@Option.map_none
theorem Ea:type_of% @Nat.min_eq_left:=@Nat.min_eq_left
theorem Eb:type_of% @List.mem_of_mem_take:=@List.mem_of_mem_take
theorem Ec:type_of% @List.mem_iff_getElem?:=@List.mem_iff_getElem?
theorem Ed:type_of% @PySem.F.slot_dict_get:=@PySem.F.slot_dict_get
theorem Ef:type_of% @List.drop_eq_nil_of_le:=@List.drop_eq_nil_of_le
theorem Eh:type_of% @List.filterMap_append:=@List.filterMap_append
theorem Ei:type_of% @List.length_filter_le:=@List.length_filter_le
theorem Ej:type_of% @List.tail_drop:=@List.tail_drop
theorem Ek:type_of% @List.not_mem_nil:=@List.not_mem_nil
theorem El:type_of% @PySem.W.mg_of:=@PySem.W.mg_of
theorem Iz:type_of% @List.getElem?_zipIdx:=@List.getElem?_zipIdx
theorem IK:type_of% @List.getElem?_set_self:=@List.getElem?_set_self
theorem IV:type_of% @List.flatMap_cons:=@List.flatMap_cons
theorem IW:type_of% @List.mem_range:=@List.mem_range
theorem I0:type_of% @List.take_zero:=@List.take_zero
theorem I1:type_of% @List.getElem?_append_right:=@List.getElem?_append_right
theorem I2:type_of% @List.take_append_drop:=@List.take_append_drop
theorem I3:type_of% @List.nil_append:=@List.nil_append
theorem I4:type_of% @List.pairwise_map:=@List.pairwise_map
theorem I5:type_of% @Int.toNat_of_nonneg:=@Int.toNat_of_nonneg
theorem I6:type_of% @List.getElem?_set_ne:=@List.getElem?_set_ne
theorem I7:type_of% @Array.length_toList:=@Array.length_toList
theorem I8:type_of% @List.mem_filterMap:=@List.mem_filterMap
theorem I9:type_of% @Int.toNat_natCast:=@Int.toNat_natCast
theorem I_:type_of% @Nat.le_add_right:=@Nat.le_add_right
theorem I':type_of% @List.mem_map_of_mem:=@List.mem_map_of_mem
theorem Ui:type_of% @List.getD_eq_getElem?_getD:=@List.getD_eq_getElem?_getD
theorem Uj:type_of% @List.drop_append_of_le_length:=@List.drop_append_of_le_length
theorem Uk:type_of% @List.getElem?_append_left:=@List.getElem?_append_left
theorem Ul:type_of% @List.mem_of_mem_drop:=@List.mem_of_mem_drop
theorem Um:type_of% @PySem.Heap.get?_none_of_le:=@PySem.Heap.get?_none_of_le
theorem Un:type_of% @PySem.F.entry_dict_get:=@PySem.F.entry_dict_get
theorem Uo:type_of% @PySem.F.slot_list_extend:=@PySem.F.slot_list_extend
theorem Uq:type_of% @PySem.F.type_list_extend:=@PySem.F.type_list_extend
abbrev aK:=List Nat
namespace Sr
open Sw28
def eb(lo hi:Int):P Nat:=only (fun x=>decide (lo<=(x:Int)) && decide ((x:Int)<=hi)) u16
theorem Em{α:Type}(p:P α):∀ (n:Nat) (t:B),times p (n+1) t=(times p n t).bind fun y=>(p y.2).map fun x=>(y.1++[x.1],x.2)
 |0,t=>by
  simp only[times];cases h:p t<;>simp[h]
 |n+1,t=>by
  rw[times];have bV:=Em p n
  conv=>rhs;rw[times]
  cases h:p t with
  |none=>simp
  |some x =>
   simp only[d7,bV];cases aC:times p n x.2 with
   |none=>simp
   |some y =>
    simp only[d7,gf];cases bI:p y.2<;>simp
theorem x9{α:Type}(p:P α){t:B}{i:Nat}{y:List α×B}(h:times p i t=some y)(aL:p y.2=none):∀ n,i<n->times p n t=none:=by
 intro n aR;obtain⟨k,rfl⟩:∃ k,n=i+1+k:=⟨n-(i+1),by omega⟩;induction k with
 |zero=>rw[Nat.add_zero,Em,h];simp[aL]
 |succ k bV =>
  rw[← Nat.add_assoc,Em,bV (by omega)];rfl
theorem mX{α:Type}(p:P α):∀ {n:Nat} {t:B} {y:List α×B},times p n t=some y->y.1.length=n
 |0,t,y,h=>by simp only[times]at h;cases h;rfl
 |n+1,t,y,h=>by
  simp only[times]at h;cases h1:p t with
  |none=>rw[h1]at h;simp at h
  |some x =>
   rw[h1]at h;simp only[d7]at h;cases aC:times p n x.2 with
   |none=>rw[aC]at h;simp at h
   |some z =>
    rw[aC]at h;simp only[gf,Option.some.injEq]at h;subst h;simp[mX p aC]
theorem ov{α:Type}(lo hi:Nat)(p:P α)(t:B):many lo hi p t=(eb lo hi t).bind fun x=>times p x.1 x.2:=by
 unfold many eb only;cases u16 t with
 |none=>rfl
 |some x =>
  simp only[d7];by_cases h:x.1<lo\/hi<x.1
  ·rw[bM h,bx (by simp;omega)];rfl
  ·rw[bx h,bM (by simp;omega)];rfl
theorem wh{α:Type}{lo hi:Nat}{p:P α}{t:B}{y:List α×B}(h:many lo hi p t=some y):lo<=y.1.length/\y.1.length<=hi:=by
 unfold many at h;cases h1:u16 t with
 |none=>rw[h1]at h;simp at h
 |some x =>
  rw[h1]at h;simp only[d7]at h;split at h
  ·cases h
  ·rename_i aC;rw[mX p h];omega
theorem gZ{α:Type}(good:α->Bool)(p:P α)(t:B):only good p t=(p t).bind fun x=>if good x.1=true then some x else none:=rfl
theorem aiw{α:Type}(good:α->Bool)(p:P α):∀ (n:Nat) (t:B),times (only good p) n t=(times p n t).bind fun y=>if y.1.all good=true then some y else none
 |0,t=>by simp[times]
 |n+1,t=>by
  rw[times,times,gZ];cases p t with
  |none=>simp
  |some x =>
   simp only[d7];by_cases b5:good x.1=true
   ·rw[bM b5];simp only[d7];rw[aiw good p n];cases times p n x.2 with
    |none=>simp
    |some z =>
     simp only[d7,gf,List.all_cons,b5,xZ];split<;>simp
   ·rw[bx b5];cases times p n x.2 with
    |none=>simp
    |some z =>
     simp only[d7,gf,List.all_cons];simp[b5]
theorem aix{α:Type}{p q:P α}(h:∀ t,p t=q t)(n:Nat)(t:B):times p n t=times q n t:=by
 have:p=q:=funext h;rw[this]
theorem sign_eq(g:Nat)(t:B):sign g t=eb 0 ((g:Int)-1) t:=by
 unfold sign eb;congr 1
 funext x
 simp;omega
theorem aiy(t:B):skip t=eb 0 7 t:=by
 unfold skip eb;congr 1
 funext x
 simp;omega
theorem wi{lo hi:Int}{t:B}{x:Nat×B}(h:eb lo hi t=some x):lo<=(x.1:Int)/\(x.1:Int)<=hi/\u16 t=some x:=by
 unfold eb at h;rw[gZ]at h;cases h1:u16 t with
 |none=>rw[h1]at h;simp at h
 |some y =>
  rw[h1]at h;simp only[d7]at h;split at h
  ·rename_i aC;cases h;simp at aC;exact⟨aC.1,aC.2,Z⟩
  ·cases h
def En(c:Nat):P (Nat×Nat):=pair (eb 0 ((c:Int)-1)) u16
noncomputable def qb (g:Nat):P Around:=fun t=>(many 0 8 (signs g) t).bind fun b=>(many 1 8 (signs g) b.2).bind fun h=>(many 0 8 (signs g) h.2).bind fun k =>
 (many 0 8 (En h.1.length) k.2).map fun a=>(⟨b.1,h.1,k.1,a.1⟩,a.2)
theorem aiz(c:Nat)(t:B):En c t=only (fun y=>decide (y.1<c)) (pair u16 u16) t:=by
 unfold En pair eb;rw[gZ];rw[gZ];cases u16 t with
 |none=>rfl
 |some x =>
  simp only[d7];by_cases h:x.1<c
  ·rw[bM (by simp;omega)];simp only[d7];cases u16 x.2 with
   |none=>rfl
   |some y=>simp[h]
  ·rw[bx (by simp;omega)];cases u16 x.2 with
   |none=>rfl
   |some y=>simp[h]
theorem aiA{α:Type}(lo hi:Nat)(good:α->Bool)(p:P α)(t:B):many lo hi (only good p) t=only (fun l=>l.all good) (many lo hi p) t:=by
 rw[ov,gZ,ov];cases eb lo hi t with
 |none=>rfl
 |some x=>simp only[d7,aiw]
theorem aaj{α:Type}{p q:P α}(h:∀ t,p t=q t)(lo hi:Nat)(t:B):many lo hi p t=many lo hi q t:=by
 have:p=q:=funext h;rw[this]
theorem aqd(g:Nat)(t:B):around g t=qb g t:=by
 unfold around qb pair;cases h1:many 0 8 (signs g) t with
 |none=>rfl
 |some b =>
  simp only[d7];cases aC:many 1 8 (signs g) b.2 with
  |none=>rfl
  |some h =>
   simp only[d7];cases bI:many 0 8 (signs g) h.2 with
   |none=>rfl
   |some k =>
    simp only[d7];rw[aaj (aiz h.1.length),aiA,gZ];change (Option.map _ (Option.map _ (Option.map _ (many 0 8 (pair u16 u16) k.2)))).bind _=_
    cases many 0 8 (pair u16 u16) k.2 with
    |none=>rfl
    |some a =>
     simp only[gf,d7];split<;>rfl
def aiB(g:Nat):P (List (Nat×Nat)):=only (fun l=>rising (l.map fun y=>y.1)) (many 1 1024 (pair (sign g) (sign g)))
def aiC(g:Nat):P (List (Nat×aK)):=only (fun l=>rising (l.map fun y=>y.1)) (many 1 1024 (pair (sign g) (many 1 8 (sign g))))
noncomputable def Ur (g:Nat):P (List (Nat×aK×Nat)):=only (fun l=>level (l.map fun y=>y.1)) (many 1 1024 (pair (sign g) (pair (many 1 7 (sign g)) (sign g))))
def Us(g:Nat):P (List Around):=many 1 64 (qb g)
noncomputable def d8 {α β:Type} (f:α->β) (p:P α):P β:=fun t=>(p t).map fun x=>(f x.1,x.2)
noncomputable def qd (g k:Nat):P Sub :=
 if k=1 then d8 Sub.one (aiB g)else if k=2 then d8 Sub.more (aiC g)else if k=3 then d8 Sub.joined (Ur g)else d8 Sub.around (Us g)
noncomputable def sV (g:Nat):P (Nat×Nat×Sub):=fun t=>(eb 1 4 t).bind fun k=>(eb 0 7 k.2).bind fun s=>(qd g k.1 s.2).map fun y=>((k.1,s.1,y.1),y.2)
def lu:Sub->Nat
 | .one _=>1
 | .more _=>2
 | .joined _=>3
 | .around _=>4
theorem aiD{α β:Type}(x:(Nat×Nat)×B)(p:P α)(f:α->β):body x p f=(p x.2).map fun y=>(⟨x.1.2,f y.1⟩,y.2):=rfl
theorem sub_eq(g:Nat)(t:B):sub g t=(sV g t).map fun x=>(⟨x.1.2.1,x.1.2.2⟩,x.2):=by
 unfold sub sV;rw[pair];rw[eb,gZ];cases u16 t with
 |none=>rfl
 |some k =>
  simp only[d7];by_cases aN:1<=k.1/\k.1<=4
  ·rw[bM (by simp;omega)];simp only[d7];rw[← aiy];cases skip k.2 with
   |none=>rfl
   |some s =>
    simp only[gf,d7,aiD];unfold qd d8;by_cases h1:k.1=1
    ·rw[bM h1,bM h1];simp only[uG];rfl
    rw[bx h1,bx h1];by_cases aC:k.1=2
    ·rw[bM aC,bM aC];simp only[uG];rfl
    rw[bx aC,bx aC];by_cases bI:k.1=3
    ·rw[bM bI,bM bI];simp only[uG];rfl
    rw[bx bI,bx bI,bM (by omega)];unfold Us;rw[aaj (aqd g)];simp only[uG];rfl
  ·rw[bx (by simp;omega)];cases skip k.2 with
   |none=>rfl
   |some s =>
    simp only[gf,d7];rw[bx (by omega),bx (by omega),bx (by omega),bx (by omega)];rfl
theorem aqe{g k:Nat}{t:B}{x:Sub×B}(h1:1<=k)(dz:k<=4)(h:qd g k t=some x):lu x.1=k:=by
 unfold qd d8 at h;split at h
 ·simp only[qY]at h;obtain⟨y,_,rfl⟩:=h;simp[lu, *]
 ·split at h
  ·simp only[qY]at h;obtain⟨y,_,rfl⟩:=h;simp[lu, *]
  ·split at h
   ·simp only[qY]at h;obtain⟨y,_,rfl⟩:=h;simp[lu, *]
   ·simp only[qY]at h;obtain⟨y,_,rfl⟩:=h;simp only[lu];omega
noncomputable def Eo:P (Int×Int×Int):=pair s16 (pair s16 s16)
def aiE(g:Nat):P (List (Nat×Int×Int×Int)):=only (fun l=>rising (l.map fun y=>y.1)) (many 1 1024 (pair (sign g) Eo))
def pPairs(g:Nat):P (List (Nat×Nat×Int)):=only (fun l=>rising (l.map fun y=>65536 * y.1+y.2.1)) (many 1 1024 (pair (sign g) (pair (sign g) s16)))
def Ja(g:Nat):P (List Anchor):=only (fun l=>rising (l.map fun a=>a.sign)) (many 1 1024 (anchor g))
def Jb(g:Nat):P (List Anchor):=only (fun l=>rising (l.map fun a=>65536 * a.sign+a.cls)) (many 1 1024 (anchor g))
def Jc(g:Nat):P (List Anchor×List Anchor):=pair (Ja g) (Jb g)
theorem aiF(g:Nat)(t:B):anchors g t=Jc g t:=by
 unfold anchors Jc Ja Jb pair;rw[gZ,gZ];cases many 1 1024 (anchor g) t with
 |none=>rfl
 |some m =>
  simp only[d7];by_cases h1:rising (m.1.map fun a=>a.sign)=true
  ·rw[bM h1];simp only[d7,gZ];cases many 1 1024 (anchor g) m.2 with
   |none=>rfl
   |some b =>
    simp only[gf,d7,h1,xZ];split<;>rfl
  ·rw[bx h1];cases many 1 1024 (anchor g) m.2 with
   |none=>rfl
   |some b =>
    simp only[gf,d7];rw[bx (by simp[h1])];rfl
noncomputable def qe (g k:Nat):P Pos :=
 if k=1 then d8 Pos.one (aiE g)else if k=2 then d8 Pos.pair (pPairs g)else if k=3 then d8 (fun y=>Pos.onBase y.1 y.2) (Jc g)else d8 (fun y=>Pos.onMark y.1 y.2) (Jc g)
noncomputable def sW (g:Nat):P (Nat×Nat×Pos):=fun t=>(eb 1 4 t).bind fun k=>(eb 0 7 k.2).bind fun s=>(qe g k.1 s.2).map fun y=>((k.1,s.1,y.1),y.2)
def qg:Pos->Nat
 | .one _=>1
 | .pair _=>2
 | .onBase _ _=>3
 | .onMark _ _=>4
theorem pos_eq(g:Nat)(t:B):pos g t=(sW g t).map fun x=>(⟨x.1.2.1,x.1.2.2⟩,x.2):=by
 unfold pos sW;rw[pair];rw[eb,gZ];cases u16 t with
 |none=>rfl
 |some k =>
  simp only[d7];by_cases aN:1<=k.1/\k.1<=4
  ·rw[bM (by simp;omega)];simp only[d7];rw[← aiy];cases skip k.2 with
   |none=>rfl
   |some s =>
    simp only[gf,d7,aiD];unfold qe d8;by_cases h1:k.1=1
    ·rw[bM h1,bM h1];simp only[uG];rfl
    rw[bx h1,bx h1];by_cases aC:k.1=2
    ·rw[bM aC,bM aC];simp only[uG];rfl
    rw[bx aC,bx aC];by_cases bI:k.1=3
    ·rw[bM bI,bM bI];simp only[aiF,uG];rfl
    rw[bx bI,bx bI,bM (by omega)];simp only[aiF,uG];rfl
  ·rw[bx (by simp;omega)];cases skip k.2 with
   |none=>rfl
   |some s =>
    simp only[gf,d7];rw[bx (by omega),bx (by omega),bx (by omega),bx (by omega)];rfl
theorem aqf{g k:Nat}{t:B}{x:Pos×B}(h1:1<=k)(dz:k<=4)(h:qe g k t=some x):qg x.1=k:=by
 unfold qe d8 at h;split at h
 ·simp only[qY]at h;obtain⟨y,_,rfl⟩:=h;simp[qg, *]
 ·split at h
  ·simp only[qY]at h;obtain⟨y,_,rfl⟩:=h;simp[qg, *]
  ·split at h
   ·simp only[qY]at h;obtain⟨y,_,rfl⟩:=h;simp[qg, *]
   ·simp only[qY]at h;obtain⟨y,_,rfl⟩:=h;simp only[qg];omega
noncomputable def qj (g:Nat) (behind:Int):P Span:=fun t=>(u32 t).bind fun a=>(u32 a.2).bind fun b =>
 if behind<(a.1:Int)then if a.1<=b.1 then if b.1<=1114111 then(sign g b.2).bind fun s =>
  if(s.1:Int)+(b.1:Int)-(a.1:Int)<(g:Int)then some (⟨a.1,b.1,s.1⟩,s.2)else none else none else none else none
noncomputable def pw (g:Nat):Nat->Int->B->Option (List Span×B)
 |0,_,t=>some ([],t)
 |n+1,behind,t=>(qj g behind t).bind fun x=>(pw g n (x.1.last:Int) x.2).map fun y=>(x.1::y.1,y.2)
def wj:Int->List Span->Bool
 |_,[]=>true
 |b,a::r=>decide (b<(a.first:Int)) && wj (a.last:Int) r
theorem aiG:∀ l:List Span,apart l=wj (-1) l
 | []=>rfl
 | [a]=>by simp[apart,wj];omega
 |a::b::r=>by
  have bV:=aiG (b::r);have h:decide ((-1:Int)<(a.first:Int))=true:=by simp;omega
  simp only[apart,wj,h,xZ];rw[bV];have aC:decide ((-1:Int)<(b.first:Int))=true:=by simp;omega
  simp only[wj,aC,xZ];congr 1
  simp
theorem aqg(g:Nat)(behind:Int)(t:B):qj g behind t=(span g t).bind fun x=>if behind<(x.1.first:Int)then some x else none:=by
 unfold qj span pair;cases u32 t with
 |none=>rfl
 |some a =>
  simp only[d7];cases u32 a.2 with
  |none=>rfl
  |some b =>
   simp only[d7];cases sign g b.2 with
   |none =>
    simp only[Option.bind_none,D'];split<;>(try split)<;>(try split)<;>rfl
   |some s =>
    simp only[d7,gf];by_cases h1:b.1<a.1\/0x10FFFF<b.1\/g<=s.1+(b.1-a.1)
    ·rw[bM h1];simp only[Option.bind_none];split
     ·split
      ·split
       ·rw[bx (by omega)]
       ·rfl
      ·rfl
     ·rfl
    ·rw[bx h1];simp only[d7];rw[bM (show a.1<=b.1 by omega),bM (show b.1<=1114111 by omega),bM (show(s.1:Int)+(b.1:Int)-(a.1:Int)<(g:Int) by omega)]
theorem aiH(g:Nat):∀ (n:Nat) (behind:Int) (t:B),pw g n behind t=(times (span g) n t).bind fun y=>if wj behind y.1=true then some y else none
 |0,b,t=>by simp[pw,times,wj]
 |n+1,b,t=>by
  rw[pw,times,aqg];cases span g t with
  |none=>rfl
  |some x =>
   simp only[d7];by_cases h:b<(x.1.first:Int)
   ·rw[bM h];simp only[d7];rw[aiH g n];cases times (span g) n x.2 with
    |none=>rfl
    |some y =>
     simp only[d7,gf,wj,h,decide_true,xZ];split<;>rfl
   ·rw[bx h];cases times (span g) n x.2 with
    |none=>rfl
    |some y=>simp[wj,h]
theorem aqh(g:Nat)(t:B):only apart (many 0 1024 (span g)) t=(eb 0 1024 t).bind fun x=>pw g x.1 (-1) x.2:=by
 rw[gZ,ov];show(Option.bind (Option.bind (eb 0 1024 t) _) _)=_;cases eb 0 1024 t with
 |none=>rfl
 |some x =>
  simp only[d7,aiH,aiG]
def ql(k:Nat):P (aK):=only rising (many 0 64 (eb 0 ((k:Int)-1)))
theorem aqi(k:Nat)(t:B):only (fun l=>rising l && l.all fun i=>decide (i<k)) (many 0 64 u16) t=ql k t:=by
 unfold ql;have h:∀ t,eb 0 ((k:Int)-1) t=only (fun i=>decide (i<k)) u16 t:=fun t=>by
  unfold eb;congr 1
  funext x
  simp;omega
 rw[gZ,gZ,aaj h,aiA,gZ];cases many 0 64 u16 t with
 |none=>rfl
 |some x =>
  simp only[d7];by_cases h1:(x.1.all fun i=>decide (i<k))=true
  ·rw[bM h1];simp only[d7,h1,Bool.and_true]
  ·rw[bx h1,bx (by simp[h1])];rfl
noncomputable def Ao (ks aG:Nat):P (List (Nat×aK×aK)):=only (fun l=>rising (l.map fun x=>x.1)) (many 0 64 (pair u32 (pair (ql ks) (ql aG))))
noncomputable def Jd (g:Nat):P Font:=fun t =>
 ((eb 0 1024 t).bind fun x=>pw g x.1 (-1) x.2).bind fun m =>
  (times (only (fun c=>decide (c<4)) byte) g m.2).bind fun c =>
  (times u16 g c.2).bind fun w =>
  (only actsRight (many 0 64 (sub g)) w.2).bind fun s =>
  (many 0 64 (pos g) s.2).bind fun p =>
  (Ao s.1.length p.1.length p.2).map fun f=>(⟨g,m.1,c.1,w.1,s.1,p.1,f.1⟩,f.2)
noncomputable def Je:P Font:=fun t=>(byte t).bind fun a=>if a.1=73 then(byte a.2).bind fun b=>if b.1=112 then
 (eb 1 4096 b.2).bind fun g=>Jd g.1 g.2 else none else none
theorem aak{t:B}(h:∀ t',t≠73::112::t'):file t=none:=by
 unfold file;split
 ·exact absurd rfl (h _)
 ·rfl
theorem aqj(t:B):file (73::112::t)=(only (fun g=>decide (1<=g) && decide (g<=4096)) u16 t).bind fun g =>
  (only apart (many 0 1024 (span g.1)) g.2).bind fun m =>
  (times (only (fun c=>decide (c<4)) byte) g.1 m.2).bind fun c =>
  (times u16 g.1 c.2).bind fun w =>
  (only actsRight (many 0 64 (sub g.1)) w.2).bind fun s =>
  (many 0 64 (pos g.1) s.2).bind fun p =>
  (only (fun l=>rising (l.map fun x=>x.1)) (many 0 64 (pair u32 (pair (only (fun l=>rising l && l.all fun i=>decide (i<s.1.length)) (many 0 64 u16)) (only (fun l=>rising l && l.all fun i=>decide (i<p.1.length)) (many 0 64 u16))))) p.2).map fun f=>(⟨g.1,m.1,c.1,w.1,s.1,p.1,f.1⟩,f.2):=rfl
theorem aqk(t:B):file t=Je t:=by
 unfold Je;have hi:∀ k,(only (fun l=>rising l && l.all fun i=>decide (i<k)) (many 0 64 u16))=ql k:=fun k=>funext (aqi k);match t with
 | []=>rfl
 | [a] =>
  rw[aak (by intro t' e;cases e)];simp only[byte,d7,Option.bind_none];split<;>rfl
 |a::b::t =>
  simp only[byte,d7];by_cases h:a=73
  ·by_cases aC:b=112
   ·subst h aC;rw[bM rfl,bM rfl,aqj];have e:only (fun g=>decide (1<=g) && decide (g<=4096)) u16 t=eb 1 4096 t:=by
     have a9:(fun g:Nat=>decide (1<=g) && decide (g<=4096))=fun x:Nat=>decide ((1:Int)<=(x:Int)) && decide ((x:Int)<=4096):=by
      funext x
      have h1:(1<=x)↔((1:Int)<=(x:Int)):=by omega
      have aC:(x<=4096)↔((x:Int)<=4096):=by omega
      simp only[h1,aC]
     unfold eb;rw[a9]
    rw[e];congr 1
    funext g
    unfold Jd;rw[← aqh];simp only[hi,Ao]
   ·rw[bM h,bx aC,aak (by intro t' e;injection e with bF a9;injection a9 with dw oA;exact aC dw)]
  ·rw[bx h,aak (by intro t' e;injection e with bF a9;exact h bF)]
def qm(b:B):Option Font:=(Je b).bind fun x=>if x.2=[]then some x.1 else none
theorem aal(b:B):Sw28.read b=qm b:=by
 unfold Sw28.read qm;rw[aqk]
theorem Jf(l:List Item)(i:Nat)(h:Item->Item)(j:Nat):(at_ l i h)[j]?=(l[j]?).map fun x=>if j=i then h x else x:=by
 unfold at_;rw[ek,Iz];cases l[j]?<;>simp
theorem Ut{l:List Item}{i:Nat}{x:Item}(h:Item->Item)(e:l[i]?=some x):at_ l i h=l.set i (h x):=by
 apply vW;intro j;rw[Jf,List.getElem?_set];by_cases bN:i=j
 ·subst bN;obtain⟨hi,aq⟩:=eF.mp e;simp[hi,aq]
 ·have:¬ j=i:=fun z=>bN z.symm
  simp[bN,this]
theorem uL{l:List Item}{i:Nat}{x:Item}(e:l[i]?=some x):signAt l i=x.sign:=by simp[signAt,e]
theorem aql{α:Type}{l:List α}{i:Nat}{x:α}(y:α)(e:l[i]?=some x):(l.set i y).take (i+1)=l.take i++[y]:=by
 have hi:=(eF.mp e).1;rw[vX,List.take_set_of_le (cH _),IK hi];rfl
theorem aqm{α:Type}(l:List α)(i:Nat)(y:α):(l.set i y).drop (i+1)=l.drop (i+1):=by
 rw[List.drop_set_of_lt (vY i)]
theorem qp{α:Type}{l:List α}{i:Nat}{x:α}(e:l[i]?=some x):l.drop i=x::l.drop (i+1):=by
 obtain⟨hi,aq⟩:=eF.mp e;rw[z8 hi,aq]
theorem wk{α:Type}{l:List α}{i:Nat}{x:α}(e:l[i]?=some x):l.take (i+1)=l.take i++[x]:=by
 rw[vX,e];rfl
noncomputable def oneOf (f:Font) (sk:Nat) (t:List (Nat×Nat)) (x:Item):Item:=if passed f sk x=true then x else{ x with sign:=(t.lookup x.sign).getD x.sign }
theorem Uu(f:Font)(sk:Nat)(t:List (Nat×Nat)):∀ (fuel:Nat) (l:List Item) (i:Nat),l.length<=4096->l.length<fuel+i ->
  along f ⟨sk,.one t⟩ fuel l i=some (l.take i++(l.drop i).map (oneOf f sk t))
 |0,l,i,_,hf=>by
  have h:l.length<=i:=by omega
  simp[along,f3 h,oc h]
 |k+1,l,i,aF,hf=>by
  rw[along,bx (by show ¬ 4096<l.length;omega)];cases e:l[i]? with
  |none =>
   have h:l.length<=i:=z9.mp e;simp[f3 h,oc h]
  |some x =>
   have hi:=(eF.mp e).1;simp only[];rw[qp e,fU];by_cases aL:passed f sk x=true
   ·rw[bM aL,Uu f sk t k l (i+1) aF (by omega),wk e];simp[oneOf,aL]
   ·rw[bx aL];unfold changed;simp only[uL e];cases b_:t.lookup x.sign with
    |none =>
     simp only[D'];rw[Uu f sk t k l (i+1) aF (by omega),wk e];simp[oneOf,aL,b_]
    |some s =>
     simp only[gf,swap,uL e,b_];rw[Ut _ e,Uu f sk t k _ (i+1) (by simpa using aF) (by simp;omega),aql _ e,aqm];simp[oneOf,aL,b_]
def gV(f:Font)(sk:Nat)(t:List (Nat×aK))(x:Item):List Item :=
 if passed f sk x=true then[x]else match t.lookup x.sign with
  |some ss=>ss.map fun s=>{ x with sign:=s }
  |none=>[x]
theorem lookup_mem{eG β:Type}[BEq eG][LawfulBEq eG]:∀ {t:List (eG×β)} {k:eG} {v:β},t.lookup k=some v->(k,v)∈t
 | [],_,_,h=>by cases h
 |(a,b)::r,k,v,h=>by
  rw[uH]at h;split at h
  ·rename_i aN;cases h;rw[eq_of_beq aN];exact h_
  ·exact h2 _ (lookup_mem h)
theorem aqn{f:Font}{sk:Nat}{t:List (Nat×aK)}(b_:∀ y∈t,y.2≠[])(x:Item):1<=(gV f sk t x).length:=by
 unfold gV;split
 ·simp
 ·split
  ·rename_i ss e;have:=b_ _ (lookup_mem e);cases ss with
   |nil=>exact absurd rfl this
   |cons a r=>simp
  ·simp
theorem aiI{f:Font}{sk:Nat}{t:List (Nat×aK)}(b_:∀ y∈t,y.2≠[]):∀ l:List Item,l.length<=(l.flatMap (gV f sk t)).length
 | []=>by simp
 |x::r=>by
  have h1:=aqn (f:=f) (sk:=sk) b_ x;have aC:=aiI (f:=f) (sk:=sk) b_ r;simp only[IV,gC,eo];omega
theorem Uv(f:Font)(sk:Nat)(t:List (Nat×aK))(b_:∀ y∈t,y.2≠[]):∀ (fuel:Nat) (l:List Item) (i:Nat),i<=l.length->l.length<fuel+i ->
  along f ⟨sk,.more t⟩ fuel l i=if 4096<(l.take i++(l.drop i).flatMap (gV f sk t)).length then none else some (l.take i++(l.drop i).flatMap (gV f sk t))
 |0,l,i,h1,hf=>by omega
 |k+1,l,i,h1,hf=>by
  rw[along];have hlen:(l.take i++(l.drop i).flatMap (gV f sk t)).length ≥ l.length:=by
   have:=aiI (f:=f) (sk:=sk) b_ (l.drop i);simp only[gC,g4,od]at this ⊢;omega
  by_cases dc:LONG<l.length
  ·rw[bM dc,bM (by have:LONG=4096:=rfl;omega)]
  ·rw[bx dc];cases e:l[i]? with
   |none =>
    have h:l.length<=i:=z9.mp e;have dz:¬ 4096<l.length:=by have:LONG=4096:=rfl;omega
    simp[f3 h,oc h,dz]
   |some x =>
    have hi:=(eF.mp e).1;simp only[];rw[qp e,IV];by_cases aL:passed f sk x=true
    ·rw[bM aL,Uv f sk t b_ k l (i+1) hi (by omega),wk e];simp[gV,aL]
    ·rw[bx aL];unfold changed;simp only[uL e];cases pA:t.lookup x.sign with
     |none =>
      simp only[D'];rw[Uv f sk t b_ k l (i+1) hi (by omega),wk e];simp[gV,aL,pA]
     |some ss =>
      simp only[gf];have aq:l.getD i ⟨0,0,0,0,0⟩=x:=by rw[Ui,e];rfl
      rw[aq];have bI:(l.take i++((ss.map fun s=>({ x with sign:=s }:Item))++l.drop (i+1))).length=i+ss.length+(l.length-(i+1)):=by
       simp only[gC,g4,ey,od];omega
      have aam:(l.take i++((ss.map fun s=>({ x with sign:=s }:Item))++l.drop (i+1))).take (i+ss.length)=l.take i++ss.map fun s=>({ x with sign:=s }:Item):=by
       rw[← uI,List.take_append_of_le_length (by simp only[gC,g4,ey];omega),f3 (by simp only[gC,g4,ey];omega)]
      have oD:(l.take i++((ss.map fun s=>({ x with sign:=s }:Item))++l.drop (i+1))).drop (i+ss.length)=l.drop (i+1):=by
       rw[← uI,Uj (by simp only[gC,g4,ey];omega),oc (by simp only[gC,g4,ey];omega)];rfl
      rw[Uv f sk t b_ k _ (i+ss.length) (by omega) (by omega),aam,oD];simp[gV,aL,pA]
section
variable(p:Item->Bool)
def dA:Nat->List Item->aK
 |_,[]=>[]
 |k,x::r=>if p x=true then dA (k+1) r else k::dA (k+1) r
def r0(l:List Item):List Item:=l.filter fun x=>!p x
def lineOf(l:List Item):aK:=(r0 p l).map fun x=>x.sign
theorem uM{x:Item}{r:List Item}(h:p x=true):lineOf p (x::r)=lineOf p r:=by simp[lineOf,r0,h]
theorem r1{x:Item}{r:List Item}(h:¬ p x=true):lineOf p (x::r)=x.sign::lineOf p r:=by simp[lineOf,r0,h]
theorem q1{k:Nat}{x:Item}{r:List Item}(h:p x=true):dA p k (x::r)=dA p (k+1) r:=by simp[dA,h]
theorem q2{k:Nat}{x:Item}{r:List Item}(h:¬ p x=true):dA p k (x::r)=k::dA p (k+1) r:=by simp[dA,h]
theorem Uw:∀ (k:Nat) (l:List Item),(dA p k l).length=(lineOf p l).length
 |k,[]=>rfl
 |k,x::r=>by
  by_cases h:p x=true
  ·rw[q1 p h,uM p h,Uw]
  ·rw[q2 p h,r1 p h,eo,eo,Uw]
theorem oE:∀ {k:Nat} {l:List Item} {j:Nat},j∈dA p k l->k<=j/\j<k+l.length
 |k,[],j,h=>by cases h
 |k,x::r,j,h=>by
  by_cases aq:p x=true
  ·rw[q1 p aq]at h;have:=oE h;simp only[eo];omega
  ·rw[q2 p aq]at h;rcases gR.mp h with e|h
   ·simp only[eo];omega
   ·have:=oE h
    simp only[eo];omega
theorem Ux:∀ (r:List Item) (k:Nat) (q:Nat->Bool),(∀ j,q (k+j)=(r[j]?).any fun x=>!p x)->(List.range' k r.length).filter q=dA p k r
 | [],k,q,_=>rfl
 |x::r,k,q,a6=>by
  rw[eo,List.range'_succ,x2];have h0:=a6 0;simp only[Nat.add_zero,x3,Option.any_some]at h0;have bV:=Ux r (k+1) q fun j=>by
   have:=a6 (j+1);simp only[z_]at this;rw[← this];congr 1
   omega
  rw[h0,bV];by_cases aq:p x=true
  ·simp[dA,aq]
  ·simp[dA,aq]
theorem aiJ(k:Nat):∀ n,(List.range n).filter (fun j=>decide (k<=j))=List.range' k (n-k)
 |0=>by simp
 |n+1=>by
  rw[p7,x4,aiJ k n];by_cases h:k<=n
  ·rw[List.filter_cons_of_pos (by simpa using h),List.filter_nil];have e:n+1-k=(n-k)+1:=by omega
   rw[e,List.range'_concat];congr 2
   omega
  ·rw[List.filter_cons_of_neg (by simpa using h),List.filter_nil,List.append_nil];have bF:n+1-k=0:=by omega
   have a9:n-k=0:=by omega
   rw[bF,a9]
theorem aqo(l:List Item)(k:Nat):((List.range l.length).filter fun j=>decide (k<=j)).filter (fun j=>(l[j]?).any fun x=>!p x)=dA p k (l.drop k):=by
 rw[aiJ];have:=Ux p (l.drop k) k (fun j=>(l[j]?).any fun x=>!p x) fun j=>by rw[z']
 rw[od]at this;exact this
theorem Uy:∀ (r:List Item) (k:Nat) (g:Nat->Nat),(∀ j x,r[j]?=some x->g (k+j)=x.sign)->(dA p k r).map g=lineOf p r
 | [],_,_,_=>rfl
 |x::r,k,g,b5=>by
  have bV:=Uy r (k+1) g fun j y e=>by
   have:=b5 (j+1) y (by simpa using e);rw[← this];congr 1
   omega
  have h0:=b5 0 x rfl;by_cases aq:p x=true
  ·rw[q1 p aq,uM p aq,bV]
  ·rw[q2 p aq,r1 p aq,fU,bV];congr 1
end
theorem Jg(f:Font)(sk:Nat)(l:List Item)(i:Nat):after f sk l i=dA (passed f sk) (i+1) (l.drop (i+1)):=by
 unfold after;rw[← aqo];congr 1
theorem aqp(f:Font)(sk:Nat)(l:List Item){i:Nat}(hi:i<=l.length):before f sk l i=(dA (passed f sk) 0 (l.take i)).reverse:=by
 unfold before;congr 1
 have h:=Ux (passed f sk) (l.take i) 0 (fun j=>((l.take i)[j]?).any fun x=>!passed f sk x) fun j=>by rw[p8]
 rw[g4,Ea hi,← List.range_eq_range']at h;rw[← h];refine List.filter_congr fun j bN=>?_;rw[x5 (IW.mp bN)]
def fits:List (aK)->aK->Bool
 | [],_=>true
 |_::_,[]=>false
 |s::r,x::xs=>s.contains x && fits r xs
theorem aan(l:List Item):∀ (ss:List (aK)) (oF:aK),match_ l ss oF=fits ss (oF.map (signAt l))
 | [],_=>by simp[match_,fits]
 |_::_,[]=>by simp[match_,fits]
 |s::r,j::oF=>by simp[match_,fits,aan l r oF]
theorem aiK(f:Font)(sk:Nat)(l:List Item)(i:Nat):(after f sk l i).map (signAt l)=lineOf (passed f sk) (l.drop (i+1)):=by
 rw[Jg];refine Uy _ _ _ _ fun j x e=>?_;rw[z']at e;exact uL e
theorem aqq(f:Font)(sk:Nat)(l:List Item){i:Nat}(hi:i<=l.length):(before f sk l i).map (signAt l)=(lineOf (passed f sk) (l.take i)).reverse:=by
 rw[aqp f sk l hi,List.map_reverse];congr 1
 refine Uy _ _ _ _ fun j x e=>?_;rw[p8];have bN:=(eF.mp e).1;rw[g4]at bN;rw[x5 (by omega)]at e;exact uL e
section
variable(p:Item->Bool)
def lX:Nat->List Item->List Item
 |0,r=>r
 |_+1,[]=>[]
 |n+1,x::r=>if p x=true then x::lX (n+1) r else lX n r
theorem Jh(r:List Item):lX p 0 r=r:=by cases r<;>rfl
theorem aao:∀ (n:Nat) (r:List Item),(lX p n r).length<=r.length
 |0,r=>by rw[Jh];exact cH _
 |_+1,[]=>by simp[lX]
 |n+1,x::r=>by
  rw[lX];split
  ·simp only[eo];have:=aao (n+1) r;omega
  ·simp only[eo];have:=aao n r;omega
theorem Uz:∀ (r:List Item) (k n:Nat),((r.zipIdx k).filter fun y=>!((dA p k r).take n).contains y.2).map (fun y=>y.1)=lX p n r
 | [],k,n=>by cases n<;>rfl
 |x::r,k,n=>by
  have big:∀ m j,j∈(dA p (k+1) r).take m->k<j:=fun m j bN=>by
   have:=oE p (Eb bN);omega
  have aap:∀ m,((dA p (k+1) r).take m).contains k=false:=fun m=>by
   cases h:((dA p (k+1) r).take m).contains k with
   |false=>rfl
   |true =>
    have:=big m k (by simpa using h);omega
  rw[x6,x2];by_cases aq:p x=true
  ·rw[q1 p aq];simp only[aap,x7,if_true,fU];rw[Uz r (k+1) n];cases n with
   |zero=>simp[Jh]
   |succ n=>simp[lX,aq]
  ·rw[q2 p aq];cases n with
   |zero =>
    have:=Uz r (k+1) 0;simp only[I0,List.contains_nil,x7,if_true,fU]at this ⊢;rw[this,Jh,Jh]
   |succ n =>
    have UG:(!((k::dA p (k+1) r).take (n+1)).contains k)=false:=by simp
    have Ji:lX p (n+1) (x::r)=lX p n r:=by simp[lX,aq]
    simp only[UG,kg,if_false];rw[Ji,← Uz r (k+1) n];congr 1
    refine List.filter_congr fun y aP=>?_;have aN:k<y.2:=by
     have:=List.mem_zipIdx aP;omega
    have:¬ y.2=k:=by omega
    simp[List.contains_cons,this]
theorem aiL{l:aK}:∀ (r:List Item) (k:Nat),(∀ j∈l,k+r.length<=j)->((r.zipIdx k).filter fun y=>!l.contains y.2).map (fun y=>y.1)=r
 | [],_,_=>rfl
 |x::r,k,h=>by
  rw[x6,x2];have:l.contains k=false:=by
   cases e:l.contains k with
   |false=>rfl
   |true =>
    have:=h k (by simpa using e);simp only[eo]at this;omega
  simp only[this,x7,if_true,fU];rw[aiL r (k+1) fun j bN=>by have:=h j bN;simp only[eo]at this;omega]
end
abbrev ib:=Nat×aK×Nat
def nJ(t:List ib)(x:Nat)(r:aK):Option ib:=t.find? fun e=>e.1 == x && fits (e.2.1.map fun s=>[s]) r
theorem aqr(f:Font)(sk:Nat)(t:List ib){l:List Item}{i:Nat}{x:Item}(e:l[i]?=some x) :
  changed f ⟨sk,.joined t⟩ l i=(nJ t x.sign (lineOf (passed f sk) (l.drop (i+1)))).map fun a =>
   (l.take i++{ x with sign:=a.2.2 }::lX (passed f sk) a.2.1.length (l.drop (i+1)),i+1):=by
 have hi:=(eF.mp e).1;unfold changed nJ;simp only[aan,aiK,uL e];cases t.find? _ with
 |none=>rfl
 |some a =>
  simp only[gf,Option.some.injEq,Prod.mk.injEq,and_true];rw[Ut _ e,Jg];have aH:l.set i { x with sign:=a.2.2 }=l.take i++{ x with sign:=a.2.2 }::l.drop (i+1):=by
   rw[List.set_eq_take_append_cons_drop,bM hi]
  rw[aH,List.zipIdx_append,x6,x4,x2,oh];have c0:(l.take i).length=i:=by rw[g4];omega
  rw[c0,p8];have big:∀ j∈(dA (passed f sk) (i+1) (l.drop (i+1))).take a.2.1.length,i<j:=fun j bN=>by
   have:=oE _ (Eb bN);omega
  have aaq:((dA (passed f sk) (i+1) (l.drop (i+1))).take a.2.1.length).contains i=false:=by
   cases h:((dA (passed f sk) (i+1) (l.drop (i+1))).take a.2.1.length).contains i with
   |false=>rfl
   |true =>
    have:=big i (by simpa using h);omega
  rw[aiL _ 0 fun j bN=>by have:=big j bN;omega];simp only[aaq,x7,if_true,fU];rw[Uz]
noncomputable def lA (f:Font) (sk:Nat) (t:List ib):Nat->List Item->List Item
 |_,[]=>[]
 |c,x::r=>if passed f sk x=true then x::lA f sk t c r else match c with
  |c'+1=>lA f sk t c' r
  |0=>match nJ t x.sign (lineOf (passed f sk) r)with
   |none=>x::lA f sk t 0 r
   |some a=>{ x with sign:=a.2.2 }::lA f sk t a.2.1.length r
theorem aar(f:Font)(sk:Nat)(t:List ib):∀ (c:Nat) (r:List Item),lA f sk t 0 (lX (passed f sk) c r)=lA f sk t c r
 |0,r=>by rw[Jh]
 |c+1,[]=>by simp[lX,lA]
 |c+1,x::r=>by
  by_cases aq:passed f sk x=true
  ·simp only[lX,aq,if_true,lA];rw[aar f sk t (c+1) r]
  ·simp only[lX,aq,kg,if_false,lA];rw[aar f sk t c r]
theorem UJ(f:Font)(sk:Nat)(t:List ib):∀ (fuel:Nat) (l:List Item) (i:Nat),l.length<=4096->l.length<fuel+i ->
  along f ⟨sk,.joined t⟩ fuel l i=some (l.take i++lA f sk t 0 (l.drop i))
 |0,l,i,_,hf=>by
  have h:l.length<=i:=by omega
  simp[along,f3 h,oc h,lA]
 |k+1,l,i,aF,hf=>by
  rw[along,bx (by show ¬ 4096<l.length;omega)];cases e:l[i]? with
  |none =>
   have h:l.length<=i:=z9.mp e;simp[f3 h,oc h,lA]
  |some x =>
   have hi:=(eF.mp e).1;have c0:(l.take i).length=i:=by rw[g4];omega
   simp only[];rw[qp e];by_cases aL:passed f sk x=true
   ·rw[bM aL,UJ f sk t k l (i+1) aF (by omega),wk e];simp[lA,aL]
   ·rw[bx aL,aqr f sk t e];cases aX:nJ t x.sign (lineOf (passed f sk) (l.drop (i+1)))with
    |none =>
     simp only[D'];rw[UJ f sk t k l (i+1) aF (by omega),wk e];simp[lA,aL,aX]
    |some a =>
     simp only[gf];have aA:=aao (passed f sk) a.2.1.length (l.drop (i+1));rw[od]at aA;rw[UJ f sk t k _ (i+1) (by simp only[gC,eo,c0];omega) (by simp only[gC,eo,c0];omega)];have h1:(l.take i++{ x with sign:=a.2.2 }::lX (passed f sk) a.2.1.length (l.drop (i+1))).take (i+1)=l.take i++[{ x with sign:=a.2.2 }]:=by
      rw[List.take_append,c0,f3 (by omega)];simp
     have aC:(l.take i++{ x with sign:=a.2.2 }::lX (passed f sk) a.2.1.length (l.drop (i+1))).drop (i+1)=lX (passed f sk) a.2.1.length (l.drop (i+1)):=by
      rw[List.drop_append,c0,oc (by omega)];simp
     rw[h1,aC,aar];simp[lA,aL,aX]
noncomputable def gg (t:List ib):Nat->aK->List (Option Nat)
 |_,[]=>[]
 |c+1,_::r=>none::gg t c r
 |0,x::r=>match nJ t x r with
  |none=>some x::gg t 0 r
  |some a=>some a.2.2::gg t a.2.1.length r
noncomputable def jX (p:Item->Bool):List Item->List (Option Nat)->List Item
 | [],_=>[]
 |x::r,st=>if p x=true then x::jX p r st else match st with
  |some s::lB=>{ x with sign:=s }::jX p r lB
  |none::lB=>jX p r lB
  | []=>x::jX p r []
theorem Jj(f:Font)(sk:Nat)(t:List ib):∀ (l:List Item) (c:Nat),lA f sk t c l=jX (passed f sk) l (gg t c (lineOf (passed f sk) l))
 | [],c=>by simp[lA,jX]
 |x::r,c=>by
  by_cases aq:passed f sk x=true
  ·rw[uM _ aq];simp only[lA,jX,aq,if_true];rw[Jj f sk t r c]
  ·rw[r1 _ aq];cases c with
   |succ c =>
    simp only[lA,jX,aq,kg,if_false,gg];rw[Jj f sk t r c]
   |zero =>
    simp only[lA,aq,kg,if_false,gg];cases nJ t x.sign (lineOf (passed f sk) r)with
    |none =>
     simp only[jX,aq,kg,if_false];rw[Jj f sk t r 0]
    |some a =>
     simp only[jX,aq,kg,if_false];rw[Jj f sk t r a.2.1.length]
theorem aas(t:List ib):∀ (l:aK) (c:Nat),(gg t c l).length=l.length
 | [],c=>by cases c<;>rfl
 |x::r,c+1=>by simp[gg,aas t r]
 |x::r,0=>by
  simp only[gg];split<;>simp[aas t r]
theorem Ep:∀ {ss:List (aK)} {l:aK},fits ss l=true->ss.length<=l.length
 | [],_,_=>eZ _
 |_::_,[],h=>by simp[fits]at h
 |s::r,x::xs,h=>by
  simp only[fits,jf]at h;have:=Ep h.2;simp only[eo];omega
theorem aiM(t:List ib):∀ (c:Nat) (l:aK),c<=l.length->gg t c l=List.replicate c none++gg t 0 (l.drop c)
 |0,l,_=>by simp
 |c+1,[],h=>by simp at h
 |c+1,x::r,h=>by
  simp only[eo]at h;rw[gg,aiM t c r (by omega),List.replicate_succ];rfl
theorem aat(p:Item->Bool)(S:Nat->Nat)(F:Nat->Nat)(G:Nat->Bool):∀ (l:List Item) (k:Nat) (st:List (Option Nat)),st.length=(lineOf p l).length ->
  (∀ j x,l[j]?=some x->F (k+j)=x.from_/\(p x=true->S (k+j)=x.sign/\G (k+j)=false)) ->
  (∀ (m q:Nat),(dA p k l)[m]?=some q->(∀ s,st[m]?=some (some s)->S q=s/\G q=false)/\(st[m]?=some none->G q=true)) ->
  ((List.range' k l.length).filter fun q=>!G q).map S=(jX p l st).map (fun x=>x.sign)/\((List.range' k l.length).filter fun q=>!G q).map F=(jX p l st).map (fun x=>x.from_)
 | [],k,st,_,_,_=>by simp[jX]
 |x::r,k,st,aF,h1,aC=>by
  rw[eo,List.range'_succ,x2];have aau:=h1 0 x rfl;simp only[Nat.add_zero]at aau;have Aq:∀ j y,r[j]?=some y->F (k+1+j)=y.from_/\(p y=true->S (k+1+j)=y.sign/\G (k+1+j)=false):=fun j y e=>by
   have:=h1 (j+1) y (by simpa using e);have a9:k+1+j=k+(j+1):=by omega
   rw[a9];exact this
  by_cases aq:p x=true
  ·rw[uM p aq]at aF;rw[q1 p aq]at aC;obtain⟨i1,i2⟩:=aat p S F G r (k+1) st aF Aq aC;obtain⟨iR,d1⟩:=aau;obtain⟨d1,Jk⟩:=d1 aq;simp only[jX,aq,if_true,Jk,x7,fU];rw[i1,i2,d1,iR];exact⟨Z,Z⟩
  ·rw[r1 p aq]at aF;rw[q2 p aq]at aC;cases st with
   |nil=>simp at aF
   |cons o lB =>
    simp only[eo,Nat.add_right_cancel_iff]at aF;have Ar:∀ (m q:Nat),(dA p (k+1) r)[m]?=some q->(∀ s,lB[m]?=some (some s)->S q=s/\G q=false)/\(lB[m]?=some none->G q=true):=fun m q e=>by
     have:=aC (m+1) q (by simpa using e);simpa using this
    obtain⟨i1,i2⟩:=aat p S F G r (k+1) lB aF Aq Ar;obtain⟨a1,a2⟩:=aC 0 k rfl;cases o with
    |none =>
     have Jk:=a2 rfl;simp only[jX,aq,kg,if_false,Jk,Bool.not_true];exact⟨i1,i2⟩
    |some s =>
     obtain⟨d1,Jk⟩:=a1 s rfl;simp only[jX,aq,kg,if_false,Jk,x7,if_true,fU];rw[i1,i2,d1,aau.1];exact⟨Z,Z⟩
section
variable(p:Item->Bool)
noncomputable def fJ:aK->List Item->List Item
 | [],r=>r
 |_::_,[]=>[]
 |s::w,x::r=>if p x=true then x::fJ (s::w) r else{ x with sign:=s }::fJ w r
theorem yb(r:List Item):fJ p [] r=r:=by cases r<;>rfl
theorem Jl:∀ (w:aK) (r:List Item),(fJ p w r).length=r.length
 | [],r=>by rw[yb]
 |_::_,[]=>rfl
 |s::w,x::r=>by
  rw[fJ];split
  ·simp[Jl (s::w) r]
  ·simp[Jl w r]
theorem aav:∀ (n:Nat) (r:List Item),fJ p ((lineOf p r).take n) r=r
 |n,[]=>by cases n<;>simp[lineOf,r0,fJ]
 |n,x::r=>by
  by_cases h:p x=true
  ·rw[uM p h];have bV:=aav n r;cases aF:(lineOf p r).take n with
   |nil=>rw[yb]
   |cons s w=>rw[aF]at bV;simp[fJ,h,bV]
  ·rw[r1 p h];cases n with
   |zero=>rw[I0,yb]
   |succ n=>simp[fJ,h,aav n r]
theorem UL:∀ (w:aK) (r:List Item) (k m q:Nat),(dA p k r)[m]?=some q->∀ s,w[m]?=some s->∃ x,r[q-k]?=some x/\(fJ p w r)[q-k]?=some { x with sign:=s }
 | [],r,k,m,q,_,s,aH=>by simp at aH
 |s0::w,[],k,m,q,h,_,_=>by simp[dA]at h
 |s0::w,x::r,k,m,q,h,s,aH=>by
  by_cases aq:p x=true
  ·rw[q1 p aq]at h;obtain⟨y,h1,aC⟩:=UL (s0::w) r (k+1) m q h s aH;have a6:=(oE p (gb h)).1;have e:q-k=(q-(k+1))+1:=by omega
   refine⟨y,by rw[e];simpa using h1,?_⟩;rw[e];simpa [fJ,aq]using aC
  ·rw[q2 p aq]at h;cases m with
   |zero =>
    simp only[x3,Option.some.injEq]at h aH;subst h aH;exact⟨x,by simp,by simp[fJ,aq]⟩
   |succ m =>
    simp only[z_]at h aH;obtain⟨y,h1,aC⟩:=UL w r (k+1) m q h s aH;have a6:=(oE p (gb h)).1;have e:q-k=(q-(k+1))+1:=by omega
    refine⟨y,by rw[e];simpa using h1,?_⟩;rw[e];simpa [fJ,aq]using aC
theorem aaw:∀ (w:aK) (r:List Item) (k m q s':Nat),(dA p k r)[m]?=some q->m<w.length->∃ x,r[q-k]?=some x/\(fJ p w r).set (q-k) { x with sign:=s' }=fJ p (w.set m s') r
 | [],r,k,m,q,s',_,hm=>by simp at hm
 |s0::w,[],k,m,q,s',h,_=>by simp[dA]at h
 |s0::w,x::r,k,m,q,s',h,hm=>by
  by_cases aq:p x=true
  ·rw[q1 p aq]at h;obtain⟨y,h1,aC⟩:=aaw (s0::w) r (k+1) m q s' h hm;have a6:=(oE p (gb h)).1;have e:q-k=(q-(k+1))+1:=by omega
   refine⟨y,by rw[e];simpa using h1,?_⟩;rw[e];have mY:(s0::w).set m s'≠[]:=by cases m<;>simp
   cases hw:(s0::w).set m s' with
   |nil=>exact absurd hw mY
   |cons s1 yc =>
    rw[hw]at aC;simp[fJ,aq,aC]
  ·rw[q2 p aq]at h;cases m with
   |zero =>
    simp only[x3,Option.some.injEq]at h;subst h;exact⟨x,by simp,by simp[fJ,aq]⟩
   |succ m =>
    simp only[z_]at h;simp only[eo]at hm;obtain⟨y,h1,aC⟩:=aaw w r (k+1) m q s' h (by omega);have a6:=(oE p (gb h)).1;have e:q-k=(q-(k+1))+1:=by omega
    refine⟨y,by rw[e];simpa using h1,?_⟩;rw[e];simp[fJ,aq,aC]
def h4:Nat->List Item->Nat
 |0,_=>0
 |_+1,[]=>0
 |n+1,x::r=>if p x=true then h4 (n+1) r+1 else h4 n r+1
theorem aax(r:List Item):h4 p 0 r=0:=by cases r<;>rfl
theorem aay:∀ (n:Nat) (r:List Item) (k q:Nat),(dA p k r)[n]?=some q->q+1=k+h4 p (n+1) r
 |n,[],k,q,h=>by simp[dA]at h
 |n,x::r,k,q,h=>by
  by_cases aq:p x=true
  ·rw[q1 p aq]at h;have:=aay n r (k+1) q h;simp only[h4,aq,if_true];omega
  ·rw[q2 p aq]at h;cases n with
   |zero =>
    simp only[x3,Option.some.injEq]at h;subst h;simp[h4,aq,aax]
   |succ n =>
    simp only[z_]at h;have:=aay n r (k+1) q h;simp only[h4,aq,kg,if_false]at this ⊢;omega
theorem aaz:∀ (n:Nat) (r:List Item),h4 p n r<=r.length
 |0,r=>by rw[aax];exact eZ _
 |_+1,[]=>by simp[h4]
 |n+1,x::r=>by
  simp only[h4];split
  ·have:=aaz (n+1) r;simp only[eo];omega
  ·have:=aaz n r;simp only[eo];omega
end
noncomputable def wu (f:Font) (w:aK) (y:Nat×Nat):aK:=match f.subs[y.2]? with
 |some q=>(match q.rule with
  | .one u=>w.set y.1 ((u.lookup (w.getD y.1 0)).getD (w.getD y.1 0))
  |_=>w)
 |none=>w
def jh(f:Font)(acts:List (Nat×Nat))(w:aK):aK:=acts.foldl (wu f) w
theorem aaA(f:Font)(w:aK)(y:Nat×Nat):(wu f w y).length=w.length:=by
 unfold wu;split
 ·split<;>simp
 ·rfl
theorem UW(f:Font):∀ (acts:List (Nat×Nat)) (w:aK),(jh f acts w).length=w.length
 | [],w=>rfl
 |y::r,w=>by
  show(jh f r (wu f w y)).length=_;rw[UW f r,aaA]
def aaB(f:Font)(here:aK)(l:List Item)(y:Nat×Nat):List Item:=match f.subs[y.2]? with
 |some q=>(match q.rule with
  | .one u=>swap u l (here.getD y.1 0)
  |_=>l)
 |none=>l
theorem aqs(f:Font)(sk:Nat){here:aK}{a r:List Item}{w:aK}{y:Nat×Nat}(hh:here=(dA (passed f sk) a.length r).take w.length)(aR:w.length<=(dA (passed f sk) a.length r).length)(aP:y.1<w.length) :
  aaB f here (a++fJ (passed f sk) w r) y=a++fJ (passed f sk) (wu f w y) r:=by
 unfold aaB wu;cases f.subs[y.2]? with
 |none=>rfl
 |some q =>
  simp only[];cases a6:q.rule with
  |one u =>
   simp only[];obtain⟨pl,g8⟩:∃ pl,(dA (passed f sk) a.length r)[y.1]?=some pl:=⟨_,dT (by omega)⟩;have b5:here.getD y.1 0=pl:=by
    rw[hh,Ui,x5 aP,g8];rfl
   rw[b5];obtain⟨s,aH⟩:∃ s,w[y.1]?=some s:=⟨_,dT aP⟩;have aiN:=(oE _ (gb g8)).1;obtain⟨x,mZ,Er⟩:=UL (passed f sk) w r a.length y.1 pl g8 s aH;have kW:(a++fJ (passed f sk) w r)[pl]?=some { x with sign:=s }:=by
    rw[I1 aiN];exact Er
   have hw:w.getD y.1 0=s:=by rw[Ui,aH];rfl
   unfold swap;rw[uL kW,hw];simp only[];cases cF:u.lookup s with
   |none =>
    simp only[Option.getD_none];congr 2
    apply vW;intro j;rw[List.getElem?_set];by_cases bN:y.1=j
    ·subst bN;rw[aH];simp[aP]
    ·simp[bN]
   |some s' =>
    simp only[Option.getD_some];obtain⟨x',aiO,Av⟩:=aaw (passed f sk) w r a.length y.1 pl s' g8 aP;rw[mZ]at aiO;cases aiO;rw[Ut _ kW,List.set_append_right _ _ aiN,← Av]
  |more _=>rfl
  |joined _=>rfl
  |around _=>rfl
theorem aiP(f:Font)(sk:Nat){a r:List Item}{here:aK}:∀ (acts:List (Nat×Nat)) (w:aK),here=(dA (passed f sk) a.length r).take w.length->w.length<=(dA (passed f sk) a.length r).length ->
  (∀ y∈acts,y.1<w.length)->acts.foldl (aaB f here) (a++fJ (passed f sk) w r)=a++fJ (passed f sk) (jh f acts w) r
 | [],w,_,_,_=>rfl
 |y::bO,w,hh,aR,aP=>by
  have aF:=aaA f w y;rw[hs,aqs f sk hh aR (aP y h_)];exact aiP f sk bO (wu f w y) (by rw[aF];exact hh) (by rw[aF];exact aR) fun z hz=>by rw[aF];exact aP z (h2 _ hz)
theorem aaC{α:Type}{p q:α->Bool}:∀ {l:List α},(∀ a∈l,p a=q a)->l.find? p=l.find? q
 | [],_=>rfl
 |a::r,h=>by
  rw[kh,kh,h a h_,aaC fun b ak=>h b (h2 _ ak)]
def q3(a:Around)(past line:aK):Bool:=fits a.here line && (fits a.behind (line.drop a.here.length) && fits a.before past)
def pB(t:List Around)(past line:aK):Option Around:=t.find? fun a=>q3 a past line
structure yd(a:Around):Prop where
 here:1<=a.here.length
 acts:∀ y∈a.acts,y.1<a.here.length
theorem aqt(f:Font)(sk:Nat)(t:List Around)(b_:∀ a∈t,yd a){l:List Item}{i:Nat}{x:Item}(e:l[i]?=some x)(aL:¬ passed f sk x=true) :
  changed f ⟨sk,.around t⟩ l i=(pB t (lineOf (passed f sk) (l.take i)).reverse (lineOf (passed f sk) (l.drop i))).map fun a =>
   (l.take i++fJ (passed f sk) (jh f a.acts ((lineOf (passed f sk) (l.drop i)).take a.here.length)) (l.drop i),i+h4 (passed f sk) a.here.length (l.drop i)):=by
 have hi:=(eF.mp e).1;have hline:(i::after f sk l i).map (signAt l)=lineOf (passed f sk) (l.drop i):=by
  rw[fU,aiK,uL e,qp e,r1 _ aL]
 have U0:i::after f sk l i=dA (passed f sk) i (l.drop i):=by
  rw[Jg,qp e,q2 _ aL]
 have c0:(l.take i).length=i:=by rw[g4];omega
 unfold changed pB;simp only[];have aaD:(t.find? fun a=>match_ l a.here (i::after f sk l i) && (match_ l a.behind ((after f sk l i).drop (a.here.length-1)) && match_ l a.before (before f sk l i))) =
   t.find? fun a=>q3 a (lineOf (passed f sk) (l.take i)).reverse (lineOf (passed f sk) (l.drop i)):=by
  apply aaC;intro a aX;have h1:=(b_ a aX).here;unfold q3;simp only[aan,hline,aqq f sk l (Aa hi),Ab];congr 3
  rw[← hline,fU];obtain⟨m,hm⟩:∃ m,a.here.length=m+1:=⟨a.here.length-1,by omega⟩;rw[hm];simp
 rw[aaD];cases fe:t.find? fun a=>q3 a (lineOf (passed f sk) (l.take i)).reverse (lineOf (passed f sk) (l.drop i))with
 |none=>rfl
 |some a =>
  have bL:=b_ a (vZ fe);have q4:=v5 fe;simp only[q3,jf]at q4;have hlen:=Ep q4.1;have aqu:=Uw (passed f sk) i (l.drop i);have lC:((lineOf (passed f sk) (l.drop i)).take a.here.length).length=a.here.length:=by rw[g4];omega
  simp only[gf,Option.some.injEq,Prod.mk.injEq];rw[U0];constructor
  ·have h:=aiP f sk (a:=l.take i) (r:=l.drop i) (here:=(dA (passed f sk) i (l.drop i)).take a.here.length) a.acts ((lineOf (passed f sk) (l.drop i)).take a.here.length)
    (by rw[lC,c0]) (by rw[lC,c0,aqu];exact hlen) (fun y aP=>by rw[lC];exact bL.acts y aP)
   rw[aav,I2]at h;exact h
  ·have h1:=bL.here
   obtain⟨m,hm⟩:∃ m,a.here.length=m+1:=⟨a.here.length-1,by omega⟩;obtain⟨q,a6⟩:∃ q,(dA (passed f sk) i (l.drop i))[m]?=some q:=⟨_,dT (by omega)⟩;have aF:=aay (passed f sk) m (l.drop i) i q a6;rw[hm,← aF];congr 1
   rw[List.getLastD_eq_getLast?,List.getLast?_eq_getElem?,g4,x5 (by omega)];rw[show min (m+1) (dA (passed f sk) i (l.drop i)).length-1=m by omega,a6];rfl
def h5(f:Font)(sk s:Nat):Bool:=let c:=f.cls.getD s 0
 decide (c≠0) && sk.testBit (c-1)
theorem Jm(f:Font)(sk:Nat)(x:Item):passed f sk x=h5 f sk x.sign:=rfl
def push(f:Font)(sk:Nat)(past:aK)(s:Nat):aK:=if h5 f sk s=true then past else s::past
noncomputable def kk (f:Font) (sk:Nat) (t:List Around):aK->aK->List Item->List Item
 |_,_,[]=>[]
 |past,pend,x::r=>if passed f sk x=true then x::kk f sk t past pend r else match pend with
  |s::w=>{ x with sign:=s }::kk f sk t (push f sk past s) w r
  | []=>match pB t past (x.sign::lineOf (passed f sk) r)with
   |none=>x::kk f sk t (x.sign::past) [] r
   |some a=>match jh f a.acts ((x.sign::lineOf (passed f sk) r).take a.here.length)with
    | []=>x::kk f sk t (x.sign::past) [] r
    |s::w=>{ x with sign:=s }::kk f sk t (push f sk past s) w r
theorem aaE(p:Item->Bool)(a b:List Item):lineOf p (a++b)=lineOf p a++lineOf p b:=by simp[lineOf,r0]
theorem aaF(f:Font)(sk:Nat)(t:List Around):∀ (r:List Item) (past pend:aK),pend.length<=(lineOf (passed f sk) r).length ->
  kk f sk t past pend r=(fJ (passed f sk) pend r).take (h4 (passed f sk) pend.length r) ++
   kk f sk t ((lineOf (passed f sk) ((fJ (passed f sk) pend r).take (h4 (passed f sk) pend.length r))).reverse++past) [] (r.drop (h4 (passed f sk) pend.length r))
 |r,past,[],_=>by simp[aax,lineOf,r0]
 | [],past,s::w,h=>by simp[lineOf,r0]at h
 |x::r,past,s::w,h=>by
  by_cases aq:passed f sk x=true
  ·rw[uM _ aq]at h;have bV:=aaF f sk t r past (s::w) h;have aH:h4 (passed f sk) (w.length+1) (x::r)=h4 (passed f sk) (w.length+1) r+1:=by simp[h4,aq]
   rw[eo]at bV ⊢;rw[aH];simp only[kk,aq,if_true,fJ,List.take_succ_cons,Ac,List.cons_append];rw[bV,uM _ aq]
  ·rw[r1 _ aq]at h;simp only[eo,Nat.add_le_add_iff_right]at h;have bV:=aaF f sk t r (push f sk past s) w h;have aH:h4 (passed f sk) (w.length+1) (x::r)=h4 (passed f sk) w.length r+1:=by simp[h4,aq]
   rw[eo,aH];simp only[kk,aq,kg,if_false,fJ,List.take_succ_cons,Ac,List.cons_append];rw[bV];congr 3
   unfold push;by_cases aL:h5 f sk s=true
   ·rw[bM aL,uM];exact aL
   ·rw[bx aL,r1]
    ·simp
    ·exact aL
theorem aaG(p:Item->Bool):∀ (w:aK) (r:List Item),w.length<=(lineOf p r).length->(fJ p w r).drop (h4 p w.length r)=r.drop (h4 p w.length r)
 | [],r,_=>by rw[yb]
 |s::w,[],h=>by simp[lineOf,r0]at h
 |s::w,x::r,h=>by
  by_cases aq:p x=true
  ·rw[uM _ aq]at h;have bV:=aaG p (s::w) r h;rw[eo]at bV ⊢;simp[h4,aq,fJ,bV]
  ·rw[r1 _ aq]at h;simp only[eo,Nat.add_le_add_iff_right]at h;have bV:=aaG p w r h;rw[eo];simp[h4,aq,fJ,bV]
theorem aqv(f:Font)(sk:Nat)(t:List Around){past:aK}{x:Item}{r:List Item}{a:Around}{s:Nat}{w:aK}(aq:¬ passed f sk x=true)(aX:pB t past (x.sign::lineOf (passed f sk) r)=some a)
  (hw:jh f a.acts ((x.sign::lineOf (passed f sk) r).take a.here.length)=s::w):kk f sk t past [] (x::r)=kk f sk t past (s::w) (x::r):=by
 simp only[kk,aq,kg,if_false,aX,hw]
theorem U3(f:Font)(sk:Nat)(t:List Around)(b_:∀ a∈t,yd a):∀ (fuel:Nat) (l:List Item) (i:Nat),l.length<=4096->l.length<fuel+i ->
  along f ⟨sk,.around t⟩ fuel l i=some (l.take i++kk f sk t (lineOf (passed f sk) (l.take i)).reverse [] (l.drop i))
 |0,l,i,_,hf=>by
  have h:l.length<=i:=by omega
  simp[along,f3 h,oc h,kk]
 |k+1,l,i,aF,hf=>by
  rw[along,bx (by show ¬ 4096<l.length;omega)];cases e:l[i]? with
  |none =>
   have h:l.length<=i:=z9.mp e;simp[f3 h,oc h,kk]
  |some x =>
   have hi:=(eF.mp e).1;have c0:(l.take i).length=i:=by rw[g4];omega
   simp only[];by_cases aL:passed f sk x=true
   ·rw[bM aL,U3 f sk t b_ k l (i+1) aF (by omega),wk e,aaE,qp e];simp[kk,aL,lineOf,r0]
   ·rw[bx aL,aqt f sk t b_ e aL];cases aX:pB t (lineOf (passed f sk) (l.take i)).reverse (lineOf (passed f sk) (l.drop i))with
    |none =>
     simp only[D'];rw[U3 f sk t b_ k l (i+1) aF (by omega),wk e,aaE,qp e];rw[qp e,r1 _ aL]at aX;simp only[kk,aL,kg,if_false,aX];simp[lineOf,r0,aL]
    |some a =>
     simp only[gf];have bL:=b_ a (vZ aX);have q4:=v5 aX;simp only[q3,jf]at q4;have hlen:=Ep q4.1;have q5:(jh f a.acts ((lineOf (passed f sk) (l.drop i)).take a.here.length)).length=a.here.length:=by rw[UW,g4];omega
     have aaH:=aaz (passed f sk) a.here.length (l.drop i);rw[od]at aaH;have yg:=Jl (passed f sk) (jh f a.acts ((lineOf (passed f sk) (l.drop i)).take a.here.length)) (l.drop i);rw[od]at yg;have h1:=bL.here;have pC:1<=h4 (passed f sk) a.here.length (l.drop i):=by
      obtain⟨m,hm⟩:∃ m,a.here.length=m+1:=⟨a.here.length-1,by omega⟩;rw[hm,qp e];simp[h4,aL]
     rw[U3 f sk t b_ k _ _ (by simp only[gC,c0];omega) (by simp only[gC,c0];omega)];have Jo:(l.take i++fJ (passed f sk) (jh f a.acts ((lineOf (passed f sk) (l.drop i)).take a.here.length)) (l.drop i)).take (i+h4 (passed f sk) a.here.length (l.drop i)) =
       l.take i++(fJ (passed f sk) (jh f a.acts ((lineOf (passed f sk) (l.drop i)).take a.here.length)) (l.drop i)).take (h4 (passed f sk) a.here.length (l.drop i)):=by
      rw[List.take_append,c0,f3 (by omega)];congr 2
      omega
     have aqw:(l.take i++fJ (passed f sk) (jh f a.acts ((lineOf (passed f sk) (l.drop i)).take a.here.length)) (l.drop i)).drop (i+h4 (passed f sk) a.here.length (l.drop i)) =
       (l.drop i).drop (h4 (passed f sk) a.here.length (l.drop i)):=by
      rw[List.drop_append,c0,oc (by omega),I3];have:=aaG (passed f sk) (jh f a.acts ((lineOf (passed f sk) (l.drop i)).take a.here.length)) (l.drop i) (by rw[q5];exact hlen);rw[q5]at this;rw[← this];congr 1
      omega
     rw[Jo,aqw,aaE,List.reverse_append,uI];congr 2
     have U4:=aaF f sk t (l.drop i) (lineOf (passed f sk) (l.take i)).reverse (jh f a.acts ((lineOf (passed f sk) (l.drop i)).take a.here.length)) (by rw[q5];exact hlen);rw[q5]at U4;rw[← U4];rw[qp e,r1 _ aL]at aX q5 ⊢;cases hw:jh f a.acts ((x.sign::lineOf (passed f sk) (l.drop (i+1))).take a.here.length)with
     |nil=>rw[hw]at q5
     |cons s w=>rw[aqv f sk t aL aX hw]
noncomputable def ig (f:Font) (sk:Nat) (t:List Around):aK->aK->aK->aK
 |_,_,[]=>[]
 |past,pend,x::r=>match pend with
  |s::w=>s::ig f sk t (push f sk past s) w r
  | []=>match pB t past (x::r)with
   |none=>x::ig f sk t (x::past) [] r
   |some a=>match jh f a.acts ((x::r).take a.here.length)with
    | []=>x::ig f sk t (x::past) [] r
    |s::w=>s::ig f sk t (push f sk past s) w r
theorem Es(f:Font)(sk:Nat)(t:List Around):∀ (l:List Item) (past pend:aK),kk f sk t past pend l=fJ (passed f sk) (ig f sk t past pend (lineOf (passed f sk) l)) l
 | [],past,pend=>by simp[kk,ig,lineOf,r0,fJ]
 |x::r,past,pend=>by
  by_cases aq:passed f sk x=true
  ·rw[uM _ aq];have bV:=Es f sk t r past pend;simp only[kk,aq,if_true];rw[bV];cases h:ig f sk t past pend (lineOf (passed f sk) r)with
   |nil=>rw[yb,yb]
   |cons s w=>simp[fJ,aq]
  ·rw[r1 _ aq];cases pend with
   |cons s w =>
    simp only[kk,aq,kg,if_false,ig,fJ];rw[Es f sk t r]
   |nil =>
    simp only[kk,aq,kg,if_false,ig];cases pB t past (x.sign::lineOf (passed f sk) r)with
    |none =>
     simp only[fJ,aq,kg,if_false];rw[Es f sk t r]
    |some a =>
     simp only[];cases jh f a.acts ((x.sign::lineOf (passed f sk) r).take a.here.length)with
     |nil =>
      simp only[fJ,aq,kg,if_false];rw[Es f sk t r]
     |cons s w =>
      simp only[fJ,aq,kg,if_false];rw[Es f sk t r]
theorem aiQ(f:Font)(sk:Nat)(t:List Around):∀ (pend past line:aK),pend.length<=line.length->ig f sk t past pend line=pend++ig f sk t (pend.foldl (push f sk) past) [] (line.drop pend.length)
 | [],past,line,_=>by simp
 |s::w,past,[],h=>by simp at h
 |s::w,past,x::r,h=>by
  simp only[eo,Nat.add_le_add_iff_right]at h;simp only[ig,List.cons_append,hs,eo,Ac];rw[aiQ f sk t w (push f sk past s) r h]
theorem Jp(f:Font)(sk:Nat)(t:List Around):∀ (line past pend:aK),(ig f sk t past pend line).length=line.length
 | [],_,_=>rfl
 |x::r,past,pend=>by
  cases pend with
  |cons s w=>simp[ig,Jp f sk t r]
  |nil =>
   simp only[ig];cases pB t past (x::r)with
   |none=>simp[Jp f sk t r]
   |some a =>
    simp only[];cases jh f a.acts ((x::r).take a.here.length)with
    |nil=>simp[Jp f sk t r]
    |cons s w=>simp[Jp f sk t r]
theorem aqx(f:Font)(sk:Nat)(t:List Around){past r:aK}{x:Nat}(h:pB t past (x::r)=none):ig f sk t past [] (x::r)=x::ig f sk t (x::past) [] r:=by
 simp only[ig,h]
theorem aqy(f:Font)(sk:Nat)(t:List Around)(b_:∀ a∈t,yd a){past r:aK}{x:Nat}{a:Around}(h:pB t past (x::r)=some a) :
  ig f sk t past [] (x::r)=jh f a.acts ((x::r).take a.here.length)++ig f sk t ((jh f a.acts ((x::r).take a.here.length)).foldl (push f sk) past) [] ((x::r).drop a.here.length):=by
 have bL:=b_ a (vZ h);have q4:=v5 h;simp only[q3,jf]at q4;have hlen:=Ep q4.1;have q5:(jh f a.acts ((x::r).take a.here.length)).length=a.here.length:=by rw[UW,g4];omega
 have h1:=bL.here;have aL:=aiQ f sk t (jh f a.acts ((x::r).take a.here.length)) past (x::r) (by rw[q5];exact hlen);rw[q5]at aL;rw[← aL];cases hw:jh f a.acts ((x::r).take a.here.length)with
 |nil=>rw[hw]at q5
 |cons s w=>simp only[ig,h,hw]
theorem U5(f:Font)(sk:Nat):∀ (l l':List Item) (k:Nat),l.map (fun x=>x.sign)=l'.map (fun x=>x.sign)->dA (passed f sk) k l=dA (passed f sk) k l'
 | [],[],_,_=>rfl
 | [],_::_,_,h=>by simp at h
 |_::_,[],_,h=>by simp at h
 |x::r,y::r',k,h=>by
  simp only[fU,List.cons.injEq]at h;have U6:passed f sk x=passed f sk y:=by rw[Jm,Jm,h.1]
  have bV:=U5 f sk r r' (k+1) h.2;unfold dA;rw[U6,bV]
theorem aiR(p:Item->Bool)(l:List Item):∀ (n i:Nat),(∀ j x,i<=j->j<i+n->l[j]?=some x->p x=true)->dA p i (l.drop i)=dA p (i+n) (l.drop (i+n))
 |0,i,_=>rfl
 |n+1,i,h=>by
  cases e:l[i]? with
  |none =>
   have aF:l.length<=i:=z9.mp e;rw[oc aF,oc (by omega)];rfl
  |some x =>
   rw[qp e,q1 p (h i x (cH _) (by omega) e),aiR p l n (i+1) fun j y h1 aC=>h j y (by omega) (by omega)];have a9:i+1+n=i+(n+1):=by omega
   rw[a9]
def placeAt(f:Font)(r:Rule Sw28.Pos)(l:List Item)(i:Nat):List Item:=(placed f r l i).1
structure Goes(f:Font)(r:Rule Sw28.Pos):Prop where
 same:∀ l i,(placeAt f r l i).map (fun x=>x.sign)=l.map fun x=>x.sign
 on:∀ l i,i<(placed f r l i).2/\∀ j x,i<j->j<(placed f r l i).2->l[j]?=some x->passed f r.skip x=true
theorem aaI(f:Font)(r:Rule Sw28.Pos)(g:Goes f r):∀ (fuel:Nat) (l:List Item) (i:Nat),l.length<fuel+i->placing f r fuel l i=(dA (passed f r.skip) i (l.drop i)).foldl (placeAt f r) l
 |0,l,i,hf=>by
  have h:l.length<=i:=by omega
  simp[placing,oc h,dA]
 |k+1,l,i,hf=>by
  rw[placing];cases e:l[i]? with
  |none =>
   have h:l.length<=i:=z9.mp e;simp[oc h,dA]
  |some x =>
   have hi:=(eF.mp e).1;simp only[];by_cases aL:passed f r.skip x=true
   ·rw[bM aL,aaI f r g k l (i+1) (by omega),qp e,q1 _ aL]
   ·rw[bx aL,qp e,q2 _ aL,hs];have aH:=g.same l i;obtain⟨h1,aC⟩:=g.on l i;have aF:(placeAt f r l i).length=l.length:=by
     have:=congrArg List.length aH;simpa using this
    show placing f r k (placeAt f r l i) (placed f r l i).2=_;rw[aaI f r g k _ _ (by rw[aF];omega)];obtain⟨n,aR⟩:∃ n,(placed f r l i).2=i+1+n:=⟨(placed f r l i).2-(i+1),by omega⟩;rw[aR]at aC ⊢;rw[aiR (passed f r.skip) l n (i+1) fun j y a b c=>aC j y (by omega) (by omega) c];rw[U5 f r.skip ((placeAt f r l i).drop (i+1+n)) (l.drop (i+1+n)) (i+1+n) (by rw[Ab,Ab,aH])]
theorem aaJ(l:List Item)(i:Nat)(h:Item->Item)(hh:∀ x,(h x).sign=x.sign):(at_ l i h).map (fun x=>x.sign)=l.map fun x=>x.sign:=by
 apply vW;intro j;rw[ek,ek,Jf];cases l[j]? with
 |none=>rfl
 |some x =>
  simp only[gf,Option.some.injEq];split
  ·exact hh x
  ·rfl
theorem aaK(m b:List Anchor)(l:List Item)(i p:Nat):(setOn m b l i p).map (fun x=>x.sign)=l.map fun x=>x.sign:=by
 unfold setOn;split
 ·rfl
 ·split
  ·exact aaJ _ _ _ fun _=>rfl
  ·rfl
theorem aqz(f:Font)(sk:Nat)(t:List (Nat×Int×Int×Int)):Goes f ⟨sk,.one t⟩ where
 same:=fun l i=>by
  unfold placeAt placed;simp only[];split
  ·exact aaJ _ _ _ fun _=>rfl
  ·rfl
 on:=fun l i=>by
  unfold placed;simp only[];exact⟨vY i,fun j x a b=>by omega⟩
theorem aqA(f:Font)(sk:Nat)(m b:List Anchor):Goes f ⟨sk,.onBase m b⟩ where
 same:=fun l i=>by
  unfold placeAt placed;simp only[];split
  ·exact aaK _ _ _ _ _
  ·rfl
 on:=fun l i=>by
  unfold placed;simp only[];split<;>exact⟨vY i,fun j x a b=>by simp only[]at b;omega⟩
theorem aqB(f:Font)(sk:Nat)(m b:List Anchor):Goes f ⟨sk,.onMark m b⟩ where
 same:=fun l i=>by
  unfold placeAt placed;simp only[];split
  ·exact aaK _ _ _ _ _
  ·rfl
 on:=fun l i=>by
  unfold placed;simp only[];split<;>exact⟨vY i,fun j x a b=>by simp only[]at b;omega⟩
theorem aqC(f:Font)(sk:Nat)(l:List Item)(i:Nat){j:Nat}{oF:aK}(h:after f sk l i=j::oF):i<j/\∀ k x,i<k->k<j->l[k]?=some x->passed f sk x=true:=by
 rw[Jg]at h;have bN:=oE (passed f sk) (k:=i+1) (l:=l.drop (i+1)) (j:=j) (by rw[h];exact h_);refine⟨by omega,fun k x a b e=>?_⟩;have key:∀ (r:List Item) (o:Nat),dA (passed f sk) o r=j::oF->∀ m y,o+m<j->r[m]?=some y->passed f sk y=true:=by
  intro r;induction r with
  |nil=>intro o h;simp[dA]at h
  |cons z r bV =>
   intro o h m y hm aP;by_cases hz:passed f sk z=true
   ·cases m with
    |zero=>simp only[x3,Option.some.injEq]at aP;rw[← aP];exact hz
    |succ m =>
     rw[q1 _ hz]at h;exact bV (o+1) h m y (by omega) (by simpa using aP)
   ·rw[q2 _ hz]at h;simp only[List.cons.injEq]at h;omega
 exact key (l.drop (i+1)) (i+1) h (k-(i+1)) x (by omega) (by rw[z'];rw[show i+1+(k-(i+1))=k by omega];exact e)
theorem aqD(f:Font)(sk:Nat)(t:List (Nat×Nat×Int)):Goes f ⟨sk,.pair t⟩ where
 same:=fun l i=>by
  unfold placeAt placed;simp only[];split
  ·rfl
  ·split
   ·dsimp only;exact aaJ _ _ _ fun _=>rfl
   ·rfl
 on:=fun l i=>by
  unfold placed;simp only[];split
  ·exact⟨vY i,fun j x a b=>by simp only[]at b;omega⟩
  ·rename_i j oF h;split
   ·exact aqC f sk l i h
   ·exact⟨vY i,fun k x a b=>by simp only[]at b;omega⟩
theorem aaL(f:Font)(r:Rule Sw28.Pos):Goes f r:=by
 obtain⟨sk,r⟩:=r;cases r with
 |one t=>exact aqz f sk t
 |pair t=>exact aqD f sk t
 |onBase m b=>exact aqA f sk m b
 |onMark m b=>exact aqB f sk m b
theorem aqE(f:Font)(r:Rule Sw28.Pos)(l:List Item):placing f r (l.length+1) l 0=(dA (passed f r.skip) 0 l).foldl (placeAt f r) l:=by
 rw[aaI f r (aaL f r) _ _ _ (by omega),List.drop_zero]
theorem Et(f:Font)(r:Rule Sw28.Pos):∀ (oF:aK) (l:List Item),(oF.foldl (placeAt f r) l).map (fun x=>x.sign)=l.map fun x=>x.sign
 | [],l=>rfl
 |j::oF,l=>by rw[hs,Et f r oF,(aaL f r).same]
def Eu:Sub->Prop
 | .one _=>True
 | .more t=>∀ y∈t,y.2≠[]
 | .joined _=>True
 | .around t=>∀ a∈t,yd a
noncomputable def chg (f:Font) (r:Rule Sub) (l:List Item):Option (List Item):=match r.rule with
 | .one t=>some (l.map (oneOf f r.skip t))
 | .more t=>if 4096<(l.flatMap (gV f r.skip t)).length then none else some (l.flatMap (gV f r.skip t))
 | .joined t=>some (jX (passed f r.skip) l (gg t 0 (lineOf (passed f r.skip) l)))
 | .around t=>some (fJ (passed f r.skip) (ig f r.skip t [] [] (lineOf (passed f r.skip) l)) l)
theorem aiS(f:Font)(r:Rule Sub)(l:List Item)(ok:Eu r.rule)(aF:l.length<=4096):along f r (9 * l.length+9) l 0=chg f r l:=by
 obtain⟨sk,b⟩:=r;cases b with
 |one t =>
  rw[Uu f sk t _ _ _ aF (by omega)];simp[chg]
 |more t =>
  rw[Uv f sk t ok _ _ _ (eZ _) (by omega)];simp[chg]
 |joined t =>
  rw[UJ f sk t _ _ _ aF (by omega),Jj];simp[chg]
 |around t =>
  rw[U3 f sk t ok _ _ _ aF (by omega),Es];simp[chg,lineOf,r0]
theorem Ew(p:Item->Bool):∀ (l:List Item) (st:List (Option Nat)),(jX p l st).length<=l.length
 | [],_=>by simp[jX]
 |x::r,st=>by
  simp only[jX];split
  ·have:=Ew p r st;simp only[eo];omega
  ·split
   ·rename_i s lB;have:=Ew p r lB;simp only[eo];omega
   ·rename_i lB;have:=Ew p r lB;simp only[eo];omega
   ·have:=Ew p r [];simp only[eo];omega
theorem aaM{f:Font}{r:Rule Sub}{l m:List Item}(aF:l.length<=4096)(h:chg f r l=some m):m.length<=4096:=by
 unfold chg at h;split at h
 ·cases h;simpa using aF
 ·split at h
  ·cases h
  ·cases h;omega
 ·cases h;have:=Ew (passed f r.skip) l;rename_i t _;exact jg (this _) aF
 ·cases h;rw[Jl];exact aF
def nM(f:Font):List (Rule Sub)->List Item->Option (List Item)
 | [],l=>some l
 |r::rs,l=>(chg f r l).bind fun m=>nM f rs m
theorem aiT(f:Font)(ok:∀ r∈f.subs,Eu r.rule):∀ (ks:aK) (l:List Item),l.length<=4096->(∀ k∈ks,k<f.subs.length) ->
  changedBy f ks l=nM f (ks.filterMap fun k=>f.subs[k]?) l
 | [],l,_,_=>rfl
 |k::ks,l,aF,aN=>by
  obtain⟨r,aA⟩:∃ r,f.subs[k]?=some r:=⟨_,dT (aN k h_)⟩;rw[changedBy,Ad,aA];simp only[];rw[aiS f r l (ok r (gb aA)) aF,nM];cases h:chg f r l with
  |none=>rfl
  |some m =>
   simp only[d7];exact aiT f ok ks m (aaM aF h) fun j bN=>aN j (h2 _ bN)
theorem aiU{f:Font}:∀ {rs:List (Rule Sub)} {l m:List Item},l.length<=4096->nM f rs l=some m->m.length<=4096
 | [],l,m,aF,h=>by cases h;exact aF
 |r::rs,l,m,aF,h=>by
  rw[nM]at h;cases h1:chg f r l with
  |none=>rw[h1]at h;cases h
  |some k =>
   rw[h1]at h;exact aiU (aaM aF h1) h
noncomputable def wz (f:Font):List (Rule Sw28.Pos)->List Item->List Item
 | [],l=>l
 |r::rs,l=>wz f rs ((dA (passed f r.skip) 0 l).foldl (placeAt f r) l)
theorem aaN(f:Font):∀ (ks:aK) (l:List Item),(ks.foldl (fun l k=>match f.poss[k]? with
  |some r=>placing f r (l.length+1) l 0
  |none=>l) l)=wz f (ks.filterMap fun k=>f.poss[k]?) l
 | [],l=>rfl
 |k::ks,l=>by
  rw[hs,Ad];cases f.poss[k]? with
  |none=>exact aaN f ks l
  |some r =>
   simp only[];rw[aaN f ks,aqE];rfl
def wide(f:Font)(l:List Item):List Item:=l.map fun x=>{ x with advance:=(f.advance.getD x.sign 0:Nat) }
theorem aqF(f:Font)(ok:∀ r∈f.subs,Eu r.rule)(tags cs:aK)(aV:cs.length<=4096) :
  set_ f tags cs=(nM f ((asked f.subs.length ((f.features.filter fun x=>tags.contains x.1).map fun x=>x.2.1)).filterMap fun k=>f.subs[k]?) (begun f cs)).map fun l =>
   wz f ((asked f.poss.length ((f.features.filter fun x=>tags.contains x.1).map fun x=>x.2.2)).filterMap fun k=>f.poss[k]?) (wide f l):=by
 unfold set_;simp only[];have ak:(begun f cs).length<=4096:=by simpa [begun]using aV
 rw[aiT f ok _ _ ak fun k aN=>by
  unfold asked at aN;exact IW.mp (rT.mp aN).1]
 cases h:nM f _ (begun f cs)with
 |none=>rfl
 |some l =>
  have:=aiU ak h;simp only[d7,gf];rw[bx (by show ¬ 4096<l.length;omega)];unfold placedBy;exact congrArg some (aaN f _ _)
def keyOf(e:ib):aK:=e.1::e.2.1
theorem aiV:∀ (w r:aK),fits (w.map fun s=>[s]) r=w.isPrefixOf r
 | [],r=>by simp[fits,List.isPrefixOf]
 |_::_,[]=>by simp[fits,List.isPrefixOf]
 |s::w,x::r=>by
  simp only[fU,fits,List.isPrefixOf,aiV w r];congr 1
  rw[List.contains_cons,List.contains_nil,Bool.or_false,Ae];simp;exact eq_comm
theorem aqG(t:List ib)(x:Nat)(r:aK):nJ t x r=t.find? fun e=>(keyOf e).isPrefixOf (x::r):=by
 unfold nJ;apply aaC;intro e _;rw[aiV];rfl
def oG(ds:List (aK×Nat))(e:ib):List (aK×Nat):=if(ds.any fun d=>d.1 == keyOf e)=true then ds else ds++[(keyOf e,e.2.2)]
noncomputable def jH (t:List ib):List (aK×Nat):=t.foldl oG []
theorem aqH(q:aK->Bool)(ds:List (aK×Nat))(e:ib):(oG ds e).find? (fun d=>q d.1)=(ds.find? fun d=>q d.1).or (if q (keyOf e)=true then some (keyOf e,e.2.2)else none):=by
 unfold oG;split
 ·rename_i h;obtain⟨d,hd,he⟩:=sU.mp h;have he:=eq_of_beq he;cases hf:ds.find? fun d=>q d.1 with
  |some z=>rfl
  |none =>
   have:=Af.mp hf d hd;rw[he]at this;simp[this]
 ·rw[List.find?_append];congr 1
  rw[kh,List.find?_nil];split<;>simp_all
theorem aiW(q:aK->Bool):∀ (t:List ib) (ds:List (aK×Nat)),(t.foldl oG ds).find? (fun d=>q d.1)=(ds.find? fun d=>q d.1).or ((t.find? fun e=>q (keyOf e)).map fun e=>(keyOf e,e.2.2))
 | [],ds=>by simp
 |e::t,ds=>by
  rw[hs,aiW q t,aqH,Option.or_assoc,kh];congr 1
  split
  ·rename_i h;simp[h]
  ·rename_i h;simp[h]
theorem aqI(t:List ib)(x:Nat)(r:aK):(jH t).find? (fun d=>d.1.isPrefixOf (x::r))=(nJ t x r).map fun e=>(keyOf e,e.2.2):=by
 rw[aqG,jH,aiW (fun k=>k.isPrefixOf (x::r))];simp
theorem aaO(t:List ib)(e:ib):jH (t++[e])=oG (jH t) e:=by simp[jH]
structure r2(ds:List (aK×Nat))(L:Nat->aK):Prop where
 nd:(ds.map fun d=>d.1).Nodup
 len:∀ a n,n∈L a↔∃ d∈ds,d.1.head?=some a/\d.1.length=n
 ne:∀ d∈ds,d.1≠[]
def qq(L:Nat->aK)(a n:Nat):Nat->aK:=fun b=>if b=a then(if n∈L a then L a else L a++[n])else L b
theorem r2.tell{ds:List (aK×Nat)}{L:Nat->aK}(h:r2 ds L)(e:ib)(aR:¬ (ds.any fun d=>d.1 == keyOf e)=true) :
  r2 (ds++[(keyOf e,e.2.2)]) (qq L e.1 (keyOf e).length) where
 nd:=by
  rw[oh,List.nodup_append];refine⟨h.nd,by simp,fun a aX b ak=>?_⟩;simp only[fU,v7,g5]at ak;subst ak;rintro rfl;obtain⟨d,hd,aN⟩:=g6.mp aX;exact aR (sU.mpr ⟨d,hd,by simp[aN]⟩)
 len:=fun a n=>by
  unfold qq;by_cases aX:a=e.1
  ·subst aX;rw[bM rfl];constructor
   ·intro hm;by_cases aV:(keyOf e).length∈L e.1
    ·rw[bM aV]at hm;obtain⟨d,hd,h1,aC⟩:=(h.len _ _).mp hm;exact⟨d,uJ _ hd,h1,aC⟩
    ·rw[bx aV]at hm;rcases pe.mp hm with hm|hm
     ·obtain⟨d,hd,h1,aC⟩:=(h.len _ _).mp hm;exact⟨d,uJ _ hd,h1,aC⟩
     ·exact⟨(keyOf e,e.2.2),by simp,Z,(g5.mp hm).symm⟩
   ·rintro⟨d,hd,h1,aC⟩;rcases pe.mp hd with hd|hd
    ·have hm:=(h.len e.1 n).mpr ⟨d,hd,h1,aC⟩
     by_cases aV:(keyOf e).length∈L e.1
     ·rw[bM aV];exact hm
     ·rw[bx aV];exact uJ _ hm
    ·obtain rfl:=g5.mp hd;by_cases aV:(keyOf e).length∈L e.1
     ·rw[bM aV,← aC];exact aV
     ·rw[bx aV,← aC];simp
  ·rw[bx aX,h.len];constructor
   ·rintro⟨d,hd,h1,aC⟩;exact⟨d,uJ _ hd,h1,aC⟩
   ·rintro⟨d,hd,h1,aC⟩;rcases pe.mp hd with hd|hd
    ·exact⟨d,hd,h1,aC⟩
    ·obtain rfl:=g5.mp hd;simp only[keyOf,List.head?_cons,Option.some.injEq]at h1;exact absurd h1.symm aX
 ne:=fun d hd=>by
  rcases pe.mp hd with hd|hd
  ·exact h.ne d hd
  ·obtain rfl:=g5.mp hd;simp[keyOf]
theorem r2.nil:r2 [] (fun _=>[]):=⟨List.nodup_nil,fun a n=>by simp,fun d hd=>by cases hd⟩
def uN(ds:List (aK×Nat))(cur:aK)(n:Nat):Option Nat:=ds.findIdx? fun d=>d.1 == cur.take n
def gD(ds:List (aK×Nat))(cur:aK)(best:Option Nat)(n:Nat):Option Nat:=match uN ds cur n with
 |none=>best
 |some m=>match best with
  |none=>some m
  |some b=>if m<b then some m else some b
def bestOf(ds:List (aK×Nat))(cur:aK)(ns:aK):Option Nat:=ns.foldl (gD ds cur) none
theorem aiX(ds:List (aK×Nat))(cur:aK):∀ (ns:aK) (init:Option Nat),
  (∀ n∈ns,∀ m,uN ds cur n=some m->∃ b,ns.foldl (gD ds cur) init=some b/\b<=m) /\
  (∀ b,ns.foldl (gD ds cur) init=some b->init=some b\/∃ n∈ns,uN ds cur n=some b) /\
  (∀ i,init=some i->∃ b,ns.foldl (gD ds cur) init=some b/\b<=i)
 | [],init=>⟨fun n aR=>(by cases aR),fun b h=>.inl h,fun i h=>⟨i,h,cH _⟩⟩
 |n::ns,init=>by
  obtain⟨i1,i2,i3⟩:=aiX ds cur ns (gD ds cur init n);refine⟨fun k aN m hm=>?_,fun b ak=>?_,fun i hi=>?_⟩
  ·rw[hs];rcases gR.mp aN with rfl|aN
   ·have:∃ c,gD ds cur init k=some c/\c<=m:=by
     unfold gD;rw[hm];cases init with
     |none=>exact⟨m,Z,cH _⟩
     |some b =>
      simp only[];split
      ·exact⟨m,Z,cH _⟩
      ·exact⟨b,Z,by omega⟩
    obtain⟨c,aV,Jq⟩:=this;obtain⟨b,ak,aqJ⟩:=i3 c aV;exact⟨b,ak,by omega⟩
   ·exact i1 k aN m hm
  ·rw[hs]at ak;rcases i2 b ak with h|⟨k,aN,hf⟩
   ·unfold gD at h;cases hf:uN ds cur n with
    |none=>rw[hf]at h;exact .inl h
    |some m =>
     rw[hf]at h;cases init with
     |none=>exact .inr ⟨n,h_,by rw[hf];exact h⟩
     |some c =>
      simp only[]at h;split at h
      ·exact .inr ⟨n,h_,by rw[hf];exact h⟩
      ·exact .inl h
   ·exact .inr ⟨k,h2 _ aN,hf⟩
  ·rw[hs];have:∃ c,gD ds cur init n=some c/\c<=i:=by
    unfold gD;subst hi;cases uN ds cur n with
    |none=>exact⟨i,Z,cH _⟩
    |some m =>
     simp only[];split
     ·exact⟨m,Z,by omega⟩
     ·exact⟨i,Z,cH _⟩
   obtain⟨c,aV,aG2⟩:=this;obtain⟨b,ak,aqJ⟩:=i3 c aV;exact⟨b,ak,by omega⟩
theorem aaP{α:Type}{l:List α}{p:α->Bool}{m:Nat}(h:l.findIdx? p=some m):(∃ x,l[m]?=some x/\p x=true)/\∀ j x,j<m->l[j]?=some x->p x=false:=by
 obtain⟨hm,aL,c0⟩:=List.findIdx?_eq_some_iff_getElem.mp h;refine⟨⟨l[m],dT hm,aL⟩,fun j x bN aq=>?_⟩;obtain⟨aG3,rfl⟩:=eF.mp aq;have:=c0 j bN;simpa using this
theorem aqK{ds:List (aK×Nat)}{L:Nat->aK}(h:r2 ds L)(x:Nat)(r:aK):bestOf ds (x::r) (L x)=ds.findIdx? fun d=>d.1.isPrefixOf (x::r):=by
 obtain⟨f1,f2,_⟩:=aiX ds (x::r) (L x) none;have aiY:∀ n b,uN ds (x::r) n=some b->∃ d,ds[b]?=some d/\d.1.isPrefixOf (x::r)=true:=fun n b ak=>by
  obtain⟨⟨d,hd,he⟩,_⟩:=aaP ak;refine⟨d,hd,?_⟩;rw[eq_of_beq he,List.isPrefixOf_iff_prefix];exact List.take_prefix _ _
 cases hm:ds.findIdx? fun d=>d.1.isPrefixOf (x::r)with
 |none =>
  cases ak:bestOf ds (x::r) (L x)with
  |none=>rfl
  |some b =>
   rcases f2 b ak with z|⟨n,_,hf⟩
   ·cases z
   ·obtain⟨d,hd,aL⟩:=aiY n b hf;have:=List.findIdx?_eq_none_iff.mp hm d (gb hd);rw[aL]at this;cases this
 |some m =>
  obtain⟨⟨d,hd,aL⟩,aqL⟩:=aaP hm;have Aw:=gb hd;have uO:=List.isPrefixOf_iff_prefix.mp aL;have aqM:d.1.head?=some x:=by
   cases aiZ:d.1 with
   |nil=>exact absurd aiZ (h.ne d Aw)
   |cons a k =>
    rw[aiZ]at uO;have:=(List.cons_prefix_cons.mp uO).1;rw[this];rfl
  have aR:d.1.length∈L x:=(h.len x _).mpr ⟨d,Aw,aqM,rfl⟩;have aqN:(x::r).take d.1.length=d.1:=(List.prefix_iff_eq_take.mp uO).symm;have hf:uN ds (x::r) d.1.length=some m:=by
   unfold uN;rw[aqN];have Ex:=(eF.mp hd).1;refine List.findIdx?_eq_some_iff_getElem.mpr ⟨Ex,?_,fun j bN=>?_⟩
   ·have:=(eF.mp hd).2
    simp[this]
   ·simp only[Bool.not_eq_true,beq_eq_false_iff_ne,ne_eq];intro e;have h1:(ds.map fun d=>d.1)[j]?=some d.1:=by
     rw[ek,dT (by omega)];simp[e]
    have aC:(ds.map fun d=>d.1)[m]?=some d.1:=by
     rw[ek,hd];rfl
    have bI:j<(ds.map fun d=>d.1).length:=by rw[ey];omega
    have dz:=(List.getElem?_inj bI h.nd).mp (h1.trans aC.symm);omega
  obtain⟨b,ak,aG4⟩:=f1 _ aR m hf;have:b=m:=by
   rcases f2 b ak with z|⟨n,_,Jr⟩
   ·cases z
   ·obtain⟨d',lD,uP⟩:=aiY n b Jr;by_cases c0:b<m
    ·have:=aqL b d' c0 lD
     rw[uP]at this;cases this
    ·omega
  rw[← this];exact ak
theorem ai0{α:Type}(p:α->Bool):∀ l:List α,(l.findIdx? p).bind (fun m=>l[m]?)=l.find? p
 | []=>rfl
 |a::l=>by
  rw[List.findIdx?_cons,kh];cases h:p a with
  |true=>simp
  |false =>
   simp only[kg,if_false];rw[← ai0 p l];cases l.findIdx? p<;>simp
theorem aqO{t:List ib}{L:Nat->aK}(h:r2 (jH t) L)(x:Nat)(r:aK) :
  (bestOf (jH t) (x::r) (L x)).bind (fun m=>(jH t)[m]?)=(nJ t x r).map fun e=>(keyOf e,e.2.2):=by
 rw[aqK h,ai0,aqI]
theorem ai1:∀ (a b:List (aK)) (l:aK),fits (a++b) l=(fits a l && fits b (l.drop a.length))
 | [],b,l=>by simp[fits]
 |s::a,b,[]=>by simp[fits]
 |s::a,b,x::xs=>by simp[fits,ai1 a b xs,Bool.and_assoc]
theorem aqP(a:Around)(past line:aK):q3 a past line=(fits (a.here++a.behind) line && fits a.before past):=by
 unfold q3;rw[ai1,Bool.and_assoc]
def qs(ss:List (aK))(l:aK)(d:Nat):Bool:=match ss[d]? with
 |none=>true
 |some s=>match l[d]? with
  |none=>false
  |some x=>s.contains x
theorem ai2:∀ (ss:List (aK)) (l:aK),fits ss l=true↔∀ d,qs ss l d=true
 | [],l=>by simp[fits,qs]
 |s::r,[]=>by
  simp only[fits,kg,false_iff];intro h;have:=h 0;simp[qs]at this
 |s::r,x::xs=>by
  simp only[fits,jf,ai2 r xs];constructor
  ·rintro⟨h1,aC⟩ d;cases d with
   |zero=>simpa [qs]using h1
   |succ d=>simpa [qs]using aC d
  ·intro h;refine⟨by simpa [qs]using h 0,fun d=>by simpa [qs]using h (d+1)⟩
theorem aaQ(b k m:Nat):(b ||| 2 ^ k).testBit m=(b.testBit m || decide (k=m)):=by
 rw[Nat.testBit_or,Nat.testBit_two_pow]
def freeOf(rows:List (List (aK)))(d:Nat):Nat:=(rows.zipIdx).foldl (fun b y=>if y.1.length<=d then b ||| 2 ^ y.2 else b) 0
theorem ai3(d:Nat):∀ (rows:List (List (aK))) (k b m:Nat),((rows.zipIdx k).foldl (fun b y=>if y.1.length<=d then b ||| 2 ^ y.2 else b) b).testBit m =
  (b.testBit m || (decide (k<=m) && (rows[m-k]?).any fun ss=>decide (ss.length<=d)))
 | [],k,b,m=>by simp
 |ss::rows,k,b,m=>by
  rw[x6,hs,ai3 d rows (k+1)];by_cases hm:k=m
  ·subst hm;have h1:decide (k+1<=k)=false:=by simp
   rw[h1];simp only[Bool.false_and,Bool.or_false,Nat.sub_self,x3,Option.any_some,cH,decide_true,xZ];split
   ·rename_i h;rw[aaQ];simp[h]
   ·rename_i h;simp[h]
  ·have ak:(if ss.length<=d then b ||| 2 ^ k else b).testBit m=b.testBit m:=by
    split
    ·rw[aaQ];simp[hm]
    ·rfl
   simp only[]at ak ⊢;rw[ak];congr 1
   by_cases aN:k<=m
   ·have e:m-k=(m-(k+1))+1:=by omega
    have h1:decide (k+1<=m)=true:=by simp;omega
    have aC:decide (k<=m)=true:=by simp;omega
    rw[h1,aC,e,z_]
   ·have h1:decide (k+1<=m)=false:=by simp;omega
    have aC:decide (k<=m)=false:=by simp;omega
    rw[h1,aC];rfl
theorem ai4(rows:List (List (aK)))(d m:Nat):(freeOf rows d).testBit m=(rows[m]?).any fun ss=>decide (ss.length<=d):=by
 unfold freeOf;rw[ai3];simp
def r3(A:List (Nat×Nat))(s b:Nat):List (Nat×Nat):=if(A.any fun y=>decide (y.1=s))=true then A.map (fun y=>if y.1=s then(y.1,b)else y)else A++[(s,b)]
def pD(A:List (Nat×Nat))(s:Nat):Option Nat:=(A.find? fun y=>decide (y.1=s)).map fun y=>y.2
theorem aaR(s b j:Nat):∀ A:List (Nat×Nat),pD (A.map fun y=>if y.1=s then(y.1,b)else y) j=(pD A j).map fun x=>if j=s then b else x
 | []=>rfl
 |y::A=>by
  unfold pD at *;rw[fU,kh,kh];by_cases aP:y.1=s
  ·rw[bM aP];by_cases bN:y.1=j
   ·subst bN;simp[aP]
   ·simp only[bN,decide_false];exact aaR s b j A
  ·rw[bx aP];by_cases bN:y.1=j
   ·have:¬ j=s:=fun z=>aP (bN.trans z)
    simp[bN,this]
   ·simp only[bN,decide_false];exact aaR s b j A
theorem aqQ(A:List (Nat×Nat))(s b j:Nat):pD (r3 A s b) j=if j=s then some b else pD A j:=by
 unfold r3;split
 ·rename_i h;rw[aaR];by_cases bN:j=s
  ·subst bN;rw[bM rfl];have:∃ x,pD A j=some x:=by
    unfold pD;obtain⟨y,aP,aN⟩:=sU.mp h;cases hf:A.find? fun y=>decide (y.1=j)with
    |none=>exact absurd aN (by have:=Af.mp hf y aP;simpa using this)
    |some z=>exact⟨z.2,Z⟩
   obtain⟨x,aq⟩:=this;simp[aq]
  ·rw[bx bN];cases pD A j<;>simp[bN]
 ·rename_i h;unfold pD;rw[List.find?_append];by_cases bN:j=s
  ·subst bN;rw[bM rfl];have:A.find? (fun y=>decide (y.1=j))=none:=by
    rw[Af];intro y aP aN;exact h (sU.mpr ⟨y,aP,aN⟩)
   rw[this];simp
  ·rw[bx bN];cases A.find? (fun y=>decide (y.1=j))with
   |some z=>rfl
   |none =>
    have:¬ s=j:=fun z=>bN z.symm;simp[this]
def ji(A:List (Nat×Nat))(fr s:Nat):Nat:=(pD A s).getD fr
def qt(fr k:Nat)(A:List (Nat×Nat))(ss:aK):List (Nat×Nat):=ss.foldl (fun A s=>r3 A s (ji A fr s ||| 2 ^ k)) A
theorem ai5(fr k:Nat):∀ (ss:aK) (A:List (Nat×Nat)) (s m:Nat),(ji (qt fr k A ss) fr s).testBit m=((ji A fr s).testBit m || (decide (k=m) && ss.contains s))
 | [],A,s,m=>by simp[qt]
 |x::ss,A,s,m=>by
  show(ji (qt fr k (r3 A x (ji A fr x ||| 2 ^ k)) ss) fr s).testBit m=_;rw[ai5 fr k ss];have h1:ji (r3 A x (ji A fr x ||| 2 ^ k)) fr s=if s=x then ji A fr x ||| 2 ^ k else ji A fr s:=by
   unfold ji;rw[aqQ];split<;>rfl
  rw[h1];by_cases aH:s=x
  ·subst aH;rw[bM rfl,aaQ];simp only[List.contains_cons,beq_self_eq_true,Bool.true_or,Bool.and_true];cases (ji A fr s).testBit m<;>cases decide (k=m)<;>simp
  ·rw[bx aH];have:(s == x)=false:=by simp[aH]
   rw[List.contains_cons,this,Bool.false_or]
def r4(fr d:Nat)(A:List (Nat×Nat))(y:List (aK)×Nat):List (Nat×Nat):=if d<y.1.length then qt fr y.2 A (y.1.getD d [])else A
def U7(rows:List (List (aK)))(d:Nat):List (Nat×Nat):=(rows.zipIdx).foldl (r4 (freeOf rows d) d) []
theorem ai6(fr d:Nat):∀ (rows:List (List (aK))) (k:Nat) (A:List (Nat×Nat)) (s m:Nat),(ji ((rows.zipIdx k).foldl (r4 fr d) A) fr s).testBit m =
  ((ji A fr s).testBit m || (decide (k<=m) && (rows[m-k]?).any fun ss=>(ss[d]?).any fun st=>st.contains s))
 | [],k,A,s,m=>by simp
 |ss::rows,k,A,s,m=>by
  rw[x6,hs,ai6 fr d rows (k+1)];have h0:(ji (r4 fr d A (ss,k)) fr s).testBit m=((ji A fr s).testBit m || (decide (k=m) && (ss[d]?).any fun st=>st.contains s)):=by
   unfold r4;by_cases hd:d<ss.length
   ·simp only[bM hd];rw[ai5,Ui,dT hd];rfl
   ·simp only[bx hd];rw[qZ (by omega)];simp
  rw[h0,Bool.or_assoc];congr 1
  by_cases hm:k=m
  ·subst hm;have h1:decide (k+1<=k)=false:=by simp
   simp[h1]
  ·by_cases aN:k<=m
   ·have e:m-k=(m-(k+1))+1:=by omega
    have h1:decide (k+1<=m)=true:=by simp;omega
    have aC:decide (k<=m)=true:=by simp;omega
    have bI:decide (k=m)=false:=by simp[hm]
    rw[h1,aC,bI,e,z_];simp
   ·have h1:decide (k+1<=m)=false:=by simp;omega
    have aC:decide (k<=m)=false:=by simp;omega
    have bI:decide (k=m)=false:=by simp[hm]
    rw[h1,aC,bI];rfl
theorem aqR(rows:List (List (aK)))(d s m:Nat):(ji (U7 rows d) (freeOf rows d) s).testBit m=((rows[m]?).any fun ss=>decide (ss.length<=d) || (ss[d]?).any fun st=>st.contains s):=by
 unfold U7;rw[ai6];have:ji [] (freeOf rows d) s=freeOf rows d:=rfl;rw[this,ai4];simp only[eZ,decide_true,xZ,Nat.sub_zero];cases rows[m]?<;>simp
def Js(rows:List (List (aK)))(d:Nat)(x:Option Nat):Nat:=match x with
 |none=>freeOf rows d
 |some s=>ji (U7 rows d) (freeOf rows d) s
theorem aqS(rows:List (List (aK)))(l:aK)(d m:Nat):(Js rows d l[d]?).testBit m=(rows[m]?).any fun ss=>qs ss l d:=by
 unfold Js;cases aF:l[d]? with
 |none =>
  simp only[];rw[ai4];congr 1
  funext ss
  unfold qs;rw[aF];by_cases h:ss.length<=d
  ·rw[qZ h];simp[h]
  ·rw[dT (by omega)];simp[h]
 |some x =>
  simp only[];rw[aqR];congr 1
  funext ss
  unfold qs;rw[aF];by_cases h:ss.length<=d
  ·rw[qZ h];simp[h]
  ·rw[dT (by omega)];simp[h]
def lY(rows:List (List (aK)))(l:aK)(n b:Nat):Nat:=(List.range n).foldl (fun b d=>b &&& Js rows d l[d]?) b
theorem Jt(rows:List (List (aK)))(l:aK)(n b:Nat):lY rows l (n+1) b=lY rows l n b &&& Js rows n l[n]?:=by
 unfold lY;rw[p7,oo];rfl
theorem aaS(rows:List (List (aK)))(l:aK)(m:Nat):∀ (n b:Nat),(lY rows l n b).testBit m=(b.testBit m && (List.range n).all fun d=>(rows[m]?).any fun ss=>qs ss l d)
 |0,b=>by simp[lY]
 |n+1,b=>by
  rw[Jt,Nat.testBit_and,aaS rows l m n,aqS,p7,List.all_append,Bool.and_assoc];simp
theorem ai7(rows:List (List (aK)))(l:aK):∀ n,lY rows l n 0=0
 |0=>rfl
 |n+1=>by rw[Jt,ai7 rows l n,Nat.zero_and]
theorem aqT(rows:List (List (aK)))(l:aK){j n b:Nat}(bN:j<=n)(h:lY rows l j b=0):lY rows l n b=0:=by
 obtain⟨k,rfl⟩:∃ k,n=j+k:=⟨n-j,by omega⟩;induction k with
 |zero=>exact h
 |succ k bV=>rw[← Nat.add_assoc,Jt,bV (by omega),Nat.zero_and]
theorem aqU{ss:List (aK)}{l:aK}{d:Nat}(h:ss.length<=d):qs ss l d=true:=by
 unfold qs;rw[qZ h]
theorem ai8{ss:List (aK)}{l:aK}{n:Nat}(aR:ss.length<=n):((List.range n).all fun d=>qs ss l d)=fits ss l:=by
 rw[Ae,ai2,rU];constructor
 ·intro h d;by_cases hd:d<n
  ·exact h d (IW.mpr hd)
  ·exact aqU (by omega)
 ·intro h d _;exact h d
theorem aqV{t:List Around}{line past:aK}{n1 n2:Nat}(h1:∀ a∈t,(a.here++a.behind).length<=n1)(aC:∀ a∈t,a.before.length<=n2)(m:Nat) :
  (lY (t.map fun a=>a.before) past n2 (lY (t.map fun a=>a.here++a.behind) line n1 (2 ^ t.length-1))).testBit m=(t[m]?).any fun a=>q3 a past line:=by
 rw[aaS,aaS,Nat.testBit_two_pow_sub_one];simp only[ek];cases b_:t[m]? with
 |none =>
  have:t.length<=m:=z9.mp b_;have h:decide (m<t.length)=false:=by simp;omega
  simp[h]
 |some a =>
  obtain⟨hm,aX⟩:=eF.mp b_;have uQ:a∈t:=gb b_;have h:decide (m<t.length)=true:=by simp;omega
  simp only[h,xZ,gf,Option.any_some];rw[ai8 (h1 a uQ),ai8 (aC a uQ),aqP]
theorem ai9:∀ (m b:Nat),b.testBit m=true->(∀ j,j<m->b.testBit j=false)->(b &&& (b-1))+2 ^ m=b
 |0,b,h,_=>by
  rw[Nat.testBit_zero]at h;have ak:b % 2=1:=by simpa using h
  have bF:(b &&& (b-1)) / 2=b / 2 &&& (b-1) / 2:=Nat.and_div_two;have a9:(b-1) / 2=b / 2:=by omega
  rw[a9,Nat.and_self]at bF;have o:=@Nat.and_mod_two_eq_one b (b-1);rw[Nat.pow_zero];omega
 |m+1,b,h,aF=>by
  have h0:=aF 0 (by omega);rw[Nat.testBit_zero]at h0;have ak:b % 2=0:=by
   have:¬ b % 2=1:=by simpa using h0
   omega
  have U0:b≠0:=by
   rintro rfl;simp at h
  rw[Nat.testBit_succ]at h;have bV:=ai9 m (b / 2) h fun j bN=>by
   have:=aF (j+1) (by omega)
   rwa [Nat.testBit_succ]at this
  have bF:(b &&& (b-1)) / 2=b / 2 &&& (b-1) / 2:=Nat.and_div_two;have a9:(b-1) / 2=b / 2-1:=by omega
  rw[a9]at bF;have o:=@Nat.and_mod_two_eq_one b (b-1);rw[Nat.pow_succ];omega
theorem aqW:∀ (b:Nat),b≠0->∃ m,b.testBit m=true/\∀ j,j<m->b.testBit j=false:=by
 intro b;induction b using Nat.strongRecOn with
 |_ b bV =>
  intro ak;by_cases h:b % 2=1
  ·exact⟨0,by rw[Nat.testBit_zero];simpa using h,fun j bN=>by omega⟩
  ·obtain⟨m,h1,aC⟩:=bV (b / 2) (by omega) (by omega);refine⟨m+1,by rw[Nat.testBit_succ];exact h1,fun j bN=>?_⟩;cases j with
   |zero=>rw[Nat.testBit_zero];simpa using h
   |succ j=>rw[Nat.testBit_succ];exact aC j (by omega)
theorem ai_{α:Type}{q:α->Bool}:∀ {l:List α} {m:Nat} {x:α},l[m]?=some x->q x=true->(∀ j y,j<m->l[j]?=some y->q y=false)->l.find? q=some x
 | [],m,x,h,_,_=>by simp at h
 |a::l,0,x,h,a6,_=>by
  simp only[x3,Option.some.injEq]at h;subst h;simp[kh,a6]
 |a::l,m+1,x,h,a6,aF=>by
  have aX:=aF 0 a (by omega) rfl;rw[kh,aX];exact ai_ (by simpa using h) a6 fun j y bN aP=>aF (j+1) y (by omega) (by simpa using aP)
theorem ai'{t:List Around}{line past:aK}{b:Nat}(ak:∀ m,b.testBit m=(t[m]?).any fun a=>q3 a past line)(h0:b=0):pB t past line=none:=by
 unfold pB;rw[Af];intro a aX h;obtain⟨m,hm⟩:=Ec.mp aX;have:=ak m;rw[h0,hm]at this;simp[h]at this
theorem aqX{t:List Around}{line past:aK}{b:Nat}(ak:∀ m,b.testBit m=(t[m]?).any fun a=>q3 a past line)(h0:b≠0) :
  ∃ m a,t[m]?=some a/\pB t past line=some a/\b-(b &&& (b-1))=2 ^ m:=by
 obtain⟨m,h1,aC⟩:=aqW b h0;have hm:=ak m;rw[h1]at hm;cases b_:t[m]? with
 |none=>rw[b_]at hm;simp at hm
 |some a =>
  rw[b_]at hm;refine⟨m,a,b_,ai_ b_ (by simpa using hm.symm) fun j y bN aP=>?_,?_⟩
  ·have:=ak j
   rw[aC j bN,aP]at this;simpa using this.symm
  ·have:=ai9 m b h1 aC
   exact Nat.sub_eq_of_eq_add (by rw[Nat.add_comm];exact this.symm)
theorem aja:∀ {a b:List Int},a.Pairwise (· < ·)->b.Pairwise (· < ·)->(∀ z,z∈a↔z∈b)->a=b
 | [],[],_,_,_=>rfl
 | [],y::b,_,_,h=>by have:=(h y).mpr h_;cases this
 |x::a,[],_,_,h=>by have:=(h x).mp h_;cases this
 |x::a,y::b,aX,ak,h=>by
  have Ey:=x8.mp aX;have g9:=x8.mp ak;have U6:x=y:=by
   rcases gR.mp ((h x).mp h_)with e|aq
   ·exact e
   ·rcases gR.mp ((h y).mpr h_)with e|aP
    ·exact e.symm
    ·have h1:=Ey.1 y aP
     have aC:=g9.1 x aq;omega
  subst U6;congr 1
  refine aja Ey.2 g9.2 fun z=>?_;constructor
  ·intro hz;rcases gR.mp ((h z).mp (h2 _ hz))with e|U8
   ·have:=Ey.1 z hz;omega
   ·exact U8
  ·intro hz;rcases gR.mp ((h z).mpr (h2 _ hz))with e|U8
   ·have:=g9.1 z hz;omega
   ·exact U8
theorem ajb:∀ {a:List Int},a.Pairwise (·<=·)->a.Nodup->a.Pairwise (· < ·)
 | [],_,_=>List.Pairwise.nil
 |x::a,h,aR=>by
  have h':=x8.mp h;have lE:=Ag.mp aR;refine x8.mpr ⟨fun y aP=>?_,ajb h'.2 lE.2⟩;have h1:=h'.1 y aP;have aC:x≠y:=fun e=>lE.1 (e▸aP);omega
theorem aqY(k:Nat)(l:List (aK)):((asked k l).map fun n:Nat=>(n:Int)).Pairwise (· < ·):=by
 unfold asked;rw[I4];refine List.Pairwise.filter _ ?_;exact List.Pairwise.imp (fun h=>by omega) List.pairwise_lt_range
theorem Ju{k:Nat}{l:List (aK)}{n:Nat}:n∈asked k l↔n<k/\∃ x∈l,n∈x:=by
 unfold asked;rw[rT,IW,sU];simp
theorem aqZ{k:Nat}{l:List (aK)}{ks ns:List Int}(aN:∀ x∈l,∀ n∈x,n<k)(hm:∀ z,z∈ks↔∃ x∈l,∃ n∈x,z=((n:Nat):Int))(aR:ks.Nodup)(aL:ns.Perm ks)(aH:ns.Pairwise (·<=·)) :
  ns=(asked k l).map fun n:Nat=>(n:Int):=by
 refine aja (ajb aH (aL.nodup_iff.mpr aR)) (aqY k l) fun z=>?_;rw[aL.mem_iff,hm,g6];constructor
 ·rintro⟨x,aq,n,wA,rfl⟩;exact⟨n,Ju.mpr ⟨aN x aq n wA,x,aq,wA⟩,Z⟩
 ·rintro⟨n,lE,rfl⟩;obtain⟨_,x,aq,wA⟩:=Ju.mp lE;exact⟨x,aq,n,wA,Z⟩
structure Ax(m:List Span):Prop where
 le:∀ s∈m,s.first<=s.last
 up:m.Pairwise fun a b=>a.last<b.first
theorem Ax.lt{m:List Span}(h:Ax m){i j:Nat}{a b:Span}(lF:i<j)(aX:m[i]?=some a)(ak:m[j]?=some b):a.last<b.first:=by
 obtain⟨hi,rfl⟩:=eF.mp aX;obtain⟨bN,rfl⟩:=eF.mp ak;exact List.pairwise_iff_getElem.mp h.up i j hi bN lF
theorem Ax.aq0{m:List Span}(h:Ax m){i j:Nat}{a b:Span}(lF:i<j)(aX:m[i]?=some a)(ak:m[j]?=some b):a.last<b.last:=by
 have h1:=h.lt lF aX ak;have aC:=h.le b (gb ak);omega
theorem aq1{f:Font}{c:Nat}(ak:∀ (j:Nat) (s:Span),f.map[j]?=some s->s.last<c):mapped f c=0:=by
 unfold mapped;have:f.map.find? (fun s=>decide (s.first<=c) && decide (c<=s.last))=none:=by
  rw[Af];intro s aH;obtain⟨j,bN⟩:=Ec.mp aH;have:=ak j s bN;simp;omega
 rw[this]
theorem aq2{f:Font}(h:Ax f.map){c n:Nat}{p:Span}(ak:∀ (j:Nat) (s:Span),j<n->f.map[j]?=some s->s.last<c)(aL:f.map[n]?=some p)(aV:c<=p.last) :
  mapped f c=if p.first<=c then p.sign+(c-p.first)else 0:=by
 unfold mapped;split
 ·rename_i s aH;have h1:=v5 aH;simp only[jf,pg]at h1;obtain⟨j,bN⟩:=Ec.mp (vZ aH);have aq3:j=n:=by
   rcases Nat.lt_trichotomy j n with c0|e|aq4
   ·have:=ak j s c0 bN;omega
   ·exact e
   ·have:=h.lt aq4 aL bN;omega
  subst aq3;rw[bN]at aL;cases aL;rw[bM h1.1]
 ·rename_i aH;have:=Af.mp aH p (gb aL);rw[bx];intro hle;exact this (by simp;omega)
theorem aaT(p:Item->Bool):∀ (r:List Item) (k m q:Nat),(dA p k r)[m]?=some q->dA p (q+1) (r.drop (q+1-k))=(dA p k r).drop (m+1)
 | [],k,m,q,h=>by simp[dA]at h
 |x::r,k,m,q,h=>by
  have a6:=(oE p (gb h)).1;by_cases aq:p x=true
  ·rw[q1 p aq]at h ⊢;have kl:=(oE p (gb h)).1;have e:q+1-k=(q+1-(k+1))+1:=by omega
   rw[e,Ac];exact aaT p r (k+1) m q h
  ·rw[q2 p aq]at h ⊢;cases m with
   |zero =>
    simp only[x3,Option.some.injEq]at h;subst h;have e:k+1-k=1:=by omega
    rw[e];simp
   |succ m =>
    simp only[z_]at h;have kl:=(oE p (gb h)).1;have e:q+1-k=(q+1-(k+1))+1:=by omega
    rw[e,Ac,Ac];exact aaT p r (k+1) m q h
theorem ajc(f:Font)(sk:Nat)(l:List Item){m i:Nat}(h:(dA (passed f sk) 0 l)[m]?=some i):after f sk l i=(dA (passed f sk) 0 l).drop (m+1):=by
 rw[Jg];exact aaT (passed f sk) l 0 m i h
def U9(t:List (Nat×Nat×Int))(a b:Nat):Int:=((t.find? fun x=>x.1 == a && x.2.1 == b).map fun x=>x.2.2).getD 0
theorem aq5(l:List Item)(i:Nat)(h:Item->Item)(hh:∀ x,h x=x):at_ l i h=l:=by
 apply vW;intro j;rw[Jf];cases l[j]? with
 |none=>rfl
 |some x=>simp[hh]
theorem aq6(f:Font)(sk:Nat)(t:List (Nat×Nat×Int)){l l':List Item}(aH:l'.map (fun x=>x.sign)=l.map fun x=>x.sign){m i j:Nat}(hi:(dA (passed f sk) 0 l)[m]?=some i)(bN:(dA (passed f sk) 0 l)[m+1]?=some j) :
  placeAt f ⟨sk,.pair t⟩ l' i=at_ l' i fun y=>{ y with advance:=y.advance+U9 t (signAt l' i) (signAt l' j) }:=by
 have aX:after f sk l' i=j::(dA (passed f sk) 0 l).drop (m+2):=by
  have aV:=U5 f sk l' l 0 aH;rw[ajc f sk l' (m:=m) (by rw[aV];exact hi),aV];rw[qp bN]
 unfold placeAt placed;simp only[aX];unfold U9;cases t.find? _ with
 |none =>
  simp only[D',Option.getD_none];rw[aq5];intro x;simp
 |some x=>rfl
theorem aq7(f:Font)(sk:Nat)(t:List (Nat×Nat×Int)){l l':List Item}(aH:l'.map (fun x=>x.sign)=l.map fun x=>x.sign){m i:Nat}(hi:(dA (passed f sk) 0 l)[m]?=some i)(hm:(dA (passed f sk) 0 l).length=m+1) :
  placeAt f ⟨sk,.pair t⟩ l' i=l':=by
 have aX:after f sk l' i=[]:=by
  have aV:=U5 f sk l' l 0 aH;rw[ajc f sk l' (m:=m) (by rw[aV];exact hi),aV,oc (by omega)]
 unfold placeAt placed;simp only[aX]
theorem aaU{β:Type}(p:Item->Bool)(g:β->Nat->β):∀ (r:List Item) (k:Nat) (b:β),(dA p k r).foldl g b=(r.zipIdx k).foldl (fun b y=>if p y.1=true then b else g b y.2) b
 | [],_,_=>rfl
 |x::r,k,b=>by
  rw[x6,hs];by_cases aq:p x=true
  ·rw[q1 p aq,bM aq,aaU p g r]
  ·rw[q2 p aq,bx aq,hs,aaU p g r]
def pF(f:Font)(l:List Item)(i:Nat):Option Nat:=((List.range i).reverse).find? fun p=>(l[p]?).any fun x=>clsOf f x != 3
theorem ajd(f:Font)(l:List Item)(i:Nat):pF f l (i+1)=if((l[i]?).any fun x=>clsOf f x != 3)=true then some i else pF f l i:=by
 unfold pF;rw[p7,List.reverse_append,List.reverse_singleton,List.singleton_append,kh];split<;>simp_all
theorem aje{f:Font}{l:List Item}{i p:Nat}(h:pF f l i=some p):p<i:=by
 have:=vZ h;simpa using this
theorem aq8(f:Font)(x y:Item)(h:x.sign=y.sign):clsOf f x=clsOf f y:=by unfold clsOf;rw[h]
theorem aq9(f:Font){l l':List Item}(h:l'.map (fun x=>x.sign)=l.map fun x=>x.sign)(i:Nat):pF f l' i=pF f l i:=by
 unfold pF;congr 1
 funext p
 have:=congrArg (fun z=>z[p]?) h;simp only[ek]at this;cases h1:l'[p]? with
 |none =>
  rw[h1]at this;cases aC:l[p]? with
  |none=>rfl
  |some y=>rw[aC]at this;simp at this
 |some x =>
  rw[h1]at this;cases aC:l[p]? with
  |none=>rw[aC]at this;simp at this
  |some y =>
   rw[aC]at this;simp only[gf,Option.some.injEq]at this;simp only[Option.any_some];rw[aq8 f x y this]
theorem Jv(l:List Item)(i j:Nat):carried l i j=(((l.take j).drop i).map fun x=>x.advance).sum:=by
 unfold carried;have key:∀ (r:List Item) (s:Int),r.foldl (fun s x=>s+x.advance) s=s+(r.map fun x=>x.advance).sum:=by
  intro r;induction r with
  |nil=>intro s;simp
  |cons x r bV=>intro s;rw[hs,bV,fU,List.sum_cons];omega
 rw[key];omega
theorem ajf{l:List Item}{i j:Nat}{x:Item}(lF:i<=j)(h:l[j]?=some x):carried l i (j+1)=carried l i j+x.advance:=by
 have bN:=(eF.mp h).1;rw[Jv,Jv,wk h,Uj (by rw[g4];omega),oh,List.sum_append];simp
theorem ajg{l:List Item}{i:Nat}{x:Item}(h:l[i]?=some x):carried l i (i+1)=x.advance:=by
 rw[ajf (cH i) h,Jv,oc (by rw[g4];omega)];simp
theorem aq_{l l':List Item}(h:l'.map (fun x=>x.advance)=l.map fun x=>x.advance)(i j:Nat):carried l' i j=carried l i j:=by
 rw[Jv,Jv];rw[Ab,List.map_take,Ab,List.map_take,h]
theorem aq'(l:List Item)(i:Nat)(h:Item->Item)(hh:∀ x,(h x).advance=x.advance):(at_ l i h).map (fun x=>x.advance)=l.map fun x=>x.advance:=by
 apply vW;intro j;rw[ek,ek,Jf];cases l[j]? with
 |none=>rfl
 |some x =>
  simp only[gf,Option.some.injEq];split
  ·exact hh x
  ·rfl
theorem ara(m b:List Anchor)(l:List Item)(i p:Nat):(setOn m b l i p).map (fun x=>x.advance)=l.map fun x=>x.advance:=by
 unfold setOn;split
 ·rfl
 ·split
  ·exact aq' _ _ _ fun _=>rfl
  ·rfl
theorem arb(f:Font)(sk:Nat)(m b:List Anchor)(l:List Item)(i:Nat):placeAt f ⟨sk,.onBase m b⟩ l i=match pF f l i with
  |some p=>setOn m b l i p
  |none=>l:=by
 unfold placeAt placed;show(match pF f l i with
  |some p=>(setOn m b l i p,i+1)
  |none=>(l,i+1)).1=_
 cases pF f l i<;>rfl
def aaV(g:Nat):Sub->Prop
 | .one t=>∀ y∈t,y.2<g
 | .more t=>∀ y∈t,y.2.length<=8/\∀ s∈y.2,s<g
 | .joined t=>∀ e∈t,e.2.2<g
 | .around _=>True
def aaW(rs:List (Rule Sub))(n:Nat):Prop:=∃ q u,rs[n]?=some q/\q.rule=.one u
structure pG(f:Font):Prop where
 cl:f.cls.length=f.signs
 ad:f.advance.length=f.signs
 g1:1<=f.signs
 Jw:f.signs<=4096
 r5:∀ z∈f.cls,z<4
 mo:Ax f.map
 ms:∀ s∈f.map,s.sign+(s.last-s.first)<f.signs
 sk:∀ r∈f.subs,r.skip<8
 pH:∀ r∈f.poss,r.skip<8
 so:∀ r∈f.subs,Eu r.rule
 fW:∀ r∈f.subs,aaV f.signs r.rule
 ac:∀ r∈f.subs,∀ l,r.rule=.around l->l.length<=64/\∀ a∈l,∀ y∈a.acts,aaW f.subs y.2
 fM:f.subs.length<=64
 pl:f.poss.length<=64
 b0:∀ x∈f.features,(∀ n∈x.2.1,n<f.subs.length)/\(∀ n∈x.2.2,n<f.poss.length)/\x.2.1.length<=64/\x.2.2.length<=64
 wB:f.features.length<=64
 fr:rising (f.features.map fun x=>x.1)=true
def yh(t:List (Nat×Nat))(w:aK)(i:Nat):aK:=w.set i ((t.lookup (w.getD i 0)).getD (w.getD i 0))
def uR(f:Font)(sk:Nat)(t:List (Nat×Nat))(s:Nat):Nat:=if h5 f sk s=true then s else(t.lookup s).getD s
theorem ajh(f:Font)(sk:Nat)(t:List (Nat×Nat))(ss:aK):∀ j,j<=ss.length->((List.range j).filter fun i=>!h5 f sk (ss.getD i 0)).foldl (yh t) ss=(ss.take j).map (uR f sk t)++ss.drop j
 |0,_=>by simp
 |j+1,h=>by
  have bV:=ajh f sk t ss j (by omega);have e:ss[j]?=some ss[j]:=dT (by omega);have eg:ss.getD j 0=ss[j]:=by simp[List.getD,e]
  rw[p7,x4,oo,bV,vX,e,oh];have aF:((ss.take j).map (uR f sk t)).length=j:=by simp;omega
  have hd:ss.drop j=ss[j]::ss.drop (j+1):=z8 (by omega);by_cases aL:h5 f sk ss[j]=true
  ·simp only[eg,aL,x2,List.filter_nil,Bool.not_true,kg,if_false,rW,Option.toList_some,fU,v7];rw[hd,uI];simp[uR,aL]
  ·have uP:h5 f sk ss[j]=false:=by simpa using aL
   simp only[eg,uP,x2,List.filter_nil,x7,if_true,hs,rW,Option.toList_some,fU,v7];unfold yh;have b5:((ss.take j).map (uR f sk t)++ss.drop j).getD j 0=ss[j]:=by
    rw[List.getD,I1 (by omega),aF,Nat.sub_self,hd];rfl
   rw[b5,List.set_append_right _ _ (by omega),aF,Nat.sub_self,uI];congr 1
   have ard:uR f sk t ss[j]=(t.lookup ss[j]).getD ss[j]:=by simp[uR,uP]
   rw[hd,ard];rfl
theorem arf(f:Font)(sk:Nat)(t:List (Nat×Nat))(ss:aK):((List.range ss.length).filter fun i=>!h5 f sk (ss.getD i 0)).foldl (yh t) ss=ss.map (uR f sk t):=by
 rw[ajh f sk t ss ss.length (cH _)];simp
theorem one_sign(f:Font)(sk:Nat)(t:List (Nat×Nat))(l:List Item):(l.map (oneOf f sk t)).map (fun x=>x.sign)=(l.map fun x=>x.sign).map (uR f sk t):=by
 rw[kj,kj];apply Ah;intro x _;show(oneOf f sk t x).sign=uR f sk t x.sign;unfold oneOf uR;rw[Jm];split<;>rfl
theorem arh(f:Font)(sk:Nat)(t:List (Nat×Nat))(l:List Item):(l.map (oneOf f sk t)).map (fun x=>x.from_)=l.map fun x=>x.from_:=by
 rw[kj];apply Ah;intro x _;show(oneOf f sk t x).from_=x.from_;unfold oneOf;split<;>rfl
theorem U_{β:Type}(s:Nat):∀ t:List (Nat×β),t.lookup s=(t.find? fun y=>decide (y.1=s)).map fun y=>y.2
 | []=>rfl
 |y::t=>by
  rw[uH,kh];by_cases h:y.1=s
  ·subst h;simp
  ·have h':¬ s=y.1:=fun e=>h e.symm
   simp only[h,decide_false];rw[show(s == y.1)=false by simp[h']];exact U_ s t
noncomputable def oH (f:Font) (k:Nat) (w:aK) (y:Nat×Nat):aK:=match f.subs[y.2]? with
 |some q=>(match q.rule with
  | .one u=>w.set (k+y.1) ((u.lookup (w.getD (k+y.1) 0)).getD (w.getD (k+y.1) 0))
  |_=>w)
 |none=>w
theorem ari{f:Font}{k:Nat}{w:aK}{y:Nat×Nat}{q:Rule Sub}{u:List (Nat×Nat)}(h1:f.subs[y.2]?=some q)(aC:q.rule=.one u):oH f k w y=w.set (k+y.1) ((u.lookup (w.getD (k+y.1) 0)).getD (w.getD (k+y.1) 0)):=by
 unfold oH;rw[h1];dsimp only;rw[aC]
theorem arj(f:Font)(k:Nat)(w:aK)(y:Nat×Nat):(oH f k w y).length=w.length:=by
 unfold oH;split
 ·split<;>simp
 ·rfl
theorem aaX(f:Font)(k:Nat):∀ (acts:List (Nat×Nat)) (w:aK),(acts.foldl (oH f k) w).length=w.length
 | [],_=>rfl
 |y::acts,w=>by rw[hs,aaX f k acts,arj]
theorem ark(f:Font)(a b:aK)(y:Nat×Nat)(u:aK)(aN:a.length=k)(aP:y.1<u.length):oH f k (a++(u++b)) y=a++(wu f u y++b):=by
 unfold oH wu;cases h:f.subs[y.2]? with
 |none=>rfl
 |some q =>
  dsimp only;cases a6:q.rule with
  |one t =>
   dsimp only;have b5:(a++(u++b)).getD (k+y.1) 0=u.getD y.1 0:=by
    rw[List.getD,List.getD,I1 (by omega),Uk (by omega)];congr 2
    omega
   rw[b5,List.set_append_right _ _ (by omega),List.set_append_left _ _ (by omega)];congr 3
   omega
  |_=>rfl
theorem aji(f:Font){k:Nat}(a b:aK)(aN:a.length=k):∀ (acts:List (Nat×Nat)) (u:aK),(∀ y∈acts,y.1<u.length)->acts.foldl (oH f k) (a++(u++b))=a++(jh f acts u++b)
 | [],u,_=>rfl
 |y::acts,u,h=>by
  rw[hs,ark f a b y u aN (h y h_),aji f a b aN acts]
  ·rfl
  ·intro z hz;rw[aaA];exact h z (h2 _ hz)
theorem ajj(f:Font)(sk:Nat):∀ (w p:aK),w.foldl (push f sk) p=(w.filter fun s=>!h5 f sk s).reverse++p
 | [],p=>rfl
 |s::w,p=>by
  rw[hs,ajj f sk w,x2];unfold push;by_cases h:h5 f sk s=true
  ·simp[h]
  ·simp[h]
theorem aaY(p:Item->Bool):∀ (w:aK) (r:List Item) (i:Nat) (x:Item),r[i]?=some x->p x=true->(fJ p w r)[i]?=some x
 | [],r,i,x,h,_=>by rw[yb];exact h
 |s::w,[],i,x,h,_=>by simp at h
 |s::w,y::r,0,x,h,aL=>by
  simp at h;subst h;simp[fJ,aL]
 |s::w,y::r,i+1,x,h,aL=>by
  have h':r[i]?=some x:=by simpa using h
  unfold fJ;by_cases aP:p y=true
  ·rw[bM aP];simpa using aaY p (s::w) r i x h' aL
  ·rw[bx aP];simpa using aaY p w r i x h' aL
theorem aaZ(p:Item->Bool):∀ (w:aK) (r:List Item),(fJ p w r).map (fun x=>x.from_)=r.map fun x=>x.from_
 | [],r=>by rw[yb]
 |s::w,[]=>rfl
 |s::w,x::r=>by
  unfold fJ;by_cases aq:p x=true
  ·rw[bM aq];simp[aaZ p (s::w) r]
  ·rw[bx aq];simp[aaZ p w r]
theorem arl(p:Item->Bool)(l:List Item)(w F:aK)(iR:F.length=l.length)(hw:w.length=(dA p 0 l).length)(h1:∀ m q,(dA p 0 l)[m]?=some q->F.getD q 0=w.getD m 0)(aC:∀ (i:Nat) (x:Item),l[i]?=some x->p x=true->F.getD i 0=x.sign)
  (bI:∀ (i:Nat) (x:Item),l[i]?=some x->¬ p x=true->∃ m:Nat,(dA p 0 l)[m]?=some i):F=(fJ p w l).map fun x=>x.sign:=by
 apply vW;intro i;by_cases hi:i<l.length
 ·have aF:l[i]?=some l[i]:=dT hi
  have arn:F[i]?=some (F.getD i 0):=by simp[List.getD,dT (show i<F.length by omega)]
  rw[arn,ek];by_cases aL:p l[i]=true
  ·rw[aaY p w l i _ aF aL,aC i _ aF aL];rfl
  ·obtain⟨m,hm⟩:=bI i _ aF aL;have aro:m<w.length:=by rw[hw];exact(eF.mp hm).1
   have ajk:w[m]?=some w[m]:=dT aro;obtain⟨x,aq,hf⟩:=UL p w l 0 m i hm w[m] ajk;rw[Nat.sub_zero]at hf;rw[hf,h1 m i hm];simp[List.getD,ajk]
 ·rw[qZ (by omega),qZ (by rw[ey,Jl];omega)]
def Va(g:Nat)(x:Item):Prop:=x.sign<g/\x.dx=0/\x.dy=0
def In(g:Nat)(l:List Item):Prop:=∀ x∈l,Va g x
theorem ajl{g:Nat}{l:List Item}{i:Nat}{h:Item->Item}(aF:In g l)(hh:∀ x,Va g x->Va g (h x)):In g (at_ l i h):=fun x aq=>by
 unfold at_ at aq;obtain⟨⟨y,j⟩,aP,rfl⟩:=g6.mp aq;have h1:y∈l:=by
  have:=List.mem_zipIdx aP;simp only[eZ,Nat.sub_zero,true_and]at this;rw[this.2];exact mW _
 show Va g (if j=i then h y else y);split
 ·exact hh _ (aF _ h1)
 ·exact aF _ h1
theorem aa0{β:Type}{a:Nat}{b:β}:∀ {t:List (Nat×β)},t.lookup a=some b->∃ y∈t,y.2=b
 | [],h=>by cases h
 |(k,v)::t,h=>by
  rw[uH]at h;split at h
  ·cases h;exact⟨_,h_,Z⟩
  ·obtain⟨y,aP,e⟩:=aa0 h;exact⟨y,h2 _ aP,e⟩
theorem ajm{g:Nat}{l:List Item}{t:List (Nat×Nat)}{i:Nat}(aF:In g l)(b_:∀ y∈t,y.2<g):In g (swap t l i):=by
 unfold swap;split
 ·rename_i s aH;obtain⟨y,aP,rfl⟩:=aa0 aH;exact ajl aF fun _ aq=>⟨b_ y aP,aq.2⟩
 ·exact aF
theorem arp{f:Font}(ok:pG f){r:Rule Sub}(aA:r∈f.subs){l m:List Item}{i j:Nat}(aF:In f.signs l)(h:changed f r l i=some (m,j)):In f.signs m:=by
 have fW:=ok.fW r aA;unfold changed at h;split at h
 ·rename_i t nO;rw[nO]at fW;cases e:t.lookup (signAt l i)with
  |none=>rw[e]at h;cases h
  |some s =>
   rw[e]at h;cases h;exact ajm aF fW
 ·rename_i t nO;rw[nO]at fW;cases e:t.lookup (signAt l i)with
  |none=>rw[e]at h;cases h
  |some s =>
   rw[e]at h;cases h;obtain⟨y,aP,rfl⟩:=aa0 e;intro x aq;rcases pe.mp aq with aq|aq
   ·exact aF x (Eb aq)
   ·rcases pe.mp aq with aq|aq
    ·obtain⟨s,aH,rfl⟩:=g6.mp aq;refine⟨(fW y aP).2 s aH,?_⟩;show(l.getD i ⟨0,0,0,0,0⟩).dx=0/\(l.getD i ⟨0,0,0,0,0⟩).dy=0;rw[List.getD];cases a9:l[i]? with
     |none=>exact⟨Z,Z⟩
     |some z=>exact(aF z (gb a9)).2
    ·exact aF x (Ul aq)
 ·rename_i t nO;rw[nO]at fW;simp only[]at h;cases e:t.find? fun x=>x.1 == signAt l i && match_ l (x.2.1.map fun s=>[s]) (after f r.skip l i)with
  |none=>rw[e]at h;cases h
  |some y =>
   rw[e]at h;cases h;have aP:=vZ e;intro x aq;obtain⟨⟨z,k⟩,hz,rfl⟩:=g6.mp aq;have h1:=(rT.mp hz).1;have:=List.mem_zipIdx h1;simp only[eZ,Nat.sub_zero,true_and]at this;have aC:z∈at_ l i fun x=>{ x with sign:=y.2.2 }:=by rw[this.2];exact mW _
   exact ajl (h:=fun x=>{ x with sign:=y.2.2 }) aF (fun _ aq=>⟨fW y aP,aq.2⟩) z aC
 ·rename_i t nO;cases e:t.find? fun a=>match_ l a.here (i::after f r.skip l i) && (match_ l a.behind ((after f r.skip l i).drop (a.here.length-1)) && match_ l a.before (before f r.skip l i))with
  |none=>rw[e]at h;cases h
  |some a =>
   rw[e]at h;simp only[gf,Option.some.injEq,Prod.mk.injEq]at h;obtain⟨h,_⟩:=h;subst h;suffices aH:∀ (acts:List (Nat×Nat)) (Ay:List Item),In f.signs Ay->In f.signs (acts.foldl (fun l2 y=>match f.subs[y.2]? with
    |some q=>(match q.rule with
     | .one u=>swap u l2 (((i::after f r.skip l i).take a.here.length).getD y.1 0)
     |_=>l2)
    |none=>l2) Ay) from aH _ _ aF
   intro acts;induction acts with
   |nil=>intro Ay h0;exact h0
   |cons y acts bV =>
    intro Ay h0;rw[hs];apply bV;cases a9:f.subs[y.2]? with
    |none=>exact h0
    |some q =>
     have ajn:=ok.fW q (gb a9);show In f.signs (match q.rule with
      | .one u=>swap u Ay (((i::after f r.skip l i).take a.here.length).getD y.1 0)
      |_=>Ay)
     cases dw:q.rule with
     |one u=>rw[dw]at ajn;exact ajm h0 ajn
     |more u=>exact h0
     |joined u=>exact h0
     |around u=>exact h0
theorem Vb{f:Font}(ok:pG f){r:Rule Sub}(aA:r∈f.subs):∀ (k:Nat) {l m:List Item} {i:Nat},In f.signs l->along f r k l i=some m->In f.signs m
 |0,l,m,i,aF,h=>by cases h;exact aF
 |k+1,l,m,i,aF,h=>by
  rw[along]at h;split at h
  ·cases h
  ·split at h
   ·cases h;exact aF
   ·split at h
    ·exact Vb ok aA k aF h
    ·split at h
     ·rename_i dU j e;exact Vb ok aA k (arp ok aA aF e) h
     ·exact Vb ok aA k aF h
theorem arq{f:Font}(ok:pG f){r:Rule Sub}(aA:r∈f.subs){l m:List Item}(jj:l.length<=4096)(aF:In f.signs l)(h:chg f r l=some m):In f.signs m :=
 Vb ok aA _ aF (by rw[aiS f r l (ok.so r aA) jj];exact h)
theorem ars{f:Font}(ok:pG f)(c:Nat):mapped f c<f.signs:=by
 unfold mapped;split
 ·rename_i s e;have h1:=ok.ms s (vZ e);have aC:=v5 e;simp only[jf,pg]at aC;omega
 ·exact ok.g1
theorem aru{f:Font}(ok:pG f)(cs:aK):In f.signs (begun f cs):=fun x aq=>by
 unfold begun at aq;obtain⟨y,_,rfl⟩:=g6.mp aq;exact⟨ars ok _,Z,Z⟩
theorem arv{k:Nat}{a b:List (aK)}(h:∀ x,x∈a↔x∈b):asked k a=asked k b:=by
 unfold asked;congr 1
 funext i
 rw[Ae,sU,sU];exact⟨fun⟨x,aq,e⟩=>⟨x,(h x).mp aq,e⟩,fun⟨x,aq,e⟩=>⟨x,(h x).mpr aq,e⟩⟩
theorem ajo{β:Type}:∀ {l:List (Nat×β)},rising (l.map fun x=>x.1)=true->∀ {x:Nat×β},x∈l->(l.find? fun y=>decide (y.1=x.1))=some x
 | [],_,_,h=>by cases h
 |a::l,aA,x,h=>by
  rw[kh];rcases gR.mp h with rfl|h
  ·simp
  ·have c0:∀ {c:Nat} {l:List (Nat×β)},rising (c::l.map fun x=>x.1)=true->∀ y∈l,c<y.1:=by
    intro c l;induction l generalizing c with
    |nil=>intro _ y aP;cases aP
    |cons b l bV =>
     intro aA y aP;simp only[fU,rising,jf,pg]at aA;rcases gR.mp aP with rfl|aP
     ·exact aA.1
     ·have:=bV (c:=b.1) (by simpa [rising]using aA.2) y aP
      omega
   have h1:=c0 (by simpa using aA) x h;rw[ou (by omega)];have aC:rising (l.map fun x=>x.1)=true:=by
    cases l with
    |nil=>rfl
    |cons b l =>
     simp only[fU,rising,jf,pg]at aA;simpa using aA.2
   exact ajo aC h
theorem row_cases{l x s:List Int}(h:PyFlat.row l=some (x,s)):l=(x.length:Int)::(x++s):=by
 match l,h with
 |n::r,h =>
  rw[PyFlat.row]at h;split at h
  ·rename_i aR;simp only[Option.some.injEq,Prod.mk.injEq]at h;obtain⟨rfl,rfl⟩:=h;rw[I2,g4,Ea aR.2,I5 aR.1]
  ·cases h
inductive Shaped:List Int->List (List Int)->List Int->Prop
 |start (t):Shaped (1::t) [[1]] t
 |open_ (x t):Shaped (2::((x.length:Nat):Int)::(x++t)) [[2],x] t
 |sign (z t):Shaped (3::z::t) [[3,z]] t
 |has (z t):Shaped (4::z::t) [[4,z]] t
 |set_ (z x y t):Shaped (5::z::((x.length:Nat):Int)::(x++((y.length:Nat):Int)::(y++t))) [[5,z],x,y] t
theorem arw{l:List Int}{c:List (List Int)}{t:List Int}(h:PyFlat.call PySw28.shape l=some (c,t)):Shaped l c t:=by
 match l,h with
 |p::r,h =>
  rw[PyFlat.call]at h;unfold PySw28.shape at h;by_cases h1:p=1
  ·subst h1;rw[bM rfl]at h;simp only[Ai,if_false,List.drop_zero,PyFlat.rows,I0,Option.some.injEq,Prod.mk.injEq]at h;obtain⟨rfl,rfl⟩:=h;exact .start _
  rw[bx h1]at h;by_cases aC:p=2
  ·subst aC;rw[bM rfl]at h;simp only[Ai,if_false,List.drop_zero,PyFlat.rows,I0]at h;cases e:PyFlat.row r with
   |none=>rw[e]at h;cases h
   |some y =>
    obtain⟨x,s⟩:=y;rw[e]at h;simp only[Option.some.injEq,Prod.mk.injEq]at h;obtain⟨rfl,rfl⟩:=h;rw[row_cases e];exact .open_ _ _
  rw[bx aC]at h;have one:∀ {q:Int} {c t},(if r.length<1 then none else match PyFlat.rows 0 (r.drop 1)with
   |none=>none
   |some (xs,t)=>some ((q::r.take 1)::xs,t))=some (c,t)->∃ z,r=z::t/\c=[[q,z]]:=fun{q c t} h=>by
   match r,h with
   |z::r,h =>
    simp[PyFlat.rows]at h;exact⟨z,by rw[h.2],h.1.symm⟩
  by_cases bI:p=3
  ·subst bI;rw[bM rfl]at h;obtain⟨z,rfl,rfl⟩:=one h;exact .sign _ _
  rw[bx bI]at h;by_cases dz:p=4
  ·subst dz;rw[bM rfl]at h;obtain⟨z,rfl,rfl⟩:=one h;exact .has _ _
  rw[bx dz]at h;by_cases js:p=5
  ·subst js;rw[bM rfl]at h;match r,h with
   | [],h=>simp at h
   |z::r,h =>
    simp only[eo,show ¬ r.length+1<1 by omega,if_false,Ac,List.drop_zero,PyFlat.rows,List.take_succ_cons,I0]at h;cases e:PyFlat.row r with
    |none=>rw[e]at h;cases h
    |some y =>
     obtain⟨x,s⟩:=y;rw[e]at h;simp only[]at h;cases a9:PyFlat.row s with
     |none=>rw[a9]at h;cases h
     |some y =>
      obtain⟨iG,s2⟩:=y;rw[a9]at h;simp only[Option.some.injEq,Prod.mk.injEq]at h;obtain⟨rfl,rfl⟩:=h;rw[row_cases e,row_cases a9];exact .set_ _ _ _ _
  rw[bx js]at h;cases h
theorem aa1{x:List Int}(h:∀ z∈x,0<=z):x=(Sw28Neutral.nats x).map fun n:Nat=>(n:Int):=by
 unfold Sw28Neutral.nats;rw[kj];have:x.map ((fun n:Nat=>(n:Int)) ∘ Int.toNat)=x.map id:=Ah fun z hz=>by
  show((z.toNat:Nat):Int)=z;exact I5 (h z hz)
 rw[this,List.map_id]
theorem Jx{z:Int}{b:Nat}(h:Sw28Neutral.natural z b=true):0<=z/\z<2 ^ b:=by
 unfold Sw28Neutral.natural at h;simpa using h
theorem arx{x:List Int}(h:Sw28Neutral.asked1 (PySw28.whole [[2],x])=true):(∀ z∈x,0<=z/\z<256)/\x.length<=65536:=by
 have h:(Sw28Neutral.whole32 (x.length:Int) && ((x.all (fun(z:Int)=>Sw28Neutral.natural z 8) && Sw28Neutral.long x (x.length:Int) 0 65536)))=true:=h;simp only[jf,rU]at h;refine⟨fun z hz=>Jx (h.2.1 z hz),?_⟩;have:=h.2.2;unfold Sw28Neutral.long at this;have:=h3 this;split at this
 ·omega
 ·omega
theorem arz{z:Int}{x y:List Int}(h:Sw28Neutral.asked1 (PySw28.whole [[5,z],x,y])=true):(∀ z∈x,0<=z)/\(∀ z∈y,0<=z)/\x.length<=1024/\y.length<=64:=by
 have h:(Sw28Neutral.whole32 (x.length:Int) && (Sw28Neutral.whole32 (y.length:Int) && (Sw28Neutral.whole32 z && ((x.all (fun(z:Int)=>Sw28Neutral.natural z 32) && decide ((x.length:Int)=if(0<=(x.length:Int)/\(x.length:Int)<=1024)/\((0<=(y.length:Int)/\(y.length:Int)<=64)/\(0<=z/\z<=4096))then(x.length:Int)else 0)) && ((y.all (fun(z:Int)=>Sw28Neutral.natural z 32) && decide ((y.length:Int)=if(0<=(x.length:Int)/\(x.length:Int)<=1024)/\((0<=(y.length:Int)/\(y.length:Int)<=64)/\(0<=z/\z<=4096))then(y.length:Int)else 0)))))))=true:=h;simp only[jf,rU,pg]at h;obtain⟨_,_,_,⟨h1,aC⟩,bI,dz⟩:=h;refine⟨fun z hz=>(Jx (h1 z hz)).1,fun z hz=>(Jx (bI z hz)).1,?_,?_⟩
 ·split at aC<;>omega
 ·split at dz<;>omega
theorem arA(s:St)(c:Call):(Sw28.step s c).2.2.length<=20480:=by
 cases c with
 |start=>exact eZ _
 |open_ b n =>
  simp only[Sw28.step];split
  ·exact eZ _
  ·split<;>exact eZ _
 |sign c=>cases s<;>exact eZ _
 |has c=>cases s<;>exact eZ _
 |set_ cs n tags m room =>
  cases s with
  |none=>exact eZ _
  |some f =>
   simp only[Sw28.step];split
   ·exact eZ _
   ·rename_i hw;split
    ·exact eZ _
    ·rename_i l aF;split
     ·exact eZ _
     ·rename_i aA;have hw:(Sw28.within n 0 1024 && (Sw28.within m 0 64 && Sw28.within room 0 4096))=true:=by simpa using hw
      simp only[jf]at hw;have dz:=hw.2.2;unfold Sw28.within at dz;simp only[jf,pg]at dz;have:∀ l:List Item,(l.flatMap told).length=5 * l.length:=fun l=>by
       induction l with
       |nil=>rfl
       |cons x l bV =>
        rw[IV,gC,bV,eo];show 5+_=_;omega
      simp only[this];omega
theorem arB(s:St)(c:List (List Int)):(Sw28Neutral.step s c).2.length<=20481:=by
 unfold Sw28Neutral.step;split
 ·exact eZ _
 ·rename_i x _;have:=arA s x;simp only[eo,Sw28Neutral.ints,ey];omega
end Sr
abbrev cp:=PySem.W.Frag
abbrev g_:=PySem.Str->Option PySem.Value
abbrev dH:=List PySem.Value
abbrev d2:=List PySem.Addr
abbrev cG:=PySem.FuncData
abbrev aY:=PySem.Shared
abbrev fx:=PySem.Program
abbrev e4:=PySem.World
abbrev aO:=PySem.Value
abbrev au:=PySem.Addr
namespace L2
open PySem PySem.Spec PyProof.Rows
abbrev Key:=Sum Int Str
def uT:Key->aO->Bool
 | .inl k,v=>Value.isInt k v
 | .inr x,v=>Value.isStrOf x v
def arC(w:e4):Key->Int
 | .inl k=>hashInt k
 | .inr x=>hashStr w x
theorem wC:∀ {k:Key} {v:aO},uT k v=true->(∃ i t,k=Sum.inl i/\v=Value.int i t)\/(∃ x t,k=Sum.inr x/\v=Value.str x t)
 | .inl i,v,h=>by
  obtain⟨t,e⟩:=Value.isInt_shape (k:=i) (v:=v) h;exact .inl ⟨i,t,rfl,e⟩
 | .inr x,v,h=>by
  obtain⟨t,e⟩:=Value.isStrOf_shape (x:=x) (v:=v) h;exact .inr ⟨x,t,rfl,e⟩
theorem arD(i:Int)(t:Tok):uT (.inl i) (.int i t)=true:=by simp[uT,Value.isInt]
theorem arE(x:Str)(t:Tok):uT (.inr x) (.str x t)=true:=by simp[uT,Value.isStrOf]
theorem arF(a b:Int):decide ((Sum.inl a:Key)=Sum.inl b)=(a == b):=by
 by_cases e:a=b
 ·subst e;simp
 ·have h:¬ (Sum.inl a:Key)=Sum.inl b:=fun q=>e (Sum.inl.inj q)
  rw[ou h];exact(beq_eq_false_iff_ne.mpr e).symm
theorem arG(a b:Str):decide ((Sum.inr a:Key)=Sum.inr b)=decide (a=b):=by
 by_cases e:a=b
 ·subst e;simp
 ·have h:¬ (Sum.inr a:Key)=Sum.inr b:=fun q=>e (Sum.inr.inj q)
  rw[ou h,ou e]
theorem arH(a:Int)(b:Str):decide ((Sum.inl a:Key)=Sum.inr b)=false:=ou (fun q=>nomatch q)
theorem arI(a:Str)(b:Int):decide ((Sum.inr a:Key)=Sum.inl b)=false:=ou (fun q=>nomatch q)
def iT(prog:fx)(w:e4):PySem.KeyKind prog w Key where
 is:=uT
 hash:=arC w
 inj:=fun v a b aX ak=>by
  rcases wC aX with⟨i,t,rfl,rfl⟩|⟨x,t,rfl,rfl⟩
  ·rcases wC ak with⟨j,u,rfl,e⟩|⟨y,u,rfl,e⟩
   ·injection e with bF _;rw[bF]
   ·exact nomatch e
  ·rcases wC ak with⟨j,u,rfl,e⟩|⟨y,u,rfl,e⟩
   ·exact nomatch e
   ·injection e with bF _;rw[bF]
 byValue:=fun k v h=>by
  rcases wC h with⟨i,t,rfl,rfl⟩|⟨x,t,rfl,rfl⟩<;>rfl
 pyHash:=fun a0 h=>by
  rcases wC a0 with⟨i,t,rfl,rfl⟩|⟨x,t,rfl,rfl⟩
  ·exact wpAny_pyHash_int h
  ·exact wpAny_pyHash_str h
 eqBool:=fun cF a0 h=>by
  rcases wC cF with⟨i,t,rfl,rfl⟩|⟨x,t,rfl,rfl⟩
  ·rcases wC a0 with⟨j,u,rfl,rfl⟩|⟨y,u,rfl,rfl⟩
   ·rw[arF]at h;exact wpAny_eqBool_int h
   ·rw[arH]at h;exact SeqAt.EqAt.int_str i t y u _ _ _ _ h
  ·rcases wC a0 with⟨j,u,rfl,rfl⟩|⟨y,u,rfl,rfl⟩
   ·rw[arI]at h;exact SeqAt.EqAt.str_int x t j u _ _ _ _ h
   ·rw[arG]at h;exact wpAny_eqBool_str h
 «strs»:=fun k x t v h=>by
  rcases wC h with⟨i,u,rfl,e⟩|⟨y,u,rfl,e⟩
  ·exact nomatch e
  ·injection e with bF _
   subst bF;cases v<;>rfl
theorem arJ(prog:fx)(w:e4)(i:Int)(t:Tok):(iT prog w).is (.inl i) (.int i t)=true:=arD i t
theorem arK(prog:fx)(w:e4)(x:Str)(t:Tok):(iT prog w).is (.inr x) (.str x t)=true:=arE x t
inductive V where
 |non|bl (b:Bool)|int (i:Int)|str (x:Str)|pI (b:Array UInt8)|Jy (b:UInt64)|ref (a:au)|ty (n:String)
 deriving DecidableEq
def RelV:V->aO->Prop
 | .non,u=>u=Value.none
 | .bl b,u=>u=Value.bool b
 | .int i,u=>∃ t,u=Value.int i t
 | .str x,u=>∃ t,u=Value.str x t
 | .pI b,u=>∃ t,u=Value.bytes b t
 | .Jy b,u=>∃ t,u=Value.float b t
 | .ref a,u=>u=Value.ref a
 | .ty n,u=>u=Value.type n
abbrev Vals:List V->dH->Prop:=Paired RelV
theorem Vals.length{xs:List V}{us:dH}(r:Vals xs us):xs.length=us.length:=Paired.length r
theorem Vals.get:∀ {xs:List V} {us:dH} {i:Nat} {x:V},Vals xs us->xs[i]?=some x->∃ u,us[i]?=some u/\RelV x u
 |_,_,_,_,.nil,e=>by simp at e
 |_,_,0,_,.cons r _,e=>by simp at e;subst e;exact⟨_,Z,r⟩
 |_,_,i+1,x,.cons _ t,e=>by
  obtain⟨u,h1,aC⟩:=Vals.get (i:=i) (x:=x) t (by simpa using e);exact⟨u,by simpa using h1,aC⟩
theorem Vals.set{x:V}{u:aO}(r:RelV x u):∀ {xs:List V} {us:dH} (i:Nat),Vals xs us->Vals (xs.set i x) (us.set i u)
 |_,_,_,.nil=>.nil
 |_,_,0,.cons _ t=>.cons r t
 |_,_,i+1,.cons q t=>.cons q (Vals.set r i t)
theorem Vals.append:∀ {xs bO:List V} {us ws:dH},Vals xs us->Vals bO ws->Vals (xs++bO) (us++ws)
 |_,_,_,_,.nil,s=>s
 |_,_,_,_,.cons r t,s=>.cons r (Vals.append t s)
theorem Vals.take:∀ {xs:List V} {us:dH} (n:Nat),Vals xs us->Vals (xs.take n) (us.take n)
 |_,_,0,_=>.nil
 |_,_,_+1,.nil=>.nil
 |_,_,n+1,.cons r t=>.cons r (Vals.take n t)
theorem Vals.drop:∀ {xs:List V} {us:dH} (n:Nat),Vals xs us->Vals (xs.drop n) (us.drop n)
 |_,_,0,r=>r
 |_,_,_+1,.nil=>.nil
 |_,_,n+1,.cons _ t=>Vals.drop n t
def m1:Option V->Option aO->Prop
 |some v,some u=>RelV v u
 |none,none=>True
 |_,_=>False
def KV{eG:Type}:List (eG×V)->List (eG×aO)->Prop:=Paired fun(p:eG×V) (q:eG×aO)=>p.1=q.1/\RelV p.2 q.2
def c3:Key->V
 | .inl i=>.int i
 | .inr x=>.str x
inductive HO where
 |lst (xs:List V)
 |tup (xs:List V)
 |dX (kvs:List (Key×V))|gF (kvs:List (List Key×V))
 |set (S:Int->Bool) (n:Nat)
 |ins (C dx:au) (fs:List (Str×V))
 |own (x:au)
 |Vc (fs:List (Str×V))
 |met (f x:au)
 |uU (lo hi:Int)
 |sX (o:Obj) (u:HO)
 |yj (ps:Array aO)
 |ext (Az:Heap->Prop)
abbrev ao:=au->Option HO
def upd(H:ao)(a:au)(o:HO):ao:=fun b=>if b=a then some o else H b
theorem a8{H:ao}{a:au}{o:HO}:upd H a o a=some o:=by unfold upd;rw[bM rfl]
theorem a7{H:ao}{a b:au}{o:HO}(h:b≠a):upd H a o b=H b:=by unfold upd;rw[bx h]
theorem ih{H:ao}{a:au}{o u:HO}:upd (upd H a o) a u=upd H a u:=by
 funext b;unfold upd;split<;>rfl
theorem hO{H:ao}{a b:au}{o u:HO}(h:H a=some o)(h':H b=some u)(d:o≠u):a≠b:=by
 intro e;subst e;rw[h]at h';exact d (Option.some.inj h')
theorem bR{H:ao}{a b:au}{o:HO}(h:H a=some o)(h':H b=none):a≠b:=by
 intro e;subst e;rw[h]at h';cases h'
section
variable(P:fx)(w:e4)
def hP(H:ao)(h:Heap)(a:au):HO->Prop
 | .lst xs=>xs.length<=sizeLine/\∃ (its:dH) (n:Nat),Vals xs its/\h.get? a=some { cls:=.type "list",data:=.seq its.toArray n }
 | .tup xs=>xs.length<=sizeLine/\∃ its:dH,Vals xs its/\IsTup h a its.toArray
 | .dX kvs=>kvs.length<=sizeLine/\(a == sysModules)=false/\∃ vs,KV kvs vs/\h.DictOf (iT P w) a vs
 | .gF kvs=>kvs.length<=sizeLine/\(a == sysModules)=false/\∃ xs:List (List Key×au×aO),
   Paired (fun(p:List Key×V) (q:List Key×au×aO)=>p.1=q.1/\H q.2.1=some (.tup (p.1.map c3))/\RelV p.2 q.2.2) kvs xs /\
   ∃ o es ep,h.get? a=some o/\o.ExactDict/\o.data=.dict es ep/\es.toList=xs.map (entryOfKey (tupleKind (iT P w)))/\(xs.map (·.1)).Nodup
 | .set S n=>h.SetOf (intKind P w) a S n
 | .ins C dx fs=>H dx=some (.own a)/\fs.length<=1000/\dx≠a/\h.get? a=some (PySem.W.instObj C dx) /\
   ∃ gG,h.Ns1 dx gG/\(∀ f,m1 (fs.lookup f) (gG f))/\PySem.Within gG (fs.map (·.1))
 | .own _=>∃ o,h.get? a=some o
 | .Vc fs=>∃ gG,h.Ns1 a gG/\∀ f,m1 (fs.lookup f) (gG f)
 | .uU lo hi=>∃ t u v,h.get? a=some { cls:=.type "range",data:=.fields #[.int lo t,.int hi u,.int 1 v] }
 | .sX o u=>h.get? a=some o/\hP H h a u
 | .yj ps=>h.get? a=some { cls:=.none,data:=.fields ps }
 | .met f x=>h.get? a=some (PySem.W.methodObj (.ref f) (.ref x))
 | .ext Az=>Az h/\(∃ o,h.get? a=some o)/\∀ h1 aC:Heap,Az h1->(∀ o,h1.get? a=some o->aC.get? a=some o)->Az aC
def ht(H:ao)(h:Heap):Prop:=∀ a o,H a=some o->hP P w H h a o
end
section
variable{P:fx}{w:e4}{H H':ao}{h h':Heap}{a:au}{o:HO}
theorem hP.lt(x:hP P w H h a o):a<h.objs.size:=by
 cases o with
 |lst xs=>obtain⟨_,_,_,_,e⟩:=x;exact fH e
 |tup xs=>obtain⟨_,_,_,p⟩:=x;exact p.lt
 |dX kvs=>obtain⟨_,_,_,_,o,_,_,e,_⟩:=x;exact fH e
 |gF kvs=>obtain⟨_,_,_,_,o,_,_,e,_⟩:=x;exact fH e
 |set S n=>obtain⟨o,_,_,_,e,_⟩:=x;exact fH e
 |ins C dx fs=>obtain⟨_,_,_,e,_⟩:=x;exact fH e
 |own y=>obtain⟨_,e⟩:=x;exact fH e
 |Vc fs=>obtain⟨_,⟨_,_,_,e,_⟩,_⟩:=x;exact fH e
 |uU lo hi=>obtain⟨_,_,_,e⟩:=x;exact fH e
 |sX cY u=>obtain⟨e,_⟩:=x;exact fH e
 |yj ps=>exact fH (show h.get? a=some _ from x)
 |met f y=>exact fH (show h.get? a=some _ from x)
 |ext Az=>obtain⟨_,⟨_,e⟩,_⟩:=x;exact fH e
theorem Paired.d8{α β:Type}{F G:α->β->Prop}:∀ {ajp:List α} {ajq:List β},Paired F ajp ajq->(∀ a b,F a b->G a b)->Paired G ajp ajq
 |_,_,.nil,_=>.nil
 |_,_,.cons r t,f=>.cons (f _ _ r) (Paired.d8 t f)
theorem hP.stay(x:hP P w H h a o)(k:∀ b u,(b=a\/H b=some (.own a))->h.get? b=some u->h'.get? b=some u)
  (bB:∀ b,H b=some (.own a)->H' b=some (.own a)) (b_:∀ b xs,H b=some (.tup xs)->H' b=some (.tup xs)):hP P w H' h' a o:=by
 induction o with
 |lst xs=>obtain⟨z,its,n,r,e⟩:=x;exact⟨z,its,n,r,k _ _ (.inl rfl) e⟩
 |tup xs=>obtain⟨z,its,r,cY,e,c⟩:=x;exact⟨z,its,r,cY,k _ _ (.inl rfl) e,c⟩
 |dX kvs=>obtain⟨z,y,vs,r,cY,es,ep,e,c⟩:=x;exact⟨z,y,vs,r,cY,es,ep,k _ _ (.inl rfl) e,c⟩
 |gF kvs =>
  obtain⟨z,y,xs,r,cY,es,ep,e,c⟩:=x;exact⟨z,y,xs,Paired.d8 r fun p q z=>⟨z.1,b_ _ _ z.2.1,z.2.2⟩,cY,es,ep,k _ _ (.inl rfl) e,c⟩
 |set S n=>obtain⟨cY,es,ep,t,e,c⟩:=x;exact⟨cY,es,ep,t,k _ _ (.inl rfl) e,c⟩
 |ins C dx fs =>
  obtain⟨d,z,ne,e,gG,⟨hQ,es,ep,a9,c⟩,r⟩:=x;exact⟨bB _ d,z,ne,k _ _ (.inl rfl) e,gG,⟨hQ,es,ep,k _ _ (.inr d) a9,c⟩,r⟩
 |own y=>obtain⟨cY,e⟩:=x;exact⟨cY,k _ _ (.inl rfl) e⟩
 |Vc fs=>obtain⟨gG,⟨hQ,es,ep,e,c⟩,r⟩:=x;exact⟨gG,⟨hQ,es,ep,k _ _ (.inl rfl) e,c⟩,r⟩
 |uU lo hi=>obtain⟨t,u,v,e⟩:=x;exact⟨t,u,v,k _ _ (.inl rfl) e⟩
 |sX cY u bV=>obtain⟨e,q⟩:=x;exact⟨k _ _ (.inl rfl) e,bV q⟩
 |yj ps =>
  have e:h.get? a=some { cls:=.none,data:=.fields ps }:=x;show h'.get? a=some { cls:=.none,data:=.fields ps };exact k a _ (.inl rfl) e
 |met f y =>
  have e:h.get? a=some (PySem.W.methodObj (.ref f) (.ref y)):=x;show h'.get? a=some (PySem.W.methodObj (.ref f) (.ref y));exact k a _ (.inl rfl) e
 |ext Az=>obtain⟨p,⟨o,e⟩,st⟩:=x;exact⟨st _ _ p fun o q=>k _ _ (.inl rfl) q,⟨o,k _ _ (.inl rfl) e⟩,st⟩
theorem ht.lt(x:ht P w H h)(e:H a=some o):a<h.objs.size:=(x a o e).lt
theorem ht.fresh(x:ht P w H h)(e:h.objs.size<=a):H a=none:=by
 cases q:H a with
 |none=>rfl
 |some u=>exact absurd (lq (x.lt q) e) (uK _)
theorem ht.kept(x:ht P w H h)(k:∀ b u,h.get? b=some u->h'.get? b=some u):ht P w H h':=fun a o e =>
 (x a o e).stay (fun b u _ q=>k b u q) (fun _ q=>q) fun _ _ q=>q
theorem ht.laid(x:ht P w H h)(k:∀ b u,h.get? b=some u->h'.get? b=some u)(aL:h.objs.size<=a)(new:hP P w (upd H a o) h' a o):ht P w (upd H a o) h':=fun b u e=>by
 have aR:=x.fresh aL;by_cases ak:b=a
 ·subst ak;rw[a8]at e;cases e;exact new
 ·rw[a7 ak]at e;exact(x b u e).stay (fun c v _ q=>k c v q) (fun c q=>by rw[a7 (bR q aR)];exact q) fun c xs q=>by rw[a7 (bR q aR)];exact q
end
def sY(H:ao)(a:au)(u:HO):Prop:=H a=some u\/∃ o,H a=some (.sX o u)
theorem sY.ok{P:fx}{w:e4}{H:ao}{h:Heap}{a:au}{u:HO}(r:sY H a u)(x:ht P w H h):hP P w H h a u:=by
 rcases r with r|⟨o,r⟩
 ·exact x a u r
 ·obtain⟨_,q⟩:=x a _ r;exact q
def Jz:Option HO->Prop
 |some (.lst _)=>True
 |some (.dX _)=>True
 |some (.gF _)=>True
 |some (.set _ _)=>True
 |some (.ins _ _ _)=>True
 |some (.ext _)=>True
 |_=>False
section
variable{P:fx}{w:e4}{H:ao}{h h':Heap}{x e:au}{hG:HO}
theorem ht.write(ok:ht P w H h)(mu:Jz (H x))(he:e=x\/H e=some (.own x))(k:∀ b u,b≠e->h.get? b=some u->h'.get? b=some u)(Ez:∃ u,h'.get? e=some u)
  (new:hP P w (upd H x hG) h' x hG):ht P w (upd H x hG) h':=fun b u q=>by
 have ajr:∀ c y,H c=some (.own y)->c≠x:=fun c y r z=>by subst z;rw[r]at mu;exact mu
 have arL:∀ c xs,H c=some (.tup xs)->c≠x:=fun c xs r z=>by subst z;rw[r]at mu;exact mu
 by_cases ak:b=x
 ·subst ak;rw[a8]at q;cases q;exact new
 ·rw[a7 ak]at q;by_cases A_:b=e
  ·have d9:H b=some (.own x):=by
    rcases he with z|z
    ·exact absurd (A_.trans z) ak
    ·rw[A_];exact z
   rw[q]at d9;cases d9;obtain⟨v,a0⟩:=Ez;exact⟨v,by rw[A_];exact a0⟩
  ·refine(ok b u q).stay (fun c v aV r=>k c v ?_ r) (fun c r=>by rw[a7 (ajr c b r)];exact r) fun c xs r=>by rw[a7 (arL c xs r)];exact r
   rcases aV with rfl|aV
   ·exact A_
   ·rintro rfl;rcases he with z|z
    ·exact ajr c b aV z
    ·rw[aV]at z;cases z;exact ak rfl
end
structure jY(fs ex:d2)(H H':ao)(h h':Heap):Prop where
 keep:∀ b o,h.get? b=some o->H b=none->b∉fs->b∉ex->h'.get? b=some o
 slot:∀ b o,h.get? b=some o->H b=none->b∈fs->b∉ex->∃ fM,h'.get? b=some { o with slots:=fM }
 free:∀ b o,h.get? b=some o->H b=none->b∉ex->H' b=none
 there:∀ b o,h.get? b=some o->b∉ex->∃ hG,h'.get? b=some hG
 wD:∀ b xs,H b=some (.tup xs)->H' b=some (.tup xs)
 uV:∀ b o u,H b=some (.sX o u)->H' b=some (.sX o u)
 wF:∀ b ps,H b=some (.yj ps)->∃ more,H' b=some (.yj (ps++more))
section
variable{fs Ba ex aG5:d2}{H H1 aB:ao}{h h1 aC h':Heap}{a x e:au}{o:HO}
theorem jY.any(u:jY fs ex H H1 h h1){b:au}{cY:Obj}(q:h.get? b=some cY)(n:H b=none)(aq:b∉ex):∃ fM,h1.get? b=some { cY with slots:=fM }:=by
 by_cases ak:b∈fs
 ·exact u.slot b cY q n ak aq
 ·exact⟨cY.slots,u.keep b cY q n ak aq⟩
theorem jY.kept(k:∀ b u,h.get? b=some u->h'.get? b=some u):jY fs ex H H h h' :=
 ⟨fun b cY q _ _ _=>k b cY q,fun b cY q _ _ _=>⟨cY.slots,k b cY q⟩,fun _ _ _ n _=>n,fun b cY q _=>⟨cY,k b cY q⟩,fun _ _ q=>q,fun _ _ _ q=>q,fun _ ps q=>⟨#[],by rw[q];simp⟩⟩
theorem jY.refl:jY fs ex H H h h:=jY.kept fun _ _ q=>q
theorem jY.laid(k:∀ b u,h.get? b=some u->h'.get? b=some u)(aL:h.objs.size<=a)(aR:H a=none):jY fs ex H (upd H a o) h h' where
 keep:=fun b u q _ _ _=>k b u q
 slot:=fun b u q _ _ _=>⟨u.slots,k b u q⟩
 free:=fun b u q n _=>by rw[a7 (gU (lq (fH q) aL))];exact n
 there:=fun b u q _=>⟨u,k b u q⟩
 wD:=fun b xs q=>by rw[a7 (bR q aR)];exact q
 uV:=fun b u xs q=>by rw[a7 (bR q aR)];exact q
 wF:=fun b ps q=>⟨#[],by rw[a7 (bR q aR),q];simp⟩
theorem jY.write(mu:Jz (H x))(he:e=x\/H e=some (.own x))(k:∀ b u,b≠e->h.get? b=some u->h'.get? b=some u)(Ez:∃ u,h'.get? e=some u):jY fs ex H (upd H x o) h h':=by
 have aq:∀ b,H b=none->b≠x:=fun b n z=>by subst z;rw[n]at mu;exact mu
 have ak:∀ b,H b=none->b≠e:=fun b n z=>by
  subst z;rcases he with r|r
  ·exact aq b n r
  ·rw[n]at r;cases r
 have hm:∀ b u,H b=some u->¬ Jz (some u)->b≠x:=fun b u q nm z=>by subst z;rw[q]at mu;exact nm mu
 refine⟨fun b u q n _ _=>k b u (ak b n) q,fun b u q n _ _=>⟨u.slots,k b u (ak b n) q⟩,fun b u q n _=>by rw[a7 (aq b n)];exact n,fun b u q _=>?_,
  fun b xs q=>by rw[a7 (hm b _ q fun z=>z)];exact q,fun b u xs q=>by rw[a7 (hm b _ q fun z=>z)];exact q,fun b ps q=>⟨#[],by rw[a7 (hm b _ q fun z=>z),q];simp⟩⟩
 by_cases A_:b=e
 ·subst A_;exact Ez
 ·exact⟨u,k b u A_ q⟩
end
def Vd(h:Heap)(H:ao):d2:=(List.range h.objs.size).filter fun a=>(H a).isSome
def wG(h:Heap)(H:ao):Heap:=PySem.W.hideAll h (Vd h H)
theorem arM(h:Heap)(H:ao):(wG h H).objs.size=h.objs.size:=PySem.W.hideAll_size _ _
theorem arN{h:Heap}{H:ao}{b:au}{o:Obj}(e:h.get? b=some o)(n:H b=none):(wG h H).get? b=some o :=
 PySem.W.hideAll_get _ e fun hm=>by
  have q:(H b).isSome=true:=(rT.mp hm).2;rw[n]at q;simp at q
theorem arO{h:Heap}{H:ao}{b:au}{o:Obj}(e:(wG h H).get? b=some o):h.get? b=some o/\H b=none:=by
 have e':h.get? b=some o:=PySem.W.of_hideAll (Vd h H) e;refine⟨e',?_⟩;cases q:H b with
 |none=>rfl
 |some x =>
  have hm:b∈Vd h H:=rT.mpr ⟨IW.mpr (fH e'),by simp[q]⟩;have z:(wG h H).get? b=none:=PySem.W.hideAll_none (Vd h H) hm;rw[z]at e;cases e
def arP(g h:Heap)(L:au):List (au×Obj):=(List.range h.objs.size).filterMap fun a=>if a=L\/(g.get? a).isSome=true then none else(h.get? a).map fun o=>(a,o)
def rest(g h:Heap)(L d:au):List (au×Obj):=(arP g h L).filter fun p=>decide (p.1≠d)
structure Mod(K:cp)(av:g_)(base:Heap):Prop where
 JB:K.In base
 glob:base.Ns mainGlobals av
 blt:∃ pJ,base.Ns builtinsNs pJ/\∀ x:Str,x≠"__name__"->pJ x=bootBuiltins x
 nolimit:base.NoLimit
structure bT where
 prog:fx
 w:e4
 K:cp
 av:g_
 base:Heap
 A:Around
 N:List Str
 jZ:aY
 JC:ao
 env:Env
 outer:List Env
 stack:List Env
 ex:d2
 fn:Str->Bool
 calm:Bool
 ha:List (au×Obj)
 xe:aO->aY->Prop
def nP(l:List Env):d2:=l.filterMap (·.frame)
abbrev bT.fs(X:bT):d2:=nP X.outer
def EY(sc:Scope)(x:Str):Prop:=sc.names.lookup x=some .local\/sc.names.lookup x=some .cell\/sc.names.lookup x=some .free
def Loc(sc:Scope)(x:Str):Prop:=sc.names.lookup x=some .local\/sc.names.lookup x=some .cell
def Look(env:Env)(h:Heap)(m:g_)(x:Str)(u:aO):Prop :=
 (env.kindOf x=some .local/\m x=some u)\/((env.kindOf x=some .cell\/env.kindOf x=some .free)/\∃ c,env.cells.lookup x=some c/\h.IsCell c (some u))
structure bT.Ok(X:bT):Prop where
 mod:Mod X.K X.av X.base
 kind:X.env.scope.kind=.function
 glob:X.env.globals=mainGlobals
 blt:X.env.builtins=builtinsNs
 above:X.jZ.heap.objs.size<=X.env.locals
 inj:∀ x y c,X.env.cells.lookup x=some c->X.env.cells.lookup y=some c->x=y
 has:∀ x,(X.env.kindOf x=some .cell\/X.env.kindOf x=some .free)->∃ c,X.env.cells.lookup x=some c
 wH:∀ x c,X.fn x=true->X.env.cells.lookup x=some c->X.jZ.heap.objs.size<=c
 hd:X.calm=true->X.A.handled=none
 frames:X.A.frames=some X.stack
 sZ:X.stack=X.outer\/(X.stack=X.env::X.outer/\X.env.frame=some X.env.locals)
 ym:∀ b∈X.ex,b≠X.env.locals/\∀ x c,X.env.cells.lookup x=some c->c≠b
 bs:∀ b o,X.base.get? b=some o->X.jZ.heap.get? b=some o/\X.JC b=none
 qu:X.base.objs.size<=X.jZ.heap.objs.size
 wI:∀ b o,X.base.get? b=some o->b∉X.ex
 wJ:∀ b∈X.ex,b∉X.fs
 nQ:X.jZ.heap.FunFrames X.base X.outer
 s6:∀ b∈X.fs,X.JC b=none
structure Inv(X:bT)(pins:List (au×Obj))(σ:List (Option V))(H:ao)(s:aY):Prop where
 ok:X.Ok
 os:s.os=X.jZ.os
 bare:AllBare s.gens
 base:jY X.fs X.ex X.JC H X.jZ.heap s.heap
 loc:∃ m,s.heap.Ns X.env.locals m/\∀ (i:Nat) (x:Str) (v:V),X.N[i]?=some x->σ[i]?=some (some v)->EY X.env.scope x->∃ u,RelV v u/\Look X.env s.heap m x u
 cell:∀ x c,X.env.cells.lookup x=some c->∃ v,s.heap.IsCell c v
 free:H X.env.locals=none
 oJ:∀ x c,X.env.cells.lookup x=some c->H c=none
 pin:∀ p∈X.ha++pins,s.heap.get? p.1=some p.2/\H p.1=none/\p.1≠X.env.locals/\p.1∉X.fs/\∀ v,p.2.data≠.cell v
 bL:ht X.prog X.w H s.heap
 len:σ.length=X.N.length
section
variable{X:bT}{pins:List (au×Obj)}{σ:List (Option V)}{H H':ao}{s:aY}{h':Heap}
theorem bT.Ok.arQ(ok:X.Ok){b:au}{o:Obj}(e:X.base.get? b=some o):b∉X.fs:=fun ak=>by
 have:=(ok.nQ.mem ak).1;rw[e]at this;cases this
theorem Inv.bs(I:Inv X pins σ H s):∀ b o,X.base.get? b=some o->s.heap.get? b=some o/\H b=none:=fun b o e =>
 ⟨I.base.keep b o (I.ok.bs b o e).1 (I.ok.bs b o e).2 (I.ok.arQ e) (I.ok.wI b o e),I.base.free b o (I.ok.bs b o e).1 (I.ok.bs b o e).2 (I.ok.wI b o e)⟩
theorem Inv.jJ(I:Inv X pins σ H s):∀ b o,X.base.get? b=some o->s.heap.get? b=some o:=fun b o e=>(I.bs b o e).1
theorem Inv.mod(I:Inv X pins σ H s):Mod X.K X.av X.base:=I.ok.mod
theorem Inv.jK(I:Inv X pins σ H s):X.K.In s.heap:=I.ok.mod.JB.keeps I.jJ
theorem Inv.fr(I:Inv X pins σ H s):∃ m,Fr X.base X.env.locals s.heap m :=
 let ⟨m,aR,_⟩:=I.loc
 ⟨m,aR,I.jJ,jg I.ok.qu I.ok.above⟩
theorem Inv.lt(I:Inv X pins σ H s):X.env.locals<s.heap.objs.size:=let ⟨_,aR,_⟩:=I.loc;aR.lt
theorem Inv.E_(I:Inv X pins σ H s):X.jZ.heap.objs.size<=s.heap.objs.size:=jg I.ok.above (Aa I.lt)
theorem Inv.arR(I:Inv X pins σ H s){a:au}(h:s.heap.objs.size<=a):a∉X.fs:=fun ak=>by
 obtain⟨_,o,bB,_⟩:=I.ok.nQ.mem ak;exact absurd (lq (fH bB) (jg I.E_ h)) (uK _)
theorem Inv.Bb(I:Inv X pins σ H s):∀ x c,X.env.cells.lookup x=some c->c≠X.env.locals:=fun x c e z=>by
 obtain⟨v,o,bB,hd⟩:=I.cell x c e;obtain⟨m,⟨hG,es,ep,uW,lD,_⟩,_⟩:=I.loc;rw[z,uW]at bB;cases bB;rw[lD]at hd;cases hd
theorem Inv.nQ(I:Inv X pins σ H s):s.heap.FunFrames X.base X.outer:=by
 have all:∀ (l:List Env),(∀ b∈nP l,b∈X.fs)->X.jZ.heap.FunFrames X.base l->s.heap.FunFrames X.base l:=by
  intro l;induction l with
  |nil=>intro _ _;trivial
  |cons env r bV =>
   intro aH aF;obtain⟨aN,⟨L,o,hf,aR,bB,hd⟩,aA⟩:=aF;have dc:L∈X.fs:=aH L (by unfold nP;rw[Ad,hf];exact h_);obtain⟨fM,e⟩:=I.base.slot L o bB (I.ok.s6 L dc) dc fun z=>I.ok.wJ L z dc;exact⟨aN,⟨L,_,hf,aR,e,hd⟩,bV (fun b ak=>aH b (by unfold nP;rw[Ad,hf];exact h2 _ ak)) aA⟩
 exact all X.outer (fun _ ak=>ak) I.ok.nQ
theorem Inv.stack(I:Inv X pins σ H s):s.heap.FunFrames X.base X.stack:=by
 rcases I.ok.sZ with e|⟨e,hf⟩
 ·rw[e];exact I.nQ
 ·rw[e];obtain⟨m,aR,_⟩:=I.loc;refine .cons (by rw[I.ok.kind];decide) hf aR ?_ I.nQ;exact Um (jg I.ok.qu I.ok.above)
theorem Inv.Ve(I:Inv X pins σ H s):∀ b∈nP X.stack,b∈X.env.locals::X.fs:=fun b ak=>by
 rcases I.ok.sZ with e|⟨e,hf⟩
 ·rw[e]at ak;exact h2 _ ak
 ·rw[e]at ak;unfold nP at ak;rw[Ad,hf]at ak;exact ak
theorem Inv.aa2(I:Inv X pins σ H s):∀ b∈nP X.stack,H b=none:=fun b ak=>by
 rcases gR.mp (I.Ve b ak)with e|ak
 ·rw[e];exact I.free
 ·obtain⟨_,o,bB,_⟩:=I.ok.nQ.mem ak;exact I.base.free b o bB (I.ok.s6 b ak) fun z=>I.ok.wJ b z ak
theorem Inv.step{g':Array GenState}{t':Nat}{d':Drawn}{ch:d2}(I:Inv X pins σ H s)
  (oK:∀ b∈ch,(b∈X.ex\/X.jZ.heap.objs.size<=b)/\b≠X.env.locals/\(∀ x c,X.env.cells.lookup x=some c->c≠b)/\∀ p∈X.ha++pins,p.1≠b)
  (keep:∀ b o,b≠X.env.locals->b∉X.fs->b∉ch->s.heap.get? b=some o->H b=none->h'.get? b=some o)
  (slot:∀ b o,b≠X.env.locals->b∈X.fs->b∉ch->s.heap.get? b=some o->H b=none->∃ fM,h'.get? b=some { o with slots:=fM }) (free:∀ b o,b∉ch->s.heap.get? b=some o->H b=none->H' b=none)
  (there:∀ b o,b∉ch->s.heap.get? b=some o->∃ hG,h'.get? b=some hG)
  (wD:∀ b xs,H b=some (.tup xs)->H' b=some (.tup xs)) (uV:∀ b o u,H b=some (.sX o u)->H' b=some (.sX o u)) (wF:∀ b ps,H b=some (.yj ps)->∃ more,H' b=some (.yj (ps++more)))
  (ns:∀ m,s.heap.Ns X.env.locals m->h'.Ns X.env.locals m) (bL:ht X.prog X.w H' h') (b5:AllBare g') :
  Inv X pins σ H' { s with heap:=h',gens:=g',drawn:=d',toks:=t' }:=by
 have ajs:∀ b o,X.jZ.heap.get? b=some o->b≠X.env.locals:=fun b o e=>gU (lq (fH e) I.ok.above);have Bc:∀ b o,X.jZ.heap.get? b=some o->b∉X.ex->b∉ch:=fun b o e aq ak=>by
  rcases (oK b ak).1 with z|z
  ·exact aq z
  ·exact absurd (lq (fH e) z) (uK _)
 have cellK:∀ x c,X.env.cells.lookup x=some c->∀ v,s.heap.IsCell c v->h'.IsCell c v:=fun x c e v ⟨o,bB,hd⟩=>by
  have Bd:c∉ch:=fun z=>(oK c z).2.2.1 x c e rfl;by_cases aV:c∈X.fs
  ·obtain⟨fM,q⟩:=slot c o (I.Bb x c e) aV Bd bB (I.oJ x c e);exact⟨_,q,hd⟩
  ·exact⟨o,keep c o (I.Bb x c e) aV Bd bB (I.oJ x c e),hd⟩
 refine⟨I.ok,I.os,b5,⟨fun b o e n ak aq=>?_,fun b o e n ak aq=>?_,fun b o e n aq=>?_,fun b o e aq=>?_,fun b xs e=>wD b xs (I.base.wD b xs e),fun b o xs e=>uV b o xs (I.base.uV b o xs e),fun b ps e=>?_⟩,?_,fun x c e=>?_,?_,fun x c e=>?_,fun p aL=>?_,bL,I.len⟩
 ·exact keep b o (ajs b o e) ak (Bc b o e aq) (I.base.keep b o e n ak aq) (I.base.free b o e n aq)
 ·obtain⟨fM,bF⟩:=I.base.slot b o e n ak aq;obtain⟨arS,a9⟩:=slot b _ (ajs b o e) ak (Bc b o e aq) bF (I.base.free b o e n aq);exact⟨arS,a9⟩
 ·obtain⟨hG,bF⟩:=I.base.there b o e aq;exact free b hG (Bc b o e aq) bF (I.base.free b o e n aq)
 ·obtain⟨hG,bF⟩:=I.base.there b o e aq;exact there b hG (Bc b o e aq) bF
 ·obtain⟨aa3,bF⟩:=I.base.wF b ps e;obtain⟨Vf,a9⟩:=wF b _ bF;exact⟨aa3++Vf,by rw[a9,Array.append_assoc]⟩
 ·obtain⟨m,aR,aF⟩:=I.loc;refine⟨m,ns m aR,fun i x v bF a9 dw=>?_⟩;obtain⟨u,r,l⟩:=aF i x v bF a9 dw;refine⟨u,r,?_⟩;rcases l with l|⟨k,c,e,z⟩
  ·exact .inl l
  ·exact .inr ⟨k,c,e,cellK x c e _ z⟩
 ·obtain⟨v,z⟩:=I.cell x c e;exact⟨v,cellK x c e v z⟩
 ·obtain⟨m,⟨o,_,_,bB,_⟩,_⟩:=I.loc;exact free _ o (fun z=>(oK _ z).2.1 rfl) bB I.free
 ·obtain⟨v,o,bB,hd⟩:=I.cell x c e;exact free c o (fun z=>(oK c z).2.2.1 x c e rfl) bB (I.oJ x c e)
 ·obtain⟨e,n,ne,kp,d⟩:=I.pin p aL;have Bd:p.1∉ch:=fun z=>(oK p.1 z).2.2.2 p aL rfl;exact⟨keep p.1 p.2 ne kp Bd e n,free p.1 p.2 Bd e n,ne,kp,d⟩
theorem Inv.un{t':Nat}(I:Inv X pins σ H s)(u:jY X.fs [] H H' s.heap h')(bL:ht X.prog X.w H' h'):Inv X pins σ H' { s with heap:=h',toks:=t' }:=by
 obtain⟨m,⟨o,es,ep,bB,r⟩,_⟩:=id I.loc;obtain⟨fM,dc⟩:=u.any bB I.free (by simp);exact I.step (g':=s.gens) (d':=s.drawn) (ch:=[]) (fun _ z=>nomatch z) (fun b o _ ak _ e n=>u.keep b o e n ak (by simp)) (fun b o _ ak _ e n=>u.slot b o e n ak (by simp)) (fun b o _ e n=>u.free b o e n (by simp)) (fun b o _ e=>u.there b o e (by simp)) u.wD u.uV u.wF (fun dU hm=>by
  obtain⟨hG,aa4,aa5,uW,r'⟩:=hm;rw[bB]at uW;cases uW;exact⟨_,aa4,aa5,dc,r'⟩) bL I.bare
theorem Inv.call{g':Array GenState}{t':Nat}{d':Drawn}{ch:d2}(I:Inv X pins σ H s)(u:jY (nP X.stack) ch H H' s.heap h')(bL:ht X.prog X.w H' h')(b5:AllBare g')
  (oK:∀ b∈ch,(b∈X.ex\/X.jZ.heap.objs.size<=b)/\b≠X.env.locals/\(∀ x c,X.env.cells.lookup x=some c->c≠b)/\∀ p∈X.ha++pins,p.1≠b) :
  Inv X pins σ H' { s with heap:=h',gens:=g',drawn:=d',toks:=t' }:=by
 obtain⟨m,⟨o,es,ep,bB,r⟩,_⟩:=id I.loc;obtain⟨fM,dc⟩:=u.any bB I.free fun z=>(oK _ z).2.1 rfl;exact I.step (ch:=ch) oK (fun b o dc ak aV e n=>u.keep b o e n (fun z=>(gR.mp (I.Ve b z)).elim dc ak) aV) (fun b o _ _ aV e n=>u.any e n aV) (fun b o aV e n=>u.free b o e n aV) (fun b o aV e=>u.there b o e aV) u.wD u.uV u.wF (fun dU hm=>by
  obtain⟨hG,aa4,aa5,uW,r'⟩:=hm;rw[bB]at uW;cases uW;exact⟨_,aa4,aa5,dc,r'⟩) bL b5
theorem Inv.turned{t':Nat}{it:au}(I:Inv X pins σ H s)(k:∀ b o,b≠it->s.heap.get? b=some o->h'.get? b=some o)(aR:H it=none)(dc:it≠X.env.locals)
  (h1:it∈X.ex\/X.jZ.heap.objs.size<=it) (aC:∀ x c,X.env.cells.lookup x=some c->c≠it) (bI:∀ p∈X.ha++pins,p.1≠it):Inv X pins σ H { s with heap:=h',toks:=t' }:=by
 have yp:∀ b u,H b=some u->b≠it:=fun b u e z=>by rw[z,aR]at e;cases e
 refine I.step (g':=s.gens) (d':=s.drawn) (ch:=[it]) (fun b ak=>?_) (fun b o _ _ aV e _=>k b o (fun z=>aV (by simp[z])) e) (fun b o _ _ aV e _=>⟨o.slots,k b o (fun z=>aV (by simp[z])) e⟩) (fun _ _ _ _ n=>n)
  (fun b o aV e=>⟨o,k b o (fun z=>aV (by simp[z])) e⟩) (fun _ _ e=>e) (fun _ _ _ e=>e) (fun b ps e=>⟨#[],by rw[e];simp⟩) (fun m hm=>?_) (fun b u e=>?_) I.bare
 ·have e:b=it:=by simpa using ak
  subst e;exact⟨h1,dc,aC,bI⟩
 ·obtain⟨o,es,ep,bB,r⟩:=hm;exact⟨o,es,ep,k _ o (Ne.symm dc) bB,r⟩
 ·refine(I.bL b u e).stay (fun c v aV q=>k c v ?_ q) (fun _ q=>q) fun _ _ q=>q;rcases aV with z|z
  ·rw[z];exact yp b u e
  ·exact yp c _ z
theorem Inv.tok(I:Inv X pins σ H s)(t:Nat):Inv X pins σ H { s with toks:=t }:=I.un (h':=s.heap) (t':=t) jY.refl I.bL
theorem Inv.kept{t':Nat}(I:Inv X pins σ H s)(k:∀ b u,s.heap.get? b=some u->h'.get? b=some u):Inv X pins σ H { s with heap:=h',toks:=t' }:=I.un (jY.kept k) (I.bL.kept k)
theorem Inv.laid{a:au}{o:HO}{t':Nat}(I:Inv X pins σ H s)(k:∀ b u,s.heap.get? b=some u->h'.get? b=some u)(aL:s.heap.objs.size<=a)(new:hP X.prog X.w (upd H a o) h' a o) :
  Inv X pins σ (upd H a o) { s with heap:=h',toks:=t' }:=I.un (jY.laid k aL (I.bL.fresh aL)) (I.bL.laid k aL new)
theorem Inv.write{x e:au}{o:HO}{t':Nat}(I:Inv X pins σ H s)(mu:Jz (H x))(he:e=x\/H e=some (.own x))(k:∀ b u,b≠e->s.heap.get? b=some u->h'.get? b=some u)(Ez:∃ u,h'.get? e=some u)
  (new:hP X.prog X.w (upd H x o) h' x o):Inv X pins σ (upd H x o) { s with heap:=h',toks:=t' }:=I.un (jY.write mu he k Ez) (I.bL.write mu he k Ez new)
theorem Inv.weak{dg:List (Option V)}(I:Inv X pins σ H s)(aF:dg.length=σ.length)(w:∀ (i:Nat) v,dg[i]?=some (some v)->σ[i]?=some (some v)):Inv X pins dg H s :=
 ⟨I.ok,I.os,I.bare,I.base,let ⟨m,aR,aa6⟩:=I.loc;⟨m,aR,fun i x v bF a9 dw=>aa6 i x v bF (w i v a9) dw⟩,I.cell,I.free,I.oJ,I.pin,I.bL,aF.trans I.len⟩
theorem Inv.JD{JF:List (au×Obj)}(I:Inv X pins σ H s)(h:∀ p∈JF,s.heap.get? p.1=some p.2/\H p.1=none/\p.1≠X.env.locals/\p.1∉X.fs/\∀ v,p.2.data≠.cell v):Inv X JF σ H s :=
 ⟨I.ok,I.os,I.bare,I.base,I.loc,I.cell,I.free,I.oJ,fun p aL=>(pe.mp aL).elim (fun z=>I.pin p (uJ _ z)) (h p),I.bL,I.len⟩
theorem aa7{N:List Str}(hn:N.Nodup){i j:Nat}{x:Str}(a:N[i]?=some x)(b:N[j]?=some x):i=j:=by
 obtain⟨h1,bF⟩:=eF.mp a;obtain⟨aC,a9⟩:=eF.mp b;exact(List.getElem_inj hn).mp (bF.trans a9.symm)
theorem ajt{M:Model}{A:Around}{E:aO->aY->Prop}{i:Nat}{x:Str}{v:V}{u:aO}{Q:Unit->aY->Prop}(I:Inv X pins σ H s)(hn:X.N.Nodup)(hi:X.N[i]?=some x)(aq:Loc X.env.scope x)(r:RelV v u)
  (h:∀ s',Inv X pins (σ.set i (some v)) H s'->(∃ a,Heap.SameBut a s.heap s'.heap/\(a=X.env.locals\/X.env.cells.lookup x=some a))->Q () s') (hf:X.fn x=true\/X.env.scope.names.lookup x=some .local:=by first|exact .inl rfl|exact .inr rfl|assumption):wpAny M A (storeName X.env x u) Q E s:=by
 obtain⟨m,aR,aF⟩:=id I.loc;have arT:(X.env.scope.kind == .class || (X.env.scope.kind == .module && X.env.locals != X.env.globals))=false:=by rw[I.ok.kind];rfl
 have aju:i < σ.length:=by rw[I.len];exact(eF.mp hi).1
 have Bb:=I.Bb;have tracked:∀ {a:au} {h':Heap},(∃ o,s.heap.get? a=some o/\H a=none)->Heap.SameBut a s.heap h'->ht X.prog X.w H h':=fun{a h'} aX aH b cY e=>by
  obtain⟨_,_,s7⟩:=aX;refine(I.bL b cY e).stay (fun c w' aV q=>(aH.2 c ?_).trans q) (fun _ q=>q) fun _ _ q=>q;rintro rfl;rcases aV with rfl|aV
  ·rw[s7]at e;cases e
  ·rw[s7]at aV;cases aV
 rcases aq with aN|aN
 ·refine wpAny_storeName_local aN aR (fun h' lE aH=>?_) arT;obtain⟨arU,_,_,JG,_⟩:=id aR;refine h _ ⟨I.ok,I.os,I.bare,⟨fun b o e n ak aq=>?_,fun b o e n ak aq=>?_,I.base.free,fun b o e aq=>?_,I.base.wD,I.base.uV,I.base.wF⟩,⟨_,lE,fun j y aa8 bF a9 dw=>?_⟩,fun y c e=>?_,I.free,I.oJ,fun p aL=>?_,tracked ⟨arU,JG,I.free⟩ aH,by simpa using I.len⟩ ⟨_,aH,.inl rfl⟩
  ·exact(aH.2 b (gU (lq (fH e) I.ok.above))).trans (I.base.keep b o e n ak aq)
  ·obtain⟨fM,bF⟩:=I.base.slot b o e n ak aq;exact⟨fM,(aH.2 b (gU (lq (fH e) I.ok.above))).trans bF⟩
  ·obtain⟨hG,bF⟩:=I.base.there b o e aq;exact⟨hG,(aH.2 b (gU (lq (fH e) I.ok.above))).trans bF⟩
  ·by_cases bN:j=i
   ·subst bN;rw[hi]at bF;cases bF;rw[IK aju]at a9;cases a9;exact⟨u,r,.inl ⟨aN,by simp⟩⟩
   ·rw[I6 (Ne.symm bN)]at a9;obtain⟨u',r',q⟩:=aF j y aa8 bF a9 dw;refine⟨u',r',?_⟩;rcases q with⟨k,e⟩|⟨k,c,e,z⟩
    ·refine .inl ⟨k,?_⟩;have:y≠x:=fun e=>bN (aa7 hn bF (e▸hi));simp[this,e]
    ·exact .inr ⟨k,c,e,z.sameBut aH (Bb y c e)⟩
  ·obtain⟨w',z⟩:=I.cell y c e;exact⟨w',z.sameBut aH (Bb y c e)⟩
  ·obtain⟨e,n,ne,kp,d⟩:=I.pin p aL;exact⟨(aH.2 p.1 ne).trans e,n,ne,kp,d⟩
 ·have Jr:X.fn x=true:=by
   rcases hf with z|z
   ·exact z
   ·rw[z]at aN;cases aN
  obtain⟨c,aV⟩:=I.ok.has x (.inl aN);obtain⟨w',z⟩:=I.cell x c aV;refine wpAny_storeName_cell I.ok.kind aN aV z (fun h' aa9 aH=>?_);obtain⟨jL,ajv,arV⟩:=id z;refine h { s with heap:=h' } ⟨I.ok,I.os,I.bare,⟨fun b o e n ak aq=>?_,fun b o e n ak aq=>?_,I.base.free,fun b o e aq=>?_,I.base.wD,I.base.uV,I.base.wF⟩,⟨m,aR.sameBut aH (Ne.symm (Bb x c aV)),fun j y aa8 bF a9 dw=>?_⟩,fun y c' e=>?_,I.free,I.oJ,fun p aL=>?_,tracked ⟨jL,ajv,I.oJ x c aV⟩ aH,by simpa using I.len⟩ ⟨c,aH,.inr aV⟩
  ·exact(aH.2 b (gU (lq (fH e) (I.ok.wH x c Jr aV)))).trans (I.base.keep b o e n ak aq)
  ·obtain⟨fM,bF⟩:=I.base.slot b o e n ak aq;exact⟨fM,(aH.2 b (gU (lq (fH e) (I.ok.wH x c Jr aV)))).trans bF⟩
  ·obtain⟨hG,bF⟩:=I.base.there b o e aq;exact⟨hG,(aH.2 b (gU (lq (fH e) (I.ok.wH x c Jr aV)))).trans bF⟩
  ·by_cases bN:j=i
   ·subst bN;rw[hi]at bF;cases bF;rw[IK aju]at a9;cases a9;exact⟨u,r,.inr ⟨.inl aN,c,aV,aa9⟩⟩
   ·rw[I6 (Ne.symm bN)]at a9;obtain⟨u',r',q⟩:=aF j y aa8 bF a9 dw;refine⟨u',r',?_⟩;rcases q with q|⟨k,c',e,lG⟩
    ·exact .inl q
    ·refine .inr ⟨k,c',e,lG.sameBut aH ?_⟩;rintro rfl;exact bN (aa7 hn bF (I.ok.inj _ _ _ e aV▸hi))
  ·by_cases E':c'=c
   ·subst E';exact⟨_,aa9⟩
   ·obtain⟨aa_,eH⟩:=I.cell y c' e;exact⟨aa_,eH.sameBut aH E'⟩
  ·obtain⟨e,n,ne,kp,d⟩:=I.pin p aL;refine⟨(aH.2 p.1 ?_).trans e,n,ne,kp,d⟩;intro q;rw[q,ajv]at e;have d9:jL=p.2:=Option.some.inj e;exact d w' (by rw[← d9];exact arV)
theorem aa'{M:Model}{A:Around}{E:aO->aY->Prop}{i:Nat}{x:Str}{v:V}{u:aO}{Q:Unit->aY->Prop}(I:Inv X pins σ H s)(hn:X.N.Nodup)(hi:X.N[i]?=some x)(aq:Loc X.env.scope x)(r:RelV v u)
  (h:∀ s',Inv X pins (σ.set i (some v)) H s'->Q () s') (hf:X.fn x=true\/X.env.scope.names.lookup x=some .local:=by first|exact .inl rfl|exact .inr rfl|assumption):wpAny M A (storeName X.env x u) Q E s :=
 ajt I hn hi aq r (fun s' iu _=>h s' iu) hf
theorem Inv.call'{s':aY}{ch:d2}(I:Inv X pins σ H s)(bB:s'.os=s.os)(u:jY (nP X.stack) ch H H' s.heap s'.heap)(bL:ht X.prog X.w H' s'.heap)(b5:AllBare s'.gens)
  (oK:∀ b∈ch,(b∈X.ex\/X.jZ.heap.objs.size<=b)/\b≠X.env.locals/\(∀ x c,X.env.cells.lookup x=some c->c≠b)/\∀ p∈X.ha++pins,p.1≠b):Inv X pins σ H' s':=by
 obtain⟨h',g',d',t',hG⟩:=s';have e:hG=s.os:=bB;subst e;exact I.call (g':=g') (t':=t') (d':=d') u bL b5 oK
end
abbrev cN:=aO->Option au->ao->Prop
abbrev St:=List (Option V)
abbrev bA:=V->ao->Prop
abbrev TE:=St->ao->bA->Prop
abbrev TT:=St->ao->(Bool->ao->Prop)->Prop
abbrev TA:=St->ao->(List V->ao->Prop)->Prop
structure Ends where
 cU:St->ao->Prop
 Fb:bA
 jJ:St->ao->Prop:=fun _ _=>False
 fu:St->ao->Prop:=fun _ _=>False
abbrev TS:=Ends->St->ao->Prop
def EP(X:bT)(pins:List (au×Obj))(σ:St)(Q:bA)(u:aO)(s':aY):Prop:=∃ v H',Inv X pins σ H' s'/\RelV v u/\Q v H'
def Vg(X:bT)(pins:List (au×Obj))(σ:St)(Q:Bool->ao->Prop)(b:Bool)(s':aY):Prop:=∃ H',Inv X pins σ H' s'/\Q b H'
def AP(X:bT)(pins:List (au×Obj))(σ:St)(Q:List V->ao->Prop)(us:dH)(s':aY):Prop:=∃ vs H',Inv X pins σ H' s'/\Vals vs us/\Q vs H'
def SP(X:bT)(pins:List (au×Obj))(D:Ends)(f:Flow)(s':aY):Prop :=
 match f with
 | .next=>∃ dg H',Inv X pins dg H' s'/\D.cU dg H'
 | .brk=>∃ dg H',Inv X pins dg H' s'/\D.jJ dg H'
 | .cont=>∃ dg H',Inv X pins dg H' s'/\D.fu dg H'
 | .ret u=>∃ v dg H',Inv X pins dg H' s'/\RelV v u/\D.Fb v H'
def PE(X:bT)(e:Expr)(t:TE):Prop :=
 ∀ (pins:List (au×Obj)) (s:aY) (σ:St) (H:ao) (Q:bA),Inv X pins σ H s->t σ H Q->wpAny (model X.prog X.w) X.A (eval e X.env) (EP X pins σ Q) X.xe s
def pK(X:bT)(e:Expr)(t:TT):Prop :=
 ∀ (pins:List (au×Obj)) (s:aY) (σ:St) (H:ao) (Q:Bool->ao->Prop),Inv X pins σ H s->t σ H Q->wpAny (model X.prog X.w) X.A (isTrue e X.env (eval e X.env)) (Vg X pins σ Q) X.xe s
def PW(X:bT)(e:Expr)(t:TT):Prop :=
 ∀ (whole:Sem aO) (pins:List (au×Obj)) (s:aY) (σ:St) (H:ao) (Q:Bool->ao->Prop),Inv X pins σ H s->t σ H Q->wpAny (model X.prog X.w) X.A (isTrue e X.env whole) (Vg X pins σ Q) X.xe s
theorem PW.pt{X:bT}{e:Expr}{t:TT}(h:PW X e t):pK X e t:=h _
def PA(X:bT)(es:List Expr)(t:TA):Prop :=
 ∀ (pos:Pos) (pins:List (au×Obj)) (s:aY) (σ:St) (H:ao) (Q:List V->ao->Prop),Inv X pins σ H s->t σ H Q->wpAny (model X.prog X.w) X.A (spliced (backTo pos (starEach es X.env))) (AP X pins σ Q) X.xe s
def PS(X:bT)(st:Stmt)(t:TS):Prop :=
 ∀ (pins:List (au×Obj)) (s:aY) (σ:St) (H:ao) (D:Ends),Inv X pins σ H s->t D σ H->wpAny (model X.prog X.w) X.A (exec st X.env) (SP X pins D) X.xe s
def pL(X:bT)(st:List Stmt)(t:TS):Prop :=
 ∀ (pins:List (au×Obj)) (s:aY) (σ:St) (H:ao) (D:Ends),Inv X pins σ H s->t D σ H->wpAny (model X.prog X.w) X.A (execs st X.env) (SP X pins D) X.xe s
theorem cL{α:Type}{t:Sem α}{Q er:α->aY->Prop}{M:Model}{A:Around}{E:aO->aY->Prop}{s:aY}(h:wpAny M A t Q E s)(Bf:∀ a s,Q a s->er a s):wpAny M A t er E s:=wpAny_mono h Bf fun _ _ x=>x
section
variable{X:bT}
theorem bin{a b:Expr}{cO tb:TE}(aX:PE X a cO)(ak:PE X b tb){pins:List (au×Obj)}{s:aY}{σ:St}{H:ao}{R:V->V->ao->Prop}(I:Inv X pins σ H s)(h:cO σ H fun x H1=>tb σ H1 fun y aB=>R x y aB)
  {α:Type} {Q:α->aY->Prop} {f:aO->aO->Sem α}
  (hf:∀ v u s2 x y aB,Inv X pins σ aB s2->RelV x v->RelV y u->R x y aB->wpAny (model X.prog X.w) X.A (f v u) Q X.xe s2) :
  wpAny (model X.prog X.w) X.A (eval a X.env) (fun v fV=>wpAny (model X.prog X.w) X.A (eval b X.env) (fun u lZ=>wpAny (model X.prog X.w) X.A (f v u) Q X.xe lZ) X.xe fV) X.xe s:=by
 refine cL (aX pins s σ H _ I h) fun v s1 aU=>?_;obtain⟨x,H1,bp,cI,bU⟩:=aU;refine cL (ak pins s1 σ H1 _ bp bU) fun u s2 aU=>?_;obtain⟨y,aB,dK,dp,cB⟩:=aU;exact hf v u s2 x y aB dK cI dp cB
inductive gh(i:Nat)(σ:St)(H:ao)(Q:bA):Prop
 |mk (v:V) (e:σ[i]?=some (some v)) (q:Q v H)
def uX(v:V):TE:=fun _ H Q=>Q v H
theorem arW{i:Nat}{x:Str}{pos:Pos}(hn:X.N[i]?=some x)(a0:EY X.env.scope x)(hd:(x == ("__debug__":Str))=false:=by decide) (wK:(x == ("__classdict__":Str))=false:=by decide):PE X (.Name x pos) (gh i):=by
 intro pins s σ H Q I h;obtain⟨v,e,h⟩:=h;obtain⟨m,aR,aF⟩:=I.loc;obtain⟨u,r,l⟩:=aF i x v hn e a0;have fin:EP X pins σ Q u s:=⟨v,H,I,r,h⟩;rcases l with⟨aN,hm⟩|⟨aN,c,aV,Vh⟩
 ·exact wpAny_Name (wpAny_loadName_local I.ok.kind aN aR hm fin) hd
 ·rcases aN with aN|aN
  ·exact wpAny_Name (wpAny_loadName_cell I.ok.kind aN aV Vh fin) hd
  ·exact wpAny_Name (wpAny_loadName_free I.ok.kind aN aV Vh fin wK) hd
theorem b3{i j pos}:PE X (.Constant (.int i) j pos) (uX (.int i)):=fun _ _ _ H _ I h=>wpAny_Constant_int ⟨.int i,H,I.tok _,⟨_,rfl⟩,h⟩
theorem ajw{b j pos}:PE X (.Constant (.bool b) j pos) (uX (.bl b)):=fun _ _ _ H _ I h=>Constant_bool ⟨.bl b,H,I,rfl,h⟩
theorem Fd{j pos}:PE X (.Constant .none j pos) (uX .non):=fun _ _ _ H _ I h=>Constant_none ⟨.non,H,I,rfl,h⟩
theorem arX{x j pos}:PE X (.Constant (.str x) j pos) (uX (.str x)):=fun _ _ _ H _ I h=>Calls.Constant_str ⟨.str x,H,I.tok _,⟨_,rfl⟩,h⟩
def qw(X:bT)(x:Str):Prop:=X.env.kindOf x=some .globalImplicit
theorem Fe{E:aO->aY->Prop}{pins:List (au×Obj)}{s:aY}{σ:St}{H:ao}{x:Str}{u:aO}{pos:Pos}{Q:aO->aY->Prop}(I:Inv X pins σ H s)(b5:qw X x)(hm:X.av x=some u)(h:Q u s)
  (hd:(x == ("__debug__":Str))=false:=by decide):wpAny (model X.prog X.w) X.A (eval (.Name x pos) X.env) Q E s :=
 Calls.Name_function_global I.ok.kind b5 (Calls.loadGlobal_global (by rw[I.ok.glob];exact I.mod.glob.keeps I.jJ) hm h) hd
theorem Fg{E:aO->aY->Prop}{pins:List (au×Obj)}{s:aY}{σ:St}{H:ao}{x:Str}{u:aO}{pos:Pos}{Q:aO->aY->Prop}(I:Inv X pins σ H s)(b5:qw X x)(hm:X.av x=none)(a0:bootBuiltins x=some u)(h:Q u s)
  (aR:x≠"__name__":=by decide) (hd:(x == ("__debug__":Str))=false:=by decide):wpAny (model X.prog X.w) X.A (eval (.Name x pos) X.env) Q E s:=by
 obtain⟨pJ,h1,aC⟩:=I.mod.blt;exact Calls.Name_function_global I.ok.kind b5 (Calls.loadGlobal_builtin (by rw[I.ok.glob];exact I.mod.glob.keeps I.jJ) hm (by rw[I.ok.blt];exact h1.keeps I.jJ) ((aC x aR).trans a0) h) hd
theorem gW{x:Str}{v:V}{u:aO}{pos:Pos}(b5:qw X x)(hm:X.av x=some u)(r:RelV v u)(hd:(x == ("__debug__":Str))=false:=by decide):PE X (.Name x pos) (uX v) :=
 fun _ _ _ H _ I h=>Fe I b5 hm ⟨v,H,I,r,h⟩ hd
variable{a b:Expr}{cO tb:TE}{pos:Pos}
def PC(X:bT)(op:CmpOp)(a b:Expr)(t:TE):Prop :=
 ∀ (pins:List (au×Obj)) (s:aY) (σ:St) (H:ao) (Q:bA),Inv X pins σ H s->t σ H Q ->
  wpAny (model X.prog X.w) X.A (eval a X.env) (fun v fV=>wpAny (model X.prog X.w) X.A (eval b X.env) (fun u lZ=>wpAny (model X.prog X.w) X.A (compareOp op v u) (EP X pins σ Q) X.xe lZ) X.xe fV) X.xe s
theorem arY(b:Expr){op:CmpOp}(h:op≠.In)(aC:op≠.NotIn):behindInMarks op b=false:=by
 have bF:(op == CmpOp.In)=false:=by cases op<;>first|rfl|exact absurd rfl h
 have a9:(op == CmpOp.NotIn)=false:=by cases op<;>first|rfl|exact absurd rfl aC
 cases b<;>simp[behindInMarks,bF,a9]
def arZ(cO:TE):TE:=fun σ H Q=>cO σ H fun x H1=>Q (.bl (decide (x=.non))) H1
def ar0(cO:TE):TE:=fun σ H Q=>cO σ H fun x H1=>Q (.bl (!decide (x=.non))) H1
theorem RelV.ajx{x:V}{v:aO}(r:RelV x v):(v == Value.none)=decide (x=.non):=by
 cases x with
 |non=>cases r;rfl
 |bl _=>cases r;rfl
 |int _=>obtain⟨t,rfl⟩:=r;rfl
 |str _=>obtain⟨t,rfl⟩:=r;rfl
 |pI _=>obtain⟨t,rfl⟩:=r;rfl
 |Jy _=>obtain⟨t,rfl⟩:=r;rfl
 |ref _=>cases r;rfl
 |ty _=>cases r;rfl
theorem yq{j pos'}(aX:PE X a cO):PC X .Is a (.Constant .none j pos') (arZ cO):=by
 intro pins s σ H Q I h;refine cL (aX pins s σ H _ I h) fun v s1 aU=>?_;obtain⟨x,H1,bp,cI,bU⟩:=aU;exact Constant_none (is_none_gen ⟨.bl _,H1,bp,by rw[cI.ajx];rfl,bU⟩)
theorem abb{j pos'}(aX:PE X a cO):PC X .IsNot a (.Constant .none j pos') (ar0 cO):=by
 intro pins s σ H Q I h;refine cL (aX pins s σ H _ I h) fun v s1 aU=>?_;obtain⟨x,H1,bp,cI,bU⟩:=aU;exact Constant_none (isnot_none_gen ⟨.bl _,H1,bp,by rw[cI.ajx];rfl,bU⟩)
inductive ajy(Q:Bool->ao->Prop)(x:V)(H:ao):Prop
 |mk (c:Bool) (e:x=.bl c) (q:Q c H)
def ar3(t:TE):TT:=fun σ H Q=>t σ H (ajy Q)
theorem pN{op:CmpOp}{t:TE}(h:PC X op a b t)(h1:behindInMarks op b=false:=by first|exact arY _ (by decide) (by decide)|rfl):pK X (.Compare a [op] [b] pos) (ar3 t):=by
 intro pins s σ H Q I hw;refine wpAny_isTrue_Compare1 (cL (h pins s σ H _ I hw) fun v s1 h1=>cL h1 fun u s2 aC=>cL aC fun c s3 aU=>?_) h1;obtain⟨x,H1,bp,cI,bU⟩:=aU;obtain⟨d,rfl,q⟩:=bU;cases cI;exact wpAny_truthy_bool ⟨H1,bp,q⟩
variable{r6 Vi:TT}{rest:List Expr}
def ar4(t u:TT):TT:=fun σ H Q=>t σ H fun c H1=>if c=true then u σ H1 Q else Q false H1
def ar5(t u:TT):TT:=fun σ H Q=>t σ H fun c H1=>if c=true then Q true H1 else u σ H1 Q
def ajz(t:TT):TT:=fun σ H Q=>t σ H fun c H1=>Q (!c) H1
theorem abd(aX:pK X a r6):PW X (.BoolOp .And [a] pos) r6:=by
 intro JH pins s σ H Q I h;refine isTrue_and (cL (aX pins s σ H Q I h) fun c s1 e=>?_);cases c with
 |true=>exact isTrue_and_nil e
 |false=>exact e
theorem abe(aX:pK X a r6):PW X (.BoolOp .Or [a] pos) r6:=by
 intro JH pins s σ H Q I h;refine isTrue_or (cL (aX pins s σ H Q I h) fun c s1 e=>?_);cases c with
 |false=>exact isTrue_or_nil e
 |true=>exact e
theorem abf(aX:pK X a r6)(ak:PW X (.BoolOp .And (b::rest) pos) Vi):PW X (.BoolOp .And (a::b::rest) pos) (ar4 r6 Vi):=by
 intro JH pins s σ H Q I h;refine isTrue_and (cL (aX pins s σ H _ I h) fun c s1 aU=>?_);obtain⟨H1,bp,bU⟩:=aU;cases c with
 |true=>exact ak JH pins s1 σ H1 Q bp bU
 |false=>exact⟨H1,bp,bU⟩
theorem abg(aX:pK X a r6)(ak:PW X (.BoolOp .Or (b::rest) pos) Vi):PW X (.BoolOp .Or (a::b::rest) pos) (ar5 r6 Vi):=by
 intro JH pins s σ H Q I h;refine isTrue_or (cL (aX pins s σ H _ I h) fun c s1 aU=>?_);obtain⟨H1,bp,bU⟩:=aU;cases c with
 |true=>exact⟨H1,bp,bU⟩
 |false=>exact ak JH pins s1 σ H1 Q bp bU
theorem abh(aX:pK X a r6):pK X (.UnaryOp .Not a pos) (ajz r6):=by
 intro pins s σ H Q I h;exact isTrue_not (aX pins s σ H (fun c H1=>Q (!c) H1) I h)
def ar6(t:TT)(cO tb:TE):TE:=fun σ H Q=>t σ H fun c H1=>if c=true then cO σ H1 Q else tb σ H1 Q
theorem Vj{c:Expr}(aV:pK X c r6)(aX:PE X a cO)(ak:PE X b tb):PE X (.IfExp c a b pos) (ar6 r6 cO tb):=by
 intro pins s σ H Q I h;refine wpAny_IfExp (cL (aV pins s σ H _ I h) fun d s1 aU=>?_);obtain⟨H1,bp,bU⟩:=aU;cases d with
 |true=>exact aX pins s1 σ H1 Q bp bU
 |false=>exact ak pins s1 σ H1 Q bp bU
end
def aT(K:cp)(H:ao)(a:au)(xs:List V):Prop :=
 sY H a (.lst xs) \/
  ∃ (o:Obj) (its:Array aO) (n:Nat),K.lookup a=some o/\o.cls=.type "list"/\o.dict=none/\o.data=.seq its n/\its.size<=sizeLine/\Vals xs its.toList
def fO(K:cp)(H:ao)(a:au)(xs:List V):Prop :=
 sY H a (.tup xs) \/
  ∃ (o:Obj) (its:Array aO) (n:Nat),K.lookup a=some o/\o.cls=.type "tuple"/\o.data=.seq its n/\its.size<=sizeLine/\Vals xs its.toList
noncomputable def ar7:aO->Option V
 | .none=>some .non
 | .bool b=>some (.bl b)
 | .int i _=>some (.int i)
 | .str x _=>some (.str x)
 | .bytes b _=>some (.pI b)
 | .float b _=>some (.Jy b)
 | .ref a=>some (.ref a)
 | .type n=>some (.ty n)
 |_=>none
theorem RelV.abs{x:V}{u:aO}(r:RelV x u):ar7 u=some x:=by
 cases x with
 |non=>cases r;rfl
 |bl _=>cases r;rfl
 |int _=>obtain⟨t,rfl⟩:=r;rfl
 |str _=>obtain⟨t,rfl⟩:=r;rfl
 |pI _=>obtain⟨t,rfl⟩:=r;rfl
 |Jy _=>obtain⟨t,rfl⟩:=r;rfl
 |ref _=>cases r;rfl
 |ty _=>cases r;rfl
theorem RelV.inj{x y:V}{u:aO}(r:RelV x u)(q:RelV y u):x=y:=Option.some.inj (r.abs.symm.trans q.abs)
theorem Vals.inj:∀ {xs bO:List V} {us:dH},Vals xs us->Vals bO us->xs=bO
 |_,_,_,.nil,.nil=>rfl
 |_,_,_,.cons r t,.cons r' t'=>by rw[r.inj r',Vals.inj t t']
section
variable{X:bT}{pins:List (au×Obj)}{σ:St}{H:ao}{s:aY}{a:au}{xs bO:List V}
theorem aT.of{K:cp}(h:H a=some (.lst xs)):aT K H a xs:=.inl (.inl h)
theorem fO.of{K:cp}(h:H a=some (.tup xs)):fO K H a xs:=.inl (.inl h)
theorem Inv.list(I:Inv X pins σ H s)(h:aT X.K H a xs):∃ its:dH,Vals xs its/\PlainL s.heap a its.toArray/\xs.length<=sizeLine:=by
 rcases h with h|⟨o,its,n,aN,aV,hd,aH,hz,r⟩
 ·obtain⟨z,its,n,r,e⟩:=h.ok I.bL;exact⟨its,r,⟨_,n,e,Z,Z,Z⟩,z⟩
 ·refine⟨its.toList,r,⟨o,n,I.jK a o aN,aV,hd,by simpa using aH⟩,?_⟩;have e:=r.length;simp only[I7]at e;omega
theorem Inv.tuple(I:Inv X pins σ H s)(h:fO X.K H a xs):∃ its:dH,Vals xs its/\IsTup s.heap a its.toArray/\xs.length<=sizeLine:=by
 rcases h with h|⟨o,its,n,aN,aV,aH,hz,r⟩
 ·obtain⟨z,its,r,p⟩:=h.ok I.bL;exact⟨its,r,p,z⟩
 ·refine⟨its.toList,r,⟨o,I.jK a o aN,aV,n,by simpa using aH⟩,?_⟩;have e:=r.length;simp only[I7]at e;omega
theorem Inv.Vk(I:Inv X pins σ H s)(h:aT X.K H a xs)(h':aT X.K H a bO):xs=bO:=by
 obtain⟨its,r,⟨o,n,e,_,_,d⟩,_⟩:=I.list h;obtain⟨its',r',⟨hG,n',e',_,_,d'⟩,_⟩:=I.list h';rw[e]at e';cases e';rw[d]at d';injection d' with JK _
 have:its=its':=by simpa using congrArg Array.toList JK
 subst this;exact r.inj r'
theorem Inv.ar8(I:Inv X pins σ H s)(h:fO X.K H a xs)(h':fO X.K H a bO):xs=bO:=by
 obtain⟨its,r,⟨o,e,_,n,d⟩,_⟩:=I.tuple h;obtain⟨its',r',⟨hG,e',_,n',d'⟩,_⟩:=I.tuple h';rw[e]at e';cases e';rw[d]at d';injection d' with JK _
 have:its=its':=by simpa using congrArg Array.toList JK
 subst this;exact r.inj r'
end
abbrev bT.wish(X:bT)(E:aO->aY->Prop):bT:={ X with xe:=E }
abbrev bT.q6(X:bT):bT:=X.wish fun _ _=>False
theorem bT.Ok.wish{X:bT}(ok:X.Ok)(E:aO->aY->Prop):(X.wish E).Ok :=
 ⟨ok.mod,ok.kind,ok.glob,ok.blt,ok.above,ok.inj,ok.has,ok.wH,ok.hd,ok.frames,ok.sZ,ok.ym,ok.bs,ok.qu,ok.wI,ok.wJ,ok.nQ,ok.s6⟩
theorem bT.Ok.q7{X:bT}{E:aO->aY->Prop}(ok:(X.wish E).Ok):X.Ok :=
 ⟨ok.mod,ok.kind,ok.glob,ok.blt,ok.above,ok.inj,ok.has,ok.wH,ok.hd,ok.frames,ok.sZ,ok.ym,ok.bs,ok.qu,ok.wI,ok.wJ,ok.nQ,ok.s6⟩
section
variable{X:bT}{pins:List (au×Obj)}{σ:St}{H:ao}{s:aY}{E:aO->aY->Prop}
theorem Inv.wish(I:Inv X pins σ H s)(E:aO->aY->Prop):Inv (X.wish E) pins σ H s:=⟨I.ok.wish E,I.os,I.bare,I.base,I.loc,I.cell,I.free,I.oJ,I.pin,I.bL,I.len⟩
theorem Inv.q7(I:Inv (X.wish E) pins σ H s):Inv X pins σ H s:=⟨I.ok.q7,I.os,I.bare,I.base,I.loc,I.cell,I.free,I.oJ,I.pin,I.bL,I.len⟩
theorem SP.q7{D:Ends}{f:Flow}{s':aY}(h:SP (X.wish E) pins D f s'):SP X pins D f s':=by
 cases f with
 |next=>obtain⟨dg,H',I,q⟩:=h;exact⟨dg,H',I.q7,q⟩
 |brk=>obtain⟨dg,H',I,q⟩:=h;exact⟨dg,H',I.q7,q⟩
 |cont=>obtain⟨dg,H',I,q⟩:=h;exact⟨dg,H',I.q7,q⟩
 |ret u=>obtain⟨v,dg,H',I,r,q⟩:=h;exact⟨v,dg,H',I.q7,r,q⟩
end
section
variable{X:bT}{st:Stmt}{rest:List Stmt}{t u:TS}{e:Expr}{te:TE}{pos:Pos}
def ar9:TS:=fun D σ H=>D.cU σ H
def c4(t u:TS):TS:=fun D σ H=>t { D with cU:=u D } σ H
theorem hu:pL X [] ar9:=fun _ _ σ H _ I h=>wpAny_execs_nil ⟨σ,H,I,h⟩
theorem aW(h1:PS X st t)(aC:pL X rest u):pL X (st::rest) (c4 t u):=by
 intro pins s σ H D I h;refine wpAny_execs_cons (cL (h1 pins s σ H { D with cU:=u D } I h) fun f s1 q=>?_);cases f with
 |next =>
  obtain⟨dg,H',iu,q⟩:=q;exact aC pins s1 dg H' D iu q
 |ret v=>exact q
 |brk=>exact q
 |cont=>exact q
theorem bk(h1:PS X st t):pL X [st] t:=by
 intro pins s σ H D I h;refine wpAny_execs_cons (cL (h1 pins s σ H D I h) fun f s1 q=>?_);cases f with
 |next=>exact wpAny_execs_nil q
 |ret v=>exact q
 |brk=>exact q
 |cont=>exact q
theorem Inv.quiet{pins:List (au×Obj)}{σ:St}{H:ao}{s:aY}(I:Inv X pins σ H s):interactive X.env=false:=by simp[interactive,I.ok.kind]
def ar_(D:Ends)(σ:St)(_:V)(H:ao):Prop:=D.cU σ H
def wL(te:TE):TS:=fun D σ H=>te σ H (ar_ D σ)
theorem et(he:PE X e te)(aH:swapsWith e none pos.line X.env=pure false:=by rfl):PS X (.Expr e pos) (wL te):=by
 intro pins s σ H D I h;exact wpAny_Expr_any (cL (he pins s σ H _ I h) fun v s1 ⟨x,H1,bp,cI,bU⟩=>⟨σ,H1,bp,bU⟩) I.quiet aH
def ajA(te:TE):TS:=fun D σ H=>te σ H D.Fb
theorem dM(he:PE X e te):PS X (.Return (some e) pos) (ajA te):=by
 intro pins s σ H D I h;exact wpAny_Return_some (cL (he pins s σ H _ I h) fun v s1 ⟨x,H1,bp,cI,bU⟩=>⟨x,σ,H1,bp,cI,bU⟩)
def ar':TS:=fun D _ H=>D.Fb .non H
theorem abj:PS X (.Return none pos) ar':=fun _ _ σ H _ I h=>wpAny_Return_none ⟨.non,σ,H,I,rfl,h⟩
def ajB(c:TT)(t u:TS):TS:=fun D σ H=>c σ H fun b H1=>if b=true then t D σ H1 else u D σ H1
theorem gj{c:Expr}{a b:List Stmt}{tc:TT}(aV:pK X c tc)(aX:pL X a t)(ak:pL X b u):PS X (.If c a b pos) (ajB tc t u):=by
 intro pins s σ H D I h;refine wpAny_If (cL (aV pins s σ H _ I h) fun d s1 aU=>?_);obtain⟨H1,bp,bU⟩:=aU;cases d with
 |true=>exact aX pins s1 σ H1 D bp bU
 |false=>exact ak pins s1 σ H1 D bp bU
end
abbrev lH:=V->St->ao->(St->ao->Prop)->Prop
abbrev yr:=List V->St->ao->(St->ao->Prop)->Prop
def PG(X:bT)(target:Expr)(t:lH):Prop :=
 ∀ (pins:List (au×Obj)) (s:aY) (σ:St) (H:ao) (v:V) (u:aO) (Q:St->ao->Prop),Inv X pins σ H s->RelV v u->t v σ H Q ->
  wpAny (model X.prog X.w) X.A (assign target X.env u) (fun _ s'=>∃ dg H',Inv X pins dg H' s'/\Q dg H') X.xe s
def JL(X:bT)(ts:List Expr)(t:yr):Prop :=
 ∀ (pins:List (au×Obj)) (s:aY) (σ:St) (H:ao) (vs:List V) (us:dH) (Q:St->ao->Prop),Inv X pins σ H s->Vals vs us->t vs σ H Q ->
  wpAny (model X.prog X.w) X.A (assignInOrder ((assignEach ts X.env).map (·.2)) us) (fun _ s'=>∃ dg H',Inv X pins dg H' s'/\Q dg H') X.xe s
abbrev Bg:=V->V->V->ao->(ao->Prop)->Prop
def abk(X:bT)(t:Bg):Prop :=
 ∀ (pins:List (au×Obj)) (s:aY) (σ:St) (H:ao) (o i v:V) (f5 hR u:aO) (Q:ao->Prop),Inv X pins σ H s->RelV o f5->RelV i hR->RelV v u->t o i v H Q ->
  wpAny (model X.prog X.w) X.A (setItem f5 hR u) (fun _ s'=>∃ H',Inv X pins σ H' s'/\Q H') X.xe s
abbrev JM:=V->V->ao->bA->Prop
def ajC(X:bT)(op:Operator)(t:JM):Prop :=
 ∀ (pins:List (au×Obj)) (s:aY) (σ:St) (H:ao) (x y:V) (v u:aO) (Q:bA),Inv X pins σ H s->RelV x v->RelV y u->t x y H Q ->
  wpAny (model X.prog X.w) X.A (inplaceOp op v u) (EP X pins σ Q) X.xe s
section
variable{X:bT}{pos:Pos}
def kY(i:Nat):lH:=fun v σ H Q=>Q (σ.set i (some v)) H
theorem dm{i:Nat}{x:Str}(hn:X.N.Nodup)(hi:X.N[i]?=some x)(aq:Loc X.env.scope x)(hf:X.fn x=true\/X.env.scope.names.lookup x=some .local:=by first|exact .inl rfl|exact .inr rfl|assumption):PG X (.Name x pos) (kY i):=by
 intro pins s σ H v u Q I r h;exact wpAny_assign_Name (aa' I hn hi aq r (fun s' iu=>⟨_,H,iu,h⟩) hf)
def ajD:yr:=fun vs σ H Q=>vs=[]/\Q σ H
def asa(u:yr)(r:List V)(Q:St->ao->Prop)(σ:St)(H:ao):Prop:=u r σ H Q
inductive abl(t:lH)(u:yr)(vs:List V)(σ:St)(H:ao)(Q:St->ao->Prop):Prop
 |mk (v:V) (r:List V) (e:vs=v::r) (q:t v σ H (asa u r Q))
theorem r7:JL X [] ajD:=by
 intro pins s σ H vs us Q I r h;obtain⟨e,h⟩:=h;subst e;cases r;exact assignInOrder_nil ⟨σ,H,I,h⟩
theorem jM{e:Expr}{es:List Expr}{t:lH}{u:yr}(h1:PG X e t)(aC:JL X es u)
  (aH:(assignEach (e::es) X.env).map (·.2)=assign e X.env::(assignEach es X.env).map (·.2):=by rfl):JL X (e::es) (abl t u):=by
 intro pins s σ H vs us Q I r h;obtain⟨v,gx,bF,h⟩:=h;subst bF;cases r with
 |cons r l0 =>
  rw[aH];refine assignInOrder_cons (cL (h1 pins s σ H _ _ _ I r h) fun _ s1 aU=>?_);obtain⟨Bh,H1,bp,bU⟩:=aU;exact aC pins s1 Bh H1 _ _ Q bp l0 bU
inductive abm(K:cp)(n:Nat)(t:yr)(v:V)(σ:St)(H:ao)(Q:St->ao->Prop):Prop
 |mk (a:au) (xs:List V) (e:v=.ref a) (h:fO K H a xs) (l:xs.length=n) (q:t xs σ H Q)
theorem s8{es:List Expr}{k:Nat}{t:yr}{n:Nat}(aV:X.calm=true)(h:JL X es t)
  (aR:(assignEach es X.env).length=n:=by rfl) (m2:(assignEach es X.env).findIdx? (·.1)=none:=by rfl):PG X (.Tuple es k pos) (abm X.K n t):=by
 intro pins s σ H v u Q I r hw;obtain⟨a,xs,bF,a6,aF,hw⟩:=hw;subst bF;cases r;obtain⟨its,e0,b_,hz⟩:=I.tuple a6;refine assign_Tuple_tuple (I.ok.hd aV) b_ (by simp[aR,← aF,e0.length]) m2 fun h' aq=>?_;have bp:Inv X pins σ H { s with heap:=h' }:=I.kept (t':=s.toks) fun b o e=>aq b o (gU (fH e)) e;exact h pins _ σ H xs _ Q bp (by simpa using e0) hw
def asb(σ:St)(Q:St->ao->Prop)(H:ao):Prop:=Q σ H
def asd(t:Bg)(v:V)(σ:St)(Q:St->ao->Prop)(o i:V)(H:ao):Prop:=t o i v H (asb σ Q)
def ase(m4:TE)(t:Bg)(v:V)(σ:St)(Q:St->ao->Prop)(o:V)(H:ao):Prop:=m4 σ H (asd t v σ Q o)
def asf(to m4:TE)(t:Bg):lH:=fun v σ H Q=>to σ H (ase m4 t v σ Q)
theorem Fi{o i:Expr}{to m4:TE}{t:Bg}(bB:PE X o to)(hi:PE X i m4)(aH:abk X t)
  (aX:∀ v,assign (.Subscript o i pos) X.env v=(do
   let f5 ← holding [v] (eval o X.env)
   let hR ← holding [v,f5] (eval i X.env)
   standAt pos
   holding [v,f5,hR] (setItem f5 hR v)
   release [v,f5,hR] []):=by intro _;rfl):PG X (.Subscript o i pos) (asf to m4 t):=by
 intro pins s σ H v u Q I r h;rw[aX];refine wpAny_bind (wpAny_holding (cL (bB pins s σ H _ I h) fun f5 s1 aU=>?_));obtain⟨x,H1,bp,cI,bU⟩:=aU;refine wpAny_bind (wpAny_holding (cL (hi pins s1 σ H1 _ bp bU) fun hR s2 aU=>?_));obtain⟨y,aB,dK,dp,cB⟩:=aU;refine wpAny_bind (wpAny_standAt (wpAny_bind (wpAny_holding (cL (aH pins s2 σ aB x y v f5 hR u _ dK cI dp r cB) fun _ s3 aU=>?_))));obtain⟨aJ,eV,dZ⟩:=aU;exact wpAny_release ⟨σ,aJ,eV,dZ⟩
def ash(g:lH)(σ:St)(D:Ends)(x:V)(H:ao):Prop:=g x σ H D.cU
def Fj(te:TE)(g:lH):TS:=fun D σ H=>te σ H (ash g σ D)
theorem Fl{e1 e:Expr}{te:TE}{g:lH}(he:PE X e te)(b5:PG X e1 g)(aH:swapsWithSole [e1] e pos.line X.env=pure false:=by rfl)(hw:swappedStores [e1] e X.env=pure none:=by rfl)
  (h1:(assignEach [e1] X.env).map (·.2)=[assign e1 X.env]:=by rfl):PS X (.Assign [e1] e pos) (Fj te g):=by
 intro pins s σ H D I h;refine wpAny_Assign_stores (cL (he pins s σ H _ I h) fun v s1 aU=>?_) aH hw;obtain⟨x,H1,bp,cI,bU⟩:=aU;rw[h1];exact cL (b5 pins s1 σ H1 x v _ bp cI bU) fun _ s2 q=>q
theorem ct{i:Nat}{x:Str}{e:Expr}{te:TE}{pos':Pos}(hn:X.N.Nodup)(hi:X.N[i]?=some x)(aq:Loc X.env.scope x)(he:PE X e te)(aH:swapsWith e (some (.Name x pos')) pos.line X.env=pure false:=by rfl)(hf:X.fn x=true\/X.env.scope.names.lookup x=some .local:=by first|exact .inl rfl|exact .inr rfl|assumption) :
  PS X (.Assign [.Name x pos'] e pos) (Fj te (kY i)):=by
 intro pins s σ H D I h;refine wpAny_Assign_Name (cL (he pins s σ H _ I h) fun v s1 aU=>?_) aH;obtain⟨y,H1,bp,cI,bU⟩:=aU;exact aa' bp hn hi aq cI (fun s2 dK=>⟨_,H1,dK,bU⟩) hf
def ajE(i:Nat)(te:TE)(m4:JM):TS:=fun D σ H=>∃ x,σ[i]?=some (some x)/\te σ H fun y H1=>m4 x y H1 fun z aB=>D.cU (σ.set i (some z)) aB
theorem Fo{i:Nat}{x:Str}{e:Expr}{te:TE}{op:Operator}{m4:JM}{pos':Pos}(hn:X.N.Nodup)(hi:X.N[i]?=some x)(aq:Loc X.env.scope x)(he:PE X e te)(bB:ajC X op m4)(hf:X.fn x=true\/X.env.scope.names.lookup x=some .local:=by first|exact .inl rfl|exact .inr rfl|assumption) :
  PS X (.AugAssign (.Name x pos') op e pos) (ajE i te m4):=by
 intro pins s σ H D I h;obtain⟨v,bF,h⟩:=h;obtain⟨m,aR,aF⟩:=I.loc;have asi:EY X.env.scope x:=by rcases aq with k|k;exact .inl k;exact .inr (.inl k)
 obtain⟨u,r,l⟩:=aF i x v hi bF asi;refine wpAny_AugAssign_Name ?_;have go:wpAny (model X.prog X.w) X.A (eval e X.env) (fun w lZ=>wpAny (model X.prog X.w) X.A (inplaceOp op u w) (fun r ys=>wpAny (model X.prog X.w) X.A (storeName X.env x r) (fun _=>SP X pins D .next) X.xe ys) X.xe lZ) X.xe s:=by
  refine cL (he pins s σ H _ I h) fun w s1 aU=>?_;obtain⟨y,H1,bp,cI,bU⟩:=aU;refine cL (bB pins s1 σ H1 v y u w _ bp r cI bU) fun z s2 aU=>?_;obtain⟨aG6,aB,dK,dp,cB⟩:=aU;exact aa' dK hn hi aq dp (fun s3 eV=>⟨_,aB,eV,cB⟩) hf
 rcases l with⟨aN,hm⟩|⟨aN,c,aV,Vh⟩
 ·exact wpAny_loadName_local I.ok.kind aN aR hm go
 ·rcases aN with aN|aN
  ·exact wpAny_loadName_cell I.ok.kind aN aV Vh go
  ·rcases aq with k|k
   ·have:X.env.scope.names.lookup x=some .free:=aN
    rw[k]at this;cases this
   ·have:X.env.scope.names.lookup x=some .free:=aN
    rw[k]at this;cases this
def asj(to m4 te:TE)(Vl:V->V->ao->bA->Prop)(Vm:JM)(Vn:Bg):TS:=fun D σ H=>to σ H fun o H1=>m4 σ H1 fun i aB=>Vl o i aB fun x aJ=>te σ aJ fun y bC=>Vm x y bC fun z b2=>Vn o i z b2 fun eN=>D.cU σ eN
def ajF(X:bT)(t:V->V->ao->bA->Prop):Prop :=
 ∀ (pins:List (au×Obj)) (s:aY) (σ:St) (H:ao) (o i:V) (f5 hR:aO) (Q:bA),Inv X pins σ H s->RelV o f5->RelV i hR->t o i H Q ->
  wpAny (model X.prog X.w) X.A (getItem f5 hR) (EP X pins σ Q) X.xe s
theorem Vo{o i e:Expr}{to m4 te:TE}{Vl:V->V->ao->bA->Prop}{Vm:JM}{Vn:Bg}{op:Operator}{r9:Pos}(bB:PE X o to)(hi:PE X i m4)(b5:ajF X Vl)(he:PE X e te)(aL:ajC X op Vm)(aH:abk X Vn)
  (aX:∀ f5 hR new,augStore i f5 hR new=(do holding [new,f5,hR] (setItem f5 hR new);release [new,f5,hR] [];pure .next):=by intros;rfl):PS X (.AugAssign (.Subscript o i r9) op e pos) (asj to m4 te Vl Vm Vn):=by
 intro pins s σ H D I h;refine wpAny_AugAssign_SubscriptAny (cL (bB pins s σ H _ I h) fun f5 s1 aU=>?_) aX;obtain⟨x1,H1,bp,cI,bU⟩:=aU;refine cL (hi pins s1 σ H1 _ bp bU) fun hR s2 aU=>?_;obtain⟨iG,aB,dK,dp,cB⟩:=aU;refine cL (b5 pins s2 σ aB x1 iG f5 hR _ dK cI dp cB) fun old s3 aU=>?_;obtain⟨kv,aJ,eV,d4,dZ⟩:=aU;refine cL (he pins s3 σ aJ _ eV dZ) fun v s4 aU=>?_;obtain⟨qx,bC,mb,jN,hH⟩:=aU;refine cL (aL pins s4 σ bC kv qx old v _ mb d4 jN hH) fun new s5 aU=>?_;obtain⟨s9,b2,uY,m5,mc⟩:=aU;exact cL (aH pins s5 σ b2 x1 iG s9 f5 hR new _ uY cI dp m5 mc) fun _ cV ⟨eN,uZ,wM⟩=>⟨σ,eN,uZ,wM⟩
end
section
variable{X:bT}{pos:Pos}
def ajG(c:TT)(tb:TS):TS:=fun D σ H=>∃ W:Nat->St->ao->Prop,(∃ m,W m σ H)/\∀ m σ H,W m σ H ->
 c σ H fun b H1=>if b=true then ∃ N:St->ao->Prop,(∀ dg H',N dg H'->∃ dU,dU<m/\W dU dg H')/\tb { D with cU:=N,fu:=N,jJ:=D.cU } σ H1 else D.cU σ H1
theorem Vp{c:Expr}{body:List Stmt}{tc:TT}{tb:TS}(aL:PassesOwn (model X.prog X.w) X.A X.env X.xe)(aV:pK X c tc)(ak:pL X body tb):PS X (.While c body [] pos) (ajG tc tb):=by
 intro pins s σ H D I h;obtain⟨W,⟨m0,Fp⟩,turn⟩:=h;refine wpAny_While (codeAny_whileLoop (fun n s'=>∃ dg H',Inv X pins dg H' s'/\W n dg H') ?_ m0 ⟨σ,H,I,Fp⟩);rintro n s1 ⟨Bh,H1,bp,yc⟩;refine wpAny_passesOwn aL (cL (aV pins s1 Bh H1 _ bp (turn n Bh H1 yc)) fun b s2 aU=>?_);obtain⟨aB,dK,cB⟩:=aU;cases b with
 |true =>
  obtain⟨N,hn,cB⟩:=cB;rw[bM rfl];refine wpAny_passesOwn aL (cL (ak pins s2 Bh aB _ dK cB) fun f s3 dZ=>?_);cases f with
  |next =>
   obtain⟨pO,aJ,eV,qy⟩:=dZ;obtain⟨dU,hm,w3⟩:=hn pO aJ qy;exact⟨dU,hm,pO,aJ,eV,w3⟩
  |cont =>
   obtain⟨pO,aJ,eV,qy⟩:=dZ;obtain⟨dU,hm,w3⟩:=hn pO aJ qy;exact⟨dU,hm,pO,aJ,eV,w3⟩
  |brk=>exact dZ
  |ret v=>exact dZ
 |false =>
  rw[bx jr];exact wpAny_execs_nil ⟨Bh,aB,dK,cB⟩
end
structure It where
 go:Nat->ao->Prop
 mg:Nat->ao->V->ao->Prop
 stop:Nat->ao->Prop
def q8(X:bT)(pins:List (au×Obj))(H:ao)(b:au):Prop :=
 H b=none/\b≠X.env.locals/\b∉X.fs/\(b∈X.ex\/X.jZ.heap.objs.size<=b)/\(∀ x c,X.env.cells.lookup x=some c->c≠b)/\∀ p∈X.ha++pins,p.1≠b
theorem Inv.Bj{X:bT}{pins:List (au×Obj)}{σ:St}{H H':ao}{s:aY}{b:au}(I:Inv X pins σ H s)(ak:s.heap.objs.size<=b)(aR:H' b=none):q8 X pins H' b:=by
 refine⟨aR,v8 (lq I.lt ak),I.arR ak,.inr (jg I.E_ ak),fun x c e z=>?_,fun p aL z=>?_⟩
 ·obtain⟨v,q⟩:=I.cell x c e;exact absurd (lq q.lt (by rw[z];exact ak)) (uK _)
 ·exact absurd (lq (fH (I.pin p aL).1) (by rw[z];exact ak)) (uK _)
structure Turn(P:fx)(w:e4)(K:cp)(e1:Expr)(J:It)(fp:d2)(it:au)(tn:Nat->Heap->Prop):Prop where
 mem:it∈fp
 obj:∀ i h,tn i h->∀ b∈fp,∃ o,h.get? b=some o/\∀ v,o.data≠.cell v
 keep:∀ i h h',tn i h->(∀ b∈fp,∀ o,h.get? b=some o->h'.get? b=some o)->tn i h'
 item:∀ (X:bT),X.prog=P->X.w=w->X.K=K->X.calm=true->∀ (i:Nat) (pins:List (au×Obj)) (s:aY) (σ:St) (H:ao) (E:aO->aY->Prop),Inv X pins σ H s->(∀ b∈fp,q8 X pins H b)->tn i s.heap->J.go i H ->
  wpAny (model P w) X.A (pyNext (.ref it)) (fun r s1=>∃ u,r=some u /\
   wpAny (model P w) X.A (letOwnedTupleGo e1 (.ref it) u) (fun _ s2=>∃ x H',Inv X pins σ H' s2/\RelV x u/\J.mg i H x H'/\tn (i+1) s2.heap/\∀ b∈fp,H' b=none) E s1) E s
 done:∀ (X:bT),X.prog=P->X.w=w->X.K=K->X.calm=true->∀ (i:Nat) (pins:List (au×Obj)) (s:aY) (σ:St) (H:ao) (E:aO->aY->Prop),Inv X pins σ H s->(∀ b∈fp,q8 X pins H b)->tn i s.heap->J.stop i H ->
  wpAny (model P w) X.A (pyNext (.ref it)) (fun r s1=>r=none/\Inv X pins σ H s1) E s
 self:∀ (A:Around) (i:Nat) (s:aY) (Q:aO->aY->Prop) (E:aO->aY->Prop),tn i s.heap->Q (.ref it) s->wpAny (model P w) A (pyIter (.ref it)) Q E s
abbrev TI:=St->ao->(It->ao->Prop)->Prop
def PIE(X:bT)(pins:List (au×Obj))(σ:St)(e1:Expr)(R:It->ao->Prop)(abn:aO)(s2:aY):Prop :=
 ∃ (it:au) (fp:d2) (tn:Nat->Heap->Prop) (J:It) (H':ao),abn=.ref it/\Inv X pins σ H' s2/\Turn X.prog X.w X.K e1 J fp it tn/\tn 0 s2.heap/\(∀ b∈fp,q8 X pins H' b)/\R J H'
def PI(X:bT)(e1 iter:Expr)(kZ:TI):Prop :=
 ∀ (pins:List (au×Obj)) (s:aY) (σ:St) (H:ao) (R:It->ao->Prop),Inv X pins σ H s->kZ σ H R ->
  wpAny (model X.prog X.w) X.A (eval iter X.env) (fun v s1=>wpAny (model X.prog X.w) X.A (pyIter v) (PIE X pins σ e1 R) X.xe s1) X.xe s
theorem abo{M:Model}{A:Around}{E:aO->aY->Prop}{s:aY}{e1:Expr}{it:au}{u:aO}{o:Obj}{n:String}{vs:Array aO}{Q:Unit->aY->Prop}(bB:s.heap.get? it=some o)(aV:o.cls=.type n)(hd:o.data=.fields vs)
  (aR:["enumerate","zip","dict_itemiterator","dict_reverseitemiterator","odict_iterator","itertools.zip_longest","itertools.pairwise"].contains n=false) (Bf:Q () s):wpAny M A (letOwnedTupleGo e1 (.ref it) u) Q E s:=by
 unfold letOwnedTupleGo;cases e1<;>first
  |exact wpAny_pure Bf
  |(cases u<;>first
    |exact wpAny_pure Bf
    |(refine wpAny_bind (wpAny_load bB ?_)
      rw[aV,hd];show wpAny M A (if(["enumerate","zip","dict_itemiterator","dict_reverseitemiterator","odict_iterator","itertools.zip_longest","itertools.pairwise"].contains n && vs[0]? == some (rawInt _))=true then _ else _) Q E s;rw[bx (by intro h;rw[aR,Bool.false_and]at h;cases h)];exact wpAny_pure Bf))
def jk(K:cp)(a:au):It :=
 ⟨fun i H=>∃ xs x,aT K H a xs/\xs[i]?=some x,fun i H x H'=>H'=H/\∀ xs,aT K H a xs->xs[i]?=some x,fun i H=>∃ xs,aT K H a xs/\xs.length<=i⟩
def JN(K:cp)(a:au):It :=
 ⟨fun i H=>∃ xs x,fO K H a xs/\xs[i]?=some x,fun i H x H'=>H'=H/\∀ xs,fO K H a xs->xs[i]?=some x,fun i H=>∃ xs,fO K H a xs/\xs.length<=i⟩
def oL(lo:Int)(n:Nat):It:=⟨fun i _=>i<n,fun i H x H'=>H'=H/\x=.int (lo+i),fun i _=>n<=i⟩
theorem asl{P:fx}{w:e4}{K:cp}{e1:Expr}(a it:au):Turn P w K e1 (jk K a) [it] it (fun i h=>h.IsListIter it a i) where
 mem:=by simp
 obj:=fun i h st b ak=>by
  have e:b=it:=by simpa using ak
  subst e;obtain⟨o,e,c,d⟩:=st;exact⟨o,e,fun v z=>by rw[d]at z;cases z⟩
 keep:=fun i h h' st k=>st.at fun o e=>k it (by simp) o e
 item:=by
  intro X gK hw hv aV i pins s σ H E I hf st b5;subst gK hw hv;obtain⟨xs,x,a6,aq⟩:=b5;obtain⟨its,e0,p,hz⟩:=I.list a6;obtain⟨u,cF,ho⟩:=e0.get aq;obtain⟨f0,f1,f2,fK,f4,m6⟩:=hf it (by simp);refine wpAny_pyNext_list_item st p.isList (x:=u) (by simpa using cF) fun h' lB fW=>?_;have bp:Inv X pins σ H { s with heap:=h' }:=I.turned (t':=s.toks) (fun b o ak e=>(fW.2 b ak).trans e) f0 f1 fK f4 m6;obtain⟨o,e,c,d⟩:=id lB;exact⟨u,Z,abo (s:={ s with heap:=h' }) e c d (by decide) ⟨x,H,bp,ho,⟨rfl,fun bO aP=>by rw[I.Vk aP a6];exact aq⟩,lB,fun b ak=>(hf b ak).1⟩⟩
 done:=by
  intro X gK hw hv aV i pins s σ H E I hf st b5;subst gK hw hv;obtain⟨xs,a6,aq⟩:=b5;obtain⟨its,e0,p,hz⟩:=I.list a6;obtain⟨f0,f1,f2,fK,f4,m6⟩:=hf it (by simp);have aF:=e0.length;exact wpAny_pyNext_list_end (I.ok.hd aV) st p.isList (by simp;omega) fun h' dN=>⟨rfl,I.turned (t':=s.toks) (fun b o ak e=>dN b o ak e) f0 f1 fK f4 m6⟩
 self:=fun _ _ _ _ _ st h=>wpAny_pyIter_listiter st h
theorem asn{P:fx}{w:e4}{K:cp}{e1:Expr}(a it:au):Turn P w K e1 (JN K a) [it] it (fun i h=>h.IsTupleIter it a i) where
 mem:=by simp
 obj:=fun i h st b ak=>by
  have e:b=it:=by simpa using ak
  subst e;obtain⟨o,e,c,d⟩:=st;exact⟨o,e,fun v z=>by rw[d]at z;cases z⟩
 keep:=fun i h h' st k=>st.at fun o e=>k it (by simp) o e
 item:=by
  intro X gK hw hv aV i pins s σ H E I hf st b5;subst gK hw hv;obtain⟨xs,x,a6,aq⟩:=b5;obtain⟨its,e0,p,hz⟩:=I.tuple a6;obtain⟨u,cF,ho⟩:=e0.get aq;obtain⟨f0,f1,f2,fK,f4,m6⟩:=hf it (by simp);refine wpAny_pyNext_tuple_item st (show s.heap.IsTuple a its.toArray from p) (x:=u) (by simpa using cF) fun h' lB fW=>?_;have bp:Inv X pins σ H { s with heap:=h' }:=I.turned (t':=s.toks) (fun b o ak e=>(fW.2 b ak).trans e) f0 f1 fK f4 m6;obtain⟨o,e,c,d⟩:=id lB;exact⟨u,Z,abo (s:={ s with heap:=h' }) e c d (by decide) ⟨x,H,bp,ho,⟨rfl,fun bO aP=>by rw[I.ar8 aP a6];exact aq⟩,lB,fun b ak=>(hf b ak).1⟩⟩
 done:=by
  intro X gK hw hv aV i pins s σ H E I hf st b5;subst gK hw hv;obtain⟨xs,a6,aq⟩:=b5;obtain⟨its,e0,p,hz⟩:=I.tuple a6;obtain⟨f0,f1,f2,fK,f4,m6⟩:=hf it (by simp);have aF:=e0.length;exact wpAny_pyNext_tuple_end (I.ok.hd aV) st (show s.heap.IsTuple a its.toArray from p) (by simp;omega) fun h' dN=>⟨rfl,I.turned (t':=s.toks) (fun b o ak e=>dN b o ak e) f0 f1 fK f4 m6⟩
 self:=fun _ _ _ _ _ st h=>wpAny_pyIter_tupleiter st h
theorem aso{P:fx}{w:e4}{K:cp}{e1:Expr}(it:au)(lo:Int)(n:Nat):Turn P w K e1 (oL lo n) [it] it (fun i h=>IsRangeIter h it (lo+(i:Nat) * 1) ((n:Int)-(i:Nat)) 1) where
 mem:=by simp
 obj:=fun i h st b ak=>by
  have e:b=it:=by simpa using ak
  subst e;exact⟨_,st,fun v z=>by
   have lG:Data.fields _=Data.cell v:=z;cases lG⟩
 keep:=fun i h h' st k=>k it (by simp) _ st
 item:=by
  intro X gK hw hv aV i pins s σ H E I hf st b5;subst gK hw hv;obtain⟨f0,f1,f2,fK,f4,m6⟩:=hf it (by simp);have W:=Walks.range (prog:=X.prog) (w:=X.w) (I.ok.hd aV) it lo 1 n;refine W.item i s _ _ b5 st fun v h' tk a0 lB dB=>?_;obtain⟨t,rfl⟩:=a0;have bp:Inv X pins σ H { s with heap:=h',toks:=tk }:=I.turned (fun b o ak e=>dB b o (by simpa using ak) e) f0 f1 fK f4 m6;refine⟨_,Z,abo (s:={ s with heap:=h',toks:=tk }) (n:="range_iterator") lB rfl rfl (by decide) ⟨.int (lo+i),H,bp,⟨t,?_⟩,⟨rfl,rfl⟩,lB,fun b ak=>(hf b ak).1⟩⟩;rw[Int.mul_one]
 done:=by
  intro X gK hw hv aV i pins s σ H E I hf st b5;subst gK hw hv;obtain⟨f0,f1,f2,fK,f4,m6⟩:=hf it (by simp);exact wpAny_pyNext_range_end (I.ok.hd aV) st (by have:n<=i:=b5;omega) fun h' dN=>⟨rfl,I.turned (t':=s.toks) (fun b o ak e=>dN b o ak e) f0 f1 fK f4 m6⟩
 self:=fun _ _ _ _ _ st h=>wpAny_pyIter_rangeiter st h
section
variable{X:bT}{e1:Expr}
def Fq(K:cp)(tl:TE):TI:=fun σ H R=>tl σ H fun x H1=>∃ a,x=.ref a/\(∃ xs,aT K H1 a xs)/\R (jk K a) H1
def asp(K:cp)(tl:TE):TI:=fun σ H R=>tl σ H fun x H1=>∃ a,x=.ref a/\(∃ xs,fO K H1 a xs)/\R (JN K a) H1
theorem gH{l:Expr}{tl:TE}(aF:PE X l tl):PI X e1 l (Fq X.K tl):=by
 intro pins s σ H R I h;refine cL (aF pins s σ H _ I h) fun v s1 aU=>?_;obtain⟨x,H1,bp,cI,bU⟩:=aU;obtain⟨a,e,⟨xs,a6⟩,q⟩:=bU;subst e;cases cI;obtain⟨its,e0,p,hz⟩:=bp.list a6;refine wpAny_pyIter_list p.isList ?_;refine⟨s1.heap.objs.size,[s1.heap.objs.size],_,_,H1,Z,bp.kept (t':=s1.toks) fun b o e=>iC _ e,asl a _,⟨_,lV _ rfl,Z,Z⟩,fun b ak=>?_,q⟩;have e:b=s1.heap.objs.size:=by simpa using ak
 subst e;exact bp.Bj (cH _) (bp.bL.fresh (cH _))
theorem asq{l:Expr}{tl:TE}(aF:PE X l tl):PI X e1 l (asp X.K tl):=by
 intro pins s σ H R I h;refine cL (aF pins s σ H _ I h) fun v s1 aU=>?_;obtain⟨x,H1,bp,cI,bU⟩:=aU;obtain⟨a,e,⟨xs,a6⟩,q⟩:=bU;subst e;cases cI;obtain⟨its,e0,p,hz⟩:=bp.tuple a6;refine wpAny_pyIter_tuple (show s1.heap.IsTuple a its.toArray from p) ?_;refine⟨s1.heap.objs.size,[s1.heap.objs.size],_,_,H1,Z,bp.kept (t':=s1.toks) fun b o e=>iC _ e,asn a _,⟨_,lV _ rfl,Z,Z⟩,fun b ak=>?_,q⟩;have e:b=s1.heap.objs.size:=by simpa using ak
 subst e;exact bp.Bj (cH _) (bp.bL.fresh (cH _))
theorem ajH{pins:List (au×Obj)}{σ:St}{H:ao}{s:aY}{R:It->ao->Prop}{E:aO->aY->Prop}{lo hi:Int}{t u v:Tok}{tk:Nat}(I:Inv X pins σ H s)(h1:-(2 ^ 62)<=lo)(aC:lo<2 ^ 62)(bI:-(2 ^ 62)<=hi)(dz:hi<2 ^ 62)
  (q:R (oL lo (hi-lo).toNat) H):wpAny (model X.prog X.w) X.A (pyIter (.ref s.heap.objs.size)) (PIE X pins σ e1 R) E { s with heap:=s.heap.push { cls:=.type "range",data:=.fields #[.int lo t,.int hi u,.int 1 v] },toks:=tk }:=by
 refine wpAny_pyIter_range (IsRange.new ..) (small_one h1 aC bI dz) ?_;have bp:Inv X pins σ H { s with heap:=s.heap.push { cls:=.type "range",data:=.fields #[.int lo t,.int hi u,.int 1 v] },toks:=tk }:=I.kept fun b o e=>iC _ e;refine⟨(s.heap.push { cls:=.type "range",data:=.fields #[.int lo t,.int hi u,.int 1 v] }).objs.size,[(s.heap.push { cls:=.type "range",data:=.fields #[.int lo t,.int hi u,.int 1 v] }).objs.size],_,_,H,Z,
  bp.kept (t':=tk) fun b o e=>iC _ e,aso _ lo (hi-lo).toNat,?_,fun b ak=>?_,q⟩
 ·have bF:lo+((0:Nat):Int) * 1=lo:=by simp
  have a9:(((hi-lo).toNat:Nat):Int)-((0:Nat):Int)=Builtin.Range.rangeSize lo hi 1:=by rw[rangeSize_one];split<;>omega
  show IsRangeIter _ _ (lo+((0:Nat):Int) * 1) ((((hi-lo).toNat:Nat):Int)-((0:Nat):Int)) 1;rw[bF,a9];exact lV _ rfl
 ·have e:b=(s.heap.push { cls:=.type "range",data:=.fields #[.int lo t,.int hi u,.int 1 v] }).objs.size:=by simpa using ak
  subst e;exact bp.Bj (cH _) (bp.bL.fresh (cH _))
def asr(cO:TA):TI:=fun σ H R=>cO σ H fun vs H1=>∃ j:Int,vs=[.int j]/\-(2 ^ 62)<=j/\j<2 ^ 62/\R (oL 0 j.toNat) H1
def asu(cO:TA):TI:=fun σ H R=>cO σ H fun vs H1=>∃ i j:Int,vs=[.int i,.int j]/\(-(2 ^ 62)<=i/\i<2 ^ 62/\-(2 ^ 62)<=j/\j<2 ^ 62)/\R (oL i (j-i).toNat) H1
theorem mj{a:Expr}{cO:TA}{p pos:Pos}(b5:qw X "range") (hm:X.av "range"=none) (aX:PA X [a] cO) (aH:starEach [a] X.env=[(false,eval a X.env)]:=by rfl):PI X e1 (.Call (.Name "range" p) [a] [] pos) (asr cO):=by
 intro pins s σ H R I h;refine Call_ (Fg I b5 hm boot_range (PyProof.Rows.callWith_type1 (cL (aX pos pins s σ H _ I h) fun us s1 aU=>?_) aH rfl));obtain⟨vs,H1,bp,cI,bU⟩:=aU;obtain⟨j,e,bU,cB,q⟩:=bU;subst e;cases cI with
 |cons r l0 =>
  cases l0;obtain⟨t,rfl⟩:=r;exact call_range_1 (ajH bp (by omega) (by omega) bU cB (by simpa using q))
theorem abp{a b:Expr}{cO:TA}{p pos:Pos}(b5:qw X "range") (hm:X.av "range"=none) (aX:PA X [a,b] cO) (aH:starEach [a,b] X.env=[(false,eval a X.env),(false,eval b X.env)]:=by rfl) (lJ:starEach [b] X.env=[(false,eval b X.env)]:=by rfl) :
  PI X e1 (.Call (.Name "range" p) [a,b] [] pos) (asu cO):=by
 intro pins s σ H R I h;refine Call_ (Fg I b5 hm boot_range (PyProof.Rows.callWith_type1 (cL (aX pos pins s σ H _ I h) fun us s1 ⟨vs,H1,bp,cI,bU⟩=>?_) (by rw[aH,lJ]) (by rw[lJ];rfl)));obtain⟨i,j,e,⟨bU,cB,dZ,hH⟩,q⟩:=bU;subst e;cases cI with
 |cons r l0 =>
  cases l0 with
  |cons r' l0 =>
   cases l0;obtain⟨t,rfl⟩:=r;obtain⟨t',rfl⟩:=r';exact call_range_2 (ajH bp bU cB dZ hH q)
def asv(kZ:TI)(g:lH)(tb:TS):TS:=fun D σ H=>kZ σ H fun J H1=>∃ W:Nat->Nat->St->ao->Prop,(∃ m,W 0 m σ H1)/\∀ i m σ H,W i m σ H ->
 (J.stop i H/\D.cU σ H)\/(J.go i H/\∃ N:St->ao->Prop,(∀ dg H',N dg H'->∃ dU,dU<m/\W (i+1) dU dg H')/\∀ x H',J.mg i H x H'->g x σ H' fun dW aB=>tb { D with cU:=N,fu:=N,jJ:=D.cU } dW aB)
def JQ(fp:d2)(h:Heap):List (au×Obj):=fp.filterMap fun b=>(h.get? b).map fun o=>(b,o)
theorem abq{fp:d2}{h:Heap}{b:au}{o:Obj}(ak:b∈fp)(e:h.get? b=some o):(b,o)∈JQ fp h:=I8.mpr ⟨b,ak,by rw[e];rfl⟩
theorem asw{fp:d2}{h:Heap}{p:au×Obj}(aL:p∈JQ fp h):p.1∈fp/\h.get? p.1=some p.2:=by
 obtain⟨b,ak,e⟩:=I8.mp aL;cases q:h.get? b with
 |none=>rw[q]at e;cases e
 |some o =>
  rw[q]at e;have e':(b,o)=p:=Option.some.inj e;subst e';exact⟨ak,q⟩
theorem Inv.pinned{pins:List (au×Obj)}{σ:St}{H:ao}{s:aY}{fp:d2}(I:Inv X pins σ H s)(hf:∀ b∈fp,q8 X pins H b)(bB:∀ b∈fp,∃ o,s.heap.get? b=some o/\∀ v,o.data≠.cell v):Inv X (pins++JQ fp s.heap) σ H s :=
 I.JD fun p aL=>(pe.mp aL).elim (fun z=>I.pin p (v9 _ z)) fun z=>by
  obtain⟨ak,e⟩:=asw z;obtain⟨f0,f1,f2,_⟩:=hf p.1 ak;obtain⟨o,e',d⟩:=bB p.1 ak;rw[e]at e';cases e';exact⟨e,f0,f1,f2,d⟩
theorem Inv.Vq{pins pl:List (au×Obj)}{σ:St}{H:ao}{s:aY}(I:Inv X (pins++pl) σ H s):Inv X pins σ H s:=I.JD fun p aL=>I.pin p (v9 _ (uJ _ aL))
theorem hp{iter:Expr}{body:List Stmt}{kZ:TI}{g:lH}{tb:TS}{pos:Pos}(aL:PassesOwn (model X.prog X.w) X.A X.env X.xe)(aV:X.calm=true)(hi:PI X e1 iter kZ)(b5:PG X e1 g)(ak:pL X body tb)
  (aH:∀ x,foldedSetIterable iter X.env x=pure x:=by intro _;rfl):PS X (.For e1 iter body [] pos) (asv kZ g tb):=by
 intro pins s σ H D I h;refine wpAny_For (cL (hi pins s σ H _ I h) fun v s1 h1=>cL h1 fun abn s2 aC=>?_) aH;obtain⟨it,fp,tn,J,aB,e,dK,T,Vr,f2,W,⟨m0,Fp⟩,turn⟩:=aC;subst e;have stat:∀ {H':ao},(∀ b∈fp,H' b=none)->∀ b∈fp,q8 X pins H' b:=fun aR b ak=>⟨aR b ak,(f2 b ak).2⟩;refine codeAny_forLoop_any (fun n s'=>∃ i dg H',Inv X pins dg H' s'/\tn i s'.heap/\(∀ b∈fp,H' b=none)/\W i n dg H') ?_ m0 ⟨0,σ,aB,dK,Vr,fun b ak=>(f2 b ak).1,Fp⟩;rintro n s3 ⟨i,pO,aJ,eV,Vs,ajI,w3⟩;rcases turn i n pO aJ w3 with⟨stop,qn⟩|⟨go,N,hn,step⟩
 ·refine wpAny_passesOwn aL (cL (T.done X rfl rfl rfl aV i pins s3 pO aJ X.xe eV (stat ajI) Vs stop) fun r s4 aU=>?_);obtain⟨aA,mb⟩:=aU;subst aA;exact wpAny_execs_nil ⟨pO,aJ,mb,qn⟩
 ·refine wpAny_passesOwn aL (cL (T.item X rfl rfl rfl aV i pins s3 pO aJ X.xe eV (stat ajI) Vs go) fun r s4 aU=>?_);obtain⟨u,aA,dz⟩:=aU;subst aA;refine wpAny_passesOwn aL (cL dz fun _ s5 aU=>?_);obtain⟨x,b2,uY,m5,asx,Ft,asy⟩:=aU;have asz:=uY.pinned (stat asy) (T.obj _ _ Ft);refine wpAny_passesOwn aL (cL (b5 _ s5 pO b2 x u _ asz m5 (step x b2 asx)) fun _ cV aU=>?_);obtain⟨asA,eN,uZ,wM⟩:=aU;refine wpAny_passesOwn aL (cL (ak _ cV asA eN _ uZ wM) fun f fy u0=>?_);have again:∀ {ta:St} {dD:ao},Inv X (pins++JQ fp s5.heap) ta dD fy->N ta dD->∃ m,m<n/\∃ i dg H',Inv X pins dg H' fy/\tn i fy.heap/\(∀ b∈fp,H' b=none)/\W i m dg H':=fun{ta dD} m7 Bk=>by
   obtain⟨dU,hm,Fv⟩:=hn ta dD Bk;refine⟨dU,hm,i+1,ta,dD,m7.Vq,T.keep _ _ _ Ft fun b ak o e=>(m7.pin (b,o) (v9 _ (v9 _ (abq ak e)))).1,fun b ak=>?_,Fv⟩;obtain⟨o,e,d⟩:=T.obj _ _ Ft b ak;exact(m7.pin (b,o) (v9 _ (v9 _ (abq ak e)))).2.1
  cases f with
  |next=>obtain⟨ta,dD,m7,Bk⟩:=u0;exact again m7 Bk
  |cont=>obtain⟨ta,dD,m7,Bk⟩:=u0;exact again m7 Bk
  |brk=>obtain⟨ta,dD,m7,u0⟩:=u0;exact⟨ta,dD,m7.Vq,u0⟩
  |ret v=>obtain⟨Bl,ta,dD,m7,yt,u0⟩:=u0;exact⟨Bl,ta,dD,m7.Vq,yt,u0⟩
end
theorem qz{K:cp}{a:au}{xs:List V}{g:lH}{tb:TS}{D:Ends}{σ:St}{H:ao}(Pv:Nat->St->ao->Prop)(h0:Pv 0 σ H)(aF:∀ i σ H,i<=xs.length->Pv i σ H->aT K H a xs)
  (aH:∀ i x σ H,xs[i]?=some x->Pv i σ H->g x σ H fun dW aB=>tb { D with cU:=Pv (i+1),fu:=Pv (i+1),jJ:=D.cU } dW aB) (hd:∀ σ H,Pv xs.length σ H->D.cU σ H) :
  ∃ W:Nat->Nat->St->ao->Prop,(∃ m,W 0 m σ H)/\∀ i m σ H,W i m σ H ->
   ((jk K a).stop i H/\D.cU σ H)\/((jk K a).go i H/\∃ N:St->ao->Prop,(∀ dg H',N dg H'->∃ dU,dU<m/\W (i+1) dU dg H')/\∀ x H',(jk K a).mg i H x H'->g x σ H' fun dW aB=>tb { D with cU:=N,fu:=N,jJ:=D.cU } dW aB):=by
 refine⟨fun i m σ H=>m=xs.length-i/\i<=xs.length/\Pv i σ H,⟨xs.length,by simp,eZ _,h0⟩,?_⟩;rintro i m σ H ⟨rfl,hi,p⟩;have q:=aF i σ H hi p;by_cases c0:i<xs.length
 ·refine .inr ⟨⟨xs,xs[i],q,by simp[c0]⟩,Pv (i+1),fun dg H' p'=>⟨xs.length-(i+1),by omega,rfl,c0,p'⟩,fun x H' y=>?_⟩;obtain⟨e,y⟩:=y;subst e;exact aH i x σ _ (y xs q) p
 ·have e:i=xs.length:=by omega
  subst e;exact .inl ⟨⟨xs,q,cH _⟩,hd σ H p⟩
theorem asB{K:cp}{a:au}{xs:List V}{g:lH}{tb:TS}{D:Ends}{σ:St}{H:ao}(Pv:Nat->St->ao->Prop)(h0:Pv 0 σ H)(aF:∀ i σ H,i<=xs.length->Pv i σ H->fO K H a xs)
  (aH:∀ i x σ H,xs[i]?=some x->Pv i σ H->g x σ H fun dW aB=>tb { D with cU:=Pv (i+1),fu:=Pv (i+1),jJ:=D.cU } dW aB) (hd:∀ σ H,Pv xs.length σ H->D.cU σ H) :
  ∃ W:Nat->Nat->St->ao->Prop,(∃ m,W 0 m σ H)/\∀ i m σ H,W i m σ H ->
   ((JN K a).stop i H/\D.cU σ H)\/((JN K a).go i H/\∃ N:St->ao->Prop,(∀ dg H',N dg H'->∃ dU,dU<m/\W (i+1) dU dg H')/\∀ x H',(JN K a).mg i H x H'->g x σ H' fun dW aB=>tb { D with cU:=N,fu:=N,jJ:=D.cU } dW aB):=by
 refine⟨fun i m σ H=>m=xs.length-i/\i<=xs.length/\Pv i σ H,⟨xs.length,by simp,eZ _,h0⟩,?_⟩;rintro i m σ H ⟨rfl,hi,p⟩;have q:=aF i σ H hi p;by_cases c0:i<xs.length
 ·refine .inr ⟨⟨xs,xs[i],q,by simp[c0]⟩,Pv (i+1),fun dg H' p'=>⟨xs.length-(i+1),by omega,rfl,c0,p'⟩,fun x H' y=>?_⟩;obtain⟨e,y⟩:=y;subst e;exact aH i x σ _ (y xs q) p
 ·have e:i=xs.length:=by omega
  subst e;exact .inl ⟨⟨xs,q,cH _⟩,hd σ H p⟩
theorem tg{lo:Int}{n:Nat}{g:lH}{tb:TS}{D:Ends}{σ:St}{H:ao}(Pv:Nat->St->ao->Prop)(h0:Pv 0 σ H)
  (aH:∀ i σ H,i<n->Pv i σ H->g (.int (lo+i)) σ H fun dW aB=>tb { D with cU:=Pv (i+1),fu:=Pv (i+1),jJ:=D.cU } dW aB) (hd:∀ σ H,Pv n σ H->D.cU σ H) :
  ∃ W:Nat->Nat->St->ao->Prop,(∃ m,W 0 m σ H)/\∀ i m σ H,W i m σ H ->
   ((oL lo n).stop i H/\D.cU σ H)\/((oL lo n).go i H/\∃ N:St->ao->Prop,(∀ dg H',N dg H'->∃ dU,dU<m/\W (i+1) dU dg H')/\∀ x H',(oL lo n).mg i H x H'->g x σ H' fun dW aB=>tb { D with cU:=N,fu:=N,jJ:=D.cU } dW aB):=by
 refine⟨fun i m σ H=>m=n-i/\i<=n/\Pv i σ H,⟨n,by simp,eZ _,h0⟩,?_⟩;rintro i m σ H ⟨rfl,hi,p⟩;by_cases c0:i<n
 ·refine .inr ⟨c0,Pv (i+1),fun dg H' p'=>⟨n-(i+1),by omega,rfl,c0,p'⟩,fun x H' y=>?_⟩;obtain⟨e,y⟩:=y;subst e y;exact aH i σ _ c0 p
 ·have e:i=n:=by omega
  subst e;exact .inl ⟨cH _,hd σ H p⟩
theorem abr{c:TT}{tb:TS}{D:Ends}{σ:St}{H:ao}(Pv:St->ao->Prop)(JR:St->ao->Nat)(h0:Pv σ H)
  (aH:∀ σ H,Pv σ H->c σ H fun b H1=>if b=true then tb { D with cU:=fun dg H'=>Pv dg H'/\JR dg H'<JR σ H,fu:=fun dg H'=>Pv dg H'/\JR dg H'<JR σ H,jJ:=D.cU } σ H1 else D.cU σ H1)
  (mono:∀ σ H Q er,(∀ b H1,Q b H1->er b H1)->c σ H Q->c σ H er):ajG c tb D σ H:=by
 refine⟨fun m σ H=>m=JR σ H/\Pv σ H,⟨_,Z,h0⟩,?_⟩;rintro m σ H ⟨rfl,p⟩;refine mono σ H _ _ (fun b H1 q=>?_) (aH σ H p);cases b with
 |true=>exact⟨_,fun dg H' ⟨p',l⟩=>⟨_,l,rfl,p'⟩,q⟩
 |false=>exact q
abbrev cP:=V->V->ao->bA->Prop
def h6(X:bT)(f:aO->aO->Sem aO)(r:cP):Prop :=
 ∀ (pins:List (au×Obj)) (s:aY) (σ:St) (H:ao) (x y:V) (v u:aO) (Q:bA),Inv X pins σ H s->RelV x v->RelV y u->r x y H Q ->
  wpAny (model X.prog X.w) X.A (f v u) (EP X pins σ Q) X.xe s
def abt(X:bT)(f:aO->Sem aO)(r:V->ao->bA->Prop):Prop :=
 ∀ (pins:List (au×Obj)) (s:aY) (σ:St) (H:ao) (x:V) (v:aO) (Q:bA),Inv X pins σ H s->RelV x v->r x H Q ->
  wpAny (model X.prog X.w) X.A (f v) (EP X pins σ Q) X.xe s
def q9(X:bT)(f:aO)(r:List V->ao->bA->Prop):Prop :=
 ∀ (pins:List (au×Obj)) (s:aY) (σ:St) (H:ao) (xs:List V) (us:dH) (Q:bA),Inv X pins σ H s->Vals xs us->r xs H Q ->
  wpAny (model X.prog X.w) X.A (call f us) (EP X pins σ Q) X.xe s
def asC(X:bT)(r:V->ao->(Bool->ao->Prop)->Prop):Prop :=
 ∀ (pins:List (au×Obj)) (s:aY) (σ:St) (H:ao) (x:V) (v:aO) (Q:Bool->ao->Prop),Inv X pins σ H s->RelV x v->r x H Q ->
  wpAny (model X.prog X.w) X.A (truthy v) (Vg X pins σ Q) X.xe s
def asD(r:cP)(Q:bA)(x y:V)(H:ao):Prop:=r x y H Q
def asF(r:cP)(tb:TE)(σ:St)(Q:bA)(x:V)(H:ao):Prop:=tb σ H (asD r Q x)
def wN(r:cP)(cO tb:TE):TE:=fun σ H Q=>cO σ H (asF r tb σ Q)
def asG(r:V->ao->bA->Prop)(Q:bA)(x:V)(H:ao):Prop:=r x H Q
def asH(r:V->ao->bA->Prop)(cO:TE):TE:=fun σ H Q=>cO σ H (asG r Q)
inductive JT(C:Int->Int->Prop)(g:Int->Int->V)(x y:V)(H:ao)(Q:bA):Prop
 |mk (i j:Int) (ex:x=.int i) (gk:y=.int j) (c:C i j) (q:Q (g i j) H)
inductive qC(g:Int->Int->V)(x y:V)(H:ao)(Q:bA):Prop
 |mk (i j:Int) (ex:x=.int i) (gk:y=.int j) (q:Q (g i j) H)
inductive ajJ(g:Int->V)(x:V)(H:ao)(Q:bA):Prop
 |mk (i:Int) (ex:x=.int i) (q:Q (g i) H)
section
variable{X:bT}{a b c:Expr}{cO tb tc:TE}{pos:Pos}
theorem abu(aX:PE X a cO)(ak:PE X b tb){pins:List (au×Obj)}{s:aY}{σ:St}{H:ao}{R:V->V->ao->Prop}(I:Inv X pins σ H s)
  (h:cO σ H fun x H1=>tb σ H1 fun y aB=>R x y aB) {Q:aO->aY->Prop} {f:aO->aO->Sem aO}
  (hf:∀ v u s2 x y aB,Inv X pins σ aB s2->RelV x v->RelV y u->R x y aB->wpAny (model X.prog X.w) X.A (f v u) Q X.xe s2) :
  wpAny (model X.prog X.w) X.A (eval a X.env) (fun v fV=>wpAny (model X.prog X.w) X.A (eval b X.env) (fun u lZ=>wpAny (model X.prog X.w) X.A (f v u) Q X.xe lZ) X.xe fV) X.xe s:=by
 refine cL (aX pins s σ H _ I h) fun v s1 aU=>?_;obtain⟨x,H1,bp,cI,bU⟩:=aU;refine cL (ak pins s1 σ H1 _ bp bU) fun u s2 aU=>?_;obtain⟨y,aB,dK,dp,cB⟩:=aU;exact hf v u s2 x y aB dK cI dp cB
theorem fa{op:Operator}{r:cP}(bB:h6 X (binaryOp op) r)(aX:PE X a cO)(ak:PE X b tb):PE X (.BinOp a op b pos) (wN r cO tb):=by
 intro pins s σ H Q I h;exact wpAny_BinOp (abu aX ak I h fun v u s2 x y aB dK cc b4 q=>bB pins s2 σ aB x y v u Q dK cc b4 q)
theorem abv{op:UnaryOp}{r:V->ao->bA->Prop}(bB:abt X (unaryOp op) r)(aX:PE X a cO):PE X (.UnaryOp op a pos) (asH r cO):=by
 intro pins s σ H Q I h;exact UnaryOp_ (cL (aX pins s σ H _ I h) fun v s1 ⟨x,H1,bp,cI,bU⟩=>bB pins s1 σ H1 x v Q bp cI bU)
theorem Vt{f:aO->aO->Sem aO}{C:Int->Int->Prop}{g:Int->Int->Int}
  (rule:∀ (i j:Int) (t u:Tok) (s:aY) (Q:aO->aY->Prop) (E:aO->aY->Prop),C i j->Q (.int (g i j) s.toks) { s with toks:=s.toks+1 }->wpAny (model X.prog X.w) X.A (f (.int i t) (.int j u)) Q E s) :
  h6 X f (JT C fun i j=>.int (g i j)):=by
 intro pins s σ H x y v u Q I cc b4 h;obtain⟨i,j,rfl,rfl,aV,q⟩:=h;obtain⟨t,rfl⟩:=cc;obtain⟨t',rfl⟩:=b4;exact rule i j t t' s _ _ aV ⟨.int (g i j),H,I.tok _,⟨_,rfl⟩,q⟩
theorem Bm{f:aO->aO->Sem aO}{g:Int->Int->Int}
  (rule:∀ (i j:Int) (t u:Tok) (s:aY) (Q:aO->aY->Prop) (E:aO->aY->Prop),Q (.int (g i j) s.toks) { s with toks:=s.toks+1 }->wpAny (model X.prog X.w) X.A (f (.int i t) (.int j u)) Q E s) :
  h6 X f (qC fun i j=>.int (g i j)):=by
 intro pins s σ H x y v u Q I cc b4 h;obtain⟨i,j,rfl,rfl,q⟩:=h;obtain⟨t,rfl⟩:=cc;obtain⟨t',rfl⟩:=b4;exact rule i j t t' s _ _ ⟨.int (g i j),H,I.tok _,⟨_,rfl⟩,q⟩
theorem Vu{f:aO->aO->Sem aO}{g:Int->Int->Bool}
  (rule:∀ (i j:Int) (t u:Tok) (s:aY) (Q:aO->aY->Prop) (E:aO->aY->Prop),Q (.bool (g i j)) s->wpAny (model X.prog X.w) X.A (f (.int i t) (.int j u)) Q E s) :
  h6 X f (qC fun i j=>.bl (g i j)):=by
 intro pins s σ H x y v u Q I cc b4 h;obtain⟨i,j,rfl,rfl,q⟩:=h;obtain⟨t,rfl⟩:=cc;obtain⟨t',rfl⟩:=b4;exact rule i j t t' s _ _ ⟨.bl (g i j),H,I,rfl,q⟩
def asI(i j:Int):Prop:=0<j/\j<1073741824
def ajK(i j:Int):Prop:=0<=j/\j<=1000000/\i.natAbs<2 ^ 64
def Vv(i j:Int):Prop:=(-(2 ^ 64)<i/\i<2 ^ 64)\/(-(2 ^ 64)<j/\j<2 ^ 64)
theorem Vv.ok{i j:Int}(h:Vv i j):IntMulOk i j:=by
 rcases h with⟨h1,aC⟩|⟨h1,aC⟩
 ·exact .of_left (intBits_le_64 h1 aC)
 ·exact .of_right (intBits_le_64 h1 aC)
theorem m8:h6 X (binaryOp .Add) (qC fun i j=>.int (i+j)):=Bm fun _ _ _ _ _ _ _ q=>add_int q
theorem ky:h6 X (binaryOp .Sub) (qC fun i j=>.int (i-j)):=Bm fun _ _ _ _ _ _ _ q=>sub_int q
theorem ajL:h6 X (binaryOp .Mult) (JT Vv fun i j=>.int (i * j)):=Vt fun _ _ _ _ _ _ _ aV q=>mul_int q aV.ok
theorem asJ:h6 X (binaryOp .FloorDiv) (JT asI fun i j=>.int (i / j)):=Vt fun i j _ _ _ _ _ aV q=>by
 have h1:(0:Int)<j:=aV.1;have aC:j<1073741824:=aV.2;exact floordiv_int (by omega) (by rw[Int.fdiv_eq_ediv_of_nonneg i (by omega)];exact q) (.inl (PyProof.noPylong_small (by omega)))
theorem abw:h6 X (binaryOp .Mod) (JT (fun _ j=>0<j) fun i j=>.int (i % j)):=Vt fun i j _ _ _ _ _ aV q=>by
 have h1:(0:Int)<j:=aV;exact mod_int' (by omega) (by rw[Int.fmod_eq_emod_of_nonneg i (by omega)];exact q)
theorem abx:h6 X (binaryOp .LShift) (JT ajK fun i j=>.int (i * 2 ^ j.toNat)):=Vt fun _ _ _ _ _ _ _ aV q=>lshift_int_small aV.1 aV.2.1 aV.2.2 q
theorem aby:h6 X (binaryOp .BitAnd) (qC fun i j=>.int (Builtin.bitAnd i j)):=Bm fun _ _ _ _ _ _ _ q=>and_int q
theorem asK:h6 X (binaryOp .BitOr) (qC fun i j=>.int (Builtin.bitOr i j)):=Bm fun _ _ _ _ _ _ _ q=>or_int q
theorem Bo:h6 X (inplaceOp .Add) (qC fun i j=>.int (i+j)):=Bm fun _ _ _ _ _ _ _ q=>iadd_int q
theorem ajM:h6 X (inplaceOp .BitAnd) (qC fun i j=>.int (Builtin.bitAnd i j)):=Bm fun _ _ _ _ _ _ _ q=>iand_int q
theorem asL:h6 X (inplaceOp .BitOr) (qC fun i j=>.int (Builtin.bitOr i j)):=Bm fun _ _ _ _ _ _ _ q=>ior_int q
theorem asM{f:aO->Sem aO}{g:Int->Int}
  (rule:∀ (i:Int) (t:Tok) (s:aY) (Q:aO->aY->Prop) (E:aO->aY->Prop),Q (.int (g i) s.toks) { s with toks:=s.toks+1 }->wpAny (model X.prog X.w) X.A (f (.int i t)) Q E s) :
  abt X f (ajJ fun i=>.int (g i)):=by
 intro pins s σ H x v Q I cc h;obtain⟨i,rfl,q⟩:=h;obtain⟨t,rfl⟩:=cc;exact rule i t s _ _ ⟨.int (g i),H,I.tok _,⟨_,rfl⟩,q⟩
theorem abz:abt X (unaryOp .USub) (ajJ fun i=>.int (-i)):=asM fun _ _ _ _ _ q=>neg_int q
end
noncomputable def ajN:V->V->Bool
 | .non,.non=>true | .non,.int _=>true | .int _,.non=>true | .non,.bl _=>true | .bl _,.non=>true | .non,.str _=>true | .str _,.non=>true
 | .int _,.int _=>true | .bl _,.bl _=>true | .str _,.str _=>true | .pI _,.pI _=>true
 | .int _,.str _=>true | .str _,.int _=>true | .bl _,.str _=>true | .str _,.bl _=>true
 |_,_=>false
def asN:cP:=fun x y H Q=>ajN x y=true/\Q (.bl (decide (x=y))) H
def asO:cP:=fun x y H Q=>ajN x y=true/\Q (.bl (!decide (x=y))) H
theorem ajO{i j:Int}:decide (V.int i=V.int j)=(i == j):=by
 rw[Ae];simp
theorem ajP{i j:Bool}:decide (V.bl i=V.bl j)=(i == j):=by
 rw[Ae];simp
theorem ajQ{i j:Str}:decide (V.str i=V.str j)=(i == j):=by
 rw[Ae];simp
theorem ajR{i j:Array UInt8}:decide (V.pI i=V.pI j)=(i.toList == j.toList):=by
 rw[Ae];cases i;cases j;simp
section
variable{X:bT}{a b c:Expr}{cO tb tc:TE}{pos:Pos}
theorem h7{pins:List (au×Obj)}{σ:St}{H:ao}{s:aY}{Q:bA}{k k':Bool}(I:Inv X pins σ H s)(q:Q (.bl k) H)(e:k=k'):EP X pins σ Q (.bool k') s:=by
 subst e;exact⟨.bl k,H,I,Z,q⟩
theorem jO:h6 X (compareOp .Eq) asN:=by
 intro pins s σ H x y v u Q I cc b4 h;obtain⟨aH,q⟩:=h;cases x with
 |non =>
  cases cc;cases y with
  |non=>cases b4;exact PySem.EqNone.eq_none_none (h7 I q (by simp))
  |bl j=>cases b4;exact PySem.EqNone.eq_none_bool (h7 I q (by simp))
  |int j=>obtain⟨t',rfl⟩:=b4;exact PySem.EqNone.eq_none_int (h7 I q (by simp))
  |str j=>obtain⟨t',rfl⟩:=b4;exact PySem.EqNone.eq_none_str (h7 I q (by simp))
  |_=>exact absurd (show false=true from aH) jr
 |bl i =>
  cases cc;cases y with
  |non=>cases b4;exact PySem.EqNone.eq_bool_none (h7 I q (by simp))
  |bl j=>cases b4;exact eq_bool (h7 I q ajP)
  |str j=>obtain⟨t',rfl⟩:=b4;exact PySem.EqMixed.eq_bool_str (h7 I q (by simp))
  |_=>exact absurd (show false=true from aH) jr
 |int i =>
  obtain⟨t,rfl⟩:=cc;cases y with
  |non=>cases b4;exact PySem.EqNone.eq_int_none (h7 I q (by simp))
  |int j=>obtain⟨t',rfl⟩:=b4;exact eq_int (h7 I q ajO)
  |str j=>obtain⟨t',rfl⟩:=b4;exact PySem.EqMixed.eq_int_str (h7 I q (by simp))
  |_=>exact absurd (show false=true from aH) jr
 |str i =>
  obtain⟨t,rfl⟩:=cc;cases y with
  |non=>cases b4;exact PySem.EqNone.eq_str_none (h7 I q (by simp))
  |bl j=>cases b4;exact PySem.EqMixed.eq_str_bool (h7 I q (by simp))
  |int j=>obtain⟨t',rfl⟩:=b4;exact PySem.EqMixed.eq_str_int (h7 I q (by simp))
  |str j=>obtain⟨t',rfl⟩:=b4;exact eq_str (h7 I q ajQ)
  |_=>exact absurd (show false=true from aH) jr
 |pI i =>
  obtain⟨t,rfl⟩:=cc;cases y with
  |pI j=>obtain⟨t',rfl⟩:=b4;exact PySem.W.eq_bytes (h7 I q ajR)
  |_=>exact absurd (show false=true from aH) jr
 |_=>cases y<;>exact absurd (show false=true from aH) jr
theorem asQ:h6 X (compareOp .NotEq) asO:=by
 intro pins s σ H x y v u Q I cc b4 h;obtain⟨aH,q⟩:=h;cases x with
 |non =>
  cases cc;cases y with
  |non=>cases b4;exact PySem.EqNone.ne_none_none (h7 I q (by simp))
  |bl j=>cases b4;exact PySem.EqNone.ne_none_bool (h7 I q (by simp))
  |int j=>obtain⟨t',rfl⟩:=b4;exact PySem.EqNone.ne_none_int (h7 I q (by simp))
  |str j=>obtain⟨t',rfl⟩:=b4;exact PySem.EqNone.ne_none_str (h7 I q (by simp))
  |_=>exact absurd (show false=true from aH) jr
 |bl i =>
  cases cc;cases y with
  |non=>cases b4;exact PySem.EqNone.ne_bool_none (h7 I q (by simp))
  |bl j=>cases b4;exact ne_bool (h7 I q (congrArg not ajP))
  |str j=>obtain⟨t',rfl⟩:=b4;exact PySem.EqMixed.ne_bool_str (h7 I q (by simp))
  |_=>exact absurd (show false=true from aH) jr
 |int i =>
  obtain⟨t,rfl⟩:=cc;cases y with
  |non=>cases b4;exact PySem.EqNone.ne_int_none (h7 I q (by simp))
  |int j=>obtain⟨t',rfl⟩:=b4;exact ne_int (h7 I q (congrArg not ajO))
  |str j=>obtain⟨t',rfl⟩:=b4;exact PySem.EqMixed.ne_int_str (h7 I q (by simp))
  |_=>exact absurd (show false=true from aH) jr
 |str i =>
  obtain⟨t,rfl⟩:=cc;cases y with
  |non=>cases b4;exact PySem.EqNone.ne_str_none (h7 I q (by simp))
  |bl j=>cases b4;exact PySem.EqMixed.ne_str_bool (h7 I q (by simp))
  |int j=>obtain⟨t',rfl⟩:=b4;exact PySem.EqMixed.ne_str_int (h7 I q (by simp))
  |str j=>obtain⟨t',rfl⟩:=b4;exact ne_str (h7 I q (congrArg not ajQ))
  |_=>exact absurd (show false=true from aH) jr
 |pI i =>
  obtain⟨t,rfl⟩:=cc;cases y with
  |pI j=>obtain⟨t',rfl⟩:=b4;exact PySem.W.ne_bytes (h7 I q (congrArg not ajR))
  |_=>exact absurd (show false=true from aH) jr
 |_=>cases y<;>exact absurd (show false=true from aH) jr
theorem q_:h6 X (compareOp .Lt) (qC fun i j=>.bl (decide (i<j))):=Vu fun _ _ _ _ _ _ _ q=>lt_int q
theorem yu:h6 X (compareOp .LtE) (qC fun i j=>.bl (decide (i<=j))):=Vu fun _ _ _ _ _ _ _ q=>le_int q
theorem JV:h6 X (compareOp .Gt) (qC fun i j=>.bl (decide (j<i))):=Vu fun _ _ _ _ _ _ _ q=>gt_int q
theorem abA:h6 X (compareOp .GtE) (qC fun i j=>.bl (decide (j<=i))):=Vu fun _ _ _ _ _ _ _ q=>ge_int q
theorem h6.or{f:aO->aO->Sem aO}{r r':cP}(h:h6 X f r)(h':h6 X f r'):h6 X f (fun x y H Q=>r x y H Q\/r' x y H Q):=by
 intro pins s σ H x y v u Q I cc b4 q;rcases q with q|q
 ·exact h pins s σ H x y v u Q I cc b4 q
 ·exact h' pins s σ H x y v u Q I cc b4 q
theorem fj(b:Expr){op:CmpOp}(h:op≠.In:=by decide)(aC:op≠.NotIn:=by decide):behindInMarks op b=false:=by
 have bF:(op == CmpOp.In)=false:=by cases op<;>first|rfl|exact absurd rfl h
 have a9:(op == CmpOp.NotIn)=false:=by cases op<;>first|rfl|exact absurd rfl aC
 cases b<;>simp[behindInMarks,bF,a9]
theorem nR{op:CmpOp}{r:cP}(bB:h6 X (compareOp op) r)(aX:PE X a cO)(ak:PE X b tb)(hm:behindInMarks op b=false):PE X (.Compare a [op] [b] pos) (wN r cO tb):=by
 intro pins s σ H Q I h;exact wpAny_Compare1 (abu aX ak I h fun v u s2 x y aB dK cc b4 q=>bB pins s2 σ aB x y v u Q dK cc b4 q) hm
def asR(t:TE):TT:=fun σ H Q=>t σ H (ajy Q)
theorem gM{op:CmpOp}{r:cP}(bB:h6 X (compareOp op) r)(aX:PE X a cO)(ak:PE X b tb)(hm:behindInMarks op b=false):pK X (.Compare a [op] [b] pos) (asR (wN r cO tb)):=by
 intro pins s σ H Q I h;refine wpAny_isTrue_Compare1 (cL (aX pins s σ H _ I h) fun v s1 ⟨x,H1,bp,cI,bU⟩=>cL (ak pins s1 σ H1 _ bp bU) fun u s2 ⟨y,aB,dK,dp,cB⟩ =>
  cL (bB pins s2 σ aB x y v u _ dK cI dp cB) fun c s3 aU=>?_) hm
 obtain⟨z,aJ,eV,d4,k,e,dZ⟩:=aU;subst e;cases d4;exact wpAny_truthy_bool ⟨aJ,eV,dZ⟩
def abB(K:cp)(x:V)(H:ao)(k:Bool):Prop :=
 match x with
 | .non=>k=false
 | .bl b=>k=b
 | .int i=>k=(i != 0)
 | .str y=>y.length<=sizeLine/\k=((y.length:Int) != 0)
 | .pI y=>y.size<=sizeLine/\k=((y.size:Int) != 0)
 | .ref p=>(∃ xs,aT K H p xs/\k=!xs.isEmpty)\/(∃ xs,fO K H p xs/\k=!xs.isEmpty)\/∃ kvs,H p=some (.dX kvs)/\k=!kvs.isEmpty
 |_=>False
theorem asS{eG:Type}{kvs:List (eG×V)}{vs:List (eG×aO)}(r:KV kvs vs):(!vs.isEmpty)=!kvs.isEmpty:=by
 cases r<;>rfl
theorem ajS{xs:List V}{its:dH}(r:Vals xs its):(!its.toArray.isEmpty)=!xs.isEmpty:=by
 cases r<;>simp
theorem Bp:(sizeLine:Nat)<2 ^ 63:=by rw[sizeLine_eq];decide
theorem asT:asC X (fun x H Q=>∃ k,abB X.K x H k/\Q k H):=by
 intro pins s σ H x v Q I cc h;obtain⟨k,e,q⟩:=h;have aF:=Bp;have aH:sizeLine=16777216:=sizeLine_eq;cases x with
 |non =>
  cases cc;have e':k=false:=e;subst e';exact truthy_none ⟨H,I,q⟩
 |bl b =>
  cases cc;have e':k=b:=e;subst e';exact wpAny_truthy_bool ⟨H,I,q⟩
 |int i =>
  obtain⟨t,rfl⟩:=cc;have e':k=(i != 0):=e;subst e';exact PySem.P.truthy_int ⟨H,I,q⟩
 |str y =>
  obtain⟨t,rfl⟩:=cc;obtain⟨aP,e'⟩:y.length<=sizeLine/\k=((y.length:Int) != 0):=e;subst e';exact PySem.P.truthy_str (by omega) ⟨H,I.tok _,q⟩
 |pI y =>
  obtain⟨t,rfl⟩:=cc;obtain⟨aP,e'⟩:y.size<=sizeLine/\k=((y.size:Int) != 0):=e;subst e';exact PySem.W.truthy_bytes (by omega) ⟨H,I.tok _,q⟩
 |ref p =>
  cases cc;have e':(∃ xs,aT X.K H p xs/\k=!xs.isEmpty)\/(∃ xs,fO X.K H p xs/\k=!xs.isEmpty)\/∃ kvs,H p=some (.dX kvs)/\k=!kvs.isEmpty:=e;rcases e' with⟨xs,aq,e'⟩|⟨xs,aq,e'⟩|⟨kvs,aq,e'⟩
  ·subst e';obtain⟨its,r,pl,hz⟩:=I.list aq;have hlen:=r.length;exact wpAny_truthy_list pl.isList (by simp only[iD];omega) ⟨H,I.tok _,by rw[ajS r];exact q⟩
  ·subst e';obtain⟨its,r,pl,hz⟩:=I.tuple aq;have hlen:=r.length;exact truthy_tuple pl (by simp only[iD];omega) ⟨H,I.tok _,by rw[ajS r];exact q⟩
  ·subst e';obtain⟨hz,d1,vs,r,m⟩:kvs.length<=sizeLine/\(p == sysModules)=false/\∃ vs,KV kvs vs/\s.heap.DictOf (iT X.prog X.w) p vs:=I.bL p _ aq;have hlen:kvs.length=vs.length:=Paired.length r;exact wpAny_truthy_dict d1 m (by omega) ⟨H,I.tok _,by rw[asS r];exact q⟩
 |_=>exact(show False from e).elim
theorem Bq(aX:PE X a cO)(he:∀ whole,isTrue a X.env whole=(do let v ← whole;standAt a.pos;holding [v] (truthy v))) :
  pK X a (fun σ H Q=>cO σ H fun x H'=>∃ k,abB X.K x H' k/\Q k H'):=by
 intro pins s σ H Q I h;exact isTrue_plain (cL (aX pins s σ H _ I h) fun v s1 ⟨x,H1,bp,cI,bU⟩=>asT pins s1 σ H1 x v Q bp cI bU) (he _)
theorem vals1{x:V}{us:dH}(r:Vals [x] us):∃ u,us=[u]/\RelV x u:=by
 cases r with
 |cons cI dp=>cases dp;exact⟨_,Z,cI⟩
theorem vals2{x y:V}{us:dH}(r:Vals [x,y] us):∃ u w',us=[u,w']/\RelV x u/\RelV y w':=by
 cases r with
 |cons cI dp =>
  cases dp with
  |cons d4 jN=>cases jN;exact⟨_,_,Z,cI,d4⟩
end
structure Br(h:Heap)(x dx C:au)(gG:g_):Prop where
 obj:h.get? x=some (PySem.W.instObj C dx)
 ns:h.Ns1 dx gG
 ne:dx≠x
theorem asU{h:Heap}{dx:au}{gG:g_}(n:h.Ns1 dx gG):∃ hQ,h.get? dx=some hQ/\∀ name,PySem.W.lookIn name hQ=some (gG name):=by
 obtain⟨o,es,ep,bB,hd,aN,_,hm⟩:=n;refine⟨o,bB,fun name=>?_⟩;have e:=hm name;unfold nsFind findBy at e;rw[← Array.find?_toList]at e;unfold PySem.W.lookIn;rw[hd];dsimp only;split
 ·rename_i y q;rw[q]at e;exact congrArg some e
 ·rename_i q;rw[q]at e;have a:es.toList.any (·.refKey)=false:=by
   rw[List.any_eq_false];intro y aP;obtain⟨z,t,asV⟩:=aN y (Array.mem_toList_iff.mp aP);simp[DictEntry.refKey,asV]
  have a':¬ es.toList.any (·.refKey)=true:=by rw[a];exact jr
  rw[bx a'];exact congrArg some e
theorem Br.look{h:Heap}{x dx C:au}{gG:g_}(I:Br h x dx C gG):∃ hQ,PySem.W.InstAt h x (PySem.W.instObj C dx) C (some hQ)/\∀ name,PySem.W.lookIn name hQ=some (gG name) :=
 let ⟨hQ,bB,aF⟩:=asU I.ns
 ⟨hQ,⟨I.obj,rfl,rfl,bB⟩,aF⟩
section
variable{prog:fx}{w:e4}{A:Around}{E:aO->aY->Prop}{s:aY}{K:cp}{x dx C f:au}{gG:g_}{name:Str}{v:aO}
theorem get_map{expr:Bool}{Q:aO->aY->Prop}(X:K.In s.heap)(I:Br s.heap x dx C gG)(b5:PySem.W.plainGet K C name=true)(hh:PySem.W.hasDictIn K C=true)
  (aX:PySem.W.findIn K (.ref C) name=some none) (a0:gG name=some v) (asW:PySem.W.handedIn v=true) (h:Q v { s with toks:=s.toks+1 }) :
  wpAny (model prog w) A (getAttr (.ref x) name expr) Q E s:=by
 obtain⟨hQ,J,aF⟩:=I.look;exact PySem.W.get_value X J (PySem.W.plainGet_of b5).1 (PySem.W.findObj_own hh aX rfl (by rw[aF,a0])) asW h
theorem asY{pl:Sem Bool}{Q:aO×dH->aY->Prop}(X:K.In s.heap)(I:Br s.heap x dx C gG)(b5:PySem.W.plainGet K C name=true)
  (hf:PySem.W.findIn K (.ref C) name=some (some (.ref f))) (b_:PySem.W.isFn K (.ref f)=true) (a0:gG name=none) (h:Q (.ref f,[.ref x]) s) :
  wpAny (model prog w) A (getMethod (.ref x) name pl) Q E s:=by
 obtain⟨hQ,J,aF⟩:=I.look;exact PySem.W.method_fn X J (PySem.W.plainGet_of b5).1 (PySem.W.plainGet_of b5).2 hf (v'.mp b_) (by show(PySem.W.lookIn name hQ).map (·.isSome)=some false;rw[aF,a0];rfl) h
theorem asZ{ns:List Str}{Q:Unit->aY->Prop}(X:K.In s.heap)(I:Br s.heap x dx C gG)
  (aH:PySem.W.findIn K (.ref C) "__setattr__"=some (some (.builtin "object.__setattr__"))) (aL:PySem.W.plainOver K C=true) (b_:PySem.W.takerIn K C name=some none) (hh:PySem.W.hasDictIn K C=true)
  (hw:PySem.Within gG ns) (hsz:ns.length<=sizeLine)
  (h:∀ h',Br h' x dx C (fun y=>if y=name then some v else gG y)->Heap.SameBut dx s.heap h'->Q () { s with heap:=h',toks:=s.toks+2 }) :
  wpAny (model prog w) A (setAttr (.ref x) name v) Q E s:=by
 obtain⟨hQ,J,aF⟩:=I.look;refine PySem.W.set_plain X J aH (PySem.W.osa_open (s:={ s with toks:=s.toks+1 }) (r:=none) X J aL b_ fun b=>?_);obtain⟨cd,aV,lD⟩:=PySem.W.any_some hh;have aq:s.heap.get? x=some ⟨.ref C,some dx,.plain,#[]⟩:=I.obj;refine wpAny_bind (wpAny_pure (wpAny_bind (wpAny_bind (wpAny_loadPart aq (wpAny_bind (PySem.W.Looks.here (s:={ s with toks:=s.toks+1 }) (PySem.W.looks_clsIn X aV) ?_))))));rw[lD];refine wpAny_pure (a:=some dx) (wpAny_bind (wpAny_pure (wpAny_bind ?_)));refine wpAny_nsSet1 (s:={ s with toks:=s.toks+1 }) I.ns fun h' m9 lJ=>?_;obtain⟨aG7,aG8,aG9,as3,as4,as5⟩:=m9.count (PySem.Within.cons name v hw);refine wpAny_bind (wpAny_lookBehind as3 (by rw[as4];exact pastItsLine_dict (jg as5 (by rw[eo];omega))) ?_);exact wpAny_pure (h _ ⟨(lJ.2 _ (Ne.symm I.ne)).trans I.obj,m9,I.ne⟩ lJ)
theorem as6{R:Result->aY->Prop}{vs:dH}{kw:List (Str×aO)}(X:K.In s.heap)(hm:PySem.W.makesIn K C=true)
  (hi:PySem.W.findIn K (.ref C) "__init__"=some (some (.ref f))) (hf:PySem.W.typeIn K (.ref f)=some (.type "function"))
  (h:codeAny (model prog w) (A.under (.builtin "type.__call__" ⟨.ref C::vs,kw⟩)) (.call (.ref f) ⟨.ref (s.heap.objs.size+1)::vs,kw⟩) (PySem.W.InitBack (s.heap.objs.size+1) R)
   { s with heap:=(s.heap.push PySem.W.emptyDict).push (PySem.W.instObj C s.heap.objs.size) }) :
  codeAny (model prog w) A (.call (.ref C) ⟨vs,kw⟩) R s:=by
 obtain⟨hh,g,d,t,os⟩:=s;exact PySem.W.make_core (PySem.W.makes_of X hm) (PySem.W.looks_findIn X hi) (fun self=>PySem.W.bind_fn X self hf) (.inl rfl) h
end
noncomputable def cC (f:Str) (v:V):List (Str×V)->List (Str×V)
 | []=>[(f,v)]
 |(g,x)::r=>if g=f then(g,v)::r else(g,x)::cC f v r
theorem ajT(f g:Str)(v:V):∀ fs:List (Str×V),(cC f v fs).lookup g=if g=f then some v else fs.lookup g
 | []=>by
  show List.lookup g [(f,v)]=_;by_cases h:g=f
  ·have ak:(g == f)=true:=v'.mpr h
   simp only[List.lookup,ak,bM h]
  ·have ak:(g == f)=false:=beq_eq_false_iff_ne.mpr h
   simp only[List.lookup,ak,bx h]
 |(k,x)::r=>by
  have bV:=ajT f g v r;rw[show cC f v ((k,x)::r)=(if k=f then(k,v)::r else(k,x)::cC f v r) from rfl];by_cases aN:k=f
  ·rw[bM aN];by_cases h:g=k
   ·have ak:(g == k)=true:=v'.mpr h
    simp only[List.lookup,ak,bM (h.trans aN)]
   ·have ak:(g == k)=false:=beq_eq_false_iff_ne.mpr h
    simp only[List.lookup,ak,bx (fun e:g=f=>h (e.trans aN.symm))]
  ·rw[bx aN];by_cases h:g=k
   ·have ak:(g == k)=true:=v'.mpr h
    simp only[List.lookup,ak,bx (fun e:g=f=>aN (h.symm.trans e))]
   ·have ak:(g == k)=false:=beq_eq_false_iff_ne.mpr h
    simp only[List.lookup,ak];exact bV
theorem abC(f:Str)(v:V):∀ fs:List (Str×V),f∈(cC f v fs).map (·.1)/\∀ g,g∈fs.map (·.1)->g∈(cC f v fs).map (·.1)
 | []=>⟨by simp[cC],fun g h=>by simp at h⟩
 |(k,x)::r=>by
  obtain⟨i1,i2⟩:=abC f v r;rw[show cC f v ((k,x)::r)=(if k=f then(k,v)::r else(k,x)::cC f v r) from rfl];by_cases aN:k=f
  ·rw[bM aN];subst aN;exact⟨by simp,fun g h=>by simpa using h⟩
  ·rw[bx aN];refine⟨?_,fun g h=>?_⟩
   ·rw[fU];exact h2 _ i1
   ·rw[fU]at h ⊢;rcases gR.mp h with e|e
    ·exact gR.mpr (.inl e)
    ·exact h2 _ (i2 g e)
theorem ajU(f:Str)(v:V):∀ fs:List (Str×V),(cC f v fs).length<=fs.length+1
 | []=>by simp[cC]
 |(k,x)::r=>by
  have bV:=ajU f v r;rw[show cC f v ((k,x)::r)=(if k=f then(k,v)::r else(k,x)::cC f v r) from rfl];by_cases aN:k=f
  ·rw[bM aN,eo,eo];omega
  ·rw[bx aN,eo,eo];omega
theorem m1.some_of{v:V}{o:Option aO}(r:m1 (some v) o):∃ u,o=some u/\RelV v u:=by
 cases o with
 |none=>exact(show False from r).elim
 |some u=>exact⟨u,Z,r⟩
theorem m1.none_of{o:Option aO}(r:m1 none o):o=none:=by
 cases o with
 |none=>rfl
 |some u=>exact(show False from r).elim
theorem as7{v:V}{u:aO}(r:RelV v u):PySem.W.handedIn u=true:=by
 cases v with
 |non=>cases (show u=Value.none from r);rfl
 |bl b=>cases (show u=Value.bool b from r);rfl
 |int i=>obtain⟨t,e⟩:=(show ∃ t,u=Value.int i t from r);cases e;rfl
 |str x=>obtain⟨t,e⟩:=(show ∃ t,u=Value.str x t from r);cases e;rfl
 |pI b=>obtain⟨t,e⟩:=(show ∃ t,u=Value.bytes b t from r);cases e;rfl
 |Jy b=>obtain⟨t,e⟩:=(show ∃ t,u=Value.float b t from r);cases e;rfl
 |ref a=>cases (show u=Value.ref a from r);rfl
 |ty n=>cases (show u=Value.type n from r);rfl
section
variable{P:fx}{w:e4}{H H':ao}{h h':Heap}{a C dx:au}{fs Ba:List (Str×V)}
theorem abD(bL:ht P w H h)(e:H a=some (.ins C dx fs)):∃ gG,Br h a dx C gG/\(∀ f,m1 (fs.lookup f) (gG f))/\PySem.Within gG (fs.map (·.1))/\fs.length<=1000/\H dx=some (.own a):=by
 obtain⟨d,z,ne,cY,gG,n,r,q⟩:=(show hP P w H h a (.ins C dx fs) from bL a _ e);exact⟨gG,⟨cY,n,ne⟩,r,q,z,d⟩
end
structure iU(K:cp)(C:au):Prop where
 yv:PySem.W.plainGet K C Str.empty=true
 hd:PySem.W.hasDictIn K C=true
 po:PySem.W.plainOver K C=true
 bG:PySem.W.findIn K (.ref C) "__setattr__"=some (some (.builtin "object.__setattr__"))
theorem iU.get{K:cp}{C:au}(c:iU K C)(f:Str):PySem.W.plainGet K C f=true:=c.yv
def cQ(K:cp)(C:au)(f:Str):Prop:=PySem.W.findIn K (.ref C) f=some none
theorem cQ.as8{K:cp}{C:au}{f:Str}(n:cQ K C f):PySem.W.takerIn K C f=some none:=by
 unfold PySem.W.takerIn;rw[show PySem.W.findIn K (.ref C) f=some none from n];rfl
structure Meth(K:cp)(C:au)(m:Str)(f:au):Prop where
 at_:PySem.W.findIn K (.ref C) m=some (some (.ref f))
 fn:PySem.W.isFn K (.ref f)=true
 aG:PySem.W.keepIn K (.ref f)=true
section
variable{X:bT}{pins:List (au×Obj)}{σ:St}{H:ao}{s:aY}{a C dx:au}{fs:List (Str×V)}{f:Str}{v:V}{A:Around}{E:aO->aY->Prop}
theorem ajV{b:Bool}{Q:aO->aY->Prop}(I:Inv X pins σ H s)(e:H a=some (.ins C dx fs))(c:iU X.K C)(n:cQ X.K C f)(l:fs.lookup f=some v)
  (h:∀ u s',Inv X pins σ H s'->RelV v u->Q u s'):wpAny (model X.prog X.w) A (getAttr (.ref a) f b) Q E s:=by
 obtain⟨gG,O,r,_,_,_⟩:=abD I.bL e;obtain⟨u,cF,ho⟩:=m1.some_of (v:=v) (o:=gG f) (by rw[← l];exact r f);exact get_map I.jK O (c.get f) c.hd n cF (as7 ho) (h u _ (I.tok _) ho)
theorem abE{m:Str}{g:au}{pl:Sem Bool}{Q:aO×dH->aY->Prop}(I:Inv X pins σ H s)(e:H a=some (.ins C dx fs))(c:iU X.K C)(k:Meth X.K C m g)(l:fs.lookup m=none)
  (h:Q (.ref g,[.ref a]) s):wpAny (model X.prog X.w) A (getMethod (.ref a) m pl) Q E s:=by
 obtain⟨gG,O,r,_,_,_⟩:=abD I.bL e;have aR:gG m=none:=m1.none_of (by rw[← l];exact r m);exact asY I.jK O (c.get m) k.at_ k.fn aR h
theorem ajW{y:V}{u:aO}{Q:Unit->aY->Prop}(I:Inv X pins σ H s)(e:H a=some (.ins C dx fs))(c:iU X.K C)(n:cQ X.K C f)(aF:fs.length<1000)(b4:RelV y u)
  (h:∀ s',Inv X pins σ (upd H a (.ins C dx (cC f y fs))) s'->Q () s'):wpAny (model X.prog X.w) A (setAttr (.ref a) f u) Q E s:=by
 obtain⟨gG,O,r,kZ,_,bB⟩:=abD I.bL e;have hz:(fs.map (·.1)).length<=sizeLine:=by rw[ey,sizeLine_eq];omega
 refine asZ I.jK O c.bG c.po n.as8 c.hd kZ hz fun h' abF fW=>h _ ?_;have hd:∃ o,h'.get? dx=some o:=let ⟨o,_,_,e',_⟩:=abF.ns;⟨o,e'⟩
 refine I.write (x:=a) (e:=dx) (by rw[e];exact True.intro) (.inr bB) (fun b q ak z=>(fW.2 b ak).trans z) hd ?_;refine⟨by rw[a7 O.ne];exact bB,?_,O.ne,abF.obj,_,abF.ns,fun g=>?_,fun g b5=>?_⟩
 ·have:=ajU f y fs;omega
 ·show m1 ((cC f y fs).lookup g) (if g=f then some u else gG g);rw[ajT];by_cases q:g=f
  ·rw[bM q,bM q];exact b4
  ·rw[bx q,bx q];exact r g
 ·by_cases q:g=f
  ·rw[q];exact(abC f y fs).1
  ·refine(abC f y fs).2 g (kZ g fun z=>b5 ?_);show(if g=f then some u else gG g)=none;rw[bx q];exact z
theorem Inv.made(I:Inv X pins σ H s):Inv X pins σ (upd (upd H s.heap.objs.size (.own (s.heap.objs.size+1))) (s.heap.objs.size+1) (.ins C s.heap.objs.size []))
  { s with heap:=(s.heap.push PySem.W.emptyDict).push (PySem.W.instObj C s.heap.objs.size) }:=by
 have bF:(s.heap.push PySem.W.emptyDict).get? s.heap.objs.size=some PySem.W.emptyDict:=lV s.heap rfl;have a9:((s.heap.push PySem.W.emptyDict).push (PySem.W.instObj C s.heap.objs.size)).get? (s.heap.objs.size+1)=some (PySem.W.instObj C s.heap.objs.size):=by
  have:=lV (s.heap.push PySem.W.emptyDict) (o:=PySem.W.instObj C s.heap.objs.size) rfl
  rwa [q0]at this
 have dw:(s.heap.push PySem.W.emptyDict).Ns s.heap.objs.size (fun _=>none):=⟨PySem.W.emptyDict,#[],_,bF,rfl,(fun e he=>absurd he (by simp)),fun _=>rfl⟩;have bp:=I.laid (a:=s.heap.objs.size) (o:=.own (s.heap.objs.size+1)) (h':=s.heap.push PySem.W.emptyDict) (t':=s.toks) (fun b u q=>iC _ q) (cH _) ⟨_,bF⟩;refine bp.laid (a:=s.heap.objs.size+1) (o:=.ins C s.heap.objs.size []) (t':=s.toks) (fun b u q=>iC _ q) (Aj (q0 _ _)) ?_;have ne:s.heap.objs.size≠s.heap.objs.size+1:=gU (vY _);refine⟨by rw[a7 ne,a8],eZ _,ne,a9,fun _=>none,(Heap.Ns1.of_empty dw).at fun o q=>iC _ q,fun _=>True.intro,fun y aP=>absurd rfl aP⟩
theorem as9{prog:fx}{w:e4}{env:Env}{e:Expr}{f:Str}{pos:Pos}{s:aY}{Q:aO->aY->Prop}(ak:attributeBase e f env (eval e env)=eval e env)
  (h:wpAny (model prog w) A (eval e env) (fun o fV=>wpAny (model prog w) A (getAttr o f true) Q E fV) E s):wpAny (model prog w) A (eval (.Attribute e f pos) env) Q E s :=
 Attribute_any_ h (by rw[arm_eval_Attribute,ak])
end
inductive as_(K:cp)(f:Str)(Q:bA)(x:V)(H:ao):Prop
 |mk (a C dx:au) (fs:List (Str×V)) (v:V) (ex:x=.ref a) (e:H a=some (.ins C dx fs)) (c:iU K C) (n:cQ K C f) (l:fs.lookup f=some v) (q:Q v H)
def Vw(K:cp)(cO:TE)(f:Str):TE:=fun σ H Q=>cO σ H (as_ K f Q)
inductive ata(K:cp)(f:Str)(D:Ends)(σ:St)(y x:V)(H:ao):Prop
 |mk (a C dx:au) (fs:List (Str×V)) (ex:x=.ref a) (e:H a=some (.ins C dx fs)) (c:iU K C) (n:cQ K C f) (l:fs.length<1000) (q:D.cU σ (upd H a (.ins C dx (cC f y fs))))
def atb(K:cp)(cO:TE)(f:Str)(D:Ends)(σ:St)(y:V)(H:ao):Prop:=cO σ H (ata K f D σ y)
def atc(K:cp)(cO q':TE)(f:Str):TS:=fun D σ H=>q' σ H (atb K cO f D σ)
def ajX(X:bT)(op:Operator)(rd:V->V->ao->bA->Prop):Prop :=
 ∀ (pins:List (au×Obj)) (s:aY) (σ:St) (H:ao) (x y:V) (u v:aO) (Q:bA),Inv X pins σ H s->RelV x u->RelV y v->rd x y H Q->wpAny (model X.prog X.w) X.A (inplaceOp op u v) (EP X pins σ Q) X.xe s
def atd(K:cp)(cO q':TE)(rd:V->V->ao->bA->Prop)(f:Str):TS:=fun D σ H=>cO σ H fun x H1=>∃ a C dx fs v,x=.ref a/\H1 a=some (.ins C dx fs)/\iU K C/\cQ K C f/\fs.lookup f=some v /\
 q' σ H1 fun y aB=>rd v y aB fun z aJ=>∃ Bs Ba,aJ a=some (.ins C Bs Ba)/\Ba.length<1000/\D.cU σ (upd aJ a (.ins C Bs (cC f z Ba)))
section
variable{X:bT}{o e value:Expr}{f:Str}{pos pos' r9:Pos}{cO q':TE}
theorem bQ(he:PE X e cO)(ak:attributeBase e f X.env (eval e X.env)=eval e X.env):PE X (.Attribute e f pos) (Vw X.K cO f):=by
 intro pins s σ H Q I h;refine as9 ak (cL (he pins s σ H _ I h) fun u s1 aU=>?_);obtain⟨x,H1,bp,cc,a,C,dx,fs,v,ex,hb,c,n,l,q⟩:=aU;subst ex;obtain rfl:u=Value.ref a:=cc;exact ajV bp hb c n l fun u' s2 dK ho=>⟨v,H1,dK,ho,q⟩
theorem eX(aX:PE X o cO)(a0:PE X value q')(aH:swapsWith value (some (.Attribute o f pos')) pos.line X.env=pure false):PS X (.Assign [.Attribute o f pos'] value pos) (atc X.K cO q' f):=by
 intro pins s σ H D I h;refine plainObj_wpAny_Assign_Attribute (cL (a0 pins s σ H _ I h) fun u s1 ⟨y,H1,bp,b4,q⟩=>cL (aX pins s1 σ H1 _ bp q) fun f5 s2 aU=>?_) aH;obtain⟨x,aB,dK,cc,a,C,dx,fs,ex,hb,c,n,l,cB⟩:=aU;subst ex;obtain rfl:f5=Value.ref a:=cc;exact ajW dK hb c n l b4 fun s3 eV=>⟨σ,_,eV,cB⟩
theorem ajY{op:Operator}{rd:V->V->ao->bA->Prop}(aX:PE X o cO)(a0:PE X value q')(ate:ajX X op rd):PS X (.AugAssign (.Attribute o f r9) op value pos) (atd X.K cO q' rd f):=by
 intro pins s σ H D I h;refine wpAny_AugAssign_AttributeAny (cL (aX pins s σ H _ I h) fun f5 s1 aU=>?_);obtain⟨x,H1,bp,cc,a,C,dx,fs,v,ex,hb,c,n,l,q⟩:=aU;subst ex;obtain rfl:f5=Value.ref a:=cc;refine ajV bp hb c n l fun u s2 dK ho=>cL (a0 pins s2 σ H1 _ dK q) fun w3 s3 ⟨y,aB,eV,b4,dZ⟩=>cL (ate pins s3 σ aB v y u w3 _ eV ho b4 dZ) fun aG_ s4 aU=>?_;obtain⟨z,aJ,mb,Fw,Bs,Ba,atf,l',hH⟩:=aU;exact ajW mb atf c n l' Fw fun s5 uY=>⟨σ,_,uY,hH⟩
inductive atg(x y:V)(H:ao)(Q:bA):Prop
 |mk (i j:Int) (ex:x=.int i) (gk:y=.int j) (q:Q (.int (i+j)) H)
theorem ajZ:ajX X .Add atg:=by
 rintro pins s σ H x y u v Q I cc b4 ⟨i,j,rfl,rfl,q⟩;obtain⟨t,rfl⟩:=(show ∃ t,u=Value.int i t from cc);obtain⟨t',rfl⟩:=(show ∃ t',v=Value.int j t' from b4);exact PyProof.Rows.iadd_int ⟨.int (i+j),H,I.tok _,⟨_,rfl⟩,q⟩
theorem aG'{pl:Sem Bool}{m:Str}{apos:Pos}{args:List Expr}{pins:List (au×Obj)}{s:aY}{σ:St}{H:ao}{Q:aO->aY->Prop}{te:TE}(he:PE X e te)(I:Inv X pins σ H s)
  (h:te σ H fun x H1=>∃ a C dx fs g,x=.ref a/\H1 a=some (.ins C dx fs)/\iU X.K C/\Meth X.K C m g/\fs.lookup m=none /\
   ∀ s1,Inv X pins σ H1 s1->wpAny (model X.prog X.w) X.A (callWith pos (.ref g) [.ref a] (backTo pos (starEach args X.env)) (backToKw pos (keywordEach [] X.env))) Q X.xe s1)
  (b_:eval (.Call (.Attribute e m apos) args [] pos) X.env=(do
   let f5 ← eval e X.env
   standAt apos.atName
   let (f,first) ← holding [f5] (getMethod f5 m pl)
   callWith pos f first (backTo pos (starEach args X.env)) (backToKw pos (keywordEach [] X.env)))) :
  wpAny (model X.prog X.w) X.A (eval (.Call (.Attribute e m apos) args [] pos) X.env) Q X.xe s:=by
 refine PySem.W.methodCall_KW (pl:=pl) (cL (he pins s σ H _ I h) fun u s1 aU=>?_) b_;obtain⟨x,H1,bp,cc,a,C,dx,fs,g,ex,hb,c,k,l,q⟩:=aU;subst ex;obtain rfl:u=Value.ref a:=cc;exact abE bp hb c k l (q s1 bp)
end
structure hI(k:Nat)(A:Around):Prop where
 hd:A.handled=none
 Vx:A.depth+3 * k+5<recursionLimit
 un:A.units+16 * k+200<cLine
theorem hI.mono{j k:Nat}{A:Around}(r:hI k A)(h:j<=k):hI j A:=⟨r.hd,by have:=r.Vx;omega,by have:=r.un;omega⟩
theorem hI.deeper{k:Nat}{A:Around}(r:hI (k+1) A)(env:Env):hI k (A.deeper env) :=
 ⟨r.hd,by have:=r.Vx;show A.depth+1+3 * k+5<_;omega,by have:=r.un;show A.units+3+16 * k+200<_;omega⟩
theorem ath{A:Around}{C:au}{us:dH}{kw:List (Str×aO)}:(A.under (.builtin "type.__call__" ⟨.ref C::us,kw⟩)).depth=A.depth+1:=by
 first|rfl|simp[Around.under,Code.weight,Code.isCreation,Code.isGuard,Code.isCaller,Code.frames,Code.isFrame,guardIds]
theorem ati{A:Around}{C:au}{us:dH}{kw:List (Str×aO)}:(A.under (.builtin "type.__call__" ⟨.ref C::us,kw⟩)).units=A.units+1:=by
 first|rfl|simp[Around.under,Code.cUnits,Code.frames,Code.isFrame]
theorem hI.make{k:Nat}{A:Around}(r:hI (k+1) A)(C:au)(us:dH)(kw:List (Str×aO)):hI k (A.under (.builtin "type.__call__" ⟨.ref C::us,kw⟩)) :=
 ⟨r.hd,by have:=r.Vx;rw[ath];omega,by have:=r.un;rw[ati];omega⟩
theorem hI.depth{k:Nat}{A:Around}(r:hI k A):A.depth<recursionLimit:=by have:=r.Vx;omega
theorem hI.units{k:Nat}{A:Around}(r:hI k A):A.units+64<cLine:=by have:=r.un;omega
theorem hI.atj{k:Nat}{A:Around}(r:hI k A):A.units<cLine:=by have:=r.un;omega
def m_:TA:=fun _ H Q=>Q [] H
def atk(Q:List V->ao->Prop)(x:V)(xs:List V)(H:ao):Prop:=Q (x::xs) H
def atl(tr:TA)(σ:St)(Q:List V->ao->Prop)(x:V)(H:ao):Prop:=tr σ H (atk Q x)
def nS(cO:TE)(tr:TA):TA:=fun σ H Q=>cO σ H (atl tr σ Q)
section
variable{X:bT}{e:Expr}{es:List Expr}{te:TE}{t:TA}{pos:Pos}
theorem aM:PA X [] m_:=fun _ _ _ _ H Q I h=>Calls.spliced_nil ⟨[],H,I,.nil,h⟩
theorem aD(aX:PE X e te)(aA:PA X es t)(aH:starEach (e::es) X.env=(false,eval e X.env)::starEach es X.env:=by rfl):PA X (e::es) (nS te t):=by
 intro pos pins s σ H Q I h;rw[aH];show wpAny _ _ (spliced ((false,eval e X.env)::backTo pos (starEach es X.env))) _ _ s;refine Calls.spliced_cons (cL (aX pins s σ H _ I h) fun u s1 aU=>?_);obtain⟨x,H1,bp,cI,bU⟩:=aU;exact cL (aA pos pins s1 σ H1 _ bp bU) fun us s2 ⟨xs,aB,dK,dp,cB⟩=>⟨x::xs,aB,dK,.cons cI dp,cB⟩
def atm(Q:bA)(xs:List V)(H:ao):Prop:=xs.length<=sizeLine/\∀ p,H p=none->Q (.ref p) (upd H p (.tup xs))
def atn(t:TA):TE:=fun σ H Q=>t σ H (atm Q)
def ato(Q:bA)(xs:List V)(H:ao):Prop:=xs.length<=sizeLine/\∀ p,H p=none->Q (.ref p) (upd H p (.lst xs))
def atp(t:TA):TE:=fun σ H Q=>t σ H (ato Q)
theorem sa{x1}(h:PA X es t):PE X (.Tuple es x1 pos) (atn t):=by
 intro pins s σ H Q I a6;refine wpAny_Tuple_spliced (cL (h pos pins s σ H _ I a6) fun us s1 ⟨xs,H1,bp,r,z,q⟩=>⟨by rw[← r.length];exact z,?_⟩);have hf:H1 s1.heap.objs.size=none:=bp.bL.fresh (cH _);refine⟨.ref s1.heap.objs.size,upd H1 s1.heap.objs.size (.tup xs),bp.laid (t':=s1.toks) (fun b u e=>iC _ e) (cH _) ?_,Z,q _ hf⟩;exact⟨z,us,r,⟨_,lV _ rfl,Z,_,Z⟩⟩
theorem hc(h:PA X es t):PE X (.List es pos) (atp t):=by
 intro pins s σ H Q I a6;refine wpAny_List_spliced (cL (h pos pins s σ H _ I a6) fun us s1 ⟨xs,H1,bp,r,z,q⟩=>⟨by rw[← r.length];exact z,?_⟩);have hf:H1 s1.heap.objs.size=none:=bp.bL.fresh (cH _);refine⟨.ref s1.heap.objs.size,upd H1 s1.heap.objs.size (.lst xs),bp.laid (t':=s1.toks) (fun b u e=>iC _ e) (cH _) ?_,Z,q _ hf⟩;exact⟨z,us,0,r,lV _ rfl⟩
end
abbrev eY:=List V->ao->bA->cN->Prop
abbrev ti:=List Env->ao->aY->cN->aO->aY->Prop
structure Bt(P:fx)(w:e4)(K:cp)(av:g_)(base:Heap)(A:Around)(outer:List Env)(s:aY)(H:ao):Prop where
 frames:A.frames=some outer
 mod:Mod K av base
 bs:∀ b o,base.get? b=some o->s.heap.get? b=some o/\H b=none
 qu:base.objs.size<=s.heap.objs.size
 nQ:s.heap.FunFrames base outer
 s6:∀ b∈nP outer,H b=none
 bL:ht P w H s.heap
 bare:AllBare s.gens
def CE(outer:List Env)(P:fx)(w:e4)(H:ao)(s:aY)(Q:bA)(u:aO)(s':aY):Prop :=
 ∃ v H',s'.os=s.os/\AllBare s'.gens/\jY (nP outer) [] H H' s.heap s'.heap/\ht P w H' s'.heap/\RelV v u/\Q v H'
def CR(gJ:ti)(outer:List Env)(P:fx)(w:e4)(H:ao)(s:aY)(Q:bA)(E:cN)(r:Result)(s':aY):Prop :=
 match r with
 | .ok (.ret u)=>CE outer P w H s Q u s'
 | .ok _=>False
 | .error e=>gJ outer H s E e s'
structure cJ(P:fx)(w:e4)(K:cp)(av:g_)(base:Heap)(gJ:ti)(k:Nat)(f:au)(fd:cG)(ps:List Str)(sp:eY):Prop where
 len:∀ vs H Q E,sp vs H Q E->vs.length=ps.length
 run:∀ (A:Around) (outer:List Env) (s:aY) (H:ao) (args:Args) (us:dH) (vs:List V) (Q:bA) (E:cN),hI k A->Bt P w K av base A outer s H->BindsTo s fd args (ps.zip us)->Vals vs us->sp vs H Q E ->
  codeAny (model P w) A (.call (.ref f) args) (CR gJ outer P w H s Q E) s
theorem Bt.make{P:fx}{w:e4}{K:cp}{av:g_}{base:Heap}{A:Around}{outer:List Env}{s:aY}{H:ao}(e:Bt P w K av base A outer s H)(C:au)(us:dH)(kw:List (Str×aO)) :
  Bt P w K av base (A.under (.builtin "type.__call__" ⟨.ref C::us,kw⟩)) outer s H:=⟨by first|exact e.frames|(simpa [Around.under,Code.envs,Code.isFrame,pushEnvs]using e.frames),e.mod,e.bs,e.qu,e.nQ,e.s6,e.bL,e.bare⟩
section
variable{X:bT}{pins:List (au×Obj)}{σ:St}{H:ao}{s s':aY}
theorem Inv.ml(I:Inv X pins σ H s):Bt X.prog X.w X.K X.av X.base X.A X.stack s H :=
 ⟨I.ok.frames,I.ok.mod,I.bs,jg I.ok.qu I.E_,I.stack,I.aa2,I.bL,I.bare⟩
theorem Inv.after{Q:bA}{u:aO}(I:Inv X pins σ H s)(h:CE X.stack X.prog X.w H s Q u s'):EP X pins σ Q u s':=by
 obtain⟨v,H',os,bare,un,bL,r,q⟩:=h;obtain⟨hh,g,d,t,atq⟩:=s';obtain rfl:atq=s.os:=os;exact⟨v,H',I.call (h':=hh) (g':=g) (d':=d) (t':=t) (ch:=[]) un bL bare (fun b z=>absurd z (by simp)),r,q⟩
end
def atr(sp:eY)(hS:List V)(E:cN)(Q:bA)(vs:List V)(H:ao):Prop:=sp (vs++hS) H Q E
def Vy(sp:eY)(hS:List V)(E:cN)(t:TA):TE:=fun σ H Q=>t σ H (atr sp hS E Q)
def atu(sp:eY)(hS:List V)(E:cN)(Q:bA)(x:V)(vs:List V)(H:ao):Prop:=sp (x::(vs++hS)) H Q E
inductive atv(C:au)(m:Str)(sp:eY)(hS:List V)(E:cN)(t:TA)(σ:St)(Q:bA)(x:V)(H:ao):Prop
 |mk (a dx:au) (fs:List (Str×V)) (ex:x=.ref a) (e:H a=some (.ins C dx fs)) (l:fs.lookup m=none) (q:t σ H (atu sp hS E Q x))
def Fx(C:au)(m:Str)(sp:eY)(hS:List V)(E:cN)(cO:TE)(t:TA):TE:=fun σ H Q=>cO σ H (atv C m sp hS E t σ Q)
def atw(Q:bA)(x:au)(v:V)(H:ao):Prop:=v=.non/\Q (.ref x) H
def atx(C:au)(sp:eY)(hS:List V)(E:cN)(Q:bA)(vs:List V)(H:ao):Prop:=∀ x dx,H x=none->H dx=none->dx≠x ->
 sp (.ref x::(vs++hS)) (upd (upd H dx (.own x)) x (.ins C dx [])) (atw Q x) E
def aj0(C:au)(sp:eY)(hS:List V)(E:cN)(t:TA):TE:=fun σ H Q=>t σ H (atx C sp hS E Q)
def Binds(K:cp)(fd:cG)(ps:List Str)(ds:dH):Prop :=
 ∀ (s:aY) (us:dH),K.In s.heap->(us++ds).length=ps.length->BindsTo s fd ⟨us,[]⟩ (ps.zip (us++ds))
theorem Binds.all{K:cp}{fd:cG}{ps:List Str}(h:∀ us:dH,us.length=ps.length->bindArgs fd ⟨us,[]⟩=pure (ps.zip us)):Binds K fd ps []:=fun s us _ aF=>by
 rw[List.append_nil]at aF ⊢;exact .of_eq (h us aF)
def Passes(gJ:ti)(X:bT)(E:cN):Prop:=∀ (pins:List (au×Obj)) (σ:St) (H:ao) (s:aY) (e:aO) (s':aY),Inv X pins σ H s->gJ X.stack H s E e s'->X.xe e s'
section
variable{X:bT}{gJ:ti}{k:Nat}{f C:au}{fd:cG}{ps:List Str}{sp:eY}{hS:List V}{ds:dH}{E:cN}{x m:Str}{p pos apos:Pos}{e o:Expr}{es:List Expr}{cO:TE}{t:TA}
theorem abG{pins:List (au×Obj)}{σ:St}{H:ao}{s:aY}{Q:bA}{us:dH}{vs:List V}(F:cJ X.prog X.w X.K X.av X.base gJ k f fd ps sp)(aA:hI k X.A)(ak:Binds X.K fd ps ds)(hd:Vals hS ds)(aq:Passes gJ X E)
  (I:Inv X pins σ H s) (r:Vals vs us) (h:sp (vs++hS) H Q E):wpAny (model X.prog X.w) X.A (call (.ref f) us) (EP X pins σ Q) X.xe s:=by
 have dp:Vals (vs++hS) (us++ds):=r.append hd;have aF:(us++ds).length=ps.length:=by rw[← dp.length];exact F.len _ _ _ _ h
 refine wpAny_call (codeAny_mono (F.run X.A X.stack s H ⟨us,[]⟩ (us++ds) (vs++hS) Q E aA I.ml (ak s us I.jK aF) dp h) fun r s' a6=>?_);cases r with
 |error e=>exact aq pins σ H s e s' I a6
 |ok wB =>
  cases wB with
  |ret u=>exact I.after a6
  |next=>exact False.elim a6
  |brk=>exact False.elim a6
  |cont=>exact False.elim a6
theorem dI(F:cJ X.prog X.w X.K X.av X.base gJ k f fd ps sp)(aA:hI k X.A)(b5:qw X x)(hm:X.av x=some (.ref f))(aN:PySem.W.keepIn X.K (.ref f)=true)(ak:Binds X.K fd ps ds)(hd:Vals hS ds)(aq:Passes gJ X E)
  (aX:PA X (e::es) t) (m':(x == ("__debug__":Str))=false:=by decide) (he:starEach (e::es) X.env=(false,eval e X.env)::starEach es X.env:=by rfl) (g8:(backTo pos (starEach es X.env)).any (·.1)=false:=by rfl) :
  PE X (.Call (.Name x p) (e::es) [] pos) (Vy sp hS E t):=by
 intro pins s σ H Q I h;refine wpAny_Call_Name_kw (Fe I b5 hm ?_ m');refine PySem.W.callWith_K (h₀:=X.base) I.ok.mod.JB aN (cL (aX pos pins s σ H _ I h) fun us s1 ⟨vs,H1,bp,r,q⟩=>⟨bp.jK,?_⟩) he g8;exact abG F aA ak hd aq bp r q
theorem fl{pl:Sem Bool}(he:PE X o cO)(c:iU X.K C)(hm:Meth X.K C m f)(F:cJ X.prog X.w X.K X.av X.base gJ k f fd ps sp)(aA:hI k X.A)(ak:Binds X.K fd ps ds)(hd:Vals hS ds)(aq:Passes gJ X E)(aX:PA X (e::es) t)
  (m2:starEach (e::es) X.env=(false,eval e X.env)::starEach es X.env:=by rfl) (g8:(backTo pos (starEach es X.env)).any (·.1)=false:=by rfl)
  (b_:eval (.Call (.Attribute o m apos) (e::es) [] pos) X.env=(do
   let f5 ← eval o X.env
   standAt apos.atName
   let (f,first) ← holding [f5] (getMethod f5 m pl)
   callWith pos f first (backTo pos (starEach (e::es) X.env)) (backToKw pos (keywordEach [] X.env))):=by rfl) :
  PE X (.Call (.Attribute o m apos) (e::es) [] pos) (Fx C m sp hS E cO t):=by
 intro pins s σ H Q I h;refine PySem.W.methodCall_KW (pl:=pl) (cL (he pins s σ H _ I h) fun u s1 aU=>?_) b_;obtain⟨x,H1,bp,cc,a,dx,fs,ex,hb,l,q⟩:=aU;subst ex;obtain rfl:u=Value.ref a:=cc;refine abE bp hb c hm l ?_;refine PySem.W.callWith_K (first:=[.ref a]) (h₀:=X.base) I.ok.mod.JB hm.aG (cL (aX pos pins s1 σ H1 _ bp q) fun us s2 ⟨vs,aB,dK,r,cB⟩=>⟨dK.jK,?_⟩) m2 g8;exact abG (us:=.ref a::us) (vs:=.ref a::vs) F aA ak hd aq dK (.cons rfl r) cB
theorem gv{pl:Sem Bool}(he:PE X o cO)(c:iU X.K C)(hm:Meth X.K C m f)(F:cJ X.prog X.w X.K X.av X.base gJ k f fd ps sp)(aA:hI k X.A)(ak:Binds X.K fd ps ds)(hd:Vals hS ds)(aq:Passes gJ X E)
  (b_:eval (.Call (.Attribute o m apos) [] [] pos) X.env=(do
   let f5 ← eval o X.env
   standAt apos.atName
   let (f,first) ← holding [f5] (getMethod f5 m pl)
   callWith pos f first (backTo pos (starEach [] X.env)) (backToKw pos (keywordEach [] X.env))):=by rfl) :
  PE X (.Call (.Attribute o m apos) [] [] pos) (Fx C m sp hS E cO m_):=by
 intro pins s σ H Q I h;refine PySem.W.methodCall_KW (pl:=pl) (cL (he pins s σ H _ I h) fun u s1 aU=>?_) b_;obtain⟨x,H1,bp,cc,a,dx,fs,ex,hb,l,q⟩:=aU;subst ex;obtain rfl:u=Value.ref a:=cc;refine abE bp hb c hm l ?_;exact PySem.W.callWith_K0 (first:=[.ref a]) bp.jK hm.aG (abG (us:=[.ref a]) (vs:=[.ref a]) F aA ak hd aq bp (.cons rfl .nil) q)
structure mq(K:cp)(C f:au):Prop where
 makes:PySem.W.makesIn K C=true
 init:PySem.W.findIn K (.ref C) "__init__"=some (some (.ref f))
 fn:PySem.W.isFn K (.ref f)=true
 aG:PySem.W.keepIn K (.ref C)=true
theorem aj1{pins:List (au×Obj)}{σ:St}{H:ao}{s:aY}{Q:bA}{us:dH}{vs:List V}(M:mq X.K C f)(F:cJ X.prog X.w X.K X.av X.base gJ k f fd ps sp)(aA:hI (k+1) X.A)(ak:Binds X.K fd ps ds)(hd:Vals hS ds)
  (aq:Passes gJ X E) (I:Inv X pins σ H s) (r:Vals vs us)
  (h:∀ x dx,H x=none->H dx=none->dx≠x->sp (.ref x::(vs++hS)) (upd (upd H dx (.own x)) x (.ins C dx [])) (fun v aB=>v=.non/\Q (.ref x) aB) E) :
  wpAny (model X.prog X.w) X.A (call (.ref C) us) (EP X pins σ Q) X.xe s:=by
 have a6:=h (s.heap.objs.size+1) s.heap.objs.size (I.bL.fresh (Nat.le_succ _)) (I.bL.fresh (cH _)) (gU (vY _));have dK:=Inv.made (C:=C) I;have dp:Vals (V.ref (s.heap.objs.size+1)::(vs++hS)) (Value.ref (s.heap.objs.size+1)::(us++ds)):=.cons rfl (r.append hd);have aF:(Value.ref (s.heap.objs.size+1)::us++ds).length=ps.length:=by
  have e:=dp.length;rw[F.len _ _ _ _ a6]at e;exact e.symm
 refine wpAny_call (as6 (f:=f) I.jK M.makes M.init (v'.mp M.fn) (codeAny_mono (F.run _ X.stack _ _ ⟨Value.ref (s.heap.objs.size+1)::us,[]⟩ (Value.ref (s.heap.objs.size+1)::(us++ds)) _ _ E (aA.make C us [])
  (dK.ml.make C us []) (ak _ (Value.ref (s.heap.objs.size+1)::us) dK.jK aF) dp a6) fun r s' kl=>?_))
 cases r with
 |error e=>exact aq pins σ _ _ e s' dK kl
 |ok wB =>
  cases wB with
  |ret u =>
   obtain⟨v,H',eV,e0,ev,dZ⟩:=dK.after kl;subst ev;exact⟨e0,⟨V.ref (s.heap.objs.size+1),H',eV,Z,dZ⟩⟩
  |next=>exact False.elim kl
  |brk=>exact False.elim kl
  |cont=>exact False.elim kl
theorem qD(M:mq X.K C f)(F:cJ X.prog X.w X.K X.av X.base gJ k f fd ps sp)(aA:hI (k+1) X.A)(b5:qw X x)(hm:X.av x=some (.ref C))(ak:Binds X.K fd ps ds)(hd:Vals hS ds)(aq:Passes gJ X E)
  (aX:PA X (e::es) t) (m':(x == ("__debug__":Str))=false:=by decide) (he:starEach (e::es) X.env=(false,eval e X.env)::starEach es X.env:=by rfl) (g8:(backTo pos (starEach es X.env)).any (·.1)=false:=by rfl) :
  PE X (.Call (.Name x p) (e::es) [] pos) (aj0 C sp hS E t):=by
 intro pins s σ H Q I h;refine wpAny_Call_Name_kw (Fe I b5 hm ?_ m');refine PySem.W.callWith_K (h₀:=X.base) I.ok.mod.JB M.aG (cL (aX pos pins s σ H _ I h) fun us s1 ⟨vs,H1,bp,r,q⟩=>⟨bp.jK,?_⟩) he g8;exact aj1 M F aA ak hd aq bp r q
theorem aj2(M:mq X.K C f)(F:cJ X.prog X.w X.K X.av X.base gJ k f fd ps sp)(aA:hI (k+1) X.A)(b5:qw X x)(hm:X.av x=some (.ref C))(ak:Binds X.K fd ps ds)(hd:Vals hS ds)(aq:Passes gJ X E)
  (m':(x == ("__debug__":Str))=false:=by decide):PE X (.Call (.Name x p) [] [] pos) (aj0 C sp hS E m_):=by
 intro pins s σ H Q I h;refine wpAny_Call_Name_kw (Fe I b5 hm ?_ m');exact PySem.W.callWith_K0 I.jK M.aG (aj1 (us:=[]) M F aA ak hd aq I .nil h)
end
structure cW(N P:List Str)(sc:Scope):Prop where
 kind:sc.kind=.function:=by rfl
 co:sc.isCoroutine=false:=by rfl
 gen:sc.isGenerator=false:=by rfl
 nd:N.Nodup:=by decide +kernel
 pre:N.take P.length=P:=by rfl
 par:∀ x∈P,sc.names.lookup x=some .local\/sc.names.lookup x=some .cell:=by decide +kernel
 aty:∀ y∈sc.names,y.2≠.free:=by decide +kernel
theorem aj3{kindOf:Str->Option NameKind}{x:Str}:∀ {binds:List (Str×aO)} {m:g_},(∀ v,(x,v)∉binds)->bindL kindOf binds m x=m x
 | [],_,_=>rfl
 |(n,v)::r,m,h=>by
  unfold bindL;rw[aj3 fun w hw=>h w (h2 _ hw)];split
  ·have:x≠n:=by rintro rfl;exact h v h_
   simp[this]
  ·rfl
theorem aj4{kindOf:Str->Option NameKind}{x:Str}:∀ {binds:List (Str×aO)} {m:g_},(∀ v,(x,v)∉binds)->bindC kindOf binds m x=m x
 | [],_,_=>rfl
 |(n,v)::r,m,h=>by
  unfold bindC;rw[aj4 fun w hw=>h w (h2 _ hw)];split
  ·rfl
  ·have:x≠n:=by rintro rfl;exact h v h_
   simp[this]
theorem aj5{kindOf:Str->Option NameKind}{x:Str}{v:aO}:∀ {P:List Str} {vs:dH} {i:Nat} {m:g_},P.Nodup->P[i]?=some x->vs[i]?=some v->kindOf x=some .local ->
  bindL kindOf (P.zip vs) m x=some v
 | [],_,_,_,_,h,_,_=>by simp at h
 |_::_,[],_,_,_,_,h,_=>by simp at h
 |p::P,w::vs,0,m,nd,h1,aC,aN=>by
  simp at h1 aC;subst h1;subst aC;show bindL kindOf ((p,w)::P.zip vs) m p=_;unfold bindL;rw[aj3 fun v a0=>(Ag.mp nd).1 (List.of_mem_zip a0).1,bM aN];simp
 |p::P,w::vs,i+1,m,nd,h1,aC,aN=>by
  show bindL kindOf ((p,w)::P.zip vs) m x=_;unfold bindL;exact aj5 (i:=i) (Ag.mp nd).2 (by simpa using h1) (by simpa using aC) aN
theorem aj6{kindOf:Str->Option NameKind}{x:Str}{v:aO}:∀ {P:List Str} {vs:dH} {i:Nat} {m:g_},P.Nodup->P[i]?=some x->vs[i]?=some v->kindOf x≠some .local ->
  bindC kindOf (P.zip vs) m x=some v
 | [],_,_,_,_,h,_,_=>by simp at h
 |_::_,[],_,_,_,_,h,_=>by simp at h
 |p::P,w::vs,0,m,nd,h1,aC,aN=>by
  simp at h1 aC;subst h1;subst aC;show bindC kindOf ((p,w)::P.zip vs) m p=_;unfold bindC;rw[aj4 fun v a0=>(Ag.mp nd).1 (List.of_mem_zip a0).1,bx aN];simp
 |p::P,w::vs,i+1,m,nd,h1,aC,aN=>by
  show bindC kindOf ((p,w)::P.zip vs) m x=_;unfold bindC;exact aj6 (i:=i) (Ag.mp nd).2 (by simpa using h1) (by simpa using aC) aN
def start(N:List Str)(vs:List V):St:=vs.map some++List.replicate (N.length-vs.length) none
def sb(gJ:ti)(P:fx)(w:e4)(K:cp)(av:g_)(base:Heap)(N:List Str)(qual:Str)(scope:Scope)(f:au)(cd:aO)(A:Around)(outer:List Env)(s:aY)(H:ao)(E:cN):bT where
 prog:=P
 w:=w
 K:=K
 av:=av
 base:=base
 A:=A.deeper (envOfC qual scope s.heap.objs.size f cd)
 N:=N
 jZ:=s
 JC:=H
 env:=envOfC qual scope s.heap.objs.size f cd
 outer:=outer
 stack:=envOfC qual scope s.heap.objs.size f cd::outer
 ex:=[]
 calm:=true
 fn:=fun _=>true
 ha:=[]
 xe:=fun e s'=>wpAny (model P w) (A.deeper (envOfC qual scope s.heap.objs.size f cd)) (leaving (envOfC qual scope s.heap.objs.size f cd) e) (fun _ JW=>gJ outer H s E e JW) (fun e' JW=>gJ outer H s E e' JW) s'
theorem aj7{sc:Scope}{n:Nat}{x:Str}(h:sc.names.lookup x=some .cell):∃ c,(cellsFrom n sc.names []).lookup x=some c:=by
 have q:=PySem.W.cellsFrom_some sc.names n [] (.inl h);exact Option.isSome_iff_exists.mp q
theorem atz{gJ:ti}{P:fx}{w:e4}{K:cp}{av:g_}{base:Heap}{N ps:List Str}{qual:Str}{scope:Scope}{f:au}{cd:aO}{A:Around}{outer:List Env}{s s1:aY}{H:ao}{E:cN}{us:dH}{vs:List V}
  (S:cW N ps scope) (hd:A.handled=none) (fB:Bt P w K av base A outer s H) (aF:vs.length=ps.length) (r:Vals vs us)
  (x:InCallC s s.heap.objs.size (bindL (envOfC qual scope s.heap.objs.size f cd).kindOf (ps.zip us) fun _=>none) (cellsFrom (s.heap.objs.size+1) scope.names []) (bindC (envOfC qual scope s.heap.objs.size f cd).kindOf (ps.zip us) fun _=>none) s1) :
  Inv (sb gJ P w K av base N qual scope f cd A outer s H E) [] (start N vs) H s1:=by
 have g8:ps.length<=N.length:=by have:=congrArg List.length S.pre;rw[g4]at this;omega
 obtain⟨h1,tk,rfl,aN⟩:=x.done;have JX:∀ b:au,b∉(sb gJ P w K av base N qual scope f cd A outer s H E).ex:=fun b z=>absurd (show b∈([]:d2) from z) (by simp);refine⟨⟨fB.mod,S.kind,Z,Z,cH _,fun y z c h1 aC=>?_,fun y aP=>?_,fun y c _ h=>?_,fun _=>hd,Around.frames_deeper fB.frames,.inr ⟨Z,Z⟩,fun b z=>absurd z (JX b),fB.bs,fB.qu,fun b _ _=>JX b,fun b z=>absurd z (JX b),fB.nQ,fB.s6⟩,
  Z,fB.bare,jY.kept aN,⟨_,x.toInCall.ns,fun i y v h1 aC bI=>?_⟩,fun y c h=>⟨_,x.cell y c h⟩,fB.bL.fresh (cH _),fun y c h=>?_,fun p aL=>absurd (show p∈([]:List (au×Obj)) from aL) (by simp),fB.bL.kept aN,?_⟩
 ·exact name_of_addr x.apart (pk h1) (pk aC)
 ·have aP:scope.names.lookup y=some .cell\/scope.names.lookup y=some .free:=aP
  rcases aP with aP|aP
  ·exact aj7 aP
  ·exact absurd rfl (S.aty _ (pk aP))
 ·exact Aa (x.above y c (pk h))
 ·have hi:i<vs.length:=by
   unfold start at aC;by_cases hi:i<vs.length
   ·exact hi
   ·rw[I1 (by simpa using hi)]at aC;rw[List.getElem?_replicate]at aC;split at aC<;>cases aC
  have aX:vs[i]?=some v:=by
   unfold start at aC;rw[Uk (by simpa using hi),ek]at aC;cases e:vs[i]? with
   |none=>rw[e]at aC;cases aC
   |some a=>rw[e]at aC;cases aC;rfl
  obtain⟨u,cF,e0⟩:=r.get aX;have aL:ps[i]?=some y:=by
   rw[← S.pre,x5 (by omega)];exact h1
  have aj8:ps.Nodup:=by rw[← S.pre];exact S.nd.sublist (List.take_sublist _ _)
  refine⟨u,e0,?_⟩;rcases S.par y (gb aL)with k|k
  ·exact .inl ⟨k,aj5 aj8 aL cF k⟩
  ·obtain⟨c,e⟩:=aj7 (n:=s.heap.objs.size+1) k;refine .inr ⟨.inl k,c,e,?_⟩;have q:=x.cell y c e;rw[aj6 aj8 aL cF (by show scope.names.lookup y≠_;rw[k];decide)]at q;exact q
 ·exact fB.bL.fresh (Aa (x.above y c (pk h)))
 ·unfold start;show _=N.length;rw[gC,ey,List.length_replicate];omega
theorem atA{gJ:ti}{P:fx}{w:e4}{K:cp}{av:g_}{base:Heap}{k:Nat}{f:au}{name qual:Str}{params:Arguments}{body:List Stmt}{scope:Scope}{abH c3 doc pm bK fu jL:aO}{an hQ:Option au}
  {pP:Array (Option aO)} {N ps:List Str} {sp:eY} (lk:K.lookup f=some ⟨jL,hQ,.func (PySem.W.fnOf name qual params body scope abH c3 doc pm an bK fu),pP⟩) (wK:PySem.W.codeIn K bK qual=true) (S:cW N ps scope)
  (len:∀ vs H Q E,sp vs H Q E->vs.length=ps.length)
  (abI:∀ (A:Around) (outer:List Env) (s:aY) (H:ao) (vs:List V) (Q:bA) (E:cN),hI k (A.deeper (envOfC qual scope s.heap.objs.size f bK))->sp vs H Q E ->
   ∃ t,pL (sb gJ P w K av base N qual scope f bK A outer s H E) body t/\t { cU:=fun _ H'=>Q .non H',Fb:=Q } (start N vs) H) :
  cJ P w K av base gJ (k+1) f (PySem.W.fnOf name qual params body scope abH c3 doc pm an bK fu) ps sp:=by
 refine⟨len,fun A outer s H args us vs Q E aA fB ak r yw=>?_⟩;have aF:=len _ _ _ _ yw;have hT:K.In s.heap:=fB.mod.JB.keeps fun b o e=>(fB.bs b o e).1;have lim:s.heap.NoLimit:=fB.mod.nolimit.keeps fun b o e=>(fB.bs b o e).1;have atB:∀ y∈ps.zip us,scope.names.lookup y.1=some .local\/(scope.names.lookup y.1=some .cell/\((cellsFrom (s.heap.objs.size+1) scope.names []).lookup y.1).isSome=true):=fun⟨n,v⟩ aP=>by
  rcases S.par n (List.of_mem_zip aP).1 with q|q
  ·exact .inl q
  ·exact .inr ⟨q,PySem.W.cellsFrom_some _ _ _ (.inl q)⟩
 refine codeAny_call_function aA.depth (hT _ _ lk) rfl S.co S.gen rfl (PySem.W.codeRec_of hT wK) (ak _ _ _ _ ?_);refine wpAny_newFunctionEnv_cells S.kind atB fun env he s1 x=>?_;subst he;refine⟨lim.keeps x.toInCall.keep,codeAny_func ?_⟩;obtain⟨t,b_,a6⟩:=abI A outer s H vs Q E (aA.deeper _) yw;have I:Inv (sb gJ P w K av base N qual scope f bK A outer s H E) [] (start N vs) H s1:=atz S aA.hd fB aF r x;refine wpAny_mono (b_ [] s1 (start N vs) H _ I a6) (fun wB s' aH=>?_) fun e s' aH=>aH;have fin:∀ {dg:St} {H':ao} {v:V} {u:aO},Inv (sb gJ P w K av base N qual scope f bK A outer s H E) [] dg H' s'->RelV v u->Q v H'->CE outer P w H s Q u s' :=
  fun{dg H' v u} J e0 q=>⟨v,H',J.os,J.bare,J.base,J.bL,e0,q⟩
 cases wB with
 |ret u =>
  obtain⟨v,dg,H',J,e0,q⟩:=aH;exact fin J e0 q
 |next =>
  obtain⟨dg,H',J,q⟩:=aH;exact fin (v:=V.non) (u:=Value.none) J rfl q
 |brk =>
  obtain⟨_,_,_,q⟩:=aH;exact False.elim q
 |cont =>
  obtain⟨_,_,_,q⟩:=aH;exact False.elim q
section
variable{X:bT}{x:Str}{p pos:Pos}{e:Expr}{es:List Expr}{t:TA}{id T:String}{r:List V->ao->bA->Prop}
def atD(r:List V->ao->bA->Prop)(Q:bA)(vs:List V)(H:ao):Prop:=r vs H Q
def abJ(r:List V->ao->bA->Prop)(t:TA):TE:=fun σ H Q=>t σ H (atD r Q)
theorem hx(aV:q9 X (.builtin id) r)(b5:qw X x)(hm:X.av x=none)(a0:bootBuiltins x=some (.builtin id))(aX:PA X (e::es) t)(aR:x≠"__name__":=by decide) (m':(x == ("__debug__":Str))=false:=by decide)
  (he:starEach (e::es) X.env=(false,eval e X.env)::starEach es X.env:=by rfl) (g8:(backTo pos (starEach es X.env)).any (·.1)=false:=by rfl):PE X (.Call (.Name x p) (e::es) [] pos) (abJ r t):=by
 intro pins s σ H Q I h;refine wpAny_Call_Name_kw (Fg I b5 hm a0 ?_ aR m');exact PyProof.Rows.callWith_builtin1 (cL (aX pos pins s σ H _ I h) fun us s1 ⟨vs,H1,bp,cI,bU⟩=>aV pins s1 σ H1 vs us Q bp cI bU) he g8
theorem ra(aV:q9 X (.type T) r)(b5:qw X x)(hm:X.av x=none)(a0:bootBuiltins x=some (.type T))(aX:PA X (e::es) t)(aR:x≠"__name__":=by decide) (m':(x == ("__debug__":Str))=false:=by decide)
  (he:starEach (e::es) X.env=(false,eval e X.env)::starEach es X.env:=by rfl) (g8:(backTo pos (starEach es X.env)).any (·.1)=false:=by rfl):PE X (.Call (.Name x p) (e::es) [] pos) (abJ r t):=by
 intro pins s σ H Q I h;refine wpAny_Call_Name_kw (Fg I b5 hm a0 ?_ aR m');exact PyProof.Rows.callWith_type1 (cL (aX pos pins s σ H _ I h) fun us s1 ⟨vs,H1,bp,cI,bU⟩=>aV pins s1 σ H1 vs us Q bp cI bU) he g8
end
end L2
namespace HT
open PySem PyProof.Rows
def lexLt:List Int->List Int->Bool
 | [],[]=>false
 | [],_::_=>true
 |_::_,[]=>false
 |x::xs,y::bO=>if x=y then lexLt xs bO else decide (x<y)
theorem atE(x y:Int)(xs bO:List Int):lexLt (x::xs) (y::bO)=if x=y then lexLt xs bO else decide (x<y):=rfl
theorem atF:lexLt [] []=false:=rfl
theorem atG(y:Int)(bO:List Int):lexLt [] (y::bO)=true:=rfl
theorem atH(x:Int)(xs:List Int):lexLt (x::xs) []=false:=rfl
theorem atI(A:Around)(s:aY)(a:Int)(t:Tok)(c:Int)(u:Tok):∃ e,SeqAt.EqAt A s (.int a t) (.int c u) e/\(e=true↔a=c) :=
 ⟨(a == c),SeqAt.EqAt.int_int a t c u,by simp⟩
theorem atJ(A:Around)(s:aY)(a:Int)(t:Tok)(c:Int)(u:Tok)(prog:fx)(w:e4)(E:aO->aY->Prop)(Q:aO->aY->Prop)(h:Q (.bool (decide (a<c))) s) :
  wpAny (model prog w) A (richCompare .Lt (.int a t) (.int c u)) Q E s :=
 (PyProof.Rows.lt_int h:wpAny (model prog w) A (compareOp .Lt (.int a t) (.int c u)) Q E s)
section
open PySem.SeqAt
open PySem.AutoSeq1 (wpAny_loadPart')
open PySem.MeetsSeq PySem.MeetsSeq2 PySem.MeetsSeq3
theorem atL(l b:au)(items u5:Array aO)(n n2:Nat)(dd abK:Option au)(fM abL:Array (Option aO))(ns ms:List Int)(hi:IntsAre items.toList ns)(bN:IntsAre u5.toList ms) :
  Meets (Builtin.«tuple.__lt__» ⟨[.ref l,.ref b],[]⟩)
   (fun _ R s=>s.heap.get? l=some { cls:=.type "tuple",dict:=dd,data:=.seq items n,slots:=fM }/\s.heap.get? b=some { cls:=.type "tuple",dict:=abK,data:=.seq u5 n2,slots:=abL } /\
    R (.ok (.ret (.bool (lexLt ns ms)))) s) :=
 .of_wp fun prog w A R s h=>by
  obtain⟨aL,g,d,tk,os⟩:=s;obtain⟨aF,ak,h⟩:=h;have f2:=AutoSeq1.sub_tuple_tuple;have gn:items.size=ns.length:=by rw[← hi.length];simp
  have eH:u5.size=ms.length:=by rw[← bN.length];simp
  wp_walk using wpAny_loadPart' aF,wpAny_loadPart' ak,wpAny_forIn_list _ (fun rest b s'=>b.1=none/\s'=⟨aL,g,d,tk,os⟩/\∃ (vs ws:dH) (oM Fy:List Int),rest=vs.zip ws /\
   IntsAre vs oM/\IntsAre ws Fy/\oM.length+u5.size=Fy.length+items.size/\R (.ok (.ret (.bool (lexLt oM Fy)))) ⟨aL,g,d,tk,os⟩) _
  case turn =>
   rintro⟨y,x⟩ rest b s' ⟨g9,rfl,vs,ws,oM,Fy,hz,abM,u6,hlen,mz⟩;cases abM with
   |nil=>rw[List.zip_nil_left]at hz;cases hz
   |cons a t atM =>
    cases u6 with
    |nil=>rw[List.zip_nil_right]at hz;cases hz
    |cons c u atN =>
     rw[List.zip_cons_cons]at hz;injection hz with atO atP
     injection atO with aP aq
     subst aP aq;rw[atE]at mz;simp only[eo]at hlen;obtain⟨e,he,aj9⟩:=atI A.in1 ⟨aL,g,d,tk,os⟩ a t c u;refine wpAny_bind (he prog w _ _ ?_);cases e with
     |true =>
      rw[bM (aj9.mp rfl)]at mz
      wp_walk
      exact⟨Z,Z,_,_,_,_,atP,atM,atN,by omega,mz⟩
     |false =>
      rw[bx (fun q=>absurd (aj9.mpr q) jr)]at mz;have atQ:=atJ A.in1 ⟨aL,g,d,tk,os⟩ a t c u prog w
      wp_walk using atQ
      exact⟨_,Z,by simpa using mz⟩
  case fin =>
   rintro⟨b1,iv⟩ s' ⟨g9,rfl,vs,ws,oM,Fy,hz,abM,u6,hlen,mz⟩;simp only at g9;subst g9;have a0:lexLt oM Fy=decide (items.size<u5.size):=by
    cases abM with
    |nil =>
     cases u6 with
     |nil =>
      simp only[rY]at hlen;rw[atF];exact(ou (by omega)).symm
     |cons c u hw =>
      simp only[rY,eo]at hlen;rw[atG];exact(fw (by omega)).symm
    |cons a t a0 =>
     cases u6 with
     |nil =>
      simp only[rY,eo]at hlen;rw[atH];exact(ou (by omega)).symm
     |cons c u hw =>
      rw[List.zip_cons_cons]at hz;cases hz
   rw[a0]at mz
   wp_walk
   exact⟨_,Z,by simpa [Builtin.Tuple.tupleCompareSizes]using mz⟩
  case h =>
   exact⟨Z,Z,items.toList,u5.toList,ns,ms,Z,hi,bN,by omega,h⟩
end
section
variable{prog:fx}{w:e4}{A:Around}{E:aO->aY->Prop}{s:aY}
theorem atR{l b:au}{items u5:Array aO}{ns ms:List Int}{Q:aO->aY->Prop}(aF:IsTup s.heap l items)(ak:IsTup s.heap b u5)(hi:IntsAre items.toList ns)(bN:IntsAre u5.toList ms)
  (cF:A.units<cLine) (h:Q (.bool (lexLt ns ms)) s):wpAny (model prog w) A (compareOp .Lt (.ref l) (.ref b)) Q E s:=by
 obtain⟨⟨cls,dd,data,fM⟩,bB,aV,n,hd⟩:=id aF;obtain⟨⟨aHa,abK,data2,abL⟩,abN,Vz,n2,hd2⟩:=id ak;simp only at aV hd Vz hd2;subst aV hd Vz hd2;exact richCompare_meets_room (op:=.Lt) ⟨_,bB,rfl⟩ ⟨_,abN,rfl⟩ PySem.F.slot_tuple_lt PySem.F.entry_tuple_lt (PySem.F.args_tuple_lt_2 _ _) (atL l b items u5 n n2 dd abK fM abL ns ms hi bN)
  ⟨bB,abN,show Value.bool (lexLt ns ms)≠Value.notImplemented/\Q (.bool (lexLt ns ms)) s from⟨(fun x=>nomatch x),h⟩⟩ cF
def oN(n d:Nat):Option Int->Nat
 |none=>d
 |some v=>if v<0 then(v+(n:Int)).toNat else min v.toNat n
theorem VB(n d k:Nat):oN n d (some (k:Int))=min k n:=by
 show(if(k:Int)<0 then((k:Int)+(n:Int)).toNat else min (k:Int).toNat n)=min k n;rw[bx (by omega),I9]
end
end HT
namespace L2
open PySem PySem.Spec PyProof.Rows
abbrev TO:=St->ao->(Option Int->ao->Prop)->Prop
def PO(X:bT)(e:Option Expr)(t:TO):Prop :=
 ∀ (pins:List (au×Obj)) (s:aY) (σ:St) (H:ao) (Q:Option Int->ao->Prop),Inv X pins σ H s->t σ H Q ->
  wpAny (model X.prog X.w) X.A (evalPart e X.env) (fun u s'=>∃ o H',Inv X pins σ H' s'/\IsPart u o/\Q o H') X.xe s
inductive atU(Q:Option Int->ao->Prop)(x:V)(H:ao):Prop
 |mk (i:Int) (e:x=.int i) (q:Q (some i) H)
def abO(t:TE):TO:=fun σ H Q=>t σ H (atU Q)
theorem intsAre_of{ns:List Int}:∀ {us:dH},Vals (ns.map V.int) us->IntsAre us ns:=by
 induction ns with
 |nil=>intro us r;rw[v7]at r;cases r;exact .nil
 |cons n ns bV =>
  intro us r;rw[fU]at r;cases r with
  |cons cI dp =>
   obtain⟨t,e⟩:=cI;subst e;exact .cons n t (bV dp)
section
variable{X:bT}{e:Expr}{te:TE}{lo hi:Option Expr}{tl th:TO}{pos nT:Pos}
theorem yx(h:PE X e te):PO X (some e) (abO te):=by
 intro pins s σ H Q I hw;rw[evalPart_some];refine cL (h pins s σ H _ I hw) fun u s1 aU=>?_;obtain⟨x,H1,bp,cI,bU⟩:=aU;obtain⟨i,rfl,q⟩:=bU;obtain⟨t,rfl⟩:=cI;exact⟨some i,H1,bp,.int i t,q⟩
def aj_(X:bT)(r:V->Option Int->Option Int->ao->bA->Prop):Prop :=
 ∀ (pins:List (au×Obj)) (s:aY) (σ:St) (H:ao) (x:V) (v yC fP:aO) (lo hi:Option Int) (fM:au) (Q:bA),Inv X pins σ H s->RelV x v->s.heap.IsSliceOf fM yC fP .none->IsPart yC lo->IsPart fP hi->r x lo hi H Q ->
  ∃ T id,typeLookup (.type T) "__getitem__"=pure (some (.builtin id))/\s.TypeIs v T/\wpAny (model X.prog X.w) X.A (getItem v (.ref fM)) (EP X pins σ Q) X.xe s
def aj'(r:V->Option Int->Option Int->ao->bA->Prop)(te:TE)(tl th:TO):TE:=fun σ H Q=>te σ H fun x H1=>tl σ H1 fun l aB=>th σ aB fun u aJ=>r x l u aJ Q
theorem VD{r:V->Option Int->Option Int->ao->bA->Prop}(aA:aj_ X r)(he:PE X e te)(aF:PO X lo tl)(cF:PO X hi th):PE X (.Subscript e (.Slice lo hi none nT) pos) (aj' r te tl th):=by
 intro pins s σ H Q I h;refine Subscript_ (cL (he pins s σ H _ I h) fun v s1 aU=>?_);obtain⟨x,H1,bp,cI,bU⟩:=aU;refine wpAny_Slice (cL (aF pins s1 σ H1 _ bp bU) fun yC s2 ⟨l,aB,dK,pl,cB⟩=>cL (cF pins s2 σ aB _ dK cB) fun fP s3 aU=>?_);obtain⟨u,aJ,eV,pu,dZ⟩:=aU;rw[evalPart_none];refine wpAny_pure ?_;have mb:Inv X pins σ aJ { s3 with heap:=s3.heap.push { cls:=.type "slice",data:=.fields #[yC,fP,.none] } }:=eV.kept (t':=s3.toks) fun b cY q=>iC _ q;obtain⟨T,id,cx,b_,b5⟩:=aA pins { s3 with heap:=s3.heap.push { cls:=.type "slice",data:=.fields #[yC,fP,.none] } } σ aJ x v yC fP l u s3.heap.objs.size Q mb cI (Heap.IsSliceOf.new ..) pl pu dZ;show wpAny (model X.prog X.w) X.A (subscriptTail e (.Slice lo hi none nT) v (.ref s3.heap.objs.size)) (EP X pins σ Q) X.xe { s3 with heap:=s3.heap.push { cls:=.type "slice",data:=.fields #[yC,fP,.none] } };exact tail_any (ops:=[.ref s3.heap.objs.size,v]) b_ cx b5 (by with_unfolding_all rfl)
def tu(xs:List V)(lo hi:Option Int):List V:=(xs.drop (HT.oN xs.length 0 lo)).take (HT.oN xs.length xs.length hi-HT.oN xs.length 0 lo)
theorem atV(xs:List V)(lo hi:Option Int):(tu xs lo hi).length<=xs.length:=by
 unfold tu;rw[g4,od];omega
def atX(K:cp):cP:=fun x y H Q=>∃ a b ns ms,x=.ref a/\y=.ref b/\fO K H a (ns.map V.int)/\fO K H b (ms.map V.int)/\Q (.bl (HT.lexLt ns ms)) H
theorem atY(cF:X.A.units<cLine):h6 X (compareOp .Lt) (atX X.K):=by
 intro pins s σ H x y v u Q I cc b4 h;obtain⟨a,b,ns,ms,rfl,rfl,aX,ak,q⟩:=h;cases cc;cases b4;obtain⟨its,cI,u9,_⟩:=I.tuple aX;obtain⟨rh,dp,nT,_⟩:=I.tuple ak;have i1:IntsAre its.toArray.toList ns:=intsAre_of cI;have i2:IntsAre rh.toArray.toList ms:=intsAre_of dp;exact HT.atR u9 nT i1 i2 cF ⟨.bl (HT.lexLt ns ms),H,I,rfl,q⟩
end
noncomputable def wO (n:Nat) (i:Int):Option Nat:=if 0<=i then(if i<n then some i.toNat else none)else if -(n:Int)<=i then some (i+n).toNat else none
def wQ{α:Type}(xs:List α)(i:Int):Option α:=(wO xs.length i).bind fun j=>xs[j]?
theorem akb{n:Nat}{i:Int}{j:Nat}(h:wO n i=some j):seqIndex? i n=some j/\j<n/\-(n:Int)<=i/\i<n:=by
 unfold wO at h;by_cases h0:0<=i
 ·rw[bM h0]at h;by_cases h1:i<n
  ·rw[bM h1]at h;have e:i.toNat=j:=Option.some.inj h;exact⟨by rw[seqIndex_of h0 h1,e],by omega,by omega,h1⟩
  ·rw[bx h1]at h;cases h
 ·rw[bx h0]at h;by_cases h1:-(n:Int)<=i
  ·rw[bM h1]at h;have e:(i+n).toNat=j:=Option.some.inj h;exact⟨by rw[seqIndex_neg (by omega) h1,e],by omega,h1,by omega⟩
  ·rw[bx h1]at h;cases h
theorem abP{α:Type}{xs:List α}{i:Int}{v:α}(h:wQ xs i=some v):∃ j,seqIndex? i xs.length=some j/\xs[j]?=some v/\j<xs.length/\-(xs.length:Int)<=i/\i<xs.length:=by
 unfold wQ at h;cases e:wO xs.length i with
 |none=>rw[e]at h;cases h
 |some j =>
  rw[e]at h;obtain⟨h1,aC,bI,dz⟩:=akb e;exact⟨j,h1,h,aC,bI,dz⟩
theorem gO{α:Type}{xs:List α}{j:Nat}{v:α}(h:xs[j]?=some v):wQ xs (j:Int)=some v:=by
 have bN:j<xs.length:=(eF.mp h).1;have e:wO xs.length (j:Int)=some j:=by
  unfold wO;rw[bM (by omega),bM (by omega)];simp
 unfold wQ;rw[e];exact h
def atZ(b:Expr):Prop:=∀ o i,subscripted b false o i=operate [o,i] (getItem o i)
def JZ(X:bT)(r:cP):Prop :=
 ∀ (value slice:Expr) (pins:List (au×Obj)) (s:aY) (σ:St) (H:ao) (x y:V) (v u:aO) (Q:bA),Inv X pins σ H s->RelV x v->RelV y u->r x y H Q ->
  subscripted slice false v u=operate [v,u] (getItem v u)->wpAny (model X.prog X.w) X.A (subscriptTail value slice v u) (EP X pins σ Q) X.xe s
def abQ(X:bT)(id:String)(r:V->List V->ao->bA->Prop):Prop :=
 ∀ (pins:List (au×Obj)) (s:aY) (σ:St) (H:ao) (x:V) (xs:List V) (v:aO) (us:dH) (Q:bA),Inv X pins σ H s->RelV x v->Vals xs us->r x xs H Q ->
  wpAny (model X.prog X.w) X.A (call (.builtin id) (v::us)) (EP X pins σ Q) X.xe s
section
variable{X:bT}{a b:Expr}{cO tb:TE}{pos:Pos}
theorem eO{r:cP}(aA:JZ X r)(aX:PE X a cO)(ak:PE X b tb)(aH:atZ b):PE X (.Subscript a b pos) (wN r cO tb):=by
 intro pins s σ H Q I h;exact Subscript_ (abu aX ak I h fun v u s2 x y aB dK cc b4 q=>aA a b pins s2 σ aB x y v u Q dK cc b4 q (aH _ _))
inductive J0(K:cp)(x y:V)(H:ao)(Q:bA):Prop
 |mk (p:au) (xs:List V) (i:Int) (v:V) (ex:x=.ref p) (gk:y=.int i) (h:aT K H p xs) (l:wQ xs i=some v) (q:Q v H)
inductive J1(K:cp)(x y:V)(H:ao)(Q:bA):Prop
 |mk (p:au) (xs:List V) (i:Int) (v:V) (ex:x=.ref p) (gk:y=.int i) (h:fO K H p xs) (l:wQ xs i=some v) (q:Q v H)
theorem gA:JZ X (J0 X.K):=by
 intro value slice pins s σ H x y v u Q I cc b4 h aH;obtain⟨p,xs,i,z,rfl,rfl,a6,he,q⟩:=h;cases cc;obtain⟨t,rfl⟩:=b4;obtain⟨its,r,pl,hz⟩:=I.list a6;obtain⟨j,h1,aC,bI,dz,js⟩:=abP he;obtain⟨w,Bu,nU⟩:=r.get aC;have aF:=r.length;have aR:=Bp;have fin:EP X pins σ Q w s:=⟨z,H,I,nU,q⟩;by_cases h0:0<=i
 ·have bN:i.toNat=j:=by
   rw[seqIndex_of h0 js]at h1;exact Option.some.inj h1
  exact item_listR pl.isList h0 (by omega) (by rw[bN];simpa using Bu) fin aH
 ·have bN:(i+(its.toArray.size:Int)).toNat=j:=by
   rw[seqIndex_neg (by omega) dz]at h1;rw[iD,← aF];exact Option.some.inj h1
  exact subscriptTail_builtinR (x:=w) pl.isList.typeIs slot_list_getitem.lookup
   (wpAny_getItem_list_neg (Q:=fun r s'=>r=w/\EP X pins σ Q r s') pl.isList (by omega) (by rw[iD]<;>omega) (by omega) (by rw[bN];simpa using Bu) ⟨rfl,fin⟩) aH
theorem Bv:JZ X (J1 X.K):=by
 intro value slice pins s σ H x y v u Q I cc b4 h aH;obtain⟨p,xs,i,z,rfl,rfl,a6,he,q⟩:=h;cases cc;obtain⟨t,rfl⟩:=b4;obtain⟨its,r,pl,hz⟩:=I.tuple a6;obtain⟨j,h1,aC,bI,dz,js⟩:=abP he;obtain⟨w,Bu,nU⟩:=r.get aC;have aF:=r.length;have aR:=Bp;have fin:EP X pins σ Q w s:=⟨z,H,I,nU,q⟩;exact subscriptTail_builtinR (x:=w) pl.typeIs slot_tuple_getitem.lookup
  (getItem_tuple (j:=j) (Q:=fun r s'=>r=w/\EP X pins σ Q r s') pl (by omega) (by omega) (by rw[iD,← aF];exact h1) (by simpa using Bu) ⟨rfl,fin⟩) aH
theorem at3(its:dH)(n j:Nat)(u:aO):Obj.mapSeq (·.setIfInBounds j u) { cls:=.type "list",data:=.seq its.toArray n }={ cls:=.type "list",data:=.seq (its.set j u).toArray n }:=by
 simp[Obj.mapSeq]
theorem Inv.lst{pins:List (au×Obj)}{σ:St}{H:ao}{s:aY}{p:au}{xs:List V}(I:Inv X pins σ H s)(h:H p=some (.lst xs)) :
  ∃ (its:dH) (n:Nat),Vals xs its/\s.heap.get? p=some { cls:=.type "list",data:=.seq its.toArray n }/\xs.length<=sizeLine:=by
 obtain⟨z,its,n,r,e⟩:=I.bL p _ h;exact⟨its,n,r,e,z⟩
theorem Inv.at4{pins:List (au×Obj)}{σ:St}{H:ao}{s:aY}{p:au}{xs bO:List V}{its its':dH}{n n':Nat}{f:Obj->Obj}(I:Inv X pins σ H s)(h:H p=some (.lst xs))
  (bB:s.heap.get? p=some { cls:=.type "list",data:=.seq its.toArray n }) (hf:f { cls:=.type "list",data:=.seq its.toArray n }={ cls:=.type "list",data:=.seq its'.toArray n' }) (r:Vals bO its') (hz:bO.length<=sizeLine) (t:Nat) :
  Inv X pins σ (upd H p (.lst bO)) { s with heap:=s.heap.update p f,toks:=t }:=by
 have e:(s.heap.update p f).get? p=some { cls:=.type "list",data:=.seq its'.toArray n' }:=by
  rw[Heap.get?_update_self f bB (by rw[hf]<;>rfl),hf]
 refine I.write (x:=p) (e:=p) (by rw[h];trivial) (.inl rfl) (fun b u ak q=>(Ak _ _ (Ne.symm ak)).trans q) ⟨_,e⟩ ?_;exact⟨hz,its',n',r,e⟩
inductive at5(o i v:V)(H:ao)(Q:ao->Prop):Prop
 |mk (p:au) (xs:List V) (k:Int) (j:Nat) (aHb:o=.ref p) (u_:i=.int k) (h:H p=some (.lst xs)) (l:wO xs.length k=some j) (q:Q (upd H p (.lst (xs.set j v))))
theorem set_list:abk X at5:=by
 intro pins s σ H o i v f5 hR u Q I at6 VF e0 h;obtain⟨p,xs,k,j,rfl,rfl,aL,bN,q⟩:=h;cases at6;obtain⟨t,rfl⟩:=VF;obtain⟨its,n,r,bB,hz⟩:=I.lst aL;obtain⟨h1,aC,bI,dz⟩:=akb bN;have aF:=r.length;have aR:=Bp;have iu:Inv X pins σ (upd H p (.lst (xs.set j v))) { s with heap:=s.heap.update p (Obj.mapSeq (·.setIfInBounds j u)) } :=
  I.at4 aL bB (at3 its n j u) (r.set e0 j) (by rw[List.length_set];exact hz) s.toks
 by_cases h0:0<=k
 ·have aN:k.toNat=j:=by
   rw[seqIndex_of h0 dz]at h1;exact Option.some.inj h1
  exact PySem.W.ki_setAt bB h0 (by omega) (by rw[iD,← aF];exact dz) (by rw[aN];exact⟨_,iu,q⟩)
 ·have aN:(k+(its.toArray.size:Int)).toNat=j:=by
   rw[seqIndex_neg (by omega) bI]at h1;rw[iD,← aF];exact Option.some.inj h1
  exact PySem.W.ki_setBack bB (by omega) (by rw[iD,← aF];exact bI) (by omega) (by rw[aN];exact⟨_,iu,q⟩)
theorem at7(lo hi:Option Int)(n:Nat):(sliceBounds lo hi none n).1=((HT.oN n 0 lo:Nat):Int)/\(sliceBounds lo hi none n).2.1=((HT.oN n n hi:Nat):Int)/\(sliceBounds lo hi none n).2.2=1:=by
 refine⟨?_,?_,Z⟩
 ·cases lo with
  |none=>simp[sliceBounds,HT.oN]
  |some i =>
   simp only[sliceBounds,HT.oN,Option.getD_none,show(1:Int) > 0 by decide,if_true];by_cases h:i<0
   ·simp only[h,if_true]<;>omega
   ·simp only[h,if_false]<;>omega
 ·cases hi with
  |none=>simp[sliceBounds,HT.oN]
  |some i =>
   simp only[sliceBounds,HT.oN,Option.getD_none,show(1:Int) > 0 by decide,if_true];by_cases h:i<0
   ·simp only[h,if_true]<;>omega
   ·simp only[h,if_false]<;>omega
theorem at8(its:dH)(lo hi:Option Int):slicePick its.toArray lo hi none=((its.drop (HT.oN its.length 0 lo)).take (HT.oN its.length its.length hi-HT.oN its.length 0 lo)).toArray:=by
 obtain⟨h1,aC,bI⟩:=at7 lo hi its.toArray.size;unfold slicePick;rw[h1,aC,bI];simp only[sliceRange_one,pick_run,iD]<;>rfl
def akc(K:cp):V->Option Int->Option Int->ao->bA->Prop:=fun x lo hi H Q=>∃ a xs,x=.ref a/\aT K H a xs/\∀ p,H p=none->Q (.ref p) (upd H p (.lst (tu xs lo hi)))
theorem VG:aj_ X (akc X.K):=by
 intro pins s σ H x v yC fP lo hi fM Q I cc aH pl pu h;obtain⟨a,xs,rfl,aq,q⟩:=h;cases cc;obtain⟨its,r,b_,hz⟩:=I.list aq;have hlen:=r.length;refine⟨"list",_,slot_list_getitem.lookup,b_.isList.typeIs,?_⟩;refine wpAny_getItem_list_slice b_.isList aH pl pu .none (by simp) ?_ (by rw[iD]<;>omega);rw[at8,← hlen];refine⟨.ref s.heap.objs.size,_,I.laid (t':=s.toks) (o:=.lst (tu xs lo hi)) (fun b cY q=>iC _ q) (cH _) ?_,Z,q _ (I.bL.fresh (cH _))⟩;exact⟨jg (atV xs lo hi) hz,_,0,(r.drop (HT.oN xs.length 0 lo)).take (HT.oN xs.length xs.length hi-HT.oN xs.length 0 lo),lV _ rfl⟩
def va:V->Bool
 | .non=>true
 | .bl _=>true
 | .int _=>true
 | .str _=>true
 |_=>false
noncomputable def vb:V->V->Bool
 | .non,.non=>true
 | .bl a,.bl b=>a == b
 | .bl a,.int b=>(if a then 1 else 0) == b
 | .int a,.bl b=>a == (if b then 1 else 0)
 | .int a,.int b=>a == b
 | .str a,.str b=>a == b
 |_,_=>false
theorem at9{A:Around}{s:aY}{y x:V}{u v:aO}(b4:RelV y u)(cc:RelV x v)(aua:va y=true)(vd:va x=true):SeqAt.EqAt A s u v (vb y x):=by
 cases y with
 |non =>
  cases b4;cases x with
  |non=>cases cc;exact SeqAt.EqAt.same _
  |bl b=>cases cc;exact SeqAt.EqAt.none_bool b
  |int b=>obtain⟨t,rfl⟩:=cc;exact SeqAt.EqAt.none_int b t
  |str b=>obtain⟨t,rfl⟩:=cc;exact SeqAt.EqAt.none_str b t
  |_=>exact absurd (show false=true from vd) jr
 |bl a =>
  cases b4;cases x with
  |non=>cases cc;exact SeqAt.EqAt.bool_none a
  |bl b=>cases cc;exact SeqAt.EqAt.bool_bool a b
  |int b=>obtain⟨t,rfl⟩:=cc;exact SeqAt.EqAt.bool_int a b t
  |str b=>obtain⟨t,rfl⟩:=cc;exact SeqAt.EqAt.bool_str a b t
  |_=>exact absurd (show false=true from vd) jr
 |int a =>
  obtain⟨t',rfl⟩:=b4;cases x with
  |non=>cases cc;exact SeqAt.EqAt.int_none a t'
  |bl b=>cases cc;exact SeqAt.EqAt.int_bool a t' b
  |int b=>obtain⟨t,rfl⟩:=cc;exact SeqAt.EqAt.int_int a t' b t
  |str b=>obtain⟨t,rfl⟩:=cc;exact SeqAt.EqAt.int_str a t' b t
  |_=>exact absurd (show false=true from vd) jr
 |str a =>
  obtain⟨t',rfl⟩:=b4;cases x with
  |non=>cases cc;exact SeqAt.EqAt.str_none a t'
  |bl b=>cases cc;exact SeqAt.EqAt.str_bool a t' b
  |int b=>obtain⟨t,rfl⟩:=cc;exact SeqAt.EqAt.str_int a t' b t
  |str b=>obtain⟨t,rfl⟩:=cc;exact SeqAt.EqAt.str_str a t' b t
  |_=>exact absurd (show false=true from vd) jr
 |_=>exact absurd (show false=true from aua) jr
def wR(x:V)(u:aO):Bool:=match u with
 | .none=>vb .non x
 | .bool b=>vb (.bl b) x
 | .int i _=>vb (.int i) x
 | .str z _=>vb (.str z) x
 |_=>false
theorem akd{x y:V}{u:aO}(r:RelV y u)(f:va y=true):wR x u=vb y x:=by
 cases y with
 |non=>cases r;rfl
 |bl b=>cases r;rfl
 |int i=>obtain⟨t,rfl⟩:=r;rfl
 |str z=>obtain⟨t,rfl⟩:=r;rfl
 |_=>exact absurd (show false=true from f) jr
theorem abR{x:V}:∀ {xs:List V} {us:dH},Vals xs us->xs.all va=true->us.any (wR x)=xs.any fun y=>vb y x
 |_,_,.nil,_=>rfl
 |y::xs,u::us,.cons r t,f=>by
  rw[List.all_cons,jf]at f;rw[Al,Al,akd r f.1,abR t f.2]
theorem abS{A:Around}{s:aY}{x:V}{v:aO}(cc:RelV x v)(vd:va x=true):∀ {xs:List V} {us:dH},Vals xs us->xs.all va=true->∀ u∈us,SeqAt.EqAt A s u v (wR x u)
 |_,_,.nil,_=>fun u cF=>by cases cF
 |y::xs,u::us,.cons r t,f=>fun u' cF=>by
  rw[List.all_cons,jf]at f;rcases gR.mp cF with rfl|cF
  ·rw[akd r f.1];exact at9 r cc f.1 vd
  ·exact abS cc vd t f.2 u' cF
def J2(x:V)(xs:List V):Bool:=xs.any fun y=>vb y x
def aub(K:cp)(neg:Bool):cP:=fun x y H Q=>∃ p xs,y=.ref p/\(aT K H p xs\/fO K H p xs)/\va x=true/\xs.all va=true/\Q (.bl (if neg then !J2 x xs else J2 x xs)) H
theorem auc:h6 X (compareOp .NotIn) (aub X.K true):=by
 intro pins s σ H x y v u Q I cc b4 h;obtain⟨p,xs,rfl,a6,vd,fs,q⟩:=h;cases b4;rcases a6 with a6|a6
 ·obtain⟨its,r,pl,hz⟩:=I.list a6;refine SeqAt.notIn_listAt (wR x) pl.isList (fun w hw=>abS cc vd r fs w (by simpa using hw)) ⟨.bl _,H,I,rfl,?_⟩;rw[show its.toArray.any (wR x)=its.any (wR x) by simp,abR r fs];exact q
 ·obtain⟨its,r,pl,hz⟩:=I.tuple a6;refine SeqAt.notIn_tupleAt (wR x) pl (fun w hw=>abS cc vd r fs w (by simpa using hw)) ⟨.bl _,H,I,rfl,?_⟩;rw[show its.toArray.any (wR x)=its.any (wR x) by simp,abR r fs];exact q
theorem iH:q9 X (.builtin "len") (fun xs H Q=>∃ p bO,xs=[.ref p]/\(aT X.K H p bO\/fO X.K H p bO)/\Q (.int bO.length) H):=by
 intro pins s σ H xs us Q I r h;obtain⟨p,bO,rfl,a6,q⟩:=h;obtain⟨u,rfl,cc⟩:=vals1 r;cases cc;have aR:=Bp;rcases a6 with a6|a6
 ·obtain⟨its,r',pl,hz⟩:=I.list a6;have hlen:=r'.length;exact Calls.call_len_list pl.isList (by simp only[iD]<;>omega) ⟨.int bO.length,H,I.tok _,⟨s.toks+1,by rw[iD,hlen]⟩,q⟩
 ·obtain⟨its,r',pl,hz⟩:=I.tuple a6;have hlen:=r'.length;exact len_tuple pl (by simp only[iD]<;>omega) ⟨.int bO.length,H,I.tok _,⟨s.toks+1,by rw[iD,hlen]⟩,q⟩
theorem abT:q9 X (.type "list") (fun xs H Q=>∃ p bO,xs=[.ref p]/\(aT X.K H p bO\/fO X.K H p bO)/\∀ l,H l=none->Q (.ref l) (upd H l (.lst bO))):=by
 intro pins s σ H xs us Q I r h;obtain⟨p,bO,rfl,a6,q⟩:=h;obtain⟨u,rfl,cc⟩:=vals1 r;cases cc;have fin:∀ (its:dH),Vals bO its->bO.length<=sizeLine->∀ (h':Heap) (c':Nat),(∀ b hG,s.heap.get? b=some hG->h'.get? b=some hG) ->
   h'.get? s.heap.objs.size=some { cls:=.type "list",dict:=none,data:=.seq its.toArray c',slots:=#[] }->EP X pins σ Q (.ref s.heap.objs.size) { s with heap:=h' }:=fun its r' hz h' c' aG e =>
  ⟨.ref s.heap.objs.size,_,I.laid (t':=s.toks) aG (cH _) (show hP X.prog X.w _ h' _ (.lst bO) from⟨hz,its,c',r',e⟩),rfl,q _ (I.bL.fresh (cH _))⟩
 rcases a6 with a6|a6
 ·obtain⟨its,r',pl,hz⟩:=I.list a6;have hlen:=r'.length;obtain⟨o,bB,aV,n,hd⟩:=pl.isList;exact call_list_seq p (.inl rfl) bB aV hd (fun h' c' aG e=>fin its r' hz h' c' aG e) (by simp only[iD]<;>omega)
 ·obtain⟨its,r',pl,hz⟩:=I.tuple a6;have hlen:=r'.length;obtain⟨o,bB,aV,n,hd⟩:=pl;exact call_list_seq p (.inr rfl) bB aV hd (fun h' c' aG e=>fin its r' hz h' c' aG e) (by simp only[iD]<;>omega)
theorem ake:q9 X (.type "tuple") (fun xs H Q=>∃ p bO,xs=[.ref p]/\((aT X.K H p bO/\∀ l,H l=none->Q (.ref l) (upd H l (.tup bO)))\/(fO X.K H p bO/\Q (.ref p) H))):=by
 intro pins s σ H xs us Q I r h;obtain⟨p,bO,rfl,h⟩:=h;obtain⟨u,rfl,cc⟩:=vals1 r;cases cc;rcases h with⟨a6,q⟩|⟨a6,q⟩
 ·obtain⟨its,r',pl,hz⟩:=I.list a6;have hlen:=r'.length;refine call_tuple_list pl.isList (fun h' aG=>?_) (by simp only[iD]<;>omega);have bp:Inv X pins σ H { s with heap:=h' }:=I.kept (t':=s.toks) aG;have dK:Inv X pins σ (upd H h'.objs.size (.tup bO)) { s with heap:=h'.push { cls:=.type "tuple",data:=.seq its.toArray } } :=
   bp.laid (t':=s.toks) (fun b o e=>iC _ e) (cH _) (show hP X.prog X.w _ _ _ (.tup bO) from⟨hz,its,r',IsTup.new _ _⟩)
  exact⟨.ref h'.objs.size,_,dK,Z,q _ (bp.bL.fresh (cH _))⟩
 ·obtain⟨its,r',pl,hz⟩:=I.tuple a6;exact call_tuple_same pl ⟨.ref p,H,I,rfl,q⟩
def abU(K:cp)(T:String)(x:V)(H:ao):Prop:=match x with
 | .str _=>T="str"
 | .int _=>T="int"
 | .ref p=>(T="list"/\∃ xs,aT K H p xs)\/(T="tuple"/\∃ o,K.lookup p=some o/\o.cls=.type "tuple"/\o.dict=none) \/
   (T="dict"/\((∃ kvs,H p=some (.dX kvs))\/∃ kvs,H p=some (.gF kvs)))\/(T="set"/\∃ S n,H p=some (.set S n))
 |_=>False
theorem akf{pins:List (au×Obj)}{σ:St}{H:ao}{s:aY}{T:String}{x:V}{v:aO}(I:Inv X pins σ H s)(r:RelV x v)(ty:abU X.K T x H) :
  s.TypeIs v T/\∀ a,v=.ref a->∃ cY,s.heap.get? a=some cY/\cY.dict=none:=by
 cases x with
 |str z =>
  obtain⟨t,rfl⟩:=r;cases (show T="str" from ty);exact⟨typeIs_str s z t,fun _ e=>nomatch e⟩
 |int i =>
  obtain⟨t,rfl⟩:=r;cases (show T="int" from ty);exact⟨typeIs_int s i t,fun _ e=>nomatch e⟩
 |ref p =>
  cases r;rcases ty with⟨rfl,xs,a6⟩|⟨rfl,o,aN,aV,hd⟩|⟨rfl,aN⟩|⟨rfl,S,n,aN⟩
  ·obtain⟨its,_,pl,_⟩:=I.list a6;refine⟨pl.isList.typeIs,fun a e=>?_⟩;cases e;obtain⟨o,n,e,c,hd,_⟩:=pl;exact⟨o,e,hd⟩
  ·refine⟨⟨o,I.jK p o aN,aV⟩,fun a e=>?_⟩;cases e;exact⟨o,I.jK _ o aN,hd⟩
  ·have z:∃ o,s.heap.get? p=some o/\o.ExactDict:=by
    rcases aN with⟨kvs,aN⟩|⟨kvs,aN⟩
    ·obtain⟨_,_,_,_,o,_,_,e,ex,_⟩:=I.bL p _ aN;exact⟨o,e,ex⟩
    ·obtain⟨_,_,_,_,o,_,_,e,ex,_⟩:=I.bL p _ aN;exact⟨o,e,ex⟩
   obtain⟨o,e,ex⟩:=z;refine⟨⟨o,e,ex.1⟩,fun a a9=>?_⟩;cases a9;exact⟨o,e,ex.2.1⟩
  ·obtain⟨o,_,_,_,e,ex,_⟩:=I.bL p _ aN;refine⟨⟨o,e,ex.1⟩,fun a a9=>?_⟩;cases a9;exact⟨o,e,ex.2.1⟩
 |_=>exact False.elim ty
def aud(K:cp)(T:String)(r:V->List V->ao->bA->Prop)(to:TE):TE:=fun σ H Q=>to σ H fun x H1=>abU K T x H1/\r x [] H1 Q
def aue(r:V->List V->ao->bA->Prop)(Q:bA)(x:V)(xs:List V)(H:ao):Prop:=r x xs H Q
def auf(K:cp)(T:String)(r:V->List V->ao->bA->Prop)(t:TA)(σ:St)(Q:bA)(x:V)(H:ao):Prop:=abU K T x H/\t σ H (aue r Q x)
def yD(K:cp)(T:String)(r:V->List V->ao->bA->Prop)(to:TE)(t:TA):TE:=fun σ H Q=>to σ H (auf K T r t σ Q)
variable{o e:Expr}{es:List Expr}{to:TE}{t:TA}{name:Str}{apos h8:Pos}{T id:String}{r:V->List V->ao->bA->Prop}
theorem auh(nc:PlainAttrs T)(slot:Slot T name id)(hty:typeOf (.builtin id)=pure (.type "method_descriptor")) (hm:abQ X id r) (bB:PE X o to)
  (abV:attributeBase o name X.env (eval o X.env)=eval o X.env:=by rfl) (hline:(apos.endLine == h8.line)=true:=by rfl):PE X (.Call (.Attribute o name apos) [] [] h8) (aud X.K T r to):=by
 intro pins s σ H Q I h;refine wpAny_Call_method0_late abV hline (cL (bB pins s σ H _ I h) fun v s1 aU=>?_);obtain⟨x,H1,bp,cI,ty,bU⟩:=aU;obtain⟨h1,aC⟩:=akf bp cI ty;exact⟨T,id,nc,slot,hty,h1,aC,Calls.callWith_builtin rfl (PySem.evalArgs_none (hm pins s1 σ H1 x [] v [] Q bp cI .nil bU))⟩
theorem mA(nc:PlainAttrs T)(slot:Slot T name id)(hty:typeOf (.builtin id)=pure (.type "method_descriptor")) (hm:abQ X id r) (bB:PE X o to) (aX:PA X (e::es) t)
  (abV:attributeBase o name X.env (eval o X.env)=eval o X.env:=by rfl)
  (aui:((backTo h8 (starEach (e::es) X.env)).all (fun x=>!x.1) && (backToKw h8 (keywordEach [] X.env)).all (fun x=>x.1.isSome)
   && decide ((e::es).length+([]:List Keyword).length+(if([]:List Keyword).isEmpty then 0 else 1)<30))=true:=by rfl)
  (hline:(apos.endLine == h8.line)=true:=by rfl) (aH:starEach (e::es) X.env=(false,eval e X.env)::starEach es X.env:=by rfl) (auj:(backTo h8 (starEach es X.env)).any (·.1)=false:=by rfl) :
  PE X (.Call (.Attribute o name apos) (e::es) [] h8) (yD X.K T r to t):=by
 intro pins s σ H Q I h;refine wpAny_Call_method_late abV aui hline rfl (cL (bB pins s σ H _ I h) fun v s1 aU=>?_);obtain⟨x,H1,bp,cI,ty,bU⟩:=aU;obtain⟨h1,aC⟩:=akf bp cI ty;refine⟨T,id,nc,slot,hty,h1,aC,?_⟩;have mC:=aX h8 pins s1 σ H1 _ bp bU;rw[aH]at mC ⊢;refine Calls.callWith_builtin (by show(false || (backTo h8 (starEach es X.env)).any (·.1))=false;rw[auj]<;>rfl) (Calls.evalArgs_plain ?_);exact cL mC fun us s2 ⟨vs,aB,dK,dp,cB⟩=>hm pins s2 σ aB x vs v us Q dK cI dp cB
end
def akg(X:bT)(id:String)(r:V->List V->ao->bA->Prop):Prop :=
 ∀ (pins:List (au×Obj)) (s:aY) (σ:St) (H:ao) (x:V) (xs:List V) (v:aO) (us:dH) (Q:bA),Inv X pins σ H s->RelV x v->Vals xs us->r x xs H Q ->
  wpAny (model X.prog X.w) X.A (call (.builtin id) (v::us)) (EP X pins σ Q) X.xe s
theorem Vals.one:∀ {x:V} {us:dH},Vals [x] us->∃ u,us=[u]/\RelV x u
 |_,_,.cons r .nil=>⟨_,rfl,r⟩
section
variable{X:bT}{pins:List (au×Obj)}{σ:St}{H:ao}{s:aY}{l b:au}{xs bO zs:List V}
theorem Inv.akh{its its':dH}{n:Nat}{f:Array aO->Array aO}{t':Nat}(I:Inv X pins σ H s)(tv:H l=some (.lst xs))
  (e:s.heap.get? l=some { cls:=.type "list",data:=.seq its.toArray n }) (hf:f its.toArray=its'.toArray) (a0:Vals bO its') (hz:bO.length<=sizeLine) :
  Inv X pins σ (upd H l (.lst bO)) { s with heap:=s.heap.update l (Obj.mapSeq f),toks:=t' }:=by
 have q:=PySem.IsL.update e f;rw[hf]at q;refine I.write (x:=l) (e:=l) (by rw[tv];exact trivial) (.inl rfl) (fun b' u ak cF=>(Ak s.heap (Obj.mapSeq f) (Ne.symm ak)).trans cF) ⟨_,q⟩ ?_;exact⟨hz,its',_,a0,q⟩
theorem Inv.auk{its:dH}{t':Nat}(I:Inv X pins σ H s)(a0:Vals bO its)(hz:bO.length<=sizeLine) :
  Inv X pins σ (upd H s.heap.objs.size (.lst bO)) { s with heap:=s.heap.push { cls:=.type "list",data:=.seq its.toArray },toks:=t' } :=
 I.laid (fun _ _ q=>iC _ q) (cH _) ⟨hz,its,0,a0,lV _ rfl⟩
theorem Inv.fresh(I:Inv X pins σ H s):H s.heap.objs.size=none:=I.bL.fresh (cH _)
theorem Inv.J3(I:Inv X pins σ H s)(tv:H l=some (.lst xs)):xs.length<=sizeLine/\∃ (its:dH) (n:Nat),Vals xs its/\xs.length=its.length/\s.heap.get? l=some { cls:=.type "list",data:=.seq its.toArray n }:=by
 obtain⟨z,its,n,r,e⟩:=I.bL l _ tv;exact⟨z,its,n,r,r.length,e⟩
theorem aul{n:Nat}(h:n<=sizeLine):Builtin.List.listTooLong n=false:=by
 unfold Builtin.List.listTooLong;exact ou (by omega)
end
section
variable{X:bT}
inductive aum(x:V)(vs:List V)(H:ao)(Q:bA):Prop
 |mk (l:au) (xs:List V) (y:V) (ex:x=.ref l) (ev:vs=[y]) (h:H l=some (.lst xs)) (z:xs.length<sizeLine) (q:Q .non (upd H l (.lst (xs++[y]))))
theorem pQ:akg X "list.append" aum:=by
 intro pins s σ H x vs v us Q I cc e0 h;obtain⟨l,xs,y,rfl,rfl,tv,hz,q⟩:=h;cases cc;obtain⟨u,rfl,ho⟩:=e0.one;obtain⟨z,its,n,r,aF,e⟩:=I.J3 tv;refine call_meets F.slot_list_append ⟨_,e,rfl⟩ F.entry_list_append (F.args_list_append_2 _ _) (PySem.list_append l its.toArray n u (by rw[iD];omega)) ⟨e,?_⟩;refine⟨.non,_,I.akh (its':=its++[u]) tv e (by simp) (r.append (.cons ho .nil)) ?_,Z,q⟩;rw[gC,List.length_singleton];omega
def yE:V->List V->ao->bA->Prop:=fun x vs H Q=>∃ l b xs zs,x=.ref l/\vs=[.ref b]/\H l=some (.lst xs)/\H b=some (.lst zs)/\xs.length+zs.length<=sizeLine/\Q .non (upd H l (.lst (xs++zs)))
theorem VH:akg X "list.extend" yE:=by
 intro pins s σ H x vs v us Q I cc e0 h;obtain⟨l,b,xs,zs,rfl,rfl,tv,lK,hz,q⟩:=h;cases cc;obtain⟨u,rfl,ho⟩:=e0.one;cases ho;obtain⟨z,its,n,r,aF,e⟩:=I.J3 tv;obtain⟨eH,rh,n2,dp,oO,a9⟩:=I.J3 lK;have hsz:its.toArray.size+rh.toArray.size<=sizeLine:=by rw[iD,iD];omega
 have aun:¬ (!its.toArray.isEmpty && Builtin.List.listTooLong (its.toArray.size+rh.toArray.size))=true:=by
  rw[aul hsz,Bool.and_false];exact jr
 refine call_meets F.slot_list_extend ⟨_,e,rfl⟩ F.entry_list_extend (F.args_list_extend_2 _ _)
  (AutoSeq1.list_extend_list_list_0 l its.toArray n b rh.toArray n2 aun (by rw[iD];omega) (by omega)) ⟨e,a9,?_⟩
 refine⟨.non,_,I.akh (its':=its++rh) tv e (by simp) (r.append dp) ?_,Z,q⟩;rw[gC];omega
def auo:cP:=fun x y H Q=>∃ l b xs zs,x=.ref l/\y=.ref b/\H l=some (.lst xs)/\H b=some (.lst zs)/\xs.length+zs.length<=sizeLine/\∀ p,H p=none->Q (.ref p) (upd H p (.lst (xs++zs)))
theorem aki:h6 X (binaryOp .Add) auo:=by
 intro pins s σ H x y v u Q I cc b4 h;obtain⟨l,b,xs,zs,rfl,rfl,tv,lK,hz,q⟩:=h;cases cc;cases b4;obtain⟨z,its,n,r,aF,e⟩:=I.J3 tv;obtain⟨eH,rh,n2,dp,oO,a9⟩:=I.J3 lK;refine PySem.P.add_list e a9 ?_ (by rw[iD,iD];omega);have hb:its.toArray++rh.toArray=(its++rh).toArray:=by simp
 rw[hb];exact⟨.ref _,_,I.auk (t':=s.toks) (r.append dp) (by rw[gC];omega),Z,q _ I.fresh⟩
end
theorem Vals.ints:∀ {ns:List Int} {us:dH},Vals (ns.map V.int) us->IntsAre us ns
 | [],us,h=>by
  rw[v7]at h;cases h;exact IntsAre.nil
 |n::ns,us,h=>by
  rw[fU]at h;cases h with
  |cons r t =>
   obtain⟨k,rfl⟩:=r;exact IntsAre.cons n k (Vals.ints t)
theorem akj:∀ {us:dH} {ns:List Int},IntsAre us ns->Vals (ns.map V.int) us
 |_,_,.nil=>by rw[v7];exact Paired.nil
 |_,_,.cons n t h=>by rw[fU];exact Paired.cons (show RelV (V.int n) (Value.int n t) from⟨t,rfl⟩) (akj h)
theorem Vals.aup{a:au}{us:dH}(r:Vals [V.ref a] us):us=[Value.ref a]:=by
 cases r with
 |cons r t =>
  cases t;cases r;rfl
section
variable{prog:fx}{w:e4}{A:Around}{E:aO->aY->Prop}{s:aY}{l:au}{its:dH}{ns:List Int}{Q:aO->aY->Prop}
theorem auq(hh:A.handled=none)(aF:s.heap.IsList l its.toArray)(hi:IntsAre its ns)(mY:0<ns.length)
  (h:∀ h' tk M t',(∀ b o,s.heap.get? b=some o->h'.get? b=some o)->M∈ns->(∀ a,a∈ns->a<=M)->Q (.int M t') { s with heap:=h',toks:=tk }):wpAny (model prog w) A (call (.builtin "max") [.ref l]) Q E s:=by
 obtain⟨xs,e⟩:=hi.allInts.items;have aR:numsOf (intItems xs).toList=ns:=by rw[← e];exact hi.numsOf
 rw[nums_intItems]at aR;subst aR;rw[e]at aF;have hsz:0<xs.size:=by simpa using mY
 refine PySem.max_intList hh aF hsz fun v h' tk a0 aN=>?_;obtain⟨t,rfl⟩:=intItems_at a0;obtain⟨h1,aC⟩:=argBest_gt (numAt xs) (xs.size-1);refine h h' tk _ t aN ?_ fun a aX=>?_
 ·rw[numAt_eq];exact PySem.getD_mem (by rw[ey,I7];omega)
 ·obtain⟨j,bN,rfl⟩:=mem_getD aX;rw[ey,I7]at bN;rw[← numAt_eq];exact aC j (by omega)
end
section
variable{X:bT}
def aur(K:cp):List V->ao->bA->Prop:=fun vs H Q=>∃ (a:au) (ns:List Int),vs=[V.ref a]/\aT K H a (ns.map V.int)/\0<ns.length/\∀ m,m∈ns->(∀ y,y∈ns->y<=m)->Q (.int m) H
theorem aus(aV:X.calm=true):q9 X (.builtin "max") (aur X.K):=by
 intro pins s σ H vs us Q I r h;obtain⟨a,ns,rfl,aH,mY,q⟩:=h;obtain⟨its,e0,aF,_⟩:=I.list aH;rw[Vals.aup r];exact auq (I.ok.hd aV) aF.isList e0.ints mY fun h' tk m t' aN h1 aC=>⟨.int _,H,I.kept aN,⟨_,rfl⟩,q m h1 aC⟩
end
abbrev akk(h:Heap)(c:au)(v:Option aO):Prop:=h.IsCell c v
def aut(scope sc:Scope):Scope :=
 { scope with names:=scope.names.map fun(n,k)=>if(k == .free && sc.kind == .function && sc.names.lookup n == some .cell)then(n,.cell)else(n,k) }
noncomputable def k4 (cells:List (Str×au)):List (Str×NameKind)->List (Str×au)->List (Str×au)
 | [],acc=>acc
 |(n,k)::r,acc=>if k == .free then k4 cells r ((n,(cells.lookup n).getD 0)::acc)else k4 cells r acc
theorem akl(env:Env)(f:Str×NameKind->List (Str×au)->Sem (ForInStep (List (Str×au))))
  (hf:∀ n k c,f (n,k) c=if k == .free then(do let a ← cellOf env n;pure (.yield ((n,a)::c)))else pure (.yield c)) :
  ∀ (names:List (Str×NameKind)) (acc:List (Str×au)),(∀ y∈names,y.2=.free->∃ c,env.cells.lookup y.1=some c)->forIn names acc f=pure (k4 env.cells names acc)
 | [],acc,_=>by rw[List.forIn_nil];rfl
 |(n,k)::r,acc,h=>by
  rw[List.forIn_cons,hf];have bV:=fun acc=>akl env f hf r acc fun y aP=>h y (h2 _ aP);unfold k4;by_cases aN:(k == NameKind.free)=true
  ·rw[bM aN,bM aN];obtain⟨c,aV⟩:=h (n,k) h_ (by simpa using aN);have e:cellOf env n=pure c:=by unfold cellOf;rw[aV]
   rw[e];have a9:(env.cells.lookup n).getD 0=c:=by rw[aV];rfl
   rw[a9];exact bV _
  ·rw[bx aN,bx aN];exact bV _
theorem auu{scope:Scope}{env:Env}(h:∀ y∈scope.names,y.2=.free->∃ c,env.cells.lookup y.1=some c):closureFor scope env=pure (k4 env.cells scope.names []):=by
 simp only[closureFor];rw[akl env _ (fun n k c=>rfl) scope.names [] h];rfl
theorem mem_lookup{α:Type}:∀ {l:List (Str×α)} {n:Str} {c:α},(n,c)∈l->∃ c',l.lookup n=some c'
 |(k,v)::r,n,c,h=>by
  rw[uH];cases ak:n == k with
  |true=>exact⟨_,Z⟩
  |false =>
   rcases gR.mp h with e|h
   ·cases e;simp at ak
   ·exact mem_lookup h
theorem VJ{cells:List (Str×au)}:∀ {names:List (Str×NameKind)} {acc:List (Str×au)} {n:Str} {c:au},(n,c)∈k4 cells names acc->(n,c)∈acc\/((n,.free)∈names/\c=(cells.lookup n).getD 0)
 | [],_,_,_,h=>.inl h
 |(m,k)::r,acc,n,c,h=>by
  unfold k4 at h;split at h
  ·rename_i aN;have aN:k=.free:=by simpa using aN
   rcases VJ h with h|⟨h1,aC⟩
   ·rcases gR.mp h with e|h
    ·cases e;exact .inr ⟨aN▸h_,rfl⟩
    ·exact .inl h
   ·exact .inr ⟨h2 _ h1,aC⟩
  ·rcases VJ h with h|⟨h1,aC⟩
   ·exact .inl h
   ·exact .inr ⟨h2 _ h1,aC⟩
theorem abW{cells:List (Str×au)}:∀ {names:List (Str×NameKind)} {acc:List (Str×au)} {p:Str×au},p∈acc->p∈k4 cells names acc
 | [],_,_,h=>h
 |(m,k)::r,acc,p,h=>by
  unfold k4;split
  ·exact abW (h2 _ h)
  ·exact abW h
theorem abX{cells:List (Str×au)}:∀ {names:List (Str×NameKind)} {acc:List (Str×au)} {n:Str},(n,.free)∈names->(n,(cells.lookup n).getD 0)∈k4 cells names acc
 |(m,k)::r,acc,n,h=>by
  unfold k4;rcases gR.mp h with e|h
  ·cases e;exact abW h_
  ·split
   ·exact abX h
   ·exact abX h
theorem J4:∀ {names:List (Str×NameKind)} {h:Heap} {acc:List (Str×au)} {x:Str} {c:au},(x,c)∈cellsFrom h.objs.size names acc ->
  (x,c)∈acc\/((x,.cell)∈names/\h.objs.size<=c/\akk (pushCells h names) c none)
 | [],_,_,_,_,h=>.inl h
 |(n,k)::r,h,acc,x,c,hm=>by
  unfold cellsFrom at hm;unfold pushCells;split at hm
  ·rename_i aN;rw[bM aN];have aN:k=.cell:=by simpa using aN
   rw[← q0 h { cls:=.type "cell",data:=.cell none }]at hm;rcases J4 hm with hm|⟨h1,aC,bI⟩
   ·rcases gR.mp hm with e|hm
    ·cases e;exact .inr ⟨aN▸h_,cH _,_,pushCells_keeps r _ _ _ (lV _ rfl),rfl⟩
    ·exact .inl hm
   ·rw[q0]at aC;exact .inr ⟨h2 _ h1,Nat.le_of_succ_le aC,bI⟩
  ·rename_i aN;rw[bx aN];rcases J4 hm with hm|⟨h1,aC,bI⟩
   ·exact .inl hm
   ·exact .inr ⟨h2 _ h1,aC,bI⟩
theorem VK:∀ {names:List (Str×NameKind)} {n:Nat} {acc:List (Str×au)} {p:Str×au},p∈acc->p∈cellsFrom n names acc
 | [],_,_,_,h=>h
 |(m,k)::r,n,acc,p,h=>by
  unfold cellsFrom;split
  ·exact VK (h2 _ h)
  ·exact VK h
theorem abY:∀ {names:List (Str×NameKind)} {n:Nat} {acc:List (Str×au)} {x:Str},(x,.cell)∈names->∃ c,(x,c)∈cellsFrom n names acc
 |(m,k)::r,n,acc,x,h=>by
  unfold cellsFrom;rcases gR.mp h with e|h
  ·cases e;exact⟨n,VK h_⟩
  ·split
   ·exact abY h
   ·exact abY h
theorem abZ:∀ {names:List (Str×NameKind)} {h:Heap} {acc:List (Str×au)} {x y:Str} {c:au},(∀ p∈acc,p.2<h.objs.size)->(∀ x y c,(x,c)∈acc->(y,c)∈acc->x=y) ->
  (x,c)∈cellsFrom h.objs.size names acc->(y,c)∈cellsFrom h.objs.size names acc->x=y
 | [],_,_,_,_,_,_,hi,h1,aC=>hi _ _ _ h1 aC
 |(n,k)::r,h,acc,x,y,c,aF,hi,h1,aC=>by
  unfold cellsFrom at h1 aC;split at h1
  ·rename_i aN;rw[bM aN]at aC;rw[← q0 h { cls:=.type "cell",data:=.cell none }]at h1 aC;refine abZ (h:=h.push _) (fun p aL=>?_) (fun x y c a b=>?_) h1 aC
   ·rw[q0];rcases gR.mp aL with rfl|aL
    ·exact vY _
    ·exact Nat.lt_succ_of_lt (aF p aL)
   ·rcases gR.mp a with e|a<;>rcases gR.mp b with e'|b
    ·cases e;cases e';rfl
    ·cases e;exact absurd (aF _ b) (uK _)
    ·cases e';exact absurd (aF _ a) (uK _)
    ·exact hi _ _ _ a b
  ·rename_i aN;rw[bx aN]at aC;exact abZ aF hi h1 aC
theorem auv{M:Model}{A:Around}{E:aO->aY->Prop}{s:aY}{scope:Scope}{globals:au}{closure:List (Str×au)}{qual:Str}{func:Option au}{code:aO}{around:Env}{builtins:au}{Q:Env->aY->Prop}
  (h:Q (newEnv scope s.heap.objs.size globals (cellsFrom (s.heap.objs.size+1) scope.names closure) qual func code (some around) builtins)
   { s with heap:=pushCells (s.heap.push { cls:=.type "dict",data:=.dict #[] }) scope.names }) :
  wpAny M A (newFunctionEnv scope globals closure [] qual func code (some around) builtins) Q E s:=by
 simp only[newFunctionEnv,Option.isSome_some,if_true];refine wpAny_bind (wpAny_alloc ?_);refine wpAny_bind (wpAny_layCells _ (fun n k c=>rfl) scope.names closure _ _ ?_);rw[show({ s with heap:=s.heap.push { cls:=.type "dict",data:=.dict #[] } }:aY).heap.objs.size=s.heap.objs.size+1 from q0 ..];rw[List.forIn_nil];exact wpAny_bind (wpAny_pure (wpAny_pure h))
theorem ab0{sc:Scope}:∀ {names:List (Str×NameKind)} {x:Str} {k:NameKind},
  (names.map fun(n,k)=>if(k == NameKind.free && sc.kind == .function && sc.names.lookup n == some .cell)then(n,NameKind.cell)else(n,k)).lookup x=some k ->
  ∃ k',names.lookup x=some k'/\(k=k'\/(k'=.free/\k=.cell))
 | [],_,_,h=>by simp at h
 |(n,J5)::r,x,k,h=>by
  have bV:=@ab0 sc r x k;have h':List.lookup x ((if(J5 == NameKind.free && sc.kind == .function && sc.names.lookup n == some .cell)=true then(n,NameKind.cell)else(n,J5))::(r.map _))=some k:=h;cases aq:x == n with
  |true =>
   simp only[uH,aq];by_cases aV:(J5 == NameKind.free && sc.kind == .function && sc.names.lookup n == some .cell)=true
   ·rw[bM aV]at h';simp only[uH,aq]at h';cases h';simp only[jf,v']at aV;exact⟨J5,Z,.inr ⟨aV.1.1,Z⟩⟩
   ·rw[bx aV]at h';simp only[uH,aq]at h';cases h';exact⟨_,Z,.inl rfl⟩
  |false =>
   simp only[uH,aq];by_cases aV:(J5 == NameKind.free && sc.kind == .function && sc.names.lookup n == some .cell)=true
   ·rw[bM aV]at h';simp only[uH,aq]at h';exact bV h'
   ·rw[bx aV]at h';simp only[uH,aq]at h';exact bV h'
structure J6(N:List Str)(sc scope:Scope)(own:List (Str×Nat)):Prop where
 kind:scope.kind=.function
 uniq:∀ y∈scope.names,scope.names.lookup y.1=some y.2
 tA:∀ p∈own,N[p.2]?=some p.1
 free:∀ y∈scope.names,y.2=.free->sc.names.lookup y.1=some .cell\/sc.names.lookup y.1=some .free
 own:∀ y∈scope.names,y.2=.local\/y.2=.cell->y.1∈own.map (·.1)\/y.1∉N
def wipe(σ:St):aK->St
 | []=>σ
 |v::vs=>(wipe σ vs).set v none
theorem ab1(σ:St):∀ vs:aK,(wipe σ vs).length=σ.length
 | []=>rfl
 |v::vs=>by unfold wipe;rw[List.length_set,ab1 σ vs]
theorem ab2{σ:St}{i:Nat}{x:V}:∀ {vs:aK},(wipe σ vs)[i]?=some (some x)->σ[i]?=some (some x)/\i∉vs
 | [],h=>⟨h,by simp⟩
 |v::vs,h=>by
  unfold wipe at h;by_cases hi:v=i
  ·subst hi;by_cases a0:v<(wipe σ vs).length
   ·rw[IK a0]at h;cases h
   ·rw[qZ (by simpa using a0)]at h;cases h
  ·rw[I6 hi]at h;obtain⟨h1,aC⟩:=ab2 h;exact⟨h1,by simp only[gR,not_or];exact⟨fun e=>hi e.symm,aC⟩⟩
abbrev bT.jt(X:bT)(s:aY)(H:ao)(scope:Scope)(hK:Env)(fp:d2):bT:={ X with jZ:=s,JC:=H,env:=hK,outer:=X.stack,ex:=fp,fn:=fun x=>scope.names.lookup x == some .cell,ha:=[],xe:=fun _ _=>False }
section
variable{X:bT}{pins:List (au×Obj)}{σ:St}{H:ao}{s:aY}
theorem auw{scope:Scope}{own:List (Str×Nat)}{fp:d2}(I:Inv X pins σ H s)(ok:J6 X.N X.env.scope scope own)(hn:X.N.Nodup)(Fz:∀ b∈fp,q8 X pins H b/\b<s.heap.objs.size) :
  Inv (X.jt s H scope (compEnvC scope (cellsFrom (s.heap.objs.size+1) scope.names (k4 X.env.cells scope.names [])) s.heap.objs.size X.env) fp) [] (wipe σ (own.map (·.2))) H { s with heap:=pushCells (s.heap.push { cls:=.type "dict",data:=.dict #[] }) scope.names }:=by
 have s7:∀ y∈scope.names,y.2=.free->∃ c,X.env.cells.lookup y.1=some c:=fun y aP e=>by
  rcases ok.free y aP e with k|k
  ·exact I.ok.has _ (.inl k)
  ·exact I.ok.has _ (.inr k)
 generalize J7:compEnvC scope (cellsFrom (s.heap.objs.size+1) scope.names (k4 X.env.cells scope.names [])) s.heap.objs.size X.env=hK;have aG:∀ b o,s.heap.get? b=some o->(pushCells (s.heap.push { cls:=.type "dict",data:=.dict #[] }) scope.names).get? b=some o:=fun b o e=>pushCells_keeps _ _ _ _ (iC _ e);have dc:hK.locals=s.heap.objs.size:=by rw[← J7];rfl
 have iV:hK.cells=cellsFrom (s.heap.objs.size+1) scope.names (k4 X.env.cells scope.names []):=by rw[← J7];rfl
 have ab3:hK.scope=aut scope X.env.scope:=by rw[← J7];rfl
 rw[← q0 s.heap { cls:=.type "dict",data:=.dict #[] }]at iV;have cm:∀ {y c},(y,c)∈k4 X.env.cells scope.names []->X.env.cells.lookup y=some c/\c<s.heap.objs.size:=fun{y c} hm=>by
  rcases VJ hm with hm|⟨h1,rfl⟩
  ·cases hm
  ·obtain⟨c,aV⟩:=s7 _ h1 rfl;rw[aV];obtain⟨w,z⟩:=I.cell _ _ aV;exact⟨Z,z.lt⟩
 have mem:∀ {y c},hK.cells.lookup y=some c->(X.env.cells.lookup y=some c/\c<s.heap.objs.size)\/(s.heap.objs.size+1<=c/\akk (pushCells (s.heap.push { cls:=.type "dict",data:=.dict #[] }) scope.names) c none):=fun{y c} e=>by
  rw[iV]at e;rcases J4 (pk e)with hm|⟨_,aC,bI⟩
  ·exact .inl (cm hm)
  ·rw[q0]at aC;exact .inr ⟨aC,bI⟩
 have look:∀ {y},scope.names.lookup y=some .free->∃ c,hK.cells.lookup y=some c/\X.env.cells.lookup y=some c:=fun{y} aF=>by
  have aP:(y,NameKind.free)∈scope.names:=pk aF;obtain⟨c',e'⟩:=mem_lookup (VK (names:=scope.names) (n:=(s.heap.push { cls:=.type "dict",data:=.dict #[] }).objs.size) (abX (cells:=X.env.cells) (acc:=[]) aP));rw[← iV]at e';refine⟨c',e',?_⟩;rw[iV]at e';rcases J4 (pk e')with hm|⟨h1,_,_⟩
  ·exact(cm hm).1
  ·have:=ok.uniq _ h1
   rw[aF]at this;cases this
 have auy:(X.jt s H scope hK fp).Ok:=by
  refine⟨I.ok.mod,by show hK.scope.kind=_;rw[ab3];exact ok.kind,by show hK.globals=_;rw[← J7];exact I.ok.glob,by show hK.builtins=_;rw[← J7];exact I.ok.blt,by show s.heap.objs.size<=hK.locals;rw[dc];exact cH _,
   fun y z c bF a9=>?_,fun y aP=>?_,fun y c z e=>?_,I.ok.hd,I.ok.frames,.inl rfl,fun b ak=>⟨?_,fun y c e z=>?_⟩,I.bs,jg I.ok.qu I.E_,fun b o e ak=>?_,fun b ak z=>?_,I.stack,I.aa2⟩
  ·have bF:hK.cells.lookup y=some c:=bF
   have a9:hK.cells.lookup z=some c:=a9;rw[iV]at bF a9;refine abZ (fun p aL=>?_) (fun y z c a b=>I.ok.inj y z c (cm a).1 (cm b).1) (pk bF) (pk a9);rw[q0];exact Nat.lt_succ_of_lt (cm (y:=p.1) (c:=p.2) aL).2
  ·show ∃ c,hK.cells.lookup y=some c;have key:∀ k,hK.kindOf y=some k->(k=.cell\/k=.free)->∃ c,hK.cells.lookup y=some c:=fun k aN Bw=>by
    unfold Env.kindOf at aN;rw[ab3]at aN;obtain⟨k',e,r⟩:=ab0 aN;have:k'=.cell\/k'=.free:=by
     rcases r with rfl|⟨rfl,_⟩
     ·exact Bw
     ·exact .inr rfl
    rcases this with rfl|rfl
    ·obtain⟨c,hm⟩:=abY (n:=(s.heap.push { cls:=.type "dict",data:=.dict #[] }).objs.size) (acc:=k4 X.env.cells scope.names []) (pk e);obtain⟨c',e'⟩:=mem_lookup hm;exact⟨c',by rw[iV];exact e'⟩
    ·obtain⟨c,h1,_⟩:=look e;exact⟨c,h1⟩
   rcases aP with aP|aP
   ·exact key _ aP (.inl rfl)
   ·exact key _ aP (.inr rfl)
  ·have z:(scope.names.lookup y == some NameKind.cell)=true:=z
   have z:scope.names.lookup y=some .cell:=by simpa using z
   have e:hK.cells.lookup y=some c:=e;rw[iV]at e;rcases J4 (pk e)with hm|⟨_,aC,_⟩
   ·rcases VJ hm with hm|⟨h1,_⟩
    ·cases hm
    ·have q:=ok.uniq _ h1
     rw[z]at q;cases q
   ·rw[q0]at aC;exact Nat.le_of_succ_le aC
  ·show b≠hK.locals;rw[dc];exact gU (Fz b ak).2
  ·have e:hK.cells.lookup y=some c:=e
   rcases mem e with⟨h1,_⟩|⟨h1,_⟩
   ·exact(Fz b ak).1.2.2.2.2.1 y c h1 z
   ·have aC:s.heap.objs.size+1<=b:=by rw[← z];exact h1
    exact absurd (lq (Fz b ak).2 (Nat.le_of_succ_le aC)) (uK _)
  ·rcases (Fz b ak).1.2.2.2.1 with z|z
   ·exact I.ok.wI b o e z
   ·exact absurd (lq (fH e) (jg I.ok.qu z)) (uK _)
  ·rcases gR.mp (I.Ve b z)with z|z
   ·exact(Fz b ak).1.2.1 z
   ·exact(Fz b ak).1.2.2.1 z
 refine⟨auy,Z,I.bare,jY.kept aG,⟨fun _=>none,?_,fun i y bH bF a9 dw=>?_⟩,fun y c e=>?_,?_,fun y c e=>?_,fun p aL=>?_,I.bL.kept aG,by rw[ab1];exact I.len⟩
 ·show Heap.Ns _ hK.locals _;rw[dc];exact Heap.Ns.keeps (Heap.Ns.new ..) fun b o e=>pushCells_keeps _ _ _ _ e
 ·obtain⟨a9,mY⟩:=ab2 a9;have yF:scope.names.lookup y=some .free/\(hK.kindOf y=some .cell\/hK.kindOf y=some .free):=by
   have key:∀ k,hK.scope.names.lookup y=some k->k=.local\/k=.cell\/k=.free->scope.names.lookup y=some .free/\(hK.kindOf y=some .cell\/hK.kindOf y=some .free):=fun k aN Bw=>by
    have UG:=aN;rw[ab3]at aN;obtain⟨k',e,r⟩:=ab0 aN;have no:¬ (k'=.local\/k'=.cell):=fun hh=>by
     rcases ok.own _ (pk e) hh with e'|e'
     ·obtain⟨p,aL,auz⟩:=g6.mp e';have dw:=ok.tA p aL;have:p.1=y:=auz;rw[this]at dw;exact mY (g6.mpr ⟨p,aL,aa7 hn dw bF⟩)
     ·exact e' (gb bF)
    rcases r with rfl|⟨rfl,rfl⟩
    ·rcases Bw with rfl|rfl|rfl
     ·exact absurd (.inl rfl) no
     ·exact absurd (.inr rfl) no
     ·exact⟨e,.inr UG⟩
    ·exact⟨e,.inl UG⟩
   have dw:EY hK.scope y:=dw;rcases dw with dw|dw|dw
   ·exact key _ dw (.inl rfl)
   ·exact key _ dw (.inr (.inl rfl))
   ·exact key _ dw (.inr (.inr rfl))
  obtain⟨m,aR,aF⟩:=I.loc;have auA:EY X.env.scope y:=(ok.free _ (pk yF.1) rfl).elim (fun k=>.inr (.inl k)) (fun k=>.inr (.inr k));obtain⟨w,r,q⟩:=aF i y bH bF a9 auA;refine⟨w,r,.inr ⟨yF.2,?_⟩⟩;obtain⟨c,h1,aC⟩:=look yF.1;rcases q with⟨k,_⟩|⟨_,c',e',z⟩
  ·have k:X.env.scope.names.lookup y=some .local:=k
   rcases ok.free _ (pk yF.1) rfl with k'|k'<;>rw[show X.env.scope.names.lookup y=_ from k']at k<;>cases k
  ·rw[aC]at e';cases e';exact⟨c,h1,z.keeps aG⟩
 ·have e:hK.cells.lookup y=some c:=e
  rcases mem e with⟨h1,_⟩|⟨_,z⟩
  ·obtain⟨w,z⟩:=I.cell y c h1;exact⟨w,z.keeps aG⟩
  ·exact⟨_,z⟩
 ·show H hK.locals=none;rw[dc];exact I.bL.fresh (cH _)
 ·have e:hK.cells.lookup y=some c:=e
  rcases mem e with⟨h1,_⟩|⟨h1,_⟩
  ·exact I.oJ y c h1
  ·exact I.bL.fresh (Nat.le_of_succ_le h1)
 ·exact absurd (show p∈([]:List (au×Obj))++[] from aL) (by simp)
theorem auB{E:aO->aY->Prop}{D:au}{xs:List V}{y:V}{v:aO}{Q:aO->aY->Prop}(I:Inv X pins σ H s)(bw:H D=some (.lst xs))(hz:xs.length<sizeLine)(r:RelV y v)
  (h:∀ s',Inv X pins σ (upd H D (.lst (xs++[y]))) s'->Q .none s'):wpAny (model X.prog X.w) X.A (call (.builtin "list.append") [.ref D,v]) Q E s:=by
 obtain⟨U8,its,n,VF,e⟩:=I.bL D _ bw;have aF:=VF.length;refine append_at (hsz:=by rw[iD];omega) e fun h' fW uW=>?_;refine h { s with heap:=h' } (I.write (t':=s.toks) (by rw[bw];trivial) (.inl rfl) (fun b u ak q=>(fW.2 b ak).trans q) ⟨_,uW⟩ ⟨by rw[gC];exact hz,its++[v],n+1,VF.append (.cons r .nil),?_⟩);rw[uW];simp
def J8(X:bT)(ifs:List Expr)(t:TT):Prop :=
 ∀ (pins:List (au×Obj)) (s:aY) (σ:St) (H:ao) (Q:Bool->ao->Prop),Inv X pins σ H s->t σ H Q ->
  wpAny (model X.prog X.w) X.A (forIn ifs true fun c r=>if r=true then do let ok ← isTrue c X.env (eval c X.env);pure (ForInStep.yield ok)else pure (ForInStep.yield r)) (Vg X pins σ Q) X.xe s
def se:TT:=fun _ H Q=>Q true H
theorem hy:J8 X [] se:=fun _ _ _ H _ I h=>wpAny_tests_nil ⟨H,I,h⟩
theorem VL{c:Expr}{t:TT}(h:pK X c t):J8 X [c] t:=fun pins s σ H Q I hw=>wpAny_tests_one (h pins s σ H Q I hw)
end
theorem ab4{α:Type}{t:Sem α}{Q er:α->aY->Prop}{M:Model}{A:Around}{E:aO->aY->Prop}{s:aY}(h:wpAny M A t Q (fun _ _=>False) s)(Bf:∀ a s,Q a s->er a s):wpAny M A t er E s:=wpAny_mono h Bf fun _ _ z=>False.elim z
theorem auC{prog:fx}{w:e4}{A:Around}{R:Result->aY->Prop}{s:aY}{elt target iter:Expr}{ifs:List Expr}{scope:Scope}{pos:Pos}{it acc:aO}{env:Env}(I:Nat->aY->Prop)
  (turn:∀ n s,I n s->wpAny (model prog w) A (pyNext it) (fun r fV=>match r with
   |none=>R (.ok .next) fV
   |some v=>wpAny (model prog w) A (letOwnedTupleGo target it v) (fun _ akm=>wpAny (model prog w) A (assign target env v) (fun _ lZ =>
     wpAny (model prog w) A (forIn ifs true fun c r=>if r=true then do let ok ← isTrue c env (eval c env);pure (ForInStep.yield ok)else pure (ForInStep.yield r)) (fun ok ys =>
      if ok=true then wpAny (model prog w) A (eval elt env) (fun x akn =>
       wpAny (model prog w) A (call (.builtin "list.append") [acc,x]) (fun _ ako=>∃ m,m<n/\I m ako) (notedBy (model prog w) A env fun e s'=>R (.error e) s') akn) (notedBy (model prog w) A env fun e s'=>R (.error e) s') ys
      else ∃ m,m<n/\I m ys) (notedBy (model prog w) A env fun e s'=>R (.error e) s') lZ) (notedBy (model prog w) A env fun e s'=>R (.error e) s') akm) (notedBy (model prog w) A env fun e s'=>R (.error e) s') fV) (notedBy (model prog w) A env fun e s'=>R (.error e) s') s)
  (n:Nat) (h:I n s) :
  codeAny (model prog w) A (.compLoop (.ListComp elt [⟨target,iter,ifs,0⟩] scope pos) 0 it acc env) R s:=by
 refine codeAny_loop rfl I (fun n s wU=>?_) n h;show wpAny _ A ((compTurn (.ListComp elt [⟨target,iter,ifs,0⟩] scope pos) 0 it acc env).onRaise (fun x=>do noteFrame x env;theTreesLotGoes x)) _ _ s;refine wpAny_noted ?_;rw[compTurn_list];refine wpAny_bind (wpAny_standAt (wpAny_bind (wpAny_mono (turn n s wU) (fun r fV VN=>?_) fun _ _ h'=>h')));cases r with
 |none=>exact wpAny_pure VN
 |some v =>
  refine wpAny_bind (wpAny_mono VN (fun _ akm auD=>?_) fun _ _ h'=>h');refine wpAny_bind (wpAny_mono auD (fun _ lZ J9=>wpAny_bind (wpAny_mono J9 (fun ok ys VP=>?_) fun _ _ h'=>h')) fun _ _ h'=>h');cases ok with
  |false=>exact wpAny_pure ⟨rfl,VP⟩
  |true =>
   exact wpAny_bind (wpAny_bind (wpAny_mono VP (fun x akn auE=>wpAny_bind (wpAny_mono auE (fun _ ako auF=>wpAny_pure (wpAny_pure ⟨rfl,auF⟩)) fun _ _ h'=>h')) fun _ _ h'=>h'))
section
variable{X:bT}
def wV(kZ:TI)(g:lH)(tt:TT)(te:TE)(vs:aK):TE:=fun σ H Q=>kZ σ H fun J H1=>∀ D,H1 D=none->∃ W:Nat->Nat->ao->Prop,(∃ m,W 0 m (upd H1 D (.lst [])))/\∀ i m H,W i m H ->
 (J.stop i H/\Q (.ref D) H)\/(J.go i H/\∃ fQ:ao->Prop,(∀ H',fQ H'->∃ dU,dU<m/\W (i+1) dU H')/\∀ x H',J.mg i H x H'->g x (wipe σ vs) H' fun dW aB=>wipe dW vs=wipe σ vs/\tt dW aB fun b aJ =>
  if b=true then te dW aJ fun y bC=>∃ acc,bC D=some (.lst acc)/\acc.length<sizeLine/\fQ (upd bC D (.lst (acc++[y])))else fQ aJ)
theorem wW{elt:Expr}{auG:List Comprehension}{scope:Scope}{pos py:Pos}{y:Str}{l:Nat}{env:Env}(aN:env.scope.kind=.function)(aP:env.scope.names.lookup y=some .local)(aF:(py.line == pos.line)=true)
  (aX:(scope.names.any fun(n,k)=>n == y && (k == .local || k == .cell))=false):swapsWith (.ListComp elt auG scope pos) (some (.Name y py)) l env=pure true:=by
 have auH:env.kindOf y=some .local:=aP;have ak:env.blockKind=.function:=by unfold Env.blockKind;rw[aN];rfl
 unfold swapsWith;simp only[ak,auH,aX,Expr.pos,aF];rfl
end
theorem ab5{lo:Int}{n:Nat}{g:lH}{tt:TT}{te:TE}{vs:aK}{σ:St}{H1:ao}{D:au}{gw:ao->Prop}(Pv:Nat->ao->Prop)(h0:Pv 0 (upd H1 D (.lst [])))
  (aH:∀ i H,i<n->Pv i H->g (.int (lo+i)) (wipe σ vs) H fun dW aB=>wipe dW vs=wipe σ vs/\tt dW aB fun b aJ =>
   if b=true then te dW aJ fun y bC=>∃ acc,bC D=some (.lst acc)/\acc.length<sizeLine/\Pv (i+1) (upd bC D (.lst (acc++[y])))else Pv (i+1) aJ) (hd:∀ H,Pv n H->gw H) :
  ∃ W:Nat->Nat->ao->Prop,(∃ m,W 0 m (upd H1 D (.lst [])))/\∀ i m H,W i m H ->
   ((oL lo n).stop i H/\gw H)\/((oL lo n).go i H/\∃ fQ:ao->Prop,(∀ H',fQ H'->∃ dU,dU<m/\W (i+1) dU H')/\∀ x H',(oL lo n).mg i H x H'->g x (wipe σ vs) H' fun dW aB=>wipe dW vs=wipe σ vs/\tt dW aB fun b aJ =>
    if b=true then te dW aJ fun y bC=>∃ acc,bC D=some (.lst acc)/\acc.length<sizeLine/\fQ (upd bC D (.lst (acc++[y])))else fQ aJ):=by
 refine⟨fun i m H=>m=n-i/\i<=n/\Pv i H,⟨n,by simp,eZ _,h0⟩,?_⟩;rintro i m H ⟨rfl,hi,p⟩;by_cases c0:i<n
 ·refine .inr ⟨c0,Pv (i+1),fun H' p'=>⟨n-(i+1),by omega,rfl,c0,p'⟩,fun x H' y=>?_⟩;obtain⟨e,y⟩:=y;subst e y;exact aH i _ c0 p
 ·have e:i=n:=by omega
  subst e;exact .inl ⟨cH _,hd H p⟩
theorem ab6{K:cp}{a:au}{xs:List V}{g:lH}{tt:TT}{te:TE}{vs:aK}{σ:St}{H1:ao}{D:au}{gw:ao->Prop}(Pv:Nat->ao->Prop)(h0:Pv 0 (upd H1 D (.lst [])))(aF:∀ i H,i<=xs.length->Pv i H->aT K H a xs)
  (aH:∀ i x H,xs[i]?=some x->Pv i H->g x (wipe σ vs) H fun dW aB=>wipe dW vs=wipe σ vs/\tt dW aB fun b aJ =>
   if b=true then te dW aJ fun y bC=>∃ acc,bC D=some (.lst acc)/\acc.length<sizeLine/\Pv (i+1) (upd bC D (.lst (acc++[y])))else Pv (i+1) aJ) (hd:∀ H,Pv xs.length H->gw H) :
  ∃ W:Nat->Nat->ao->Prop,(∃ m,W 0 m (upd H1 D (.lst [])))/\∀ i m H,W i m H ->
   ((jk K a).stop i H/\gw H)\/((jk K a).go i H/\∃ fQ:ao->Prop,(∀ H',fQ H'->∃ dU,dU<m/\W (i+1) dU H')/\∀ x H',(jk K a).mg i H x H'->g x (wipe σ vs) H' fun dW aB=>wipe dW vs=wipe σ vs/\tt dW aB fun b aJ =>
    if b=true then te dW aJ fun y bC=>∃ acc,bC D=some (.lst acc)/\acc.length<sizeLine/\fQ (upd bC D (.lst (acc++[y])))else fQ aJ):=by
 refine⟨fun i m H=>m=xs.length-i/\i<=xs.length/\Pv i H,⟨xs.length,by simp,eZ _,h0⟩,?_⟩;rintro i m H ⟨rfl,hi,p⟩;have q:=aF i H hi p;by_cases c0:i<xs.length
 ·refine .inr ⟨⟨xs,xs[i],q,by simp[c0]⟩,Pv (i+1),fun H' p'=>⟨xs.length-(i+1),by omega,rfl,c0,p'⟩,fun x H' y=>?_⟩;obtain⟨e,y⟩:=y;subst e;exact aH i x _ (y xs q) p
 ·have e:i=xs.length:=by omega
  subst e;exact .inl ⟨⟨xs,q,cH _⟩,hd H p⟩
def akp(N:List Str)(sc scope:Scope)(own:List (Str×Nat)):Bool :=
 (match scope.kind with | .function=>true|_=>false) && (scope.names.all fun y=>decide (scope.names.lookup y.1=some y.2)) && (own.all fun p=>decide (N[p.2]?=some p.1)) &&
  (scope.names.all fun y=>match y.2 with
   | .free=>(match sc.names.lookup y.1 with|some .cell=>true|some .free=>true|_=>false)
   | .local=>decide (y.1∈own.map (·.1)) || decide (y.1∉N)
   | .cell=>decide (y.1∈own.map (·.1)) || decide (y.1∉N)
   |_=>true)
theorem gY{N:List Str}{sc scope:Scope}{own:List (Str×Nat)}(h:akp N sc scope own=true):J6 N sc scope own:=by
 unfold akp at h;simp only[jf,rU,pg]at h;obtain⟨⟨⟨h1,aC⟩,bI⟩,dz⟩:=h;refine⟨?_,aC,bI,fun y aP e=>?_,fun y aP e=>?_⟩
 ·split at h1
  ·assumption
  ·cases h1
 ·have q:=dz y aP
  simp only[e]at q;split at q<;>first|exact .inl (by assumption)|exact .inr (by assumption)|cases q
 ·have q:=dz y aP
  rcases e with e|e<;>(simp only[e,Bool.or_eq_true,pg]at q;exact q)
section
variable{eG:Type}[DecidableEq eG]
noncomputable def dY (kvs:List (eG×V)) (k:eG):Option V:=(kvs.find? fun bD=>decide (bD.1=k)).map (·.2)
noncomputable def putK (kvs:List (eG×V)) (k:eG) (v:V):List (eG×V) :=
 if(kvs.any fun bD=>decide (bD.1=k))=true then kvs.map (fun bD=>if bD.1=k then(bD.1,v)else bD)else kvs++[(k,v)]
theorem oR{p:eG×V}{r:List (eG×V)}{k:eG}(e:p.1=k):dY (p::r) k=some p.2:=by simp[dY,kh,e]
theorem oT{p:eG×V}{r:List (eG×V)}{k:eG}(e:¬ p.1=k):dY (p::r) k=dY r k:=by simp[dY,kh,e]
theorem FJ(k:eG):∀ kvs:List (eG×V),(kvs.any fun bD=>decide (bD.1=k))=(dY kvs k).isSome
 | []=>rfl
 |p::r=>by
  rw[Al];by_cases e:p.1=k
  ·simp only[oR e,fw e,Bool.true_or,Option.isSome_some]
  ·rw[oT e,ou e,Bool.false_or];exact FJ k r
theorem akq(k j:eG)(y:V):∀ kvs:List (eG×V),dY (kvs.map fun bD=>if bD.1=k then(bD.1,y)else bD) j=(dY kvs j).map fun x=>if j=k then y else x
 | []=>rfl
 |p::r=>by
  have bV:=akq k j y r;rw[fU];by_cases h:p.1=k
  ·rw[bM h];by_cases e:p.1=j
   ·rw[oR (p:=(p.1,y)) e,oR e,gf,bM (e.symm.trans h)]
   ·rw[oT (p:=(p.1,y)) e,oT e,bV]
  ·rw[bx h];by_cases e:p.1=j
   ·rw[oR (p:=p) e,oR e,gf,bx (fun z=>h (e.trans z))]
   ·rw[oT (p:=p) e,oT e,bV]
theorem akr(k j:eG)(y:V):∀ kvs:List (eG×V),dY kvs k=none->dY (kvs++[(k,y)]) j=if j=k then some y else dY kvs j
 | [],_=>by
  by_cases e:k=j
  ·rw[bM e.symm];exact oR (p:=(k,y)) e
  ·rw[bx (fun z=>e z.symm)];exact oT (p:=(k,y)) e
 |p::r,aR=>by
  rw[List.cons_append];have aN:¬ p.1=k:=fun z=>by rw[oR z]at aR;cases aR
  rw[oT aN]at aR;have bV:=akr k j y r aR;by_cases e:p.1=j
  ·rw[oR e,oR e,bx (fun z=>aN (e.trans z))]
  ·rw[oT e,oT e,bV]
theorem VR(kvs:List (eG×V))(k j:eG)(y:V):dY (putK kvs k y) j=if j=k then some y else dY kvs j:=by
 unfold putK;by_cases a:(kvs.any fun bD=>decide (bD.1=k))=true
 ·rw[bM a,akq];rw[FJ]at a;by_cases e:j=k
  ·obtain⟨x,aq⟩:=Option.isSome_iff_exists.mp a;rw[bM e,e,aq,gf,bM rfl]
  ·rw[bx e];cases dY kvs j with
   |none=>rfl
   |some x=>rw[gf,bx e]
 ·rw[bx a];refine akr k j y kvs ?_;rw[FJ]at a;cases q:dY kvs k with
  |none=>rfl
  |some x=>rw[q]at a;exact(a rfl).elim
theorem Bx(kvs:List (eG×V))(k:eG)(v:V):(putK kvs k v).length<=kvs.length+1:=by
 unfold putK;split
 ·rw[ey];omega
 ·rw[gC,eo,rY];omega
theorem V0{kvs:List (eG×V)}{k:eG}(v:V)(h:dY kvs k=none):putK kvs k v=kvs++[(k,v)]:=by
 unfold putK;rw[FJ,h];exact bx (by decide)
theorem m1.J_{o:Option V}{u:Option aO}(r:m1 o u):o.isSome=u.isSome:=by
 cases o with
 |none=>cases u with
  |none=>rfl
  |some _=>exact(show False from r).elim
 |some _=>cases u with
  |none=>exact(show False from r).elim
  |some _=>rfl
theorem m1.getD{o:Option V}{u:Option aO}{d:V}{d':aO}(r:m1 o u)(rd:RelV d d'):RelV (o.getD d) (u.getD d'):=by
 cases o with
 |none=>cases u with
  |none=>exact rd
  |some _=>exact(show False from r).elim
 |some _=>cases u with
  |none=>exact(show False from r).elim
  |some _=>exact r
theorem KV.val{kvs:List (eG×V)}{vs:List (eG×aO)}(r:KV kvs vs)(k:eG):m1 (dY kvs k) (valueAt vs k):=by
 unfold KV at r;induction r with
 |nil=>exact True.intro
 | @cons p q ps oU h t bV =>
  obtain⟨h1,aC⟩:=h;by_cases e:p.1=k
  ·have e':q.1=k:=h1.symm.trans e
   have b:valueAt (q::oU) k=some q.2:=by simp[valueAt,kh,e']
   rw[oR e,b];exact aC
  ·have e':¬ q.1=k:=fun z=>e (h1.trans z)
   have b:valueAt (q::oU) k=valueAt oU k:=by simp[valueAt,kh,e']
   rw[oT e,b];exact bV
theorem KV.any{kvs:List (eG×V)}{vs:List (eG×aO)}(r:KV kvs vs)(k:eG):(kvs.any fun bD=>decide (bD.1=k))=vs.any fun bD=>decide (bD.1=k):=by
 unfold KV at r;induction r with
 |nil=>rfl
 |cons h t bV=>rw[Al,Al,bV,h.1]
theorem KV.repl{kvs:List (eG×V)}{vs:List (eG×aO)}(r:KV kvs vs)(k:eG){y:V}{u:aO}(b4:RelV y u) :
  KV (kvs.map fun bD=>if bD.1=k then(bD.1,y)else bD) (vs.map fun bD=>if bD.1=k then(bD.1,u)else bD):=by
 unfold KV at r ⊢;induction r with
 |nil=>exact .nil
 | @cons p q ps oU h t bV =>
  rw[fU,fU];refine .cons ?_ bV;obtain⟨h1,aC⟩:=h;by_cases e:p.1=k
  ·rw[bM e,bM (h1.symm.trans e)];exact⟨h1,b4⟩
  ·rw[bx e,bx (fun z=>e (h1.trans z))];exact⟨h1,aC⟩
theorem KV.put{kvs:List (eG×V)}{vs:List (eG×aO)}(r:KV kvs vs)(k:eG){y:V}{u:aO}(b4:RelV y u):KV (putK kvs k y) (stored vs k u):=by
 unfold putK stored;rw[r.any k];by_cases e:(vs.any fun bD=>decide (bD.1=k))=true
 ·rw[bM e,bM e];exact r.repl k b4
 ·rw[bx e,bx e];exact Paired.snoc r ⟨rfl,b4⟩
theorem KV.keys{kvs:List (eG×V)}{vs:List (eG×aO)}(r:KV kvs vs):kvs.map (·.1)=vs.map (·.1):=by
 unfold KV at r;induction r with
 |nil=>rfl
 |cons h t bV=>rw[fU,fU,bV,h.1]
theorem KV.length{kvs:List (eG×V)}{vs:List (eG×aO)}(r:KV kvs vs):kvs.length=vs.length:=Paired.length r
end
theorem wX{P:fx}{w:e4}{k:Key}{u:aO}(r:RelV (c3 k) u):(iT P w).is k u=true:=by
 cases k with
 |inl i=>obtain⟨t,e⟩:=(show ∃ t,u=Value.int i t from r);subst e;exact arJ P w i t
 |inr x=>obtain⟨t,e⟩:=(show ∃ t,u=Value.str x t from r);subst e;exact arK P w x t
theorem aks{P:fx}{w:e4}:∀ {ks:List Key} {us:dH},Vals (ks.map c3) us->ItemsAre (iT P w) ks us
 | [],_,r=>by rw[v7]at r;cases r;exact .nil
 |k::ks,_,r=>by
  rw[fU]at r;cases r with
  |cons h t=>exact .cons (wX h) (aks t)
abbrev KT(H:ao):List (List Key×V)->List (List Key×au×aO)->Prop:=Paired fun p q=>p.1=q.1/\H q.2.1=some (.tup (p.1.map c3))/\RelV p.2 q.2.2
theorem KT.val{H:ao}{kvs:List (List Key×V)}{xs:List (List Key×au×aO)}(r:KT H kvs xs)(k:List Key):m1 (dY kvs k) ((atKey xs k).map (·.2)):=by
 induction r with
 |nil=>exact True.intro
 | @cons p q ps oU h t bV =>
  obtain⟨h1,_,aC⟩:=h;by_cases e:p.1=k
  ·have e':q.1=k:=h1.symm.trans e
   have b:atKey (q::oU) k=some q.2:=by simp[atKey,kh,e']
   rw[oR e,b];exact aC
  ·have e':¬ q.1=k:=fun z=>e (h1.trans z)
   have b:atKey (q::oU) k=atKey oU k:=by simp[atKey,kh,e']
   rw[oT e,b];exact bV
theorem KT.repl{H:ao}{kvs:List (List Key×V)}{xs:List (List Key×au×aO)}(r:KT H kvs xs)(k:List Key){y:V}{u:aO}(b4:RelV y u) :
  KT H (kvs.map fun bD=>if bD.1=k then(bD.1,y)else bD) (xs.map (putAt k u)):=by
 induction r with
 |nil=>exact .nil
 | @cons p q ps oU h t bV =>
  rw[fU,fU];refine .cons ?_ bV;obtain⟨h1,aC,bI⟩:=h;unfold putAt;by_cases e:p.1=k
  ·rw[bM e,bM (h1.symm.trans e)];exact⟨h1,aC,b4⟩
  ·rw[bx e,bx (fun z=>e (h1.trans z))];exact⟨h1,aC,bI⟩
theorem KT.put{H:ao}{kvs:List (List Key×V)}{xs:List (List Key×au×aO)}(r:KT H kvs xs)(k:List Key){b:au}{y:V}{u:aO}(ak:H b=some (.tup (k.map c3)))(b4:RelV y u) :
  KT H (putK kvs k y) (storedH xs k b u):=by
 have e:(kvs.any fun bD=>decide (bD.1=k))=(atKey xs k).isSome:=by
  rw[FJ,(r.val k).J_,Option.isSome_map]
 unfold putK storedH;rw[e];by_cases q:(atKey xs k).isSome=true
 ·rw[bM q,bM q];exact r.repl k b4
 ·rw[bx q,bx q];exact Paired.snoc r ⟨rfl,ak,b4⟩
theorem KT.keeps{H H':ao}{kvs:List (List Key×V)}{xs:List (List Key×au×aO)}(r:KT H kvs xs)(b_:∀ b bO,H b=some (.tup bO)->H' b=some (.tup bO)):KT H' kvs xs :=
 Paired.d8 r fun _ _ z=>⟨z.1,b_ _ _ z.2.1,z.2.2⟩
section
variable{P:fx}{w:e4}{H:ao}{h:Heap}{a:au}
theorem akt{u:HO}(ok:ht P w H h)(e:sY H a u):hP P w H h a u:=e.ok ok
theorem yG{kvs:List (Key×V)}(ok:ht P w H h)(e:sY H a (.dX kvs)):kvs.length<=sizeLine/\(a == sysModules)=false/\∃ vs,KV kvs vs/\h.DictOf (iT P w) a vs :=
 show hP P w H h a (.dX kvs) from akt ok e
theorem ab7{kvs:List (Key×V)}(ok:ht P w H h)(e:H a=some (.dX kvs)):kvs.length<=sizeLine/\(a == sysModules)=false/\∃ vs,KV kvs vs/\h.DictOf (iT P w) a vs:=yG ok (.inl e)
theorem yH{ks:List Key}(ok:ht P w H h)(e:H a=some (.tup (ks.map c3))):(tupleKind (iT P w)).is h ks a:=by
 obtain⟨_,its,r,o,h1,aC,n,bI⟩:=(show hP P w H h a (.tup (ks.map c3)) from ok a _ e);exact⟨o,its.toArray,n,h1,aC,bI,by simpa using aks r⟩
theorem yI{kvs:List (List Key×V)}(ok:ht P w H h)(e:sY H a (.gF kvs)):kvs.length<=sizeLine/\(a == sysModules)=false /\
  ∃ xs,KT H kvs xs/\h.DictOfH (tupleKind (iT P w)) a xs:=by
 obtain⟨z,y,xs,r,o,es,ep,h1,aC,bI,dz,js⟩:=(show hP P w H h a (.gF kvs) from akt ok e);refine⟨z,y,xs,r,o,es,ep,h1,aC,bI,dz,fun x aq=>?_,js⟩;have all:∀ {l:List (List Key×V)} {m:List (List Key×au×aO)},KT H l m->∀ x∈m,(tupleKind (iT P w)).is h x.1 x.2.1:=by
  intro l m q;induction q with
  |nil=>intro x aq;exact nomatch aq
  | @cons p q ps oU a6 t bV =>
   intro x aq;rcases gR.mp aq with e|aq
   ·subst e;exact yH ok (by rw[← a6.1];exact a6.2.1)
   ·exact bV x aq
 exact all r x aq
theorem aku{kvs:List (List Key×V)}(ok:ht P w H h)(e:H a=some (.gF kvs)):kvs.length<=sizeLine/\(a == sysModules)=false /\
  ∃ xs,KT H kvs xs/\h.DictOfH (tupleKind (iT P w)) a xs:=yI ok (.inl e)
end
def hU(H:ao)(a:au)(y:V)(r:Option V):Prop :=
 (∃ kvs k,sY H a (.dX kvs)/\y=c3 k/\r=dY kvs k)\/∃ kvs k b,sY H a (.gF kvs)/\y=.ref b/\H b=some (.tup (k.map c3))/\r=dY kvs k
def tB(H:ao)(a:au)(y v:V)(H':ao):Prop :=
 (∃ kvs k,H a=some (.dX kvs)/\y=c3 k/\kvs.length<sizeLine/\H'=upd H a (.dX (putK kvs k v))) \/
 ∃ kvs k b,H a=some (.gF kvs)/\y=.ref b/\H b=some (.tup (k.map c3))/\kvs.length<sizeLine/\H'=upd H a (.gF (putK kvs k v))
theorem hU.k{H:ao}{a:au}{kvs:List (Key×V)}{k:Key}(e:H a=some (.dX kvs)):hU H a (c3 k) (dY kvs k):=.inl ⟨kvs,k,.inl e,rfl,rfl⟩
theorem hU.t{H:ao}{a b:au}{kvs:List (List Key×V)}{k:List Key}(e:H a=some (.gF kvs))(dN:H b=some (.tup (k.map c3))):hU H a (.ref b) (dY kvs k):=.inr ⟨kvs,k,b,.inl e,rfl,dN,rfl⟩
theorem tB.k{H:ao}{a:au}{kvs:List (Key×V)}{k:Key}{v:V}(e:H a=some (.dX kvs))(aF:kvs.length<sizeLine):tB H a (c3 k) v (upd H a (.dX (putK kvs k v))):=.inl ⟨kvs,k,e,rfl,aF,rfl⟩
theorem tB.t{H:ao}{a b:au}{kvs:List (List Key×V)}{k:List Key}{v:V}(e:H a=some (.gF kvs))(dN:H b=some (.tup (k.map c3)))(aF:kvs.length<sizeLine) :
  tB H a (.ref b) v (upd H a (.gF (putK kvs k v))):=.inr ⟨kvs,k,b,e,rfl,dN,aF,rfl⟩
section
variable{X:bT}{pins:List (au×Obj)}{σ:St}{H:ao}{s:aY}{a:au}{y v:V}{u r:aO}{o:Option V}{A:Around}{E:aO->aY->Prop}
theorem Inv.big(I:Inv X pins σ H s):sysModules<s.heap.objs.size:=by
 have h:mainGlobals<s.heap.objs.size:=(I.mod.glob.keeps I.jJ).lt;exact rZ (by decide) h
theorem auI{Q:aO->aY->Prop}(cF:A.units+1<cLine)(I:Inv X pins σ H s)(g:hU H a y (some v))(b4:RelV y u)(h:∀ w' s',Inv X pins σ H s'->RelV v w'->Q w' s') :
  wpAny (model X.prog X.w) A (getItem (.ref a) u) Q E s:=by
 rcases g with⟨kvs,k,e,gk,l⟩|⟨kvs,k,b,e,gk,dN,l⟩
 ·subst gk;obtain⟨z,hd,vs,rel,dd⟩:=yG I.bL e;obtain⟨w',hw,nU⟩:=m1.some_of (v:=v) (o:=valueAt vs k) (by rw[l];exact rel.val k);exact wpAny_getItem_of (wX b4) dd.mapOf hw (h w' _ (I.tok _) nU)
 ·subst gk;cases (show u=Value.ref b from b4);obtain⟨z,hd,xs,rel,dd⟩:=yI I.bL e;obtain⟨w',hw,nU⟩:=m1.some_of (v:=v) (o:=(atKey xs k).map (·.2)) (by rw[l];exact rel.val k);obtain⟨p,aL,V1⟩:=qY.mp hw;refine wpAny_getItem_heap (tupleKind_room_in1 cF) (yH I.bL dN) dd aL ?_;rw[V1];exact h w' _ (I.tok _) nU
theorem auJ{Q:aO->aY->Prop}(cF:A.units+1<cLine)(I:Inv X pins σ H s)(g:hU H a y o)(b4:RelV y u)(h:∀ s',Inv X pins σ H s'->Q (.bool o.isSome) s') :
  wpAny (model X.prog X.w) A (compareOp .In u (.ref a)) Q E s:=by
 rcases g with⟨kvs,k,e,gk,l⟩|⟨kvs,k,b,e,gk,dN,l⟩
 ·subst gk;obtain⟨z,hd,vs,rel,dd⟩:=yG I.bL e;refine wpAny_in_of (wX b4) hd dd.mapOf ?_;rw[← (rel.val k).J_,← l];exact h _ (I.tok _)
 ·subst gk;cases (show u=Value.ref b from b4);obtain⟨z,hd,xs,rel,dd⟩:=yI I.bL e;refine wpAny_in_heap (tupleKind_room_in1 cF) (yH I.bL dN) hd dd ?_;have q:=(rel.val k).J_;rw[Option.isSome_map]at q;rw[← q,← l];exact h _ (I.tok _)
theorem auK{Q:aO->aY->Prop}(cF:A.units+1<cLine)(I:Inv X pins σ H s)(g:hU H a y o)(b4:RelV y u)(h:∀ s',Inv X pins σ H s'->Q (.bool (!o.isSome)) s') :
  wpAny (model X.prog X.w) A (compareOp .NotIn u (.ref a)) Q E s:=by
 rcases g with⟨kvs,k,e,gk,l⟩|⟨kvs,k,b,e,gk,dN,l⟩
 ·subst gk;obtain⟨z,hd,vs,rel,dd⟩:=yG I.bL e;refine wpAny_notIn_of (wX b4) hd dd.mapOf ?_;rw[← (rel.val k).J_,← l];exact h _ (I.tok _)
 ·subst gk;cases (show u=Value.ref b from b4);obtain⟨z,hd,xs,rel,dd⟩:=yI I.bL e;refine wpAny_notIn_heap (tupleKind_room_in1 cF) (yH I.bL dN) hd dd ?_;have q:=(rel.val k).J_;rw[Option.isSome_map]at q;rw[← q,← l];exact h _ (I.tok _)
theorem ab8{h':Heap}{t':Nat}{cY:HO}(I:Inv X pins σ H s)(mu:Jz (H a))(aH:Heap.SameBut a s.heap h')(he:∃ q,h'.get? a=some q)(new:hP X.prog X.w (upd H a cY) h' a cY) :
  Inv X pins σ (upd H a cY) { s with heap:=h',toks:=t' } :=
 I.write (x:=a) (e:=a) mu (.inl rfl) (fun b q ak z=>(aH.2 b ak).trans z) he new
theorem akv{P:fx}{w:e4}{H':ao}{h':Heap}{kvs:List (Key×V)}{vs:List (Key×aO)}(z:kvs.length<=sizeLine)(hd:(a == sysModules)=false)(rel:KV kvs vs)(dd:h'.DictOf (iT P w) a vs) :
  hP P w H' h' a (.dX kvs):=⟨z,hd,vs,rel,dd⟩
theorem auL{H':ao}{Q:Unit->aY->Prop}(cF:A.units+1<cLine)(I:Inv X pins σ H s)(g:tB H a y v H')(b4:RelV y u)(e0:RelV v r)(h:∀ s',Inv X pins σ H' s'->Q () s') :
  wpAny (model X.prog X.w) A (setItem (.ref a) u r) Q E s:=by
 rcases g with⟨kvs,k,e,gk,l,ab9⟩|⟨kvs,k,b,e,gk,dN,l,ab9⟩
 ·subst gk ab9;obtain⟨z,hd,vs,rel,dd⟩:=ab7 I.bL e;have hz:vs.length<=sizeLine:=by rw[← rel.length];exact z
  have aF:(putK kvs k v).length<=sizeLine:=by have:=Bx kvs k v;omega
  refine wpAny_setItem_pairs (hsz:=hz) (wX b4) dd fun h' BJ aH=>h _ ?_;have he:∃ q,h'.get? a=some q:=let ⟨q,_,_,a6,_⟩:=BJ;⟨q,a6⟩
  exact ab8 I (by rw[e];exact True.intro) aH he (akv aF hd (rel.put k e0) BJ)
 ·subst gk ab9;cases (show u=Value.ref b from b4);obtain⟨z,hd,xs,rel,dd⟩:=aku I.bL e;have hz:xs.length<=sizeLine:=by rw[← Paired.length rel];exact z
  have aF:(putK kvs k v).length<=sizeLine:=by have:=Bx kvs k v;omega
  refine wpAny_setItem_heap (hsz:=hz) (tupleKind_room_in1 cF) (yH I.bL dN) dd fun h' BJ aH=>h _ ?_;obtain⟨q,es,ep,a6,aC,bI,dz,_,js⟩:=BJ;refine ab8 I (by rw[e];exact True.intro) aH ⟨q,a6⟩ ⟨aF,hd,_,(rel.put k dN e0).keeps fun c bO ec=>?_,q,es,ep,a6,aC,bI,dz,js⟩;rw[a7 (hO ec e (fun z=>nomatch z))];exact ec
end
def akx(i:Expr):Prop:=∀ f5 hR,subscripted i false f5 hR=operate [f5,hR] (getItem f5 hR)
theorem auM{prog:fx}{w:e4}{A:Around}{E:aO->aY->Prop}{s:aY}{env:Env}{value slice:Expr}{pos:Pos}{T id:String}{Q:aO->aY->Prop}
  (aF:typeLookup (.type T) "__getitem__"=pure (some (.builtin id))) (aH:akx slice)
  (h:wpAny (model prog w) A (eval value env) (fun o fV=>wpAny (model prog w) A (eval slice env) (fun i lZ=>lZ.TypeIs o T/\wpAny (model prog w) A (getItem o i) Q E lZ) E fV) E s) :
  wpAny (model prog w) A (eval (.Subscript value slice pos) env) Q E s:=by
 refine Subscript_ (wpAny_mono h (fun o fV VN=>wpAny_mono VN (fun i lZ J9=>?_) fun _ _ x=>x) fun _ _ x=>x);obtain⟨cx,J9⟩:=J9;unfold subscriptTail;refine wpAny_bind ?_;rw[getitemInPython_of_ne cx.not_modules];refine wpAny_bind (wpAny_specialOf cx aF ?_);have fin:wpAny (model prog w) A (subscripted slice false o i) (fun r ys=>wpAny (model prog w) A (letTemporaryGo value o r >>= fun _=>pure r) Q E ys) E lZ:=by
  rw[aH o i];exact wpAny_operating (wpAny_mono J9 (fun r ys VP=>wpAny_bind (wpAny_letTemporaryGo (wpAny_pure VP))) fun _ _ x=>x)
 first
  |exact wpAny_pure (wpAny_bind fin)
  |exact wpAny_bind (wpAny_pure (wpAny_bind fin))
  |exact wpAny_bind fin
theorem auN{X:bT}{pins:List (au×Obj)}{σ:St}{H:ao}{s:aY}{a:au}{y:V}{o:Option V}(I:Inv X pins σ H s)(g:hU H a y o):s.TypeIs (.ref a) "dict":=by
 rcases g with⟨kvs,k,e,_,_⟩|⟨kvs,k,b,e,_,_,_⟩
 ·obtain⟨_,_,vs,_,dd⟩:=yG I.bL e;exact dd.typeIs
 ·obtain⟨_,_,xs,_,dd⟩:=yI I.bL e;exact dd.typeIs
inductive auO(Q:bA)(x y:V)(H:ao):Prop
 |mk (a:au) (v:V) (ex:x=.ref a) (g:hU H a y (some v)) (q:Q v H)
def auP(ty:TE)(σ:St)(Q:bA)(x:V)(H:ao):Prop:=ty σ H (auO Q x)
def auQ(td ty:TE):TE:=fun σ H Q=>td σ H (auP ty σ Q)
inductive auR(Q:bA)(y x:V)(H:ao):Prop
 |mk (a:au) (o:Option V) (ex:x=.ref a) (g:hU H a y o) (q:Q (.bl o.isSome) H)
def auS(td:TE)(σ:St)(Q:bA)(y:V)(H:ao):Prop:=td σ H (auR Q y)
def auT(ty td:TE):TE:=fun σ H Q=>ty σ H (auS td σ Q)
inductive auU(Q:bA)(y x:V)(H:ao):Prop
 |mk (a:au) (o:Option V) (ex:x=.ref a) (g:hU H a y o) (q:Q (.bl (!o.isSome)) H)
def auV(td:TE)(σ:St)(Q:bA)(y:V)(H:ao):Prop:=td σ H (auU Q y)
def auW(ty td:TE):TE:=fun σ H Q=>ty σ H (auV td σ Q)
inductive auX(D:Ends)(σ:St)(v x y:V)(H:ao):Prop
 |mk (a:au) (bC:ao) (ex:x=.ref a) (p:tB H a y v bC) (q:D.cU σ bC)
def auY(ty:TE)(D:Ends)(σ:St)(v x:V)(H:ao):Prop:=ty σ H (auX D σ v x)
def auZ(td ty:TE)(D:Ends)(σ:St)(v:V)(H:ao):Prop:=td σ H (auY ty D σ v)
def au0(td ty q':TE):TS:=fun D σ H=>q' σ H (auZ td ty D σ)
section
variable{X:bT}{o i e value:Expr}{pos pos' r9:Pos}{td ty q':TE}
theorem au1(cF:X.A.units+1<cLine)(bB:PE X o td)(hi:PE X i ty)(aH:akx i):PE X (.Subscript o i pos) (auQ td ty):=by
 intro pins s σ H Q I h;refine auM PySem.F.slot_dict_getitem.lookup aH (cL (bB pins s σ H _ I h) fun u s1 ⟨x,H1,bp,cc,bU⟩=>cL (hi pins s1 σ H1 _ bp bU) fun hR s2 aU=>?_);obtain⟨y,aB,dK,b4,a,v,ex,g,cB⟩:=aU;subst ex;obtain rfl:u=Value.ref a:=cc;exact⟨auN dK g,auI cF dK g b4 fun w' s3 eV nU=>⟨v,aB,eV,nU,cB⟩⟩
theorem ab_(cF:X.A.units+1<cLine)(hi:PE X i ty)(bB:PE X o td):PC X .In i o (auT ty td):=by
 intro pins s σ H Q I h;refine cL (hi pins s σ H _ I h) fun hR s1 ⟨y,H1,bp,b4,bU⟩=>cL (bB pins s1 σ H1 _ bp bU) fun u s2 aU=>?_;obtain⟨x,aB,dK,cc,a,f5,ex,g,cB⟩:=aU;subst ex;obtain rfl:u=Value.ref a:=cc;exact auJ cF dK g b4 fun s3 eV=>⟨.bl f5.isSome,aB,eV,rfl,cB⟩
theorem au2(cF:X.A.units+1<cLine)(hi:PE X i ty)(bB:PE X o td):PC X .NotIn i o (auW ty td):=by
 intro pins s σ H Q I h;refine cL (hi pins s σ H _ I h) fun hR s1 ⟨y,H1,bp,b4,bU⟩=>cL (bB pins s1 σ H1 _ bp bU) fun u s2 aU=>?_;obtain⟨x,aB,dK,cc,a,f5,ex,g,cB⟩:=aU;subst ex;obtain rfl:u=Value.ref a:=cc;exact auK cF dK g b4 fun s3 eV=>⟨.bl (!f5.isSome),aB,eV,rfl,cB⟩
theorem Ka(cF:X.A.units+1<cLine)(bB:PE X o td)(hi:PE X i ty)(a0:PE X value q')(aH:swapsWith value (some (.Subscript o i pos')) pos.line X.env=pure false) :
  PS X (.Assign [.Subscript o i pos'] value pos) (au0 td ty q'):=by
 intro pins s σ H D I h;refine wpAny_Assign_Subscript (cL (a0 pins s σ H _ I h) fun r s1 ⟨v,H1,bp,e0,bU⟩=>cL (bB pins s1 σ H1 _ bp bU) fun u s2 ⟨x,aB,dK,cc,cB⟩=>cL (hi pins s2 σ aB _ dK cB) fun hR s3 aU=>?_) aH;obtain⟨y,aJ,eV,b4,a,bC,ex,g,dZ⟩:=aU;subst ex;obtain rfl:u=Value.ref a:=cc;exact auL cF eV g b4 e0 fun s4 mb=>⟨σ,bC,mb,dZ⟩
end
theorem au3{P:fx}{w:e4}{H:ao}(h:Heap)(ak:sysModules<h.objs.size):hP P w H (h.push { cls:=.type "dict",data:=.dict #[] }) h.objs.size (.dX []) :=
 ⟨eZ _,beq_eq_false_iff_ne.mpr (Ne.symm (gU ak)),[],.nil,Heap.DictOf.new h⟩
theorem au4{P:fx}{w:e4}{H:ao}(h:Heap)(ak:sysModules<h.objs.size):hP P w H (h.push { cls:=.type "dict",data:=.dict #[] }) h.objs.size (.gF []) :=
 ⟨eZ _,beq_eq_false_iff_ne.mpr (Ne.symm (gU ak)),[],.nil,_,#[],0,lV _ rfl,⟨rfl,rfl,rfl⟩,rfl,rfl,List.nodup_nil⟩
def au5:TE:=fun _ H Q=>∀ p,H p=none->Q (.ref p) (upd H p (.dX []))
def au6:TE:=fun _ H Q=>∀ p,H p=none->Q (.ref p) (upd H p (.gF []))
section
variable{X:bT}{pos:Pos}
theorem FN:PE X (.Dict [] [] pos) au5:=fun pins s σ H Q I h =>
 wpAny_Dict_empty ⟨.ref s.heap.objs.size,_,I.laid (a:=s.heap.objs.size) (o:=.dX []) (t':=s.toks) (fun _ _ q=>iC _ q) (cH _) (au3 s.heap I.big),rfl,h _ (I.bL.fresh (cH _))⟩
theorem au7:PE X (.Dict [] [] pos) au6:=fun pins s σ H Q I h =>
 wpAny_Dict_empty ⟨.ref s.heap.objs.size,_,I.laid (a:=s.heap.objs.size) (o:=.gF []) (t':=s.toks) (fun _ _ q=>iC _ q) (cH _) (au4 s.heap I.big),rfl,h _ (I.bL.fresh (cH _))⟩
end
def mD(kvs more:List (Key×V)):List (Key×V):=more.foldl (fun acc bD=>putK acc bD.1 bD.2) kvs
theorem KV.merge:∀ {more:List (Key×V)} {rs:List (Key×aO)} {kvs:List (Key×V)} {vs:List (Key×aO)},KV more rs->KV kvs vs->KV (mD kvs more) (merged vs rs):=by
 intro more rs kvs vs r;unfold KV at r;induction r generalizing kvs vs with
 |nil=>intro q;exact q
 | @cons p q ps oU h t bV =>
  intro kB;have e:KV (putK kvs p.1 p.2) (stored vs q.1 q.2):=by
   have:=kB.put p.1 h.2;rw[← h.1];exact this
  exact bV e
theorem ab':∀ (more kvs:List (Key×V)),(mD kvs more).length<=kvs.length+more.length
 | [],kvs=>by show kvs.length<=kvs.length+0;omega
 |p::r,kvs=>by
  have h1:=ab' r (putK kvs p.1 p.2);have aC:=Bx kvs p.1 p.2;show(mD (putK kvs p.1 p.2) r).length<=_;rw[eo];omega
structure M1(X:bT)(o:Expr)(m:Str)(apos:Pos)(e:Expr)(h8:Pos):Prop where
 base:attributeBase o m X.env (eval o X.env)=eval o X.env
 few:((backTo h8 (starEach [e] X.env)).all (fun x=>!x.1) && (backToKw h8 (keywordEach [] X.env)).all (fun x=>x.1.isSome)
  && decide (([e]:List Expr).length+([]:List Keyword).length+(if([]:List Keyword).isEmpty then 0 else 1)<30))=true
 line:(apos.endLine == h8.line)=true
 trees:backTo h8 (starEach [e] X.env)=[(false,eval e X.env)]
structure M2(X:bT)(o:Expr)(m:Str)(apos:Pos)(e f:Expr)(h8:Pos):Prop where
 base:attributeBase o m X.env (eval o X.env)=eval o X.env
 few:((backTo h8 (starEach [e,f] X.env)).all (fun x=>!x.1) && (backToKw h8 (keywordEach [] X.env)).all (fun x=>x.1.isSome)
  && decide (([e,f]:List Expr).length+([]:List Keyword).length+(if([]:List Keyword).isEmpty then 0 else 1)<30))=true
 line:(apos.endLine == h8.line)=true
 trees:backTo h8 (starEach [e,f] X.env)=[(false,eval e X.env),(false,eval f X.env)]
def V2(H:ao)(a:au):Prop:=(∃ kvs,sY H a (.dX kvs))\/∃ kvs,sY H a (.gF kvs)
theorem acd{X:bT}{pins:List (au×Obj)}{σ:St}{H:ao}{s:aY}{a:au}(I:Inv X pins σ H s)(d:V2 H a) :
  s.TypeIs (.ref a) "dict"/\(∀ b,Value.ref a=.ref b->∃ cY,s.heap.get? b=some cY/\cY.dict=none)/\(a == sysModules)=false:=by
 rcases d with⟨kvs,e⟩|⟨kvs,e⟩
 ·obtain⟨_,hd,vs,_,dd⟩:=yG I.bL e;refine⟨dd.typeIs,fun b q=>?_,hd⟩;cases q;obtain⟨cY,_,_,h1,aC,_⟩:=dd;exact⟨cY,h1,aC.2.1⟩
 ·obtain⟨_,hd,xs,_,dd⟩:=yI I.bL e;refine⟨dd.typeIs,fun b q=>?_,hd⟩;cases q;obtain⟨cY,_,_,h1,aC,_⟩:=dd;exact⟨cY,h1,aC.2.1⟩
section
variable{X:bT}{pins:List (au×Obj)}{σ:St}{H:ao}{s:aY}{a:au}{y d:V}{u r:aO}{o:Option V}{A:Around}{E:aO->aY->Prop}
theorem au8{Q:aO->aY->Prop}(cF:A.units+1<cLine)(I:Inv X pins σ H s)(g:hU H a y o)(b4:RelV y u)(h:∀ w' s',Inv X pins σ H s'->RelV (o.getD .non) w'->Q w' s') :
  wpAny (model X.prog X.w) A (call (.builtin "dict.get") [.ref a,u]) Q E s:=by
 rcases g with⟨kvs,k,e,gk,l⟩|⟨kvs,k,b,e,gk,dN,l⟩
 ·subst gk;obtain⟨z,hd,vs,rel,dd⟩:=yG I.bL e;refine call_meetsIn Ed dd.typeIs Un (PySem.F.args_dict_get_2 _ _) (meets_dict_get (iT X.prog X.w) a (wX b4) hd) ⟨_,dd.mapOf,h _ _ (I.tok _) ?_⟩;rw[l];exact(rel.val k).getD rfl
 ·subst gk;cases (show u=Value.ref b from b4);obtain⟨z,hd,xs,rel,dd⟩:=yI I.bL e;refine call_meetsIn Ed dd.typeIs Un (PySem.F.args_dict_get_2 _ _) (meetsH_dict_get (tupleKind (iT X.prog X.w)) a b hd) ⟨tupleKind_room_in1 cF,k,xs,yH I.bL dN,dd,h _ _ (I.tok _) ?_⟩;rw[l];exact(rel.val k).getD rfl
theorem au9{Q:aO->aY->Prop}(cF:A.units+1<cLine)(I:Inv X pins σ H s)(g:hU H a y o)(b4:RelV y u)(rd:RelV d r)(h:∀ w' s',Inv X pins σ H s'->RelV (o.getD d) w'->Q w' s') :
  wpAny (model X.prog X.w) A (call (.builtin "dict.get") [.ref a,u,r]) Q E s:=by
 rcases g with⟨kvs,k,e,gk,l⟩|⟨kvs,k,b,e,gk,dN,l⟩
 ·subst gk;obtain⟨z,hd,vs,rel,dd⟩:=yG I.bL e;refine call_meetsIn Ed dd.typeIs Un (PySem.F.args_dict_get_3 _ _ _) (meets_dict_get_default (iT X.prog X.w) a (wX b4) hd r) ⟨_,dd.mapOf,h _ _ (I.tok _) ?_⟩;rw[l];exact(rel.val k).getD rd
 ·subst gk;cases (show u=Value.ref b from b4);obtain⟨z,hd,xs,rel,dd⟩:=yI I.bL e;refine call_meetsIn Ed dd.typeIs Un (PySem.F.args_dict_get_3 _ _ _) (meetsH_dict_get_default (tupleKind (iT X.prog X.w)) a b hd r) ⟨tupleKind_room_in1 cF,k,xs,yH I.bL dN,dd,h _ _ (I.tok _) ?_⟩;rw[l];exact(rel.val k).getD rd
end
inductive au_(Q:bA)(a:au)(y:V)(H:ao):Prop
 |mk (o:Option V) (g:hU H a y o) (q:Q (o.getD .non) H)
inductive au'(ty:TE)(σ:St)(Q:bA)(x:V)(H:ao):Prop
 |mk (a:au) (ex:x=.ref a) (d:V2 H a) (q:ty σ H (au_ Q a))
def ava(td ty:TE):TE:=fun σ H Q=>td σ H (au' ty σ Q)
inductive avb(Q:bA)(a:au)(y z:V)(H:ao):Prop
 |mk (o:Option V) (g:hU H a y o) (q:Q (o.getD z) H)
def avc(tx:TE)(σ:St)(Q:bA)(a:au)(y:V)(H:ao):Prop:=tx σ H (avb Q a y)
inductive avd(ty tx:TE)(σ:St)(Q:bA)(x:V)(H:ao):Prop
 |mk (a:au) (ex:x=.ref a) (d:V2 H a) (q:ty σ H (avc tx σ Q a))
def ave(td ty tx:TE):TE:=fun σ H Q=>td σ H (avd ty tx σ Q)
section
variable{X:bT}{o e f:Expr}{apos h8:Pos}{td ty tx:TE}
theorem Kc(cF:X.A.units+1<cLine)(bB:PE X o td)(he:PE X e ty)(m:M1 X o "get" apos e h8):PE X (.Call (.Attribute o "get" apos) [e] [] h8) (ava td ty):=by
 intro pins s σ H Q I h;refine wpAny_Call_method m.base m.few m.line PySem.F.plainAttrs_dict Ed PySem.F.type_dict_get (cL (bB pins s σ H _ I h) fun u s1 aU=>?_);obtain⟨x,H1,bp,cc,a,ex,d,bU⟩:=aU;subst ex;obtain rfl:u=Value.ref a:=cc;obtain⟨t1,t2,_⟩:=acd bp d;refine⟨t1,t2,?_⟩;rw[m.trees];refine Calls.callWith_builtin rfl (Calls.evalArgs_plain (Calls.spliced_cons (cL (he pins s1 σ H1 _ bp bU) fun hR s2 ⟨y,aB,dK,b4,f5,g,cB⟩=>Calls.spliced_nil ?_)));exact au8 cF dK g b4 fun w' s3 eV nU=>⟨_,aB,eV,nU,cB⟩
theorem FP(cF:X.A.units+1<cLine)(bB:PE X o td)(he:PE X e ty)(hf:PE X f tx)(m:M2 X o "get" apos e f h8):PE X (.Call (.Attribute o "get" apos) [e,f] [] h8) (ave td ty tx):=by
 intro pins s σ H Q I h;refine wpAny_Call_method m.base m.few m.line PySem.F.plainAttrs_dict Ed PySem.F.type_dict_get (cL (bB pins s σ H _ I h) fun u s1 aU=>?_);obtain⟨x,H1,bp,cc,a,ex,d,bU⟩:=aU;subst ex;obtain rfl:u=Value.ref a:=cc;obtain⟨t1,t2,_⟩:=acd bp d;refine⟨t1,t2,?_⟩;rw[m.trees];refine Calls.callWith_builtin rfl (Calls.evalArgs_plain (Calls.spliced_cons (cL (he pins s1 σ H1 _ bp bU) fun hR s2 ⟨y,aB,dK,b4,cB⟩ =>
  Calls.spliced_cons (cL (hf pins s2 σ aB _ dK cB) fun fv s3 ⟨z,aJ,eV,Fw,f5,g,dZ⟩=>Calls.spliced_nil ?_))))
 exact au9 cF eV g b4 Fw fun w' s4 mb nU=>⟨_,aJ,mb,nU,dZ⟩
end
theorem avf:typeLookup (.type "list") "keys"=pure none:=am_miss_of_fast (by first|decide +kernel|rfl)
theorem V3:entryFor table "dict.update.loop"=some Builtin.«dict.update.loop»:=entryFor_of_tree (by kernel_rfl)
theorem ve:plainId "dict.update.loop"=true:=by decide +kernel
section
variable{prog:fx}{w:e4}{A:Around}{E:aO->aY->Prop}
theorem aky{s:aY}{a:au}{o:Obj}{xs:Array aO}{k:Nat}{Q:Option aO->aY->Prop}(aq:s.heap.get? a=some o)(aV:o.cls=.type "list") (sg:o.data=.seq xs k) (hd:o.dict=none) (mC:A.handled=none)
  (h:∀ h' tk,(∀ b cY,s.heap.get? b=some cY->h'.get? b=some cY)->Q none { s with heap:=h',toks:=tk }):wpAny (model prog w) A (getAttr? (.ref a) "keys") Q E s:=by
 obtain⟨c,dct,dat,fM⟩:=o;simp only at aV sg hd;subst aV sg hd;obtain⟨aL,g,d,tk,os⟩:=s;have cx:∀ akz,(⟨aL,g,d,akz,os⟩:aY).TypeIs (.ref a) "list":=fun _=>⟨_,aq,rfl⟩;have avh:=avf;have avi:(["__module__","__name__","__qualname__","__doc__","__annotations__"]:List Str).contains "keys"=false:=by decide +kernel
 have hsz:("keys":Str).length+100<=sizeLine:=by first|size_fits|decide +kernel
 have f1:=sub_AttributeError;have fK:=PySem.F.slot_list_getattribute.lookup;have f4:=PySem.F.slot_list_getattribute.bind (.ref a);have m6:=am_list_getattr_none;unfold getAttr? getAttrBy? getAttrBy
 repeat (any_goals (first|assumption|exact cx _|((with_reducible show wpAny _ _ (call (Value.builtin "list.__getattribute__") _ _) _ _ _);refine call_meets PySem.F.slot_list_getattribute (cx _) am_entry_list_getattribute (PySem.F.args_list_getattribute_2 _ _) (meets_getattribute_miss_list a xs k fM "keys" _ avh avi hsz) ⟨aq,mC,fun h' akz e Kd=>?_⟩)|wp_step))
 obtain⟨t',u',he⟩:=Kd.there;show wpAny _ _ (getattributeRaised _ _ _ _ _ _ _) _ _ _;unfold getattributeRaised
 repeat (any_goals (first|assumption|wp_step))
 all_goals first|exact h _ _ Kd.keeps|(dsimp only;repeat (any_goals (first|assumption|exact h _ _ Kd.keeps|wp_step)))
theorem akA{R:Result->aY->Prop}{S I l:au}{items:Array aO}{res:aO}(hh:A.handled=none)(Ke:l≠I)(wY:S≠I)(Kf:S≠l) :
  ∀ (rest:List (Key×aO)) (i:Nat) (acc:List (Key×aO)) (tA:Int) (t:Tok) (s:aY),items.size=i+rest.length->acc.length+rest.length<=sizeLine ->
   (∀ (j:Nat) (q:Key×aO),rest[j]?=some q->∃ (b:au) (u:aO),items[i+j]?=some (.ref b)/\b≠S/\b≠I/\IsTup s.heap b #[u,q.2]/\uT q.1 u=true) ->
   s.heap.IsListIter I l i->s.heap.IsList l items->s.heap.DictOf (iT prog w) S acc ->
   (∀ h' tk,h'.DictOf (iT prog w) S (merged acc rest)->(∀ b o,b≠S->b≠I->s.heap.get? b=some o->h'.get? b=some o)->R (.ok (.ret res)) { s with heap:=h',toks:=tk }) ->
   codeAny (model prog w) A (.builtin "dict.update.loop" ⟨[.ref S,.ref I,.int tA t,res],[]⟩) R s
 | [],i,acc,tA,t,s,hsz,jj,b_,hit,aF,hm,mz=>by
  refine codeAny_builtin V3 ?_;rw[Around.under_plainId ve _];show wpAny _ A.in1 (pyNext (.ref I) >>= _) _ _ s;refine wpAny_bind (wpAny_pyNext_list_end (A:=A.in1) hh hit aF (by first|exact Array.getElem?_eq_none (Aj hsz)|(simp at hsz;simp;omega)) fun h' he=>?_);show wpAny _ A.in1 (Builtin.Dict.addKeywords S [] >>= _) _ _ _;refine wpAny_bind (wpAny_pure (wpAny_pure ?_));exact mz h' s.toks (hm.extBut he wY) fun b o _ ak e=>he b o ak e
 |q::rest,i,acc,tA,t,s,hsz,jj,b_,hit,aF,hm,mz=>by
  obtain⟨b,u,ak,avj,ace,acf,aN⟩:=b_ 0 q rfl;rw[eo]at hsz jj;refine codeAny_builtin V3 ?_;rw[Around.under_plainId ve _];show wpAny _ A.in1 (pyNext (.ref I) >>= _) _ _ s;refine wpAny_bind (wpAny_pyNext_list_item (x:=.ref b) hit aF (by simpa using ak) fun h1 acg pC=>?_);have Jo:IsTup h1 b #[u,q.2]:=acf.extBut pC.extBut ace;have kE:h1.IsList l items:=aF.extBut pC.extBut Ke;have Kg:h1.DictOf (iT prog w) S acc:=hm.extBut pC.extBut wY;obtain⟨o,bB,aV,n,hd⟩:=id Jo;show wpAny _ A.in1 (holding [Value.ref b] _ >>= _) _ _ _;refine wpAny_bind (wpAny_holding ?_);refine wpAny_bind (wpAny_tryCatch ?_);unfold Builtin.Dict.pairItems;refine wpAny_bind (wpAny_typeOf (T:="tuple") ⟨o,bB,aV⟩ ?_);rw[bM (by first|decide|rfl|simp)];refine wpAny_bind (wpAny_seqItems bB hd (wpAny_pure ?_));show wpAny _ A.in1 (holding [u,q.2] (dictSet S u q.2)) _ _ _;refine wpAny_holding (wpAny_dictSet_pairs (knd:=iT prog w) (k:=q.1) aN Kg (fun aC yJ lJ=>?_) (by omega));refine wpAny_pure ⟨plainId_quiet ve _,akA (items:=items) hh Ke wY Kf rest (i+1) (stored acc q.1 q.2) (tA+1) 0 _ (show items.size=i+1+rest.length by omega) ?_ (fun j d9 e=>?_) ?_ ?_ yJ fun h' tk lD k=>?_⟩
  ·have z:=stored_length_le acc q.1 q.2
   omega
  ·obtain⟨b',u',g9,Kh,Kl,ach,Bw⟩:=b_ (j+1) d9 (by simpa using e);refine⟨b',u',?_,Kh,Kl,(ach.extBut pC.extBut Kl).extBut lJ.extBut Kh,Bw⟩;rw[show i+1+j=i+(j+1) by omega];exact g9
  ·exact acg.at fun hG e=>lJ.extBut I hG (Ne.symm wY) e
  ·exact kE.extBut lJ.extBut (Ne.symm Kf)
  ·exact mz h' tk lD fun c jL bI dz e=>k c jL bI dz (lJ.extBut c jL bI (pC.extBut c jL dz e))
theorem avk{s:aY}{l:au}{ol:Obj}{items:Array aO}{n:Nat}{prs:List (Key×aO)}{Q:aO->aY->Prop}(hh:A.handled=none)(aF:s.heap.get? l=some ol)(aV:ol.cls=.type "list") (hd:ol.dict=none)
  (sg:ol.data=.seq items n) (hsz:items.size=prs.length) (jj:prs.length<=sizeLine)
  (b_:∀ (j:Nat) (q:Key×aO),prs[j]?=some q->∃ (b:au) (u:aO),items[j]?=some (.ref b)/\IsTup s.heap b #[u,q.2]/\uT q.1 u=true)
  (h:∀ h' tk,h'.DictOf (iT prog w) s.heap.objs.size (merged [] prs)->(∀ b o,s.heap.get? b=some o->h'.get? b=some o)->Q (.ref s.heap.objs.size) { s with heap:=h',toks:=tk }) :
  wpAny (model prog w) A (call (.type "dict") [.ref l]) Q E s:=by
 refine callType_codes (Q₁:=fun obj fV=>obj=.ref s.heap.objs.size/\fV={ s with heap:=s.heap.push { cls:=.type "dict",data:=.dict #[] } }) PySem.F.kt_called_dict (PySem.F.kt_typeCall_dict_1 _) PySem.F.entry_dict_init (kt_code_dict_new _ ⟨rfl,rfl⟩) ?_;rintro obj fV ⟨rfl,rfl⟩;have BK:(s.heap.push { cls:=.type "dict",data:=.dict #[] }).DictOf (iT prog w) s.heap.objs.size []:=Heap.DictOf.new s.heap;have k0:∀ b o,s.heap.get? b=some o->(s.heap.push { cls:=.type "dict",data:=.dict #[] }).get? b=some o:=fun b o e=>iC _ e;refine⟨BK.typeIs,PySem.F.args_dict_init_2 _ _,?_⟩;unfold Builtin.«dict.__init__»;refine wpAny_bind ?_;unfold Builtin.Dict.selfAndRest;refine wpAny_bind (wpAny_notOrdered_dict BK.typeIs ?_);show wpAny _ _ (pure (s.heap.objs.size,[Value.ref l])) _ _ _;refine wpAny_pure ?_;show wpAny _ _ (Builtin.Dict.updateFrom "dict.__init__" s.heap.objs.size (.ref l) [] .none) _ _ _;unfold Builtin.Dict.updateFrom;refine wpAny_bind (wpAny_typeOf (T:="list") ⟨ol,k0 _ _ aF,aV⟩ ?_);rw[bM (by first|decide|rfl|simp)];refine wpAny_bind (aky (k0 _ _ aF) aV sg hd hh fun h1 aci nf=>?_);rw[bM (show(none:Option aO).isNone=true from rfl)];refine wpAny_bind (wpAny_rule ?_);have kE:h1.IsList l items:=⟨ol,nf _ _ (k0 _ _ aF),aV,n,sg⟩;have j2:s.heap.objs.size<h1.objs.size:=by
  have e:(s.heap.push { cls:=.type "dict",data:=.dict #[] }).get? s.heap.objs.size=some { cls:=.type "dict",data:=.dict #[] }:=lV _ rfl;exact fH (nf _ _ e)
 refine wpAny_bind (wpAny_pyIter_list kE ?_);have k2:∀ b o,h1.get? b=some o->(h1.push { cls:=.type "list_iterator",data:=.fields #[.ref l,.int 0 0] }).get? b=some o:=fun b o e=>iC _ e;have c0:l<s.heap.objs.size:=fH aF;have key:=akA (prog:=prog) (w:=w) (A:=A.in1) (R:=wants (fun r lZ=>r=.none/\Q (.ref s.heap.objs.size) lZ) E) (S:=s.heap.objs.size) (I:=h1.objs.size) (l:=l) (items:=items) (res:=Value.none) hh
  (gU (rZ c0 j2)) (gU j2) (v8 c0) prs 0 [] 0 0
  { s with heap:=h1.push { cls:=.type "list_iterator",data:=.fields #[.ref l,.int 0 0] },toks:=aci } (by rw[hsz,p8]) (by rw[rY,p8];exact jj)
  (fun j q e=>by
   obtain⟨b,u,bF,a9,dw⟩:=b_ j q e;have ak:b<s.heap.objs.size:=a9.lt;exact⟨b,u,by rw[p8];exact bF,gU ak,gU (rZ ak j2),a9.keeps fun c o z=>k2 _ _ (nf _ _ (k0 _ _ z)),dw⟩)
  ⟨_,lV _ rfl,rfl,rfl⟩ (kE.at fun o e=>k2 _ _ e) ((BK.at fun o e=>nf _ _ e).at fun o e=>k2 _ _ e)
  (fun h' tk lD k=>⟨rfl,h h' tk lD fun b o e=>k b o (gU (fH e)) (gU (rZ (fH e) j2)) (k2 _ _ (nf _ _ (k0 _ _ e)))⟩)
 first
  |exact wpAny_pure ⟨plainId_quiet ve _,key⟩
  |exact wpAny_bind (wpAny_pure (wpAny_pure ⟨plainId_quiet ve _,key⟩))
end
section
variable{X:bT}
theorem akB{pins:List (au×Obj)}{σ:St}{H:ao}{s:aY}(I:Inv X pins σ H s):∀ {ps:d2} {kvs:List (Key×V)},Paired (fun p bD=>fO X.K H p [c3 bD.1,bD.2]) ps kvs ->
  ∃ prs:List (Key×aO),KV kvs prs/\prs.length=ps.length/\∀ (j:Nat) (q:Key×aO),prs[j]?=some q->∃ (b:au) (u:aO),ps[j]?=some b/\IsTup s.heap b #[u,q.2]/\uT q.1 u=true
 |_,_,.nil=>⟨[],.nil,rfl,fun j q e=>by simp at e⟩
 |_,_,.cons (a:=p) (b:=bD) h t=>by
  obtain⟨prs,r,aF,aL⟩:=akB I t;obtain⟨its,e0,b_,_⟩:=I.tuple h;obtain⟨u,y,u_,ho,b4⟩:=vals2 e0;subst u_;refine⟨(bD.1,y)::prs,.cons ⟨rfl,b4⟩ r,by rw[eo,eo,aF],fun j q e=>?_⟩;cases j with
  |zero =>
   have e':(bD.1,y)=q:=Option.some.inj e;subst e';exact⟨p,u,Z,b_,wX (P:=X.prog) (w:=X.w) ho⟩
  |succ j =>
   obtain⟨b,u',bF,a9,dw⟩:=aL j q (by simpa using e);exact⟨b,u',by simpa using bF,a9,dw⟩
theorem acj:∀ {ps:d2} {us:dH},Vals (ps.map V.ref) us->us=ps.map Value.ref
 | [],us,r=>by
  rw[v7]at r;cases r;rfl
 |p::ps,us,r=>by
  rw[fU]at r;cases r with
  |cons h t =>
   cases h;rw[fU,← acj t]
theorem V4(acn:X.calm=true):q9 X (.type "dict") (fun xs H Q=>∃ (a:au) (ps:d2) (kvs:List (Key×V)),xs=[.ref a]/\aT X.K H a (ps.map V.ref)/\Paired (fun p bD=>fO X.K H p [c3 bD.1,bD.2]) ps kvs /\
  ∀ p,H p=none->Q (.ref p) (upd H p (.dX (mD [] kvs)))):=by
 intro pins s σ H xs us Q I r q;obtain⟨a,ps,kvs,ex,a6,aL,q⟩:=q;subst ex;obtain⟨u,aco,cc⟩:=vals1 r;subst aco;cases cc;obtain⟨its,e0,pl,hz⟩:=I.list a6;have u_:=acj e0;subst u_;rw[ey]at hz;obtain⟨prs,rel,aF,jP⟩:=akB I aL;obtain⟨o,n,bB,aV,hd,sg⟩:=pl;refine avk (prs:=prs) (I.ok.hd acn) bB aV hd sg (by simp[aF]) (by rw[aF];exact hz) (fun j d9 e=>?_) fun h' tk lD k=>?_
 ·obtain⟨b,u,bF,a9,dw⟩:=jP j d9 e;exact⟨b,u,by simp[bF],a9,dw⟩
 ·have hm:(s.heap.objs.size == sysModules)=false:=beq_eq_false_iff_ne.mpr (v8 I.big)
  have hlen:(mD [] kvs).length<=sizeLine:=by
   refine jg (ab' kvs []) ?_;rw[rY,p8,rel.length,aF];exact hz
  exact⟨.ref s.heap.objs.size,upd H s.heap.objs.size (.dX (mD [] kvs)),I.laid (t':=tk) k (cH _) (show hP X.prog X.w _ _ _ (.dX (mD [] kvs)) from⟨hlen,hm,merged [] prs,KV.merge rel .nil,lD⟩),Z,q _ (I.bL.fresh (cH _))⟩
end
section
variable{X:bT}{pins:List (au×Obj)}{σ:St}{H:ao}{s:aY}{h':Heap}
theorem Inv.avl{t':Nat}{ch:d2}(I:Inv X pins σ H s)(k:∀ b o,b∉ch->s.heap.get? b=some o->h'.get? b=some o)(hf:∀ b∈ch,q8 X pins H b):Inv X pins σ H { s with heap:=h',toks:=t' }:=by
 have yp:∀ b u,H b=some u->b∉ch:=fun b u e z=>by
  have q:=(hf b z).1;rw[q]at e;cases e
 refine I.step (g':=s.gens) (d':=s.drawn) (ch:=ch) (fun b ak=>⟨(hf b ak).2.2.2.1,(hf b ak).2.1,(hf b ak).2.2.2.2.1,(hf b ak).2.2.2.2.2⟩) (fun b o _ _ aV e _=>k b o aV e) (fun b o _ _ aV e _=>⟨o.slots,k b o aV e⟩)
  (fun _ _ _ _ n=>n) (fun b o aV e=>⟨o,k b o aV e⟩) (fun _ _ e=>e) (fun _ _ _ e=>e) (fun b ps e=>⟨#[],by rw[e];simp⟩) (fun m hm=>?_) (fun b u e=>?_) I.bare
 ·obtain⟨o,es,ep,bB,r⟩:=hm;exact⟨o,es,ep,k _ o (fun z=>(hf _ z).2.1 rfl) bB,r⟩
 ·refine(I.bL b u e).stay (fun c v aV q=>k c v ?_ q) (fun _ q=>q) fun _ _ q=>q;rcases aV with z|z
  ·rw[z];exact yp b u e
  ·exact yp c _ z
theorem Inv.akC{t':Nat}{ch:d2}{T:au}{cY:HO}(I:Inv X pins σ H s)(k:∀ b o,b∉ch->s.heap.get? b=some o->h'.get? b=some o)(hf:∀ b∈ch,q8 X pins H b)(cx:s.heap.objs.size<=T)
  (new:hP X.prog X.w (upd H T cY) h' T cY):Inv X pins σ (upd H T cY) { s with heap:=h',toks:=t' }:=by
 have aR:H T=none:=I.bL.fresh cx;have yp:∀ b u,H b=some u->b∉ch:=fun b u e z=>by
  have q:=(hf b z).1;rw[q]at e;cases e
 refine I.step (g':=s.gens) (d':=s.drawn) (ch:=ch) (fun b ak=>⟨(hf b ak).2.2.2.1,(hf b ak).2.1,(hf b ak).2.2.2.2.1,(hf b ak).2.2.2.2.2⟩) (fun b o _ _ aV e _=>k b o aV e) (fun b o _ _ aV e _=>⟨o.slots,k b o aV e⟩)
  (fun b o _ e n=>?_) (fun b o aV e=>⟨o,k b o aV e⟩) (fun b xs e=>?_) (fun b o u e=>?_) (fun b ps e=>⟨#[],?_⟩) (fun m hm=>?_) (fun b u e=>?_) I.bare
 ·rw[a7 (gU (lq (fH e) cx))];exact n
 ·rw[a7 (bR e aR)];exact e
 ·rw[a7 (bR e aR)];exact e
 ·rw[a7 (bR e aR),e];simp
 ·obtain⟨o,es,ep,bB,r⟩:=hm;exact⟨o,es,ep,k _ o (fun z=>(hf _ z).2.1 rfl) bB,r⟩
 ·by_cases ak:b=T
  ·subst ak;rw[a8]at e;cases e;exact new
  ·rw[a7 ak]at e;refine(I.bL b u e).stay (fun c v aV q=>k c v ?_ q) (fun c q=>by rw[a7 (bR q aR)];exact q) fun c xs q=>by rw[a7 (bR q aR)];exact q
   rcases aV with z|z
   ·rw[z];exact yp b u e
   ·exact yp c _ z
end
def yK(K:cp)(a:au):It :=
 ⟨fun i H=>∃ (xs:List V) (x:V),aT K H a xs/\xs[i]?=some x,fun i H v H'=>∃ T x,v=.ref T/\H T=none/\H'=upd H T (.tup [.int (i:Nat),x])/\∀ xs,aT K H a xs->xs[i]?=some x,fun i H=>∃ xs:List V,aT K H a xs/\xs.length<=i⟩
theorem avm{P:fx}{w:e4}{K:cp}{elts:List Expr}{dB:Nat}{r9:Pos}(a e it:au) :
  Turn P w K (.Tuple elts dB r9) (yK K a) [e,it] e (fun i h=>(∃ old,IsEnum h e it ((i:Nat):Int) old)/\h.IsListIter it a i/\e≠it) where
 mem:=by simp
 obj:=fun i h st b ak=>by
  obtain⟨⟨old,he⟩,⟨o,bB,aV,hd⟩,_⟩:=st;have e':b=e\/b=it:=by simpa using ak
  rcases e' with z|z
  ·rw[z];exact⟨_,he,fun v q=>nomatch q⟩
  ·rw[z];exact⟨o,bB,fun v q=>by rw[hd]at q;cases q⟩
 keep:=fun i h h' st k=>let ⟨⟨old,he⟩,hi,mY⟩:=st;⟨⟨old,k e (by simp) _ he⟩,hi.at fun o q=>k it (by simp) o q,mY⟩
 item:=by
  intro X gK hw hv aV i pins s σ H E I hf st b5;subst gK hw hv;obtain⟨⟨old,he⟩,hit,mY⟩:=st;obtain⟨xs,x,a6,aq⟩:=b5;obtain⟨its,e0,p,hz⟩:=I.list a6;obtain⟨u,cF,ho⟩:=e0.get aq;have V5:e<s.heap.objs.size:=fH he;have Km:it<s.heap.objs.size:=by obtain⟨_,q,_⟩:=hit;exact fH q
  refine wpAny_pyNext_enum_item he hit p.isList (x:=u) (by simpa using cF) mY fun h' bB avn cx hsz aN=>?_;refine⟨_,Z,wpAny_letOwnedTupleGo_enum (s:={ s with heap:=h',toks:=s.toks+1 }) bB fun yL avo fW=>?_⟩;have acp:yL.get? s.heap.objs.size=some { cls:=.type "tuple",data:=.seq #[.int i s.toks,u] }:=(fW.2 _ (v8 V5)).trans cx;have new:hP X.prog X.w (upd H s.heap.objs.size (.tup [.int (i:Nat),x])) yL s.heap.objs.size (.tup [.int (i:Nat),x]) :=
   ⟨by show 2<=sizeLine;decide,[.int i s.toks,u],.cons ⟨_,rfl⟩ (.cons ho .nil),⟨_,acp,rfl,_,rfl⟩⟩
  have bp:Inv X pins σ (upd H s.heap.objs.size (.tup [.int (i:Nat),x])) { s with heap:=yL,toks:=s.toks+1 } :=
   I.akC (ch:=[e,it]) (fun b cY ak q=>(fW.2 b (fun z=>ak (by simp[z]))).trans (aN b cY (fun z=>ak (by simp[z])) (fun z=>ak (by simp[z])) q)) hf (cH _) new
  refine⟨.ref s.heap.objs.size,_,bp,Z,⟨_,x,Z,I.bL.fresh (cH _),Z,fun bO aP=>by rw[I.Vk aP a6];exact aq⟩,⟨⟨u,?_⟩,avn.at fun o q=>(fW.2 it (Ne.symm mY)).trans q,mY⟩,fun b ak=>?_⟩
  ·have bF:((i+1:Nat):Int)=(i:Int)+1:=by omega
   rw[bF];exact avo
  ·have g9:b<s.heap.objs.size:=by
    have e':b=e\/b=it:=by simpa using ak
    rcases e' with z|z
    ·rw[z];exact V5
    ·rw[z];exact Km
   rw[a7 (gU g9)];exact(hf b ak).1
 done:=by
  intro X gK hw hv aV i pins s σ H E I hf st b5;subst gK hw hv;obtain⟨⟨old,he⟩,hit,mY⟩:=st;obtain⟨xs,a6,aq⟩:=b5;obtain⟨its,e0,p,hz⟩:=I.list a6;obtain⟨f0,f1,f2,fK,f4,m6⟩:=hf it (by simp);have aF:=e0.length;exact wpAny_pyNext_enum_end (I.ok.hd aV) he hit p.isList (by simp;omega) fun h' dN=>⟨rfl,I.turned (t':=s.toks) (fun b o ak q=>dN b o ak q) f0 f1 fK f4 m6⟩
 self:=fun A i s Q E st h=>let ⟨⟨_,he⟩,_⟩:=st;wpAny_pyIter_enum he h
def avp(K:cp)(cO:TA):TI:=fun σ H R=>cO σ H fun vs H1=>∃ a xs,vs=[.ref a]/\aT K H1 a xs/\R (yK K a) H1
theorem BL{X:bT}{e:Expr}{cO:TA}{p pos r9:Pos}{elts:List Expr}{dB:Nat}(b5:qw X "enumerate") (hm:X.av "enumerate"=none) (aX:PA X [e] cO) (aH:starEach [e] X.env=[(false,eval e X.env)]:=by rfl) :
  PI X (.Tuple elts dB r9) (.Call (.Name "enumerate" p) [e] [] pos) (avp X.K cO):=by
 intro pins s σ H R I h;refine Call_ (Fg I b5 hm boot_enumerate (PyProof.Rows.callWith_type1 (cL (aX pos pins s σ H _ I h) fun us s1 aU=>?_) aH rfl));obtain⟨vs,H1,bp,cI,bU⟩:=aU;obtain⟨a,xs,ex,a6,q⟩:=bU;subst ex;cases cI with
 |cons r l0 =>
  cases l0;cases r;obtain⟨its,e0,p',hz⟩:=bp.list a6;refine call_enumerate_list p'.isList fun h' he hit hsz aN=>wpAny_pyIter_enum he ?_;have dK:Inv X pins σ H1 { s1 with heap:=h' }:=bp.kept (t':=s1.toks) aN;refine⟨s1.heap.objs.size+1,[s1.heap.objs.size+1,s1.heap.objs.size],_,_,H1,Z,dK,avm a (s1.heap.objs.size+1) s1.heap.objs.size,⟨⟨.none,he⟩,hit,Nat.succ_ne_self _⟩,fun b ak=>?_,q⟩;have e':b=s1.heap.objs.size+1\/b=s1.heap.objs.size:=by simpa using ak
  have hle:s1.heap.objs.size<=b:=by
   rcases e' with z|z
   ·rw[z];exact I_ _ _
   ·rw[z];exact cH _
  exact bp.Bj hle (bp.bL.fresh hle)
theorem avq:bootBuiltins "zip"=some (.type "zip"):=by decide +kernel
def Ko(K:cp)(a b:au):It :=
 ⟨fun i H=>∃ (xs bO:List V) (x y:V),aT K H a xs/\aT K H b bO/\xs[i]?=some x/\bO[i]?=some y,
  fun i H v H'=>∃ T x y,v=.ref T/\H T=none/\H'=upd H T (.tup [x,y])/\(∀ xs,aT K H a xs->xs[i]?=some x)/\∀ bO,aT K H b bO->bO[i]?=some y,
  fun i H=>∃ xs bO:List V,aT K H a xs/\aT K H b bO/\(xs.length<=i\/bO.length<=i)⟩
theorem avr{P:fx}{w:e4}{K:cp}{elts:List Expr}{dB:Nat}{r9:Pos}{a b z TI TO i1 i2:au}(D:ZipApart z TI TO i1 i2 a b) :
  Turn P w K (.Tuple elts dB r9) (Ko K a b) [z,TI,TO,i1,i2] z (fun i h=>IsZip h z TI TO .none/\IsPair h TI (.ref i1) (.ref i2)/\(∃ x y,IsPair h TO x y)/\h.IsListIter i1 a i/\h.IsListIter i2 b i) where
 mem:=by simp
 obj:=fun i h st c aV=>by
  obtain⟨hz,tC,⟨x,y,vf⟩,⟨avs,bF,_,JK⟩,⟨avt,a9,_,avu⟩⟩:=st;have e':c=z\/c=TI\/c=TO\/c=i1\/c=i2:=by simpa using aV
  rcases e' with q|q|q|q|q
  ·rw[q];exact⟨_,hz,fun v q=>nomatch q⟩
  ·rw[q];exact⟨_,tC,fun v q=>nomatch q⟩
  ·rw[q];exact⟨_,vf,fun v q=>nomatch q⟩
  ·rw[q];exact⟨avs,bF,fun v q=>by rw[JK]at q;cases q⟩
  ·rw[q];exact⟨avt,a9,fun v q=>by rw[avu]at q;cases q⟩
 keep:=fun i h h' st k=>by
  obtain⟨hz,tC,⟨x,y,vf⟩,h1,aC⟩:=st;exact⟨k z (by simp) _ hz,k TI (by simp) _ tC,⟨x,y,k TO (by simp) _ vf⟩,h1.at fun o q=>k i1 (by simp) o q,aC.at fun o q=>k i2 (by simp) o q⟩
 item:=by
  intro X gK hw hv aV i pins s σ H E I hf st b5;subst gK hw hv;obtain⟨hz,tC,⟨x0,avv,vf⟩,h1,aC⟩:=st;obtain⟨xs,bO,x,y,FQ,FT,aq,aP⟩:=b5;obtain⟨its,e0,p,_⟩:=I.list FQ;obtain⟨rh,V6,nT,_⟩:=I.list FT;obtain⟨u,cF,ho⟩:=e0.get aq;obtain⟨u2,avw,avx⟩:=V6.get aP;have V7:z<s.heap.objs.size:=fH hz;refine wpAny_pyNext_zip_item D hz tC vf h1 aC p.isList nT.isList (x:=u) (y:=u2) (by simpa using cF) (by simpa using avw) fun h' lG avy Aq Ar cx hsz aN=>?_;refine⟨_,Z,wpAny_letOwnedTupleGo_zip (s:={ s with heap:=h' }) lG fun yL avz fW=>?_⟩;have acp:yL.get? s.heap.objs.size=some { cls:=.type "tuple",data:=.seq #[u,u2] }:=(fW.2 _ (v8 V7)).trans cx;have new:hP X.prog X.w (upd H s.heap.objs.size (.tup [x,y])) yL s.heap.objs.size (.tup [x,y]) :=
   ⟨by show 2<=sizeLine;decide,[u,u2],.cons ho (.cons avx .nil),⟨_,acp,rfl,_,rfl⟩⟩
  have bp:Inv X pins σ (upd H s.heap.objs.size (.tup [x,y])) { s with heap:=yL } :=
   I.akC (t':=s.toks) (ch:=[z,TI,TO,i1,i2]) (fun c o ak q=>(fW.2 c (fun d9=>ak (by simp[d9]))).trans (aN c o (fun d9=>ak (by simp[d9])) (fun d9=>ak (by simp[d9])) (fun d9=>ak (by simp[d9])) (fun d9=>ak (by simp[d9])) q)) hf (cH _) new
  refine⟨.ref s.heap.objs.size,_,bp,Z,⟨_,x,y,Z,I.bL.fresh (cH _),Z,fun l aF=>by rw[I.Vk aF FQ];exact aq,fun l aF=>by rw[I.Vk aF FT];exact aP⟩,⟨avz,?_,⟨u,u2,?_⟩,?_,?_⟩,fun c Jq=>?_⟩
  ·exact(fW.2 _ D.TIz).trans (aN _ _ D.TIz D.TITO D.TIi1 D.TIi2 tC)
  ·exact(fW.2 _ D.TOz).trans avy
  ·exact Aq.at fun o q=>(fW.2 _ D.i1z).trans q
  ·exact Ar.at fun o q=>(fW.2 _ D.i2z).trans q
  ·have c0:c<s.heap.objs.size:=by
    have e':c=z\/c=TI\/c=TO\/c=i1\/c=i2:=by simpa using Jq
    rcases e' with q|q|q|q|q
    ·rw[q];exact V7
    ·rw[q];exact fH tC
    ·rw[q];exact fH vf
    ·rw[q];obtain⟨_,bF,_⟩:=h1;exact fH bF
    ·rw[q];obtain⟨_,a9,_⟩:=aC;exact fH a9
   rw[a7 (gU c0)];exact(hf c Jq).1
 done:=by
  intro X gK hw hv aV i pins s σ H E I hf st b5;subst gK hw hv;obtain⟨hz,tC,⟨x0,avv,vf⟩,h1,aC⟩:=st;obtain⟨xs,bO,FQ,FT,U4⟩:=b5;obtain⟨its,e0,p,_⟩:=I.list FQ;obtain⟨rh,V6,nT,_⟩:=I.list FT;have l1:=e0.length;have l2:=V6.length;have he:its.toArray[i]?=none\/rh.toArray[i]?=none:=by
   rcases U4 with q|q
   ·exact .inl (by simp;omega)
   ·exact .inr (by simp;omega)
  exact wpAny_pyNext_zip_end (I.ok.hd aV) D hz tC vf h1 aC p.isList nT.isList he fun h' aN=>⟨rfl,I.avl (t':=s.toks) (ch:=[z,TI,TO,i1,i2]) (fun c o ak q =>
   aN c o (fun d9=>ak (by simp[d9])) (fun d9=>ak (by simp[d9])) (fun d9=>ak (by simp[d9])) (fun d9=>ak (by simp[d9])) q) hf⟩
 self:=fun A i s Q E st h=>wpAny_pyIter_zip st.1 h
def avA(K:cp)(cO:TA):TI:=fun σ H R=>cO σ H fun vs H1=>∃ a b xs bO,vs=[.ref a,.ref b]/\aT K H1 a xs/\aT K H1 b bO/\R (Ko K a b) H1
theorem akD{X:bT}{e a9:Expr}{cO:TA}{p pos r9:Pos}{elts:List Expr}{dB:Nat}(b5:qw X "zip") (hm:X.av "zip"=none) (aX:PA X [e,a9] cO)
  (aH:starEach [e,a9] X.env=(false,eval e X.env)::starEach [a9] X.env:=by rfl) (g8:(backTo pos (starEach [a9] X.env)).any (·.1)=false:=by rfl) :
  PI X (.Tuple elts dB r9) (.Call (.Name "zip" p) [e,a9] [] pos) (avA X.K cO):=by
 intro pins s σ H R I h;refine Call_ (Fg I b5 hm avq (PyProof.Rows.callWith_type1 (cL (aX pos pins s σ H _ I h) fun us s1 aU=>?_) aH g8));obtain⟨vs,H1,bp,cI,bU⟩:=aU;obtain⟨a,b,xs,bO,ex,FQ,FT,q⟩:=bU;subst ex;cases cI with
 |cons r l0 =>
  cases l0 with
  |cons r' l0 =>
   cases l0;cases r;cases r';obtain⟨its,e0,u9,_⟩:=bp.list FQ;obtain⟨rh,V6,nT,_⟩:=bp.list FT;have avB:a<s1.heap.objs.size:=u9.lt;have avC:b<s1.heap.objs.size:=nT.lt;refine call_zip_2 u9.isList nT.isList fun h' hz tC vf h1 aC hsz aN=>wpAny_pyIter_zip hz ?_;have dK:Inv X pins σ H1 { s1 with heap:=h' }:=bp.kept (t':=s1.toks) aN;refine⟨s1.heap.objs.size+4,[s1.heap.objs.size+4,s1.heap.objs.size+2,s1.heap.objs.size+3,s1.heap.objs.size,s1.heap.objs.size+1],_,_,H1,Z,dK,avr (PySem.W.ktu_apart s1.heap.objs.size a b avB avC),⟨hz,tC,⟨_,_,vf⟩,h1,aC⟩,fun c Jq=>?_,q⟩;have e':c=s1.heap.objs.size+4\/c=s1.heap.objs.size+2\/c=s1.heap.objs.size+3\/c=s1.heap.objs.size\/c=s1.heap.objs.size+1:=by simpa using Jq
   have hle:s1.heap.objs.size<=c:=by
    rcases e' with z|z|z|z|z
    ·rw[z];exact I_ _ _
    ·rw[z];exact I_ _ _
    ·rw[z];exact I_ _ _
    ·rw[z];exact cH _
    ·rw[z];exact I_ _ _
   exact bp.Bj hle (bp.bL.fresh hle)
end L2
section
namespace akE
open PySem PyProof.Rows
theorem avD{x y:Int}(aq:0<=x)(aP:0<=y):Builtin.bitOr x y=((x.toNat ||| y.toNat:Nat):Int):=by
 have e:=nat_or_add_and x.toNat y.toNat;rw[bitOr_and,bitAnd_pp aq aP];omega
end akE
end
namespace L2
open PySem PySem.Spec PyProof.Rows
def inClass(s:Stmt)(j:Nat):Stmt:=match s with
 | .ClassDef _ _ _ body _ _ _ _ _ _ _=>body.getD j (.Pass ⟨0,0,0,0⟩)
 |_=>.Pass ⟨0,0,0,0⟩
def sl(s:Stmt):Arguments:=match s with
 | .FunctionDef _ a _ _ _ _ _ _ _ _=>a
 |_=>{ posonlyargs:=[],args:=[],vararg:=none,kwonlyargs:=[],kw_defaults:=[],kwarg:=none,defaults:=[] }
def ri(s:Stmt):List Stmt:=match s with
 | .FunctionDef _ _ b _ _ _ _ _ _ _=>b
 |_=>[]
def cA(s:Stmt):Scope:=match s with
 | .FunctionDef _ _ _ _ _ _ sc _ _ _=>sc
 |_=>{ kind:=.function,names:=[],isGenerator:=false,isCoroutine:=false }
structure cu(K:cp)(x qual:Str)(st:Stmt)(f:au)(fd:cG):Prop where
 ex:∃ (jL:aO) (hQ:Option au) (c3 doc pm:aO) (an:Option au) (bK fu:aO) (pP:Array (Option aO)),
  fd=PySem.W.fnOf x qual (sl st) (ri st) (cA st) .none c3 doc pm an bK fu/\K.lookup f=some ⟨jL,hQ,.func fd,pP⟩/\PySem.W.codeIn K bK qual=true
 aG:PySem.W.keepIn K (.ref f)=true
section
variable{P:fx}{w:e4}{K:cp}{av:g_}{base:Heap}
theorem cu.binds{x qual:Str}{st:Stmt}{f:au}{fd:cG}{ps:List Str}(F:cu K x qual st f fd)
  (h:∀ (c3 doc pm:aO) (an:Option au) (bK fu:aO) (us:dH),us.length=ps.length->bindArgs (PySem.W.fnOf x qual (sl st) (ri st) (cA st) .none c3 doc pm an bK fu) ⟨us,[]⟩=pure (ps.zip us)):Binds K fd ps []:=by
 obtain⟨jL,hQ,c3,doc,pm,an,bK,fu,pP,rfl,lk,wK⟩:=F.ex;exact .all (h c3 doc pm an bK fu)
theorem acq{x qual:Str}{st:Stmt}{f:au}{jL:aO}{hQ an:Option au}{pP:Array (Option aO)}{c3 doc pm bK fu:aO}(l:K.lookup f=some ⟨jL,hQ,.func (PySem.W.fnOf x qual (sl st) (ri st) (cA st) .none c3 doc pm an bK fu),pP⟩)
  (c:PySem.W.codeIn K bK qual=true) (k:PySem.W.keepIn K (.ref f)=true):cu K x qual st f (PySem.W.fnOf x qual (sl st) (ri st) (cA st) .none c3 doc pm an bK fu):=⟨⟨jL,hQ,c3,doc,pm,an,bK,fu,pP,rfl,l,c⟩,k⟩
end
theorem hI.bh{A:Around}{j k:Nat}(h:hI k A)(aN:j<=k:=by decide):hI j A:=h.mono aN
theorem k6{A:Around}{k:Nat}(aA:hI k A):A.units+1<cLine:=Nat.lt_of_le_of_lt (Nat.add_le_add_left (by decide:1<=64) _) aA.units
section
variable{X:bT}
theorem aj(i:Nat){x:Str}{pos:Pos}(hn:X.N[i]?=some x:=by rfl)(a0:EY X.env.scope x:=by first|exact Or.inl rfl|exact Or.inr (Or.inl rfl)|exact Or.inr (Or.inr rfl))(hd:(x == ("__debug__":Str))=false:=by decide)
  (wK:(x == ("__classdict__":Str))=false:=by decide):PE X (.Name x pos) (gh i):=arW hn a0 hd wK
end
theorem FW{A B:Prop}(h:B):if false=true then A else B:=by
 rw[bx jr];exact h
theorem FZ{A B:Prop}(h:A):if true=true then A else B:=by
 rw[bM rfl];exact h
theorem dF{c A B:Prop}[Decidable c](h1:c->A)(aC:¬ c->B):if c then A else B:=by
 by_cases h:c
 ·rw[bM h];exact h1 h
 ·rw[bx h];exact aC h
def aQ(H H':ao):Prop:=∀ b o,H b=some o->H' b=some o
theorem aQ.refl(H:ao):aQ H H:=fun _ _ h=>h
theorem aQ.trans{H H1 aB:ao}(a:aQ H H1)(b:aQ H1 aB):aQ H aB:=fun c o h=>b c o (a c o h)
theorem aQ.free{H H':ao}(e:aQ H H'){l:au}(h:H' l=Option.none):H l=Option.none:=by
 cases q:H l with
 |none=>rfl
 |some o =>
  rw[e l o q]at h;cases h
theorem aQ.seq{K:cp}{H H':ao}{a:au}{xs:List V}(e:aQ H H')(h:aT K H a xs):aT K H' a xs:=by
 rcases h with(h|⟨o,h⟩)|h
 ·exact .inl (.inl (e _ _ h))
 ·exact .inl (.inr ⟨o,e _ _ h⟩)
 ·exact .inr h
section
variable{eG:Type}[DecidableEq eG]
theorem acr{kvs:List (eG×V)}{k:eG}{v:V}(h:dY kvs k=some v):k∈kvs.map (·.1):=by
 have q:(kvs.any fun bD=>decide (bD.1=k))=true:=by
  rw[FJ,h]
  all_goals rfl
 obtain⟨p,aL,e⟩:=sU.mp q;exact g6.mpr ⟨p,aL,h3 e⟩
theorem akF:∀ {l:List eG} {k:eG},l.Nodup->¬ k∈l->(l++[k]).Nodup
 | [],k,_,_=>by simp
 |a::r,k,h,aN=>by
  obtain⟨h1,aC⟩:=Ag.mp h;show(a::(r++[k])).Nodup;refine Ag.mpr ⟨fun m=>?_,akF aC fun m=>aN (gR.mpr (Or.inr m))⟩;rcases pe.mp m with q|q
  ·exact h1 q
  ·exact aN (gR.mpr (Or.inl (g5.mp q).symm))
end
theorem at_of{xs:List V}{z:Int}{j:Nat}{v:V}(e:z=(j:Int))(h:xs[j]?=some v):wQ xs z=some v:=by
 rw[e];exact gO h
theorem avE{α:Type}{l:List α}(hn:l.Nodup){i j:Nat}{x:α}(a:l[i]?=some x)(b:l[j]?=some x):i=j:=by
 obtain⟨h1,bF⟩:=eF.mp a;obtain⟨aC,a9⟩:=eF.mp b;exact(List.getElem_inj hn).mp (bF.trans a9.symm)
structure wZ(X:bT)(H:ao)(b:au):Prop where
 no:H b=none
 nl:b≠X.env.locals
 kp:b∉X.fs
 acs:b∈X.ex\/X.jZ.heap.get? b=none
 acu:∀ x c,X.env.cells.lookup x=some c->c≠b
 np:∀ p∈X.ha,p.1≠b
def akG(X:bT)(H:ao)(h:Heap)(e:au)(vs:Array aO):Prop :=
 ∃ T lM ts,vs[1]?=some (.ref T)/\wZ X H T/\T≠e/\h.get? T=some lM/\lM.data=.fields ts/\3<ts.size
def acv(X:bT)(H:ao)(h:Heap)(e:au)(c:aO):Prop :=
 wZ X H e/\∃ oe vs,h.get? e=some oe/\oe.cls=c/\oe.data=.fields vs/\(vs[1]?=some .none\/akG X H h e vs)
def w0(X:bT)(H:ao)(h:Heap)(e:au)(c:aO):Prop :=
 wZ X H e/\∃ oe vs,h.get? e=some oe/\oe.cls=c/\oe.data=.fields vs/\akG X H h e vs
theorem w0.any{X:bT}{H:ao}{h:Heap}{e:au}{c:aO}(x:w0 X H h e c):acv X H h e c:=by
 obtain⟨f,oe,vs,h1,aC,bI,dz⟩:=x;exact⟨f,oe,vs,h1,aC,bI,.inr dz⟩
def sm(X:bT):Prop:=∃ ml outer L,X.stack=ml::outer/\ml.frame=some L/\X.env.frame=some L
section
variable{X:bT}{pins:List (au×Obj)}{σ:St}{H H':ao}{s:aY}{h':Heap}{b e:au}{c:aO}
theorem Gd(I:Inv X pins σ H s)(ak:s.heap.get? b=none)(aR:H' b=none):wZ X H' b:=by
 refine⟨aR,fun z=>?_,fun z=>?_,?_,fun x c q z=>?_,fun p aL z=>?_⟩
 ·obtain⟨m,⟨o,_,_,bB,_⟩,_⟩:=I.loc;rw[← z,ak]at bB;cases bB
 ·obtain⟨_,o,bB,_⟩:=I.nQ.mem z;rw[ak]at bB;cases bB
 ·by_cases aq:b∈X.ex
  ·exact .inl aq
  ·right
   cases q:X.jZ.heap.get? b with
   |none=>rfl
   |some o =>
    obtain⟨hG,e'⟩:=I.base.there b o q aq;rw[ak]at e';cases e'
 ·obtain⟨v,o,bB,_⟩:=I.cell x c q;rw[z,ak]at bB;cases bB
 ·have w:=(I.pin p (uJ _ aL)).1
  rw[z,ak]at w;cases w
theorem Inv.exc(I:Inv X pins σ H s)(ch:au->Prop)(oK:∀ b,ch b->wZ X H b)(acw:∀ p∈pins,¬ ch p.1)
  (k:∀ b o,¬ ch b->b∉nP X.stack->s.heap.get? b=some o->h'.get? b=some o)
  (fM:∀ b o,¬ ch b->s.heap.get? b=some o->∃ q,h'.get? b=some { o with slots:=q }):Inv X pins σ H { s with heap:=h' }:=by
 have sZ:∀ b,b≠X.env.locals->b∉X.fs->b∉nP X.stack:=fun b h1 aC ak=>(gR.mp (I.Ve b ak)).elim h1 aC;have young:∀ b o,X.jZ.heap.get? b=some o->b∉X.ex->¬ ch b:=fun b o q aq z=>(oK b z).acs.elim aq fun w=>by
  rw[w]at q;cases q
 have below:∀ b o,X.jZ.heap.get? b=some o->b≠X.env.locals:=fun b o q=>gU (lq (fH q) I.ok.above);have cellK:∀ x c,X.env.cells.lookup x=some c->∀ v,s.heap.IsCell c v->h'.IsCell c v:=fun x c q v ⟨o,bB,hd⟩=>by
  obtain⟨cB,a9⟩:=fM c o (fun z=>(oK c z).acu x c q rfl) bB;exact⟨_,a9,hd⟩
 refine⟨I.ok,I.os,I.bare,⟨fun b o q n ak aq=>?_,fun b o q n ak aq=>?_,fun b o q n aq=>I.base.free b o q n aq,fun b o q aq=>?_,I.base.wD,I.base.uV,I.base.wF⟩,?_,fun x c q=>?_,I.free,I.oJ,fun p aL=>?_,fun b u q=>?_,I.len⟩
 ·exact k b o (young b o q aq) (sZ b (below b o q) ak) (I.base.keep b o q n ak aq)
 ·obtain⟨bU,bF⟩:=I.base.slot b o q n ak aq;obtain⟨cB,a9⟩:=fM b _ (young b o q aq) bF;exact⟨cB,a9⟩
 ·obtain⟨hG,bF⟩:=I.base.there b o q aq;obtain⟨cB,a9⟩:=fM b hG (young b o q aq) bF;exact⟨_,a9⟩
 ·obtain⟨m,⟨o,es,ep,bB,r⟩,aF⟩:=I.loc;obtain⟨cB,a9⟩:=fM _ o (fun z=>(oK _ z).nl rfl) bB;refine⟨m,⟨_,es,ep,a9,r⟩,fun i x v gn eH ni=>?_⟩;obtain⟨u,r',l⟩:=aF i x v gn eH ni;refine⟨u,r',?_⟩;rcases l with l|⟨kd,c,q,z⟩
  ·exact .inl l
  ·exact .inr ⟨kd,c,q,cellK x c q _ z⟩
 ·obtain⟨v,z⟩:=I.cell x c q;exact⟨v,cellK x c q v z⟩
 ·obtain⟨q,n,ne,kp,d⟩:=I.pin p aL;have Bd:¬ ch p.1:=by
   rcases pe.mp aL with z|z
   ·exact fun w=>(oK p.1 w).np p z rfl
   ·exact acw p z
  exact⟨k p.1 p.2 Bd (sZ _ ne kp) q,n,ne,kp,d⟩
 ·have nn:∀ c v,H c=some v->¬ ch c/\c∉nP X.stack:=fun c v z=>⟨fun w=>(by rw[(oK c w).no]at z;cases z),fun w=>(by rw[I.aa2 c w]at z;cases z)⟩
  refine(I.bL b u q).stay (fun c v aV r=>?_) (fun _ z=>z) fun _ _ z=>z;rcases aV with z|z
  ·rw[z]at r ⊢;exact k b v (nn b u q).1 (nn b u q).2 r
  ·exact k c v (nn c _ z).1 (nn c _ z).2 r
end
section
variable{M:Model}{A:Around}{Ge:aO->aY->Prop}{s:aY}{Q:Unit->aY->Prop}
theorem akH{base:Heap}{env ml:Env}{outer:List Env}{L e:au}{oe:Obj}{vs:Array aO}{head:aO}{cU:Bool}
  (yF:A.frames=some (ml::outer)) (ju:env.frame=ml.frame) (aF:s.heap.FunFrames base (ml::outer)) (hf:ml.frame=some L)
  (he:s.heap.get? e=some oe) (hd:oe.data=.fields vs) (h1:1<vs.size)
  (k:∀ h' T,(∀ b o,b≠e->b∉nP (ml::outer)->s.heap.get? b=some o->h'.get? b=some o)->(∀ b o,b≠e->s.heap.get? b=some o->∃ fM,h'.get? b=some { o with slots:=fM }) ->
   s.heap.objs.size<=T->(∃ BP Gf,h'.get? e=some BP/\BP.cls=oe.cls/\BP.data=.fields Gf/\Gf[1]?=some (.ref T))->(∃ lM ts,h'.get? T=some lM/\lM.data=.fields ts/\3<ts.size)->Q () { s with heap:=h' }) :
  wpAny M A (do let a ← PySem.frameOf env;let pl ← entryPlaceOf L cU;let b ← EntryCells.newEntry head a .none (rawInt L) .none pl;setField (.ref e) 1 b) Q Ge s:=by
 have V8:PySem.frameOf env=PySem.frameOf ml:=by
  unfold PySem.frameOf;rw[ju]
 have ne:e∉nP (ml::outer):=fun hm=>by
  obtain⟨_,o,bB,acy⟩:=aF.mem hm;rw[he]at bB;cases bB;exact acy vs hd
 rw[V8];refine wpAny_bind (wpAny_frameOf_fun yF aF hf fun g1 V9=>?_);refine wpAny_bind (wpAny_entryPlaceOf fun pl g8=>?_);unfold EntryCells.newEntry newFields;refine wpAny_bind (wpAny_newObj_type ?_ (g8.sizeOk5 _ _ _ _ _));have bF:g1.get? e=some oe:=(V9.2.1 e ne).trans he;generalize akI:({ cls:=.type "traceback",dict:=none,data:=.fields ([head,.ref L,.none,rawInt L,.none]++(if pl.isEmpty then List.replicate 6 Value.none else pl)).toArray }:Obj)=cY;have a9:=iC (h:=g1) cY bF;refine wpAny_setField a9 hd h1 ?_;have c0:e<g1.objs.size:=fH bF;have rk:=Obj.data_mapFields hd (·.setIfInBounds 1 (Value.ref g1.objs.size));refine k _ g1.objs.size (fun b o ak aR q=>?_) (fun b o ak q=>?_) (Aj V9.1.symm) ⟨_,_,Heap.get?_update_self _ a9 (Obj.isFreed_of_fields rk),Obj.cls_mapFields _ _,rk,by simp[h1]⟩ ⟨cY,_,?_,by rw[← akI],?_⟩
 ·rw[Ak _ _ (Ne.symm ak)];exact iC _ ((V9.2.1 b aR).trans q)
 ·obtain⟨fM,z⟩:=V9.2.2 b o q;refine⟨fM,?_⟩;rw[Ak _ _ (Ne.symm ak)];exact iC _ z
 ·rw[Ak _ _ (gU c0)];exact lV g1 (by rw[← akI];rfl)
 ·simp only[iD,gC,eo,rY];omega
variable{X:bT}{σ:St}{H:ao}{e:au}{c:aO}
theorem avF{env:Env}(d1:sm X)(mC:A.frames=some X.stack)(hf:env.frame=X.env.frame)(I:Inv X [] σ H s)(x:acv X H s.heap e c)
  (k:∀ s',Inv X [] σ H s'->w0 X H s'.heap e c->Q () s'):wpAny M A (noteFrame (.ref e) env) Q Ge s:=by
 obtain⟨b0,oe,vs,he,aV,hd,b_⟩:=x;obtain⟨ml,outer,L,m2,yM,avG⟩:=d1;have acz:env.frame=some L:=hf.trans avG;have akJ:A.frames=some (ml::outer):=by rw[mC,m2]
 unfold noteFrame;simp only[acz];rcases b_ with h1|⟨T,lM,ts,h1,sq,rm,cx,qF,bI⟩
 ·refine wpAny_bind (wpAny_field he hd h1 ?_);rw[bx (by decide)];have aF:s.heap.FunFrames X.base (ml::outer):=m2▸I.stack;refine akH akJ (acz.trans yM.symm) aF yM he hd (Array.getElem?_eq_some_iff.mp h1).1 fun h' T k1 k2 cx ⟨BP,Gf,a1,a2,a3,a4⟩ ⟨lM,ts,t1,t2,t3⟩=>?_;have iu:=I.exc (h':=h') (fun b=>b=e) (fun b z=>z▸b0) (fun p aL=>nomatch aL) (fun b o z w q=>k1 b o z (m2▸w) q) (fun b o z q=>k2 b o z q);exact k _ iu ⟨b0,BP,Gf,a1,a2.trans aV,a3,T,lM,ts,a4,Gd I (Um cx) (I.bL.fresh cx),v8 (lq (fH he) cx),t1,t2,t3⟩
 ·refine wpAny_bind (wpAny_field he hd h1 ?_);rw[bM (show(Value.ref T != Value.none)=true by simp)];obtain⟨z,hz⟩:∃ z,ts[3]?=some z:=⟨_,Array.getElem?_eq_getElem bI⟩;refine wpAny_bind (wpAny_field cx qF hz ?_);by_cases a6:(z == rawInt L)=true
  ·rw[bM a6];exact wpAny_pure (k s I ⟨b0,oe,vs,he,aV,hd,T,lM,ts,h1,sq,rm,cx,qF,bI⟩)
  ·rw[bx a6];refine wpAny_bind (wpAny_setField cx qF bI ?_);have other:∀ b,b≠T->(s.heap.update T (Obj.mapFields (·.setIfInBounds 3 Value.none))).get? b=s.heap.get? b:=fun b ak=>Ak _ _ (Ne.symm ak);have bp:=I.exc (h':=s.heap.update T (Obj.mapFields (·.setIfInBounds 3 Value.none))) (fun b=>b=T) (fun b z=>z▸sq) (fun p aL=>nomatch aL) (fun b o z _ q=>(other b z).trans q) (fun b o z q=>⟨o.slots,(other b z).trans q⟩);have aF:(s.heap.update T (Obj.mapFields (·.setIfInBounds 3 Value.none))).FunFrames X.base (ml::outer):=m2▸bp.stack;refine akH (s:={ s with heap:=s.heap.update T (Obj.mapFields (·.setIfInBounds 3 Value.none)) }) akJ (acz.trans yM.symm) aF yM ((other e (Ne.symm rm)).trans he) hd (Array.getElem?_eq_some_iff.mp h1).1 fun h' ez k1 k2 acA ⟨BP,Gf,a1,a2,a3,a4⟩ ⟨avH,avI,t1,t2,t3⟩=>?_;have iu:=bp.exc (h':=h') (fun b=>b=e) (fun b z=>z▸b0) (fun p aL=>nomatch aL) (fun b o z w q=>k1 b o z (m2▸w) q) (fun b o z q=>k2 b o z q);exact k _ iu ⟨b0,BP,Gf,a1,a2.trans aV,a3,ez,avH,avI,a4,Gd bp (Um acA) (bp.bL.fresh acA),v8 (lq (fH ((other e (Ne.symm rm)).trans he)) acA),t1,t2,t3⟩
theorem acB{fr:Option au}(I:Inv X [] σ H s)(x:w0 X H s.heap e c)(k:∀ s',Inv X [] σ H s'->w0 X H s'.heap e c->Q () s'):wpAny M A (setFlight (.ref e) fr) Q Ge s:=by
 obtain⟨b0,oe,vs,he,aV,hd,T,lM,ts,h1,sq,rm,cx,qF,bI⟩:=x;unfold setFlight;refine wpAny_bind (wpAny_field he hd h1 ?_);rw[bM (show(Value.ref T != Value.none)=true by simp)];refine wpAny_setField cx qF bI ?_;have other:∀ b,b≠T->(s.heap.update T (Obj.mapFields (·.setIfInBounds 3 (fr.elim Value.none fun f=>rawInt f)))).get? b=s.heap.get? b:=fun b ak=>Ak _ _ (Ne.symm ak);have bp:=I.exc (h':=s.heap.update T (Obj.mapFields (·.setIfInBounds 3 (fr.elim Value.none fun f=>rawInt f)))) (fun b=>b=T) (fun b z=>z▸sq) (fun p aL=>nomatch aL) (fun b o z _ q=>(other b z).trans q) (fun b o z q=>⟨o.slots,(other b z).trans q⟩);exact k _ bp ⟨b0,oe,vs,(other e (Ne.symm rm)).trans he,aV,hd,T,_,_,h1,sq,rm,Heap.get?_update_self _ cx (Obj.isFreed_of_fields (Obj.data_mapFields qF _)),Obj.data_mapFields qF _,by simpa using bI⟩
theorem w0.head{h:Heap}(x:w0 X H h e c):∃ oe vs T,h.get? e=some oe/\oe.data=.fields vs/\vs[1]?=some (.ref T):=by
 obtain⟨b0,oe,vs,he,aV,hd,T,lM,ts,h1,sq,rm,cx,qF,bI⟩:=x;exact⟨oe,vs,T,he,hd,h1⟩
end
def nW(X:bT)(E:cN)(x:aO)(s:aY):Prop:=∃ σ H e c,x=.ref e/\Inv X.q6 [] σ H s/\acv X.q6 H s.heap e c/\E c none H
def RaisedH(X:bT)(E:cN)(x:aO)(s:aY):Prop:=∃ σ H e c,x=.ref e/\Inv X.q6 [] σ H s/\w0 X.q6 H s.heap e c/\E c none H
theorem RaisedH.any{X:bT}{E:cN}{x:aO}{s:aY}(h:RaisedH X E x s):nW X E x s:=by
 obtain⟨σ,H,e,c,h1,aC,bI,dz⟩:=h;exact⟨σ,H,e,c,h1,aC,bI.any,dz⟩
abbrev bT.exc(X:bT)(E:cN):bT:=X.wish (nW X E)
section
variable{X:bT}{E:cN}{x:aO}{s:aY}{M:Model}{A:Around}{Ge:aO->aY->Prop}
theorem V_{env:Env}{Q:Unit->aY->Prop}(d1:sm X)(mC:A.frames=some X.stack)(hf:env.frame=X.env.frame)(r:nW X E x s)(k:∀ s',RaisedH X E x s'->Q () s'):wpAny M A (noteFrame x env) Q Ge s:=by
 obtain⟨σ,H,e,c,rfl,I,aq,hE⟩:=r;exact avF (X:=X.q6) d1 mC hf I aq fun s' iu x'=>k s' ⟨σ,H,e,c,rfl,iu,x',hE⟩
theorem acC{fr:Option au}{Q:Unit->aY->Prop}(r:RaisedH X E x s)(k:∀ s',RaisedH X E x s'->Q () s'):wpAny M A (setFlight x fr) Q Ge s:=by
 obtain⟨σ,H,e,c,rfl,I,aq,hE⟩:=r;exact acB (X:=X.q6) I aq fun s' iu x'=>k s' ⟨σ,H,e,c,rfl,iu,x',hE⟩
theorem avJ{env:Env}{BR:aO->aY->Prop}(r:RaisedH X E x s)(k:∀ s',RaisedH X E x s'->BR x s'):cameBackBy M A env BR x s:=by
 unfold cameBackBy;obtain⟨σ,H,e,c,rfl,I,aq,hE⟩:=r;obtain⟨oe,vs,T,he,hd,h1⟩:=aq.head;have step:wpAny M A (setFlight (.ref e) env.frame) (fun _ JW=>BR (.ref e) JW) BR s:=acC (X:=X) ⟨σ,H,e,c,rfl,I,aq,hE⟩ fun s' r'=>k s' r';refine wpAny_bind (wpAny_field he hd h1 ?_);rw[bx (show ¬ ((Value.ref T == Value.none)=true) by simp)];first
  |exact step
  |exact wpAny_bind (wpAny_pure step)
theorem nW.frames(r:nW X E x s):X.A.frames=some X.stack:=by
 obtain⟨σ,H,e,c,_,I,_,_⟩:=r;exact I.ok.frames
theorem gP{env:Env}(d1:sm X)(hf:env.frame=X.env.frame):PassesOwn M X.A env (nW X E):=by
 intro e s' r;unfold notedBy;exact V_ d1 r.frames hf r fun s1 cI=>avJ cI fun s2 dp=>dp.any
end
def avK(h0:Heap)(H:ao)(h:Heap)(e:au)(c:aO):Prop :=
 h0.get? e=none/\H e=none/\∃ oe vs,h.get? e=some oe/\oe.cls=c/\oe.data=.fields vs /\
  ∃ T lM ts,vs[1]?=some (.ref T)/\h0.get? T=none/\H T=none/\T≠e/\h.get? T=some lM/\lM.data=.fields ts/\3<ts.size
def cM(P:fx)(w:e4):ti:=fun outer H s E x s'=>∃ e c H',x=.ref e/\s'.os=s.os/\AllBare s'.gens/\jY (nP outer) [] H H' s.heap s'.heap/\ht P w H' s'.heap/\avK s.heap H' s'.heap e c/\E c none H'
theorem avL{X:bT}{E:cN}(h:∀ e s,nW X E e s->X.xe e s):Passes (cM X.prog X.w) X E:=by
 intro pins σ H s x s' I q;obtain⟨e,c,H',rfl,avM,b5,un,bL,⟨n0,n1,oe,vs,he,aV,hd,T,lM,ts,h1,t0,t1,rm,cx,qF,bI⟩,hE⟩:=q;refine h _ _ ?_;have iu:Inv X pins σ H' s':=I.call' (ch:=[]) avM un bL b5 fun b ak=>nomatch ak;have dK:Inv X [] σ H' s':=iu.JD fun p aL=>nomatch aL;exact⟨σ,H',e,c,Z,dK.wish _,⟨Gd (I.wish _) n0 n1,oe,vs,he,aV,hd,.inr ⟨T,lM,ts,h1,Gd (I.wish _) t0 t1,rm,cx,qF,bI⟩⟩,hE⟩
theorem bj{X:bT}{E:cN}:Passes (cM X.prog X.w) (X.exc E) E:=avL fun _ _ h=>h
theorem avN{gJ:ti}{P:fx}{w:e4}{K:cp}{av:g_}{base:Heap}{N:List Str}{qual:Str}{scope:Scope}{f:au}{cd:aO}{A:Around}{outer:List Env}{s:aY}{H:ao}{E:cN} :
  sm (sb gJ P w K av base N qual scope f cd A outer s H E):=⟨_,_,_,rfl,rfl,rfl⟩
theorem avO{P:fx}{w:e4}{K:cp}{av:g_}{base:Heap}{N:List Str}{qual:Str}{scope:Scope}{f:au}{cd:aO}{A:Around}{outer:List Env}{s:aY}{H:ao}{E:cN}{x:aO}{s':aY}
  (r:nW (sb (cM P w) P w K av base N qual scope f cd A outer s H E) E x s'):(sb (cM P w) P w K av base N qual scope f cd A outer s H E).xe x s':=by
 show wpAny (model P w) (A.deeper (envOfC qual scope s.heap.objs.size f cd)) (leaving (envOfC qual scope s.heap.objs.size f cd) x) _ _ s';have yF:(A.deeper (envOfC qual scope s.heap.objs.size f cd)).frames=some (sb (cM P w) P w K av base N qual scope f cd A outer s H E).stack:=by
  obtain⟨σ,H',e,c,_,I,_,_⟩:=r;exact I.ok.frames
 unfold leaving;refine wpAny_bind (V_ avN yF rfl r fun s1 cI=>acC cI fun s2 dp=>?_);obtain⟨σ,H',e,c,rfl,I,⟨b0,oe,vs,he,aV,hd,T,lM,ts,h1,sq,rm,cx,qF,bI⟩,hE⟩:=dp;have g:∀ b,wZ (sb (cM P w) P w K av base N qual scope f cd A outer s H E).q6 H' b->s.heap.get? b=none:=fun b z=>z.acs.elim (fun y=>nomatch y) id;exact⟨e,c,H',Z,I.os,I.bare,I.base,I.bL,⟨g e b0,b0.no,oe,vs,he,aV,hd,T,lM,ts,h1,g T sq,sq.no,rm,cx,qF,bI⟩,hE⟩
section
variable{X:bT}{BR:aO->aY->Prop}
theorem pL.avP{st:List Stmt}{t:TS}(h:pL (X.wish BR) st t)(aq:∀ e s,BR e s->X.xe e s):pL X st t:=fun pins s σ H D I hw =>
 wpAny_mono (h pins s σ H D (I.wish _) hw) (fun _ _ q=>q.q7) aq
end
section
variable{P:fx}{w:e4}{K:cp}{av:g_}{base:Heap}
theorem cu.cZ{x qual:Str}{st:Stmt}{f:au}{fd:cG}{N ps:List Str}{k:Nat}{sp:eY}(F:cu K x qual st f fd)(S:cW N ps (cA st))(len:∀ vs H Q E,sp vs H Q E->vs.length=ps.length)
  (abI:∀ (bK:aO) (A:Around) (outer:List Env) (s:aY) (H:ao) (vs:List V) (Q:bA) (E:cN),hI k (A.deeper (envOfC qual (cA st) s.heap.objs.size f bK))->sp vs H Q E ->
   ∃ t,pL ((sb (cM P w) P w K av base N qual (cA st) f bK A outer s H E).exc E) (ri st) t/\t { cU:=fun _ H'=>Q .non H',Fb:=Q } (start N vs) H):cJ P w K av base (cM P w) (k+1) f fd ps sp:=by
 obtain⟨jL,hQ,c3,doc,pm,an,bK,fu,pP,rfl,lk,wK⟩:=F.ex;refine atA lk wK S len fun A outer s H vs Q E aA yw=>?_;obtain⟨t,h,q⟩:=abI bK A outer s H vs Q E aA yw;exact⟨t,h.avP fun e s' r=>avO r,q⟩
end
def yN(K:cp)(C:au):Prop:=PySem.W.excIn K C [.type "Exception",.type "BaseException",.type "object"] "Exception.__new__"=true
theorem yN.k{K:cp}{C:au}(q:yN K C):∃ bm N nm qn bs hdct sn sub ab col dd k0 k1 k2 k3 k5,
  K.lookup C=some (excClassObj nm qn C N bs bm hdct sn sub ab col dd k0 k1 k2 k3 k5 "Exception.__new__")/\(∃ acD,K.lookup N=some acD)/\PySem.W.nsOkIn K N=true/\PySem.W.nsIn K N "__init__"=some none /\
   PySem.W.tailIn K [.type "Exception",.type "BaseException",.type "object"] bm=true:=by
 unfold yN PySem.W.excIn at q;split at q
 ·rename_i dd cd fM bB;split at q
  ·rename_i C' bm k0 k1 k2 k3 n k5 hm aH;simp only[jf,v',Bool.not_eq_true']at q;obtain⟨⟨⟨⟨⟨gn,eH⟩,akK⟩,b_⟩,bL⟩,Kp⟩:=q;subst gn eH;obtain⟨nm,bs,mro,ns,qn,hd,sn,sub,ab,col,del⟩:=cd;dsimp only at hm akK bL Kp;subst hm akK;obtain⟨l⟩:=fM;simp only at aH;subst aH;refine⟨bm,ns,nm,qn,bs,hd,sn,sub,ab,col,dd,k0,k1,k2,k3,k5,bB,?_,bL,Kp,b_⟩;unfold PySem.W.nsOkIn at bL;split at bL
   ·rename_i z;exact⟨_,z⟩
   ·cases bL
  ·cases q
 ·cases q
theorem hP.there{P:fx}{w:e4}{H:ao}{h:Heap}{a:au}{o:HO}(x:hP P w H h a o):∃ cY,h.get? a=some cY:=by
 cases o with
 |lst xs=>obtain⟨_,_,_,_,z⟩:=x;exact⟨_,z⟩
 |tup xs=>obtain⟨_,_,_,cY,z,_⟩:=x;exact⟨_,z⟩
 |dX kvs=>obtain⟨_,_,_,_,cY,_,_,z,_⟩:=x;exact⟨_,z⟩
 |gF kvs=>obtain⟨_,_,_,_,cY,_,_,z,_⟩:=x;exact⟨_,z⟩
 |set S n=>obtain⟨cY,_,_,_,z,_⟩:=x;exact⟨_,z⟩
 |ins C dx fs=>obtain⟨_,_,_,z,_⟩:=x;exact⟨_,z⟩
 |own y=>obtain⟨_,z⟩:=x;exact⟨_,z⟩
 |Vc fs=>obtain⟨_,⟨_,_,_,z,_⟩,_⟩:=x;exact⟨_,z⟩
 |uU lo hi=>obtain⟨_,_,_,z⟩:=x;exact⟨_,z⟩
 |sX cY u=>obtain⟨z,_⟩:=x;exact⟨_,z⟩
 |yj ps=>exact⟨_,(show h.get? a=some _ from x)⟩
 |met f y=>exact⟨_,(show h.get? a=some _ from x)⟩
 |ext Az=>obtain⟨_,⟨_,z⟩,_⟩:=x;exact⟨_,z⟩
theorem ht.free{P:fx}{w:e4}{H:ao}{h:Heap}{a:au}(x:ht P w H h)(n:h.get? a=none):H a=none:=by
 cases z:H a with
 |none=>rfl
 |some u =>
  obtain⟨cY,q⟩:=(x a u z).there;rw[n]at q;cases q
def avQ(C:au)(E:cN):TS:=fun _ _ H=>E (.ref C) none H
theorem akL{X:bT}{E:cN}{C:au}{y:Str}{x:Str}{j:Nat}{np Gg h8 pos:Pos}(aV:X.calm=true)(aq:∀ e s,nW X E e s->X.xe e s)(b5:qw X x)(hm:X.av x=some (.ref C))(q:yN X.K C)(m':(x == ("__debug__":Str))=false:=by decide) :
  PS X (.Raise (some (.Call (.Name x np) [.Constant (.str y) j Gg] [] h8)) none pos) (avQ C E):=by
 intro pins s σ H D I h;obtain⟨bm,N,nm,qn,bs,hdct,sn,sub,ab,col,dd,k0,k1,k2,k3,k5,vg,⟨acD,acE⟩,bL,Kp,b_⟩:=q.k;have hn:s.heap.Ns N (s.heap.nsMap N):=.of_isNs (PySem.W.isNs_of_in I.jK bL);have cx:OwnTail s.heap [.type "Exception",.type "BaseException",.type "object"] bm:=PySem.W.tail_of_in I.jK b_;refine wpAny_Raise_call_subT (bm:=bm) (C:=C) (N:=N) (nm:=nm) (q:=qn) (bs:=bs) (hdct:=hdct) (sn:=sn) (sub:=sub) (ab:=ab) (col:=col) (dd:=dd) (k0:=k0) (k1:=k1) (k2:=k2) (k3:=k3) (k5:=k5) (mN:=s.heap.nsMap N) PySem.F.excBase_Exception (cx.hasType (by decide)) (I.ok.hd aV) rfl (PySem.W.nsMap_none_of_in I.jK bL Kp) ?_;refine Fe I b5 hm ⟨rfl,?_⟩ m';have nc:PA X [.Constant (.str y) j Gg] (nS (uX (.str y)) m_):=aD arX aM;refine Calls.evalArgs_plain (cL (nc h8 pins s σ H (fun vs H1=>H1=H/\vs.length<=1) I ⟨rfl,cH _⟩) fun us s1 aU=>?_);obtain⟨vs,H1,bp,r,bF,aF⟩:=aU;subst bF;have hlen:us.length<=sizeLine:=by
  rw[← r.length];exact jg aF (by decide)
 have avR:s1.heap.Ns N (s.heap.nsMap N):=by
  obtain⟨o,es,ep,bB,l0⟩:=hn;have z:=I.jK _ _ acE;rw[bB]at z;cases z;exact⟨_,es,ep,bp.jK _ _ acE,l0⟩
 refine⟨Z,hlen,bp.jK _ _ vg,avR,PySem.W.tail_of_in bp.jK b_,fun h' e rn=>aq _ _ ?_⟩;obtain⟨t,he,Kr,_⟩:=rn.there;have dK:Inv X pins σ H1 { s1 with heap:=h' }:=bp.kept (t':=s1.toks) rn.keeps;have eV:Inv X [] σ H1 { s1 with heap:=h' }:=dK.JD fun p aL=>nomatch aL;have aR:H1 e=none:=bp.bL.free rn.new;exact⟨σ,H1,e,.ref C,Z,eV.wish _,⟨Gd (bp.wish _) rn.new aR,_,_,he,Z,Z,.inl rfl⟩,h⟩
theorem avS{X:bT}(d1:sm X){s:aY}{H:ao}{scope:Scope}{cl:List (Str×au)}{C:au}{fp:d2}:sm (X.jt s H scope (compEnvC scope cl C X.env) fp):=by
 obtain⟨ml,outer,L,h1,aC,bI⟩:=d1;exact⟨ml,outer,L,h1,aC,bI⟩
section
variable{X:bT}{E:cN}
theorem avT{pins:List (au×Obj)}{σ:St}{aJ:ao}{s3:aY}{scope:Scope}{cl:List (Str×au)}{fp:d2}{use:Option (aO->Sem Unit)}{w1:aO->aY->Prop}{D:aO}{x:aO}{s':aY}
  (d1:sm X) (aq:∀ e s,nW X E e s->X.xe e s) (eV:Inv X pins σ aJ s3) (fK:∀ b∈fp,q8 X pins aJ b)
  (r:nW (X.jt s3 aJ scope (compEnvC scope cl s3.heap.objs.size X.env) fp) E x s') :
  notedBy (model X.prog X.w) X.A (compEnvC scope cl s3.heap.objs.size X.env) (fun e s'=>compPost (model X.prog X.w) X.A X.xe use w1 D s3.heap.objs.size (.error e) s') x s':=by
 unfold notedBy;refine V_ (avS d1) r.frames rfl r fun s1 cI=>?_;obtain⟨Bh,H1,e,c,rfl,bp,⟨b0,oe,vs,he,aV,hd,T,lM,ts,h1,sq,rm,cx,qF,bI⟩,hE⟩:=cI;have m7:Inv X pins σ H1 s1:=eV.call' (ch:=fp) bp.os bp.base bp.bL bp.bare fun b ak=>⟨(fK b ak).2.2.2.1,(fK b ak).2.1,(fK b ak).2.2.2.2.1,(fK b ak).2.2.2.2.2⟩;have acF:Inv X [] σ H1 s1:=m7.JD fun p aL=>nomatch aL;obtain⟨m,aR,_⟩:=bp.loc;have acG:H1 s3.heap.objs.size=none:=bp.free;have avU:=eV.Bj (H':=H1) (cH _) acG;have up:∀ b,wZ (X.jt s3 aJ scope (compEnvC scope cl s3.heap.objs.size X.env) fp).q6 H1 b->wZ X.q6 H1 b:=fun b z=>by
  rcases z.acs with y|y
  ·obtain⟨akM,g1,g2,g3,Jw,acH⟩:=fK b y;exact⟨z.no,g1,g2,g3.elim .inl fun w=>.inr (Um w),Jw,fun p aL=>acH p (uJ _ aL)⟩
  ·exact Gd (eV.wish _) y z.no
 refine⟨m,aR,fun h' fW hK aa9=>?_⟩;have Bc:∀ b,wZ (X.jt s3 aJ scope (compEnvC scope cl s3.heap.objs.size X.env) fp).q6 H1 b->b≠s3.heap.objs.size:=fun b z=>z.nl;obtain⟨akM,g1,g2,g3,Jw,acH⟩:=avU;have Wa:Inv X [] σ H1 { s1 with heap:=h' }:=acF.turned (t':=s1.toks) (fun b o ak q=>(fW.2 b ak).trans q) akM g1 g3 Jw fun p aL=>acH p (by
  rcases pe.mp aL with w|w
  ·exact uJ _ w
  ·exact nomatch w)
 have Wb:w0 X.q6 H1 h' e c:=⟨up e b0,oe,vs,(fW.2 e (Bc e b0)).trans he,aV,hd,T,lM,ts,h1,up T sq,rm,(fW.2 T (Bc T sq)).trans cx,qF,bI⟩;unfold PySem.passOn;obtain⟨aHc,aHd,avV,avW,avX,avY⟩:=Wb.head;refine wpAny_bind (wpAny_field avW avX avY ?_);rw[bx (show ¬ ((Value.ref avV == Value.none)=true) by simp)];have step:wpAny (model X.prog X.w) X.A (do setFlight (.ref e) hK.frame;(throw (.ref e):Sem aO)) (fun _ _=>False) X.xe { s1 with heap:=h' } :=
  wpAny_bind (acB (X:=X.q6) (s:={ s1 with heap:=h' }) (Wa.wish _) Wb fun s2 dK iG=>wpAny_throw (aq _ _ ⟨σ,H1,e,c,rfl,dK,iG.any,hE⟩))
 first
  |exact step
  |exact wpAny_bind (wpAny_pure step)
theorem akN{pins:List (au×Obj)}{s:aY}{σ:St}{H:ao}{Q:bA}{elt e1 iter:Expr}{ifs:List Expr}{scope:Scope}{own:List (Str×Nat)}{pos pos':Pos}{kZ:TI}{g:lH}{tt:TT}{te:TE}{use:Option (aO->Sem Unit)}{w1:aO->aY->Prop}
  (d1:sm X) (aq:∀ e s,nW X E e s->X.xe e s)
  (aV:X.calm=true) (hn:X.N.Nodup) (I:Inv X pins σ H s) (hi:PI X e1 iter kZ) (ok:J6 X.N X.env.scope scope own)
  (b5:∀ (s:aY) (H:ao) (C:au) (cl:List (Str×au)) (fp:d2),PG ((X.jt s H scope (compEnvC scope cl C X.env) fp).exc E) e1 g) (b_:∀ (s:aY) (H:ao) (C:au) (cl:List (Str×au)) (fp:d2),J8 ((X.jt s H scope (compEnvC scope cl C X.env) fp).exc E) ifs tt)
  (he:∀ (s:aY) (H:ao) (C:au) (cl:List (Str×au)) (fp:d2),PE ((X.jt s H scope (compEnvC scope cl C X.env) fp).exc E) elt te) (aH:∀ x,foldedSetIterable iter X.env x=pure x)
  (h:wV kZ g tt te (own.map (·.2)) σ H Q)
  (avZ:∀ D C s' m H',Inv X pins σ H' s'->Q (.ref D) H'->s'.heap.Ns C m->q8 X pins H' C->compPost (model X.prog X.w) X.A X.xe use w1 (.ref D) C (.ok .next) s') :
  wpAny (model X.prog X.w) X.A (comprehension (.ListComp elt [⟨e1,iter,ifs,0⟩] scope pos) scope X.env pos' (newList []) false (eval iter X.env) use) w1 X.xe s:=by
 have s7:∀ y∈scope.names,y.2=.free->∃ c,X.env.cells.lookup y.1=some c:=fun y aP e=>by
  rcases ok.free y aP e with k|k
  ·exact I.ok.has _ (.inl k)
  ·exact I.ok.has _ (.inr k)
 refine wpAny_comprehension_free (use:=use) rfl aH (auu s7) ok.kind (fun y aP e=>by rw[ok.uniq y aP,e])
  (cL (hi pins s σ H _ I h) fun aHe s1 av0=>cL av0 fun abn s2 aC=>?_)
 obtain⟨it,fp,tn,J,aB,e,dK,T,Vr,f2,q⟩:=aC;subst e;refine wpAny_newObj_type (auv ?_) (by show 0<=sizeLine;decide);generalize bw:s2.heap.objs.size=D;have w2:aB D=none:=dK.bL.fresh (Aj bw);obtain⟨W,⟨m0,Fp⟩,turn⟩:=q D w2;generalize akO:({ s2 with heap:=s2.heap.push { cls:=.type "list",data:=.seq ([]:dH).toArray } }:aY)=s3;have eV:Inv X pins σ (upd aB D (.lst [])) s3:=by
  rw[← akO];refine dK.laid (t':=s2.toks) (fun b o e=>iC _ e) (Aj bw) ⟨eZ _,[],0,.nil,?_⟩;rw[← bw];exact lV _ rfl
 have bI:s3.heap=s2.heap.push { cls:=.type "list",data:=.seq ([]:dH).toArray }:=by rw[← akO]
 have E_:∀ b∈fp,b<s2.heap.objs.size:=fun b ak=>by
  obtain⟨o,e,_⟩:=T.obj _ _ Vr b ak;exact fH e
 have fK:∀ b∈fp,q8 X pins (upd aB D (.lst [])) b/\b<s3.heap.objs.size:=fun b ak=>by
  have c0:=E_ b ak;refine⟨⟨?_,(f2 b ak).2⟩,by rw[bI,q0];exact Nat.lt_succ_of_lt c0⟩;rw[a7 (by rw[← bw];exact gU c0)];exact(f2 b ak).1
 have Vs:tn 0 s3.heap:=T.keep _ _ _ Vr fun b _ o e=>by rw[bI];exact iC _ e
 have mb:=auw eV ok hn fK;have yv:=b5 s3 (upd aB D (.lst [])) s3.heap.objs.size (cellsFrom (s3.heap.objs.size+1) scope.names (k4 X.env.cells scope.names [])) fp;have pt:=b_ s3 (upd aB D (.lst [])) s3.heap.objs.size (cellsFrom (s3.heap.objs.size+1) scope.names (k4 X.env.cells scope.names [])) fp;have hA:=he s3 (upd aB D (.lst [])) s3.heap.objs.size (cellsFrom (s3.heap.objs.size+1) scope.names (k4 X.env.cells scope.names [])) fp;show codeAny _ _ (.compStart (.ListComp elt [⟨e1,iter,ifs,0⟩] scope pos) 0 (.ref it) (.ref D) (compEnvC scope (cellsFrom (s3.heap.objs.size+1) scope.names (k4 X.env.cells scope.names [])) s3.heap.objs.size X.env)) (compPost (model X.prog X.w) X.A X.xe use w1 (.ref D) s3.heap.objs.size) { s3 with heap:=pushCells (s3.heap.push { cls:=.type "dict",data:=.dict #[] }) scope.names };have akP:∀ b∈fp,(upd aB D (.lst [])) b=none:=fun b ak=>(fK b ak).1.1;generalize iV:cellsFrom (s3.heap.objs.size+1) scope.names (k4 X.env.cells scope.names [])=cl at mb yv pt hA ⊢;have out:∀ e s',nW (X.jt s3 (upd aB D (.lst [])) scope (compEnvC scope cl s3.heap.objs.size X.env) fp) E e s'->notedBy (model X.prog X.w) X.A (compEnvC scope cl s3.heap.objs.size X.env) (fun e s'=>compPost (model X.prog X.w) X.A X.xe use w1 (.ref D) s3.heap.objs.size (.error e) s') e s' :=
  fun e s' r=>avT d1 aq eV (fun b ak=>(fK b ak).1) r
 generalize av1:compEnvC scope cl s3.heap.objs.size X.env=ce at mb yv pt hA out ⊢;have akQ:ce.locals=s3.heap.objs.size:=by subst av1;rfl
 generalize aHf:upd aB D (.lst [])=aJ at eV mb yv pt hA Fp akP fK out;generalize av2:({ s3 with heap:=pushCells (s3.heap.push { cls:=.type "dict",data:=.dict #[] }) scope.names }:aY)=s4 at mb ⊢;have akR:tn 0 s4.heap:=T.keep _ _ _ Vs fun b _ o e=>by rw[← av2];exact pushCells_keeps _ _ _ _ (iC _ e)
 have stat:∀ {dg:St} {H':ao} {s':aY},Inv (X.jt s3 aJ scope ce fp) [] dg H' s'->(∀ b∈fp,H' b=none)->∀ b∈fp,q8 (X.jt s3 aJ scope ce fp) [] H' b:=fun{dg H' s'} iu aR b ak =>
  ⟨aR b ak,(iu.ok.ym b ak).1,iu.ok.wJ b ak,.inl ak,fun x c e=>(iu.ok.ym b ak).2 x c e,fun p aL=>absurd (show p∈([]:List (au×Obj))++[] from aL) (by simp)⟩
 have acI:∀ {α:Type} {t:Sem α} {R k7:α->aY->Prop} {s:aY},wpAny (model X.prog X.w) X.A t R (nW (X.jt s3 aJ scope ce fp) E) s->(∀ a s,R a s->k7 a s)->wpAny (model X.prog X.w) X.A t k7 (notedBy (model X.prog X.w) X.A ce (fun e s'=>compPost (model X.prog X.w) X.A X.xe use w1 (.ref D) s3.heap.objs.size (.error e) s')) s :=
  fun h1 aC=>wpAny_mono h1 aC out
 have loop:codeAny (model X.prog X.w) X.A (.compLoop (.ListComp elt [⟨e1,iter,ifs,0⟩] scope pos) 0 (.ref it) (.ref D) ce) (compPost (model X.prog X.w) X.A X.xe use w1 (.ref D) s3.heap.objs.size) s4:=by
  refine auC (fun n s'=>∃ i H',Inv (X.jt s3 aJ scope ce fp) [] (wipe σ (own.map (·.2))) H' s'/\tn i s'.heap/\(∀ b∈fp,H' b=none)/\W i n H') ?_ m0 ⟨0,aJ,mb,akR,akP,Fp⟩;rintro n s5 ⟨i,b2,uY,Ft,akS,av3⟩;rcases turn i n b2 av3 with⟨stop,tD⟩|⟨go,fQ,av4,step⟩
  ·have td:=T.done (X.jt s3 aJ scope ce fp) rfl rfl rfl aV i [] s5 _ b2 (fun _ _=>False) uY (stat uY akS) Ft stop
   refine ab4 td fun r cV aU=>?_;obtain⟨aA,uZ⟩:=aU;subst aA;have m7:Inv X pins σ b2 cV:=eV.call' (ch:=fp) uZ.os uZ.base uZ.bL uZ.bare fun b ak=>⟨(fK b ak).1.2.2.2.1,(fK b ak).1.2.1,(fK b ak).1.2.2.2.2.1,(fK b ak).1.2.2.2.2.2⟩;have acG:b2 s3.heap.objs.size=none:=by
    have z:b2 ce.locals=none:=uZ.free;rw[akQ]at z;exact z
   obtain⟨m,aR,_⟩:=uZ.loc;have aR:cV.heap.Ns ce.locals m:=aR;rw[akQ]at aR;exact avZ D s3.heap.objs.size cV m b2 m7 tD aR (eV.Bj (cH _) acG)
  ·have m4:=T.item (X.jt s3 aJ scope ce fp) rfl rfl rfl aV i [] s5 _ b2 (fun _ _=>False) uY (stat uY akS) Ft go
   refine ab4 m4 fun r cV aU=>?_;obtain⟨u,aA,tE⟩:=aU;subst aA;refine ab4 tE fun _ fy aU=>?_;obtain⟨x,dD,m7,yt,av5,acJ,Bk⟩:=aU;have av6:=m7.pinned (stat m7 Bk) (T.obj _ _ acJ);refine acI (yv _ fy _ dD x u _ (av6.wish _) yt (step x dD av5)) fun _ kG aU=>?_;obtain⟨Wc,mF,acF,Ks,Gh⟩:=aU;refine acI (pt _ kG Wc mF _ acF Gh) fun b yO aU=>?_;obtain⟨iW,Wa,Wd⟩:=aU;have fin:∀ {s':aY} {H':ao},Inv (X.jt s3 aJ scope ce fp) ([]++JQ fp fy.heap) Wc H' s'->fQ H'->∃ m,m<n/\∃ i H',Inv (X.jt s3 aJ scope ce fp) [] (wipe σ (own.map (·.2))) H' s'/\tn i s'.heap/\(∀ b∈fp,H' b=none)/\W i m H':=fun{s' H'} iu cU=>by
    obtain⟨dU,hm,w'⟩:=av4 H' cU;have akT:∀ b∈fp,∀ o,fy.heap.get? b=some o->s'.heap.get? b=some o/\H' b=none:=fun b ak o e =>
     let z:=iu.pin (b,o) (v9 _ (v9 _ (abq ak e)))
     ⟨z.1,z.2.1⟩
    have aF:(wipe σ (own.map (·.2))).length=Wc.length:=by rw[← Ks,ab1]
    refine⟨dU,hm,i+1,H',(iu.Vq (pins:=[])).weak aF (fun j v e=>?_),T.keep _ _ _ acJ fun b ak o e=>(akT b ak o e).1,fun b ak=>?_,w'⟩
    ·rw[← Ks]at e;exact(ab2 e).1
    ·obtain⟨o,e,_⟩:=T.obj _ _ acJ b ak;exact(akT b ak o e).2
   cases b with
   |false =>
    simp only[kg,if_false]at Wd ⊢;exact fin Wa.q7 Wd
   |true =>
    simp only[if_true]at Wd ⊢;refine acI (hA _ yO Wc iW _ Wa Wd) fun z tG aU=>?_;obtain⟨aHg,Ku,av7,av8,acc,acK,av9,cU⟩:=aU;exact auB (X:=X.jt s3 aJ scope ce fp) av7.q7 acK av9 av8 fun BW av_=>fin av_ cU
 exact codeAny_compStart_list loop (T.self X.A 0 _ _ _ akR loop)
theorem iI{elt e1 iter:Expr}{ifs:List Expr}{scope:Scope}{own:List (Str×Nat)}{pos:Pos}{kZ:TI}{g:lH}{tt:TT}{te:TE}(d1:sm X)(aq:∀ e s,nW X E e s->X.xe e s)(aV:X.calm=true)(hn:X.N.Nodup)(hi:PI X e1 iter kZ)(ok:J6 X.N X.env.scope scope own)
  (b5:∀ (s:aY) (H:ao) (C:au) (cl:List (Str×au)) (fp:d2),PG ((X.jt s H scope (compEnvC scope cl C X.env) fp).exc E) e1 g) (b_:∀ (s:aY) (H:ao) (C:au) (cl:List (Str×au)) (fp:d2),J8 ((X.jt s H scope (compEnvC scope cl C X.env) fp).exc E) ifs tt)
  (he:∀ (s:aY) (H:ao) (C:au) (cl:List (Str×au)) (fp:d2),PE ((X.jt s H scope (compEnvC scope cl C X.env) fp).exc E) elt te) (aH:∀ x,foldedSetIterable iter X.env x=pure x:=by intro _;rfl) :
  PE X (.ListComp elt [⟨e1,iter,ifs,0⟩] scope pos) (wV kZ g tt te (own.map (·.2))):=by
 intro pins s σ H Q I h;rw[eval_ListComp];refine akN d1 aq aV hn I hi ok b5 b_ he aH h fun D C s' m H' iu q aR f=>⟨m,aR,fun yL fW=>?_⟩;obtain⟨f0,f1,f2,fK,f4,m6⟩:=f;exact⟨.ref D,H',iu.turned (t':=s'.toks) (fun b o ak e=>(fW.2 b ak).trans e) f0 f1 fK f4 m6,Z,q⟩
theorem w4{i:Nat}{y:Str}{py:Pos}{elt e1 iter:Expr}{ifs:List Expr}{scope:Scope}{own:List (Str×Nat)}{pos akU:Pos}{kZ:TI}{g:lH}{tt:TT}{te:TE}(d1:sm X)(aq:∀ e s,nW X E e s->X.xe e s)(aV:X.calm=true)(hn:X.N.Nodup)(aP:X.N[i]?=some y)(Wf:X.env.scope.names.lookup y=some .local)
  (av':swapsWith (.ListComp elt [⟨e1,iter,ifs,0⟩] scope pos) (some (.Name y py)) akU.line X.env=pure true) (hi:PI X e1 iter kZ) (ok:J6 X.N X.env.scope scope own)
  (b5:∀ (s:aY) (H:ao) (C:au) (cl:List (Str×au)) (fp:d2),PG ((X.jt s H scope (compEnvC scope cl C X.env) fp).exc E) e1 g) (b_:∀ (s:aY) (H:ao) (C:au) (cl:List (Str×au)) (fp:d2),J8 ((X.jt s H scope (compEnvC scope cl C X.env) fp).exc E) ifs tt)
  (he:∀ (s:aY) (H:ao) (C:au) (cl:List (Str×au)) (fp:d2),PE ((X.jt s H scope (compEnvC scope cl C X.env) fp).exc E) elt te) (aH:∀ x,foldedSetIterable iter X.env x=pure x:=by intro _;rfl) :
  PS X (.Assign [.Name y py] (.ListComp elt [⟨e1,iter,ifs,0⟩] scope pos) akU) (Fj (wV kZ g tt te (own.map (·.2))) (kY i)):=by
 intro pins s σ H D I h;rw[exec_Assign_Name_used _ _ _ _ av'];refine wpAny_bind (wpAny_standAt (wpAny_bind ?_));show wpAny _ X.A (do let _ ← comprehension (.ListComp elt [⟨e1,iter,ifs,0⟩] scope pos) scope X.env (firstIterPos [⟨e1,iter,ifs,0⟩] pos) (newList []) false (eval iter X.env) (some (assign (.Name y py) X.env))) _ _ s;have h:wV kZ g tt te (own.map (·.2)) σ H (fun x H1=>kY i x σ H1 D.cU):=h;refine wpAny_bind (cL (akN (w1:=fun _ s'=>SP X pins D .next s') d1 aq aV hn I hi ok b5 b_ he aH h fun L C s' m H' iu q aR f=>?_) fun _ s' a6=>wpAny_pure (wpAny_pure a6));show wpAny _ _ (assign (.Name y py) X.env (.ref L)) _ _ _;refine wpAny_assign_Name (ajt (v:=V.ref L) iu hn aP (.inl Wf) rfl (fun s2 dK aU=>?_) (.inr Wf));obtain⟨a,fW,aX⟩:=aU;obtain⟨f0,f1,f2,fK,f4,m6⟩:=f;have awa:C≠a:=by
  rcases aX with z|z
  ·rw[z];exact f1
  ·exact fun e=>f4 y a z e.symm
 refine⟨m,aR.sameBut fW awa,fun bI awb=>?_⟩;exact⟨_,H',dK.turned (t':=s2.toks) (fun b o ak e=>(awb.2 b ak).trans e) f0 f1 fK f4 m6,q⟩
end
abbrev bT.ro(X:bT)(ha:List (au×Obj)):bT:={ X with ha:=ha }
abbrev bT.BX(X:bT)(e:aO):bT:={ X with A:=X.A.mark (some e),calm:=false,xe:=fun _ _=>False }
section
variable{X:bT}{pins:List (au×Obj)}{σ:St}{H:ao}{s:aY}
theorem Inv.ro(I:Inv X pins σ H s):Inv (X.ro (X.ha++pins)) [] σ H s :=
 ⟨⟨I.ok.mod,I.ok.kind,I.ok.glob,I.ok.blt,I.ok.above,I.ok.inj,I.ok.has,I.ok.wH,I.ok.hd,I.ok.frames,I.ok.sZ,I.ok.ym,I.ok.bs,I.ok.qu,I.ok.wI,I.ok.wJ,I.ok.nQ,I.ok.s6⟩,I.os,I.bare,I.base,I.loc,I.cell,I.free,I.oJ,fun p aL=>I.pin p (by simpa using aL),I.bL,I.len⟩
theorem Inv.awc(I:Inv (X.ro (X.ha++pins)) [] σ H s):Inv X pins σ H s :=
 ⟨⟨I.ok.mod,I.ok.kind,I.ok.glob,I.ok.blt,I.ok.above,I.ok.inj,I.ok.has,I.ok.wH,I.ok.hd,I.ok.frames,I.ok.sZ,I.ok.ym,I.ok.bs,I.ok.qu,I.ok.wI,I.ok.wJ,I.ok.nQ,I.ok.s6⟩,I.os,I.bare,I.base,I.loc,I.cell,I.free,I.oJ,fun p aL=>I.pin p (by simpa using aL),I.bL,I.len⟩
theorem Inv.BX(I:Inv X pins σ H s)(e:aO):Inv (X.BX e) pins σ H s :=
 ⟨⟨I.ok.mod,I.ok.kind,I.ok.glob,I.ok.blt,I.ok.above,I.ok.inj,I.ok.has,I.ok.wH,(fun z=>nomatch z),I.ok.frames,I.ok.sZ,I.ok.ym,I.ok.bs,I.ok.qu,I.ok.wI,I.ok.wJ,I.ok.nQ,I.ok.s6⟩,I.os,I.bare,I.base,I.loc,I.cell,I.free,I.oJ,I.pin,I.bL,I.len⟩
theorem Inv.uncaught{e:aO}(hd:X.calm=true->X.A.handled=none)(I:Inv (X.BX e) pins σ H s):Inv X pins σ H s :=
 ⟨⟨I.ok.mod,I.ok.kind,I.ok.glob,I.ok.blt,I.ok.above,I.ok.inj,I.ok.has,I.ok.wH,hd,I.ok.frames,I.ok.sZ,I.ok.ym,I.ok.bs,I.ok.qu,I.ok.wI,I.ok.wJ,I.ok.nQ,I.ok.s6⟩,I.os,I.bare,I.base,I.loc,I.cell,I.free,I.oJ,I.pin,I.bL,I.len⟩
theorem SP.re{X Y:bT}{pins JF:List (au×Obj)}{D:Ends}{f:Flow}{s':aY}(wU:∀ σ H s,Inv X pins σ H s->Inv Y JF σ H s)(h:SP X pins D f s'):SP Y JF D f s':=by
 unfold SP at *;cases f with
 |next=>obtain⟨a,b,i,q⟩:=h;exact⟨a,b,wU _ _ _ i,q⟩
 |brk=>obtain⟨a,b,i,q⟩:=h;exact⟨a,b,wU _ _ _ i,q⟩
 |cont=>obtain⟨a,b,i,q⟩:=h;exact⟨a,b,wU _ _ _ i,q⟩
 |ret u=>obtain⟨v,a,b,i,r,q⟩:=h;exact⟨v,a,b,wU _ _ _ i,r,q⟩
end
def awd(C:au)(tb:cN->TS)(th:TS):TS:=fun D σ H=>tb (fun c _ H'=>c=.ref C/\∀ dg,th D dg H') D σ H
theorem akV{X:bT}{C:au}{x:Str}{np U0 pos:Pos}{body:List Stmt}{vh:Stmt}{suite:List Stmt}{tb:cN->TS}{th:TS}(d1:sm X)(b5:qw X x)(hm:X.av x=some (.ref C))(q:yN X.K C)
  (ak:∀ (ha:List (au×Obj)) (E:cN),pL ((X.ro ha).exc E) body (tb E)) (hh:∀ (ha:List (au×Obj)) (e:aO),pL ((X.ro ha).BX e) (vh::suite) th) (m':(x == ("__debug__":Str))=false:=by decide) :
  PS X (.Try body [.ExceptHandler (some (.Name x np)) none (vh::suite) U0] [] [] pos) (awd C tb th):=by
 intro pins s σ H D I h;have hd:=I.ok.hd;generalize Wg:X.ha++pins=ha;have awe:Inv (X.ro ha) [] σ H s:=Wg▸I.ro;have back:∀ σ H s,Inv (X.ro ha) [] σ H s->Inv X pins σ H s:=fun σ H s i=>by
  subst Wg;exact i.awc
 refine wpAny_Try_except (wpAny_mono (ak ha _ [] s σ H D (awe.wish _) h) (fun f s1 z=>?_) fun e s1 r=>?_)
 ·have lG:SP X pins D f s1:=SP.re back z.q7
  cases f with
  |next=>exact wpAny_execs_nil lG
  |brk=>exact lG
  |cont=>exact lG
  |ret u=>exact lG
 ·have r:nW (X.ro ha) (fun c _ H'=>c=.ref C/\∀ dg,th D dg H') e s1:=r
  refine V_ (X:=X.ro ha) d1 r.frames rfl r fun s2 dp=>acC dp fun s3 d4=>?_;obtain⟨pO,aJ,a,c,rfl,eV,kv,rfl,b_⟩:=d4;have eV:Inv (X.ro ha) [] pO aJ s3:=eV.q7;obtain⟨b0,oe,vs,he,iV,Wh,aHh⟩:=id kv;obtain⟨bm,N,nm,qn,bs,hdct,sn,sub,ab,col,dd,k0,k1,k2,k3,k5,vg,⟨acD,acE⟩,bL,Kp,vl⟩:=q.k;refine wpAny_handleBy_cons (codeAny_handlers_test ?_) (by intro z;cases z);refine Fe (X:=(X.ro ha).BX (.ref a)) (eV.BX _) b5 hm ?_ m';have cx:OwnTail s3.heap [.type "Exception",.type "BaseException",.type "object"] bm:=PySem.W.tail_of_in eV.jK vl;obtain⟨aL,aHi,d,tk,os⟩:=s3;refine wpAny_excMatches_sub_self (eV.jK _ _ vg) he iV (cx.hasType (by decide)) ?_;refine codeAny_handlers_suite ?_;refine acB (X:=(X.ro ha).q6) (eV.wish _) kv fun s4 mb qx=>?_;refine wpAny_mono (hh ha (.ref a) [] s4 pO aJ D ((mb.q7).BX _) (b_ pO)) (fun f s5 z=>?_) fun _ _ z=>z.elim;exact SP.re (fun σ H s i=>back σ H s (Inv.uncaught hd i)) z
section
variable{prog:fx}{w:e4}{A:Around}{E:aO->aY->Prop}
abbrev qG(prog:fx)(w:e4):HeapKind prog w (List Key):=tupleKind (iT prog w)
theorem Kv{h h':Heap}{ks:List Key}{a d:au}(x:(qG prog w).is h ks a)(ne:a≠d)(k:∀ b o,b≠d->h.get? b=some o->h'.get? b=some o):(qG prog w).is h' ks a:=by
 obtain⟨o,its,n,z,r⟩:=x;exact⟨o,its,n,k a o ne z,r⟩
theorem akW{h h':Heap}{S d:au}{xs:List (List Key×au×aO)}(x:h.DictOfH (qG prog w) S xs)(ne:S≠d)(aap:∀ q∈xs,q.2.1≠d)(k:∀ b o,b≠d->h.get? b=some o->h'.get? b=some o):h'.DictOfH (qG prog w) S xs:=by
 obtain⟨o,es,ep,z,gn,eH,ni,Gi,BZ⟩:=x;exact⟨o,es,ep,k S o ne z,gn,eH,ni,fun q a6=>Kv (Gi q a6) (aap q a6) k,BZ⟩
def Kw(acc rest:List (List Key×au×aO)):List (List Key×au×aO):=rest.foldl (fun acc q=>storedH acc q.1 q.2.1 q.2.2) acc
theorem awf(xs:List (List Key×au×aO))(k:List Key)(a:au)(v:aO):(storedH xs k a v).length<=xs.length+1:=by
 unfold storedH;split<;>simp
theorem awg{xs:List (List Key×au×aO)}{k:List Key}{a:au}{v:aO}{q:List Key×au×aO}(h:q∈storedH xs k a v):q.2.1=a\/∃ d9∈xs,d9.2.1=q.2.1:=by
 unfold storedH at h;split at h
 ·obtain⟨d9,kl,rfl⟩:=g6.mp h;refine .inr ⟨d9,kl,?_⟩;unfold putAt;split<;>rfl
 ·rcases pe.mp h with h|h
  ·exact .inr ⟨q,h,rfl⟩
  ·rw[g5.mp h];exact .inl rfl
theorem akX{R:Result->aY->Prop}{S I l:au}{items:Array aO}{res:aO}(hh:A.handled=none)(cF:A.in1.units<cLine)(Ke:l≠I)(wY:S≠I)(Kf:S≠l) :
  ∀ (rest:List (List Key×au×aO)) (i:Nat) (acc:List (List Key×au×aO)) (tA:Int) (t:Tok) (s:aY),items.size=i+rest.length->acc.length+rest.length<=sizeLine->(∀ q∈acc,q.2.1≠I) ->
   (∀ (j:Nat) (q:List Key×au×aO),rest[j]?=some q->∃ (b:au),items[i+j]?=some (.ref b)/\b≠S/\b≠I/\q.2.1≠S/\q.2.1≠I/\IsTup s.heap b #[.ref q.2.1,q.2.2]/\(qG prog w).is s.heap q.1 q.2.1) ->
   s.heap.IsListIter I l i->s.heap.IsList l items->s.heap.DictOfH (qG prog w) S acc ->
   (∀ h' tk,h'.DictOfH (qG prog w) S (Kw acc rest)->(∀ b o,b≠S->b≠I->s.heap.get? b=some o->h'.get? b=some o)->R (.ok (.ret res)) { s with heap:=h',toks:=tk }) ->
   codeAny (model prog w) A (.builtin "dict.update.loop" ⟨[.ref S,.ref I,.int tA t,res],[]⟩) R s
 | [],i,acc,tA,t,s,hsz,jj,rp,b_,hit,aF,hm,mz=>by
  refine codeAny_builtin V3 ?_;rw[Around.under_plainId ve _];show wpAny _ A.in1 (pyNext (.ref I) >>= _) _ _ s;refine wpAny_bind (wpAny_pyNext_list_end (A:=A.in1) hh hit aF (by first|exact Array.getElem?_eq_none (Aj hsz)|(simp at hsz;simp;omega)) fun h' he=>?_);show wpAny _ A.in1 (Builtin.Dict.addKeywords S [] >>= _) _ _ _;refine wpAny_bind (wpAny_pure (wpAny_pure ?_));exact mz h' s.toks (akW hm wY rp fun b o ak e=>he b o ak e) fun b o _ ak e=>he b o ak e
 |q::rest,i,acc,tA,t,s,hsz,jj,rp,b_,hit,aF,hm,mz=>by
  obtain⟨b,ak,avj,ace,aHj,akY,acf,aN⟩:=b_ 0 q rfl;rw[eo]at hsz jj;refine codeAny_builtin V3 ?_;rw[Around.under_plainId ve _];show wpAny _ A.in1 (pyNext (.ref I) >>= _) _ _ s;refine wpAny_bind (wpAny_pyNext_list_item (x:=.ref b) hit aF (by simpa using ak) fun h1 acg pC=>?_);have Jo:IsTup h1 b #[.ref q.2.1,q.2.2]:=acf.extBut pC.extBut ace;have kE:h1.IsList l items:=aF.extBut pC.extBut Ke;have k1:∀ b o,b≠I->s.heap.get? b=some o->h1.get? b=some o:=fun b o ak e=>pC.extBut b o ak e;have Kg:h1.DictOfH (qG prog w) S acc:=akW hm wY rp k1;have nf:(qG prog w).is h1 q.1 q.2.1:=Kv aN akY k1;obtain⟨o,bB,aV,n,hd⟩:=id Jo;show wpAny _ A.in1 (holding [Value.ref b] _ >>= _) _ _ _;refine wpAny_bind (wpAny_holding ?_);refine wpAny_bind (wpAny_tryCatch ?_);unfold Builtin.Dict.pairItems;refine wpAny_bind (wpAny_typeOf (T:="tuple") ⟨o,bB,aV⟩ ?_);rw[bM (by first|decide|rfl|simp)];refine wpAny_bind (wpAny_seqItems bB hd (wpAny_pure ?_));show wpAny _ A.in1 (holding [.ref q.2.1,q.2.2] (dictSet S (.ref q.2.1) q.2.2)) _ _ _;refine wpAny_holding (wpAny_dictSet_heap (knd:=qG prog w) (k:=q.1) cF nf Kg (fun aC yJ lJ=>?_) (by omega));have k2:∀ b o,b≠S->h1.get? b=some o->aC.get? b=some o:=fun b o ak e=>lJ.extBut b o ak e;refine wpAny_pure ⟨plainId_quiet ve _,akX (items:=items) hh cF Ke wY Kf rest (i+1) (storedH acc q.1 q.2.1 q.2.2) (tA+1) 0 _ (show items.size=i+1+rest.length by omega) ?_ (fun d9 kl=>?_) (fun j d9 e=>?_) ?_ ?_ yJ fun h' tk lD k=>?_⟩
  ·have z:=awf acc q.1 q.2.1 q.2.2
   omega
  ·rcases awg kl with z|⟨cB,gn,eH⟩
   ·rw[z];exact akY
   ·rw[← eH];exact rp cB gn
  ·obtain⟨b',g9,Kh,Kl,akZ,ak0,ach,Bw⟩:=b_ (j+1) d9 (by simpa using e);refine⟨b',?_,Kh,Kl,akZ,ak0,(ach.extBut pC.extBut Kl).extBut lJ.extBut Kh,Kv (Kv Bw ak0 k1) akZ k2⟩;rw[show i+1+j=i+(j+1) by omega];exact g9
  ·exact acg.at fun hG e=>lJ.extBut I hG (Ne.symm wY) e
  ·exact kE.extBut lJ.extBut (Ne.symm Kf)
  ·exact mz h' tk lD fun c jL bI dz e=>k c jL bI dz (lJ.extBut c jL bI (pC.extBut c jL dz e))
theorem awh{s:aY}{l:au}{ol:Obj}{items:Array aO}{n:Nat}{prs:List (List Key×au×aO)}{Q:aO->aY->Prop}(hh:A.handled=none)(cF:A.in1.in1.units<cLine)(aF:s.heap.get? l=some ol)(aV:ol.cls=.type "list") (hd:ol.dict=none)
  (sg:ol.data=.seq items n) (hsz:items.size=prs.length) (jj:prs.length<=sizeLine)
  (b_:∀ (j:Nat) (q:List Key×au×aO),prs[j]?=some q->∃ (b:au),items[j]?=some (.ref b)/\IsTup s.heap b #[.ref q.2.1,q.2.2]/\(qG prog w).is s.heap q.1 q.2.1)
  (h:∀ h' tk,h'.DictOfH (qG prog w) s.heap.objs.size (Kw [] prs)->(∀ b o,s.heap.get? b=some o->h'.get? b=some o)->Q (.ref s.heap.objs.size) { s with heap:=h',toks:=tk }) :
  wpAny (model prog w) A (call (.type "dict") [.ref l]) Q E s:=by
 refine callType_codes (Q₁:=fun obj fV=>obj=.ref s.heap.objs.size/\fV={ s with heap:=s.heap.push { cls:=.type "dict",data:=.dict #[] } }) PySem.F.kt_called_dict (PySem.F.kt_typeCall_dict_1 _) PySem.F.entry_dict_init (kt_code_dict_new _ ⟨rfl,rfl⟩) ?_;rintro obj fV ⟨rfl,rfl⟩;have BK:(s.heap.push { cls:=.type "dict",data:=.dict #[] }).DictOfH (qG prog w) s.heap.objs.size []:=Heap.DictOfH.new s.heap;have k0:∀ b o,s.heap.get? b=some o->(s.heap.push { cls:=.type "dict",data:=.dict #[] }).get? b=some o:=fun b o e=>iC _ e;refine⟨BK.typeIs,PySem.F.args_dict_init_2 _ _,?_⟩;unfold Builtin.«dict.__init__»;refine wpAny_bind ?_;unfold Builtin.Dict.selfAndRest;refine wpAny_bind (wpAny_notOrdered_dict BK.typeIs ?_);show wpAny _ _ (pure (s.heap.objs.size,[Value.ref l])) _ _ _;refine wpAny_pure ?_;show wpAny _ _ (Builtin.Dict.updateFrom "dict.__init__" s.heap.objs.size (.ref l) [] .none) _ _ _;unfold Builtin.Dict.updateFrom;refine wpAny_bind (wpAny_typeOf (T:="list") ⟨ol,k0 _ _ aF,aV⟩ ?_);rw[bM (by first|decide|rfl|simp)];refine wpAny_bind (aky (k0 _ _ aF) aV sg hd hh fun h1 aci nf=>?_);rw[bM (show(none:Option aO).isNone=true from rfl)];refine wpAny_bind (wpAny_rule ?_);have kE:h1.IsList l items:=⟨ol,nf _ _ (k0 _ _ aF),aV,n,sg⟩;have j2:s.heap.objs.size<h1.objs.size:=by
  have e:(s.heap.push { cls:=.type "dict",data:=.dict #[] }).get? s.heap.objs.size=some { cls:=.type "dict",data:=.dict #[] }:=lV _ rfl;exact fH (nf _ _ e)
 refine wpAny_bind (wpAny_pyIter_list kE ?_);have k2:∀ b o,h1.get? b=some o->(h1.push { cls:=.type "list_iterator",data:=.fields #[.ref l,.int 0 0] }).get? b=some o:=fun b o e=>iC _ e;have c0:l<s.heap.objs.size:=fH aF;have up:∀ b o,b≠(1+h1.objs.size+1)->s.heap.get? b=some o->(h1.push { cls:=.type "list_iterator",data:=.fields #[.ref l,.int 0 0] }).get? b=some o:=fun b o _ z=>k2 _ _ (nf _ _ (k0 _ _ z));have key:=akX (prog:=prog) (w:=w) (A:=A.in1) (R:=wants (fun r lZ=>r=.none/\Q (.ref s.heap.objs.size) lZ) E) (S:=s.heap.objs.size) (I:=h1.objs.size) (l:=l) (items:=items) (res:=Value.none) hh cF
  (gU (rZ c0 j2)) (gU j2) (v8 c0) prs 0 [] 0 0
  { s with heap:=h1.push { cls:=.type "list_iterator",data:=.fields #[.ref l,.int 0 0] },toks:=aci } (by rw[hsz,p8]) (by rw[rY,p8];exact jj) (fun q a6=>nomatch a6)
  (fun j q e=>by
   obtain⟨b,bF,a9,dw⟩:=b_ j q e;have ak:b<s.heap.objs.size:=a9.lt;have a6:q.2.1<s.heap.objs.size:=by
    obtain⟨o,_,_,z,_⟩:=dw;exact fH z
   exact⟨b,by rw[p8];exact bF,gU ak,gU (rZ ak j2),gU a6,gU (rZ a6 j2),a9.keeps fun c o z=>k2 _ _ (nf _ _ (k0 _ _ z)),Kv (d:=1+h1.objs.size+1) dw (gU (show q.2.1<1+h1.objs.size+1 from rZ (rZ a6 j2) (by omega))) up⟩)
  ⟨_,lV _ rfl,rfl,rfl⟩ (kE.at fun o e=>k2 _ _ e) (by
   obtain⟨o,es,ep,z,gn,eH,ni,Gi,BZ⟩:=BK;exact⟨o,es,ep,k2 _ _ (nf _ _ z),gn,eH,ni,fun q a6=>(nomatch a6),BZ⟩)
  (fun h' tk lD k=>⟨rfl,h h' tk lD fun b o e=>k b o (gU (fH e)) (gU (rZ (fH e) j2)) (k2 _ _ (nf _ _ (k0 _ _ e)))⟩)
 first
  |exact wpAny_pure ⟨plainId_quiet ve _,key⟩
  |exact wpAny_bind (wpAny_pure (wpAny_pure ⟨plainId_quiet ve _,key⟩))
end
def qH(kvs more:List (List Key×V)):List (List Key×V):=more.foldl (fun acc bD=>putK acc bD.1 bD.2) kvs
theorem ak1:∀ (more kvs:List (List Key×V)),(qH kvs more).length<=kvs.length+more.length
 | [],kvs=>cH _
 |bD::more,kvs=>by
  have h1:=ak1 more (putK kvs bD.1 bD.2);have aC:=Bx kvs bD.1 bD.2;have e:qH kvs (bD::more)=qH (putK kvs bD.1 bD.2) more:=rfl;rw[e,eo];omega
theorem KT.merge{H:ao}:∀ {more:List (List Key×V)} {rs:List (List Key×au×aO)} {kvs:List (List Key×V)} {xs:List (List Key×au×aO)},KT H more rs->KT H kvs xs->KT H (qH kvs more) (Kw xs rs)
 |_,_,_,_,.nil,r=>r
 |_,_,_,_,.cons (a:=bD) (b:=q) h t,r=>by
  obtain⟨bF,a9,dw⟩:=h;have z:=r.put bD.1 a9 dw;rw[bF]at z;show KT H (qH (putK _ bD.1 bD.2) _) (Kw (storedH _ q.1 q.2.1 q.2.2) _);rw[← bF]at z ⊢;exact KT.merge t z
section
variable{X:bT}
theorem ak2{pins:List (au×Obj)}{σ:St}{H:ao}{s:aY}(I:Inv X pins σ H s):∀ {ps:d2} {kvs:List (List Key×V)},Paired (fun p bD=>∃ a,fO X.K H p [.ref a,bD.2]/\H a=some (.tup (bD.1.map c3))) ps kvs ->
  ∃ prs:List (List Key×au×aO),KT H kvs prs/\prs.length=ps.length/\∀ (j:Nat) (q:List Key×au×aO),prs[j]?=some q->∃ (b:au),ps[j]?=some b/\IsTup s.heap b #[.ref q.2.1,q.2.2]/\(qG X.prog X.w).is s.heap q.1 q.2.1
 |_,_,.nil=>⟨[],.nil,rfl,fun j q e=>by simp at e⟩
 |_,_,.cons (a:=p) (b:=bD) h t=>by
  obtain⟨prs,r,aF,aL⟩:=ak2 I t;obtain⟨a,aX,aN⟩:=h;obtain⟨its,e0,b_,_⟩:=I.tuple aX;obtain⟨u,y,u_,ho,b4⟩:=vals2 e0;subst u_;cases ho;refine⟨(bD.1,a,y)::prs,.cons ⟨rfl,aN,b4⟩ r,by rw[eo,eo,aF],fun j q e=>?_⟩;cases j with
  |zero =>
   have e':(bD.1,a,y)=q:=Option.some.inj e;subst e';exact⟨p,Z,b_,yH I.bL aN⟩
  |succ j =>
   obtain⟨b,bF,a9,dw⟩:=aL j q (by simpa using e);exact⟨b,by simpa using bF,a9,dw⟩
theorem ak3(acn:X.calm=true)(cF:X.A.units+2<cLine):q9 X (.type "dict") (fun xs H Q=>∃ (a:au) (ps:d2) (kvs:List (List Key×V)),xs=[.ref a]/\aT X.K H a (ps.map V.ref) /\
  Paired (fun p bD=>∃ a,fO X.K H p [.ref a,bD.2]/\H a=some (.tup (bD.1.map c3))) ps kvs/\∀ p,H p=none->Q (.ref p) (upd H p (.gF (qH [] kvs)))):=by
 intro pins s σ H xs us Q I r q;obtain⟨a,ps,kvs,ex,a6,aL,q⟩:=q;subst ex;obtain⟨u,aco,cc⟩:=vals1 r;subst aco;cases cc;obtain⟨its,e0,pl,hz⟩:=I.list a6;have u_:=acj e0;subst u_;rw[ey]at hz;obtain⟨prs,rel,aF,jP⟩:=ak2 I aL;obtain⟨o,n,bB,aV,hd,sg⟩:=pl;refine awh (prs:=prs) (I.ok.hd acn) (by show X.A.units+1+1<cLine;omega) bB aV hd sg (by simp[aF]) (by rw[aF];exact hz) (fun j d9 e=>?_) fun h' tk lD k=>?_
 ·obtain⟨b,bF,a9,dw⟩:=jP j d9 e;exact⟨b,by simp[bF],a9,dw⟩
 ·have hm:(s.heap.objs.size == sysModules)=false:=beq_eq_false_iff_ne.mpr (v8 I.big)
  have hf:=I.bL.fresh (cH s.heap.objs.size);have hlen:(qH [] kvs).length<=sizeLine:=by
   refine jg (ak1 kvs []) ?_;rw[rY,p8,Paired.length rel,aF];exact hz
  obtain⟨awi,es,ep,z,gn,eH,ni,Gi,BZ⟩:=lD;exact⟨.ref s.heap.objs.size,upd H s.heap.objs.size (.gF (qH [] kvs)),I.laid (t':=tk) k (cH _) (show hP X.prog X.w _ _ _ (.gF (qH [] kvs)) from
   ⟨hlen,hm,Kw [] prs,(KT.merge rel .nil).keeps fun c bO ec=>by rw[a7 (bR ec hf)];exact ec,awi,es,ep,z,gn,eH,ni,BZ⟩),Z,q _ hf⟩
end
section
variable{X:bT}{pins:List (au×Obj)}{σ:St}{H:ao}{s:aY}{h':Heap}
theorem Inv.awj{a:au}{o:HO}{t':Nat}(I:Inv X pins σ H s)(k:∀ b u,s.heap.get? b=some u->h'.get? b=some u)(aL:s.heap.get? a=none)(new:hP X.prog X.w (upd H a o) h' a o) :
  Inv X pins σ (upd H a o) { s with heap:=h',toks:=t' }:=by
 have aR:H a=none:=I.bL.free aL;have ne:∀ b u,s.heap.get? b=some u->b≠a:=fun b u q z=>by
  rw[z,aL]at q;cases q
 refine I.un ⟨fun b u q _ _ _=>k b u q,fun b u q _ _ _=>⟨u.slots,k b u q⟩,fun b u q n _=>by rw[a7 (ne b u q)];exact n,fun b u q _=>⟨u,k b u q⟩,fun b xs q=>by rw[a7 (bR q aR)];exact q,
  fun b u v q=>by rw[a7 (bR q aR)];exact q,fun b ps q=>⟨#[],by rw[a7 (bR q aR),q];simp⟩⟩ fun b u q=>?_
 by_cases ak:b=a
 ·subst ak;rw[a8]at q;cases q;exact new
 ·rw[a7 ak]at q;exact(I.bL b u q).stay (fun c v _ r=>k c v r) (fun c r=>by rw[a7 (bR r aR)];exact r) fun c xs r=>by rw[a7 (bR r aR)];exact r
end
section
variable{X:bT}
theorem awk{prog:fx}{w:e4}{d:au}(n:Nat)(lo:(d == sysModules)=false) :
  MeetsIn prog w (Builtin.«dict.__len__» ⟨[.ref d],[]⟩) (fun _ R s=>∃ o es ep,s.heap.get? d=some o/\o.data=.dict es ep/\es.size=n/\R (.ok (.ret (.int n s.toks))) { s with toks:=s.toks+1 }) :=
 .of_wp fun A R s ⟨o,es,ep,bB,Wh,aR,k⟩=>by
  show wpAny _ _ (dictSize d >>= _) _ _ s;unfold dictSize;refine wpAny_bind (wpAny_bind (wpAny_dictEntries bB Wh (wpAny_pure ?_)));show wpAny _ _ (Builtin.Dict.pendingCount d >>= _) _ _ s;refine wpAny_bind (wpAny_pendingCount_other lo (wpAny_ret_mkInt ?_));rw[Nat.add_zero,aR];exact k
theorem awl:q9 X (.builtin "len") (fun xs H Q=>∃ a kvs,xs=[V.ref a]/\H a=some (.gF kvs)/\Q (.int kvs.length) H):=by
 intro pins s σ H xs us Q I r h;obtain⟨a,kvs,rfl,aX,q⟩:=h;obtain⟨u,rfl,ho⟩:=vals1 r;cases ho;obtain⟨z,lo,xs,rel,dd⟩:=aku I.bL aX;obtain⟨o,es,ep,bB,hex,Wh,awm,aHk,Wi⟩:=id dd;have hsz:es.size=kvs.length:=by
  rw[size_of_entries awm,← Paired.length rel]
 have q4:(kvs.length:Int)<2 ^ 63:=by
  have:=Bp;omega
 refine Calls.call_function_entry kind_len plain_len entry_len (args_len1 _) ?_;unfold Builtin.«len»;refine wpAny_bind (m:=oneArg "len" _) (wpAny_pure (wpAny_bind (m:=callSpecial? (.ref a) (Str.ofString "__len__")) ?_));refine wpAny_callSpecial?_slot (name:=Str.ofString "__len__") dd.typeIs F.slot_dict_len (call_meetsIn F.slot_dict_len dd.typeIs F.entry_dict_len (F.args_dict_len_1 _) (awk kvs.length lo) ⟨o,es,ep,bB,Wh,hsz,?_⟩);refine wpAny_bind (wpAny_holding (wpAny_pure (wpAny_bind (wpAny_letGo ?_))));show wpAny _ _ (if((kvs.length:Nat):Int)<0 then _ else _) _ _ _;rw[bx (show ¬ ((kvs.length:Nat):Int)<0 by omega)];show wpAny _ _ (if((kvs.length:Nat):Int) ≥ 2 ^ 63 then _ else _) _ _ _;rw[bx (show ¬ ((kvs.length:Nat):Int) ≥ 2 ^ 63 by omega)];exact wpAny_bind (wpAny_mkInt (wpAny_pure ⟨_,rfl,.int kvs.length,H,I.tok _,⟨_,rfl⟩,q⟩))
theorem awn:q9 X (.type "range") (fun xs H Q=>∃ j:Int,xs=[.int j]/\∀ p,H p=none->Q (.ref p) (upd H p (.uU 0 j))):=by
 intro pins s σ H xs us Q I r h;obtain⟨j,rfl,q⟩:=h;obtain⟨u,rfl,t,rfl⟩:=vals1 r;refine call_range_1 ?_;exact⟨.ref s.heap.objs.size,upd H s.heap.objs.size (.uU 0 j),I.laid (fun b o e=>iC _ e) (cH _) ⟨_,_,_,lV _ rfl⟩,Z,q _ (I.bL.fresh (cH _))⟩
theorem awo{acc:Array aO}{n:Nat}(h:ItemsOf (fun i v=>∃ t,v=Value.int ((0:Int)+(i:Nat) * 1) t) acc n):Vals ((List.range n).map fun i=>V.int (i:Nat)) acc.toList:=by
 obtain⟨aF,a0⟩:=h;have key:∀ (m:Nat),m<=n->Vals (((List.range n).take m).map fun i=>V.int (i:Nat)) (acc.toList.take m):=by
  intro m;induction m with
  |zero=>intro _;exact .nil
  |succ m bV =>
   intro hm;have rn:m<acc.size:=by omega
   have bF:acc.toList[m]?=some acc[m]:=by simp[rn]
   rw[vX,vX,oh,bF];have a9:(List.range n)[m]?=some m:=List.getElem?_range (by omega);rw[a9];refine Vals.append (bV (by omega)) (.cons ?_ .nil);obtain⟨t,b_⟩:=a0 m acc[m] (by simp[rn]);exact⟨t,by rw[b_];congr 1;omega⟩
 have:=key n (cH _);rw[f3 (by simp),f3 (by simp[aF])]at this;exact this
theorem awp(aV:X.calm=true):q9 X (.type "list") (fun xs H Q=>∃ (a:au) (n:Nat),xs=[.ref a]/\H a=some (.uU 0 n)/\n<=65536/\∀ p,H p=none->Q (.ref p) (upd H p (.lst ((List.range n).map fun i=>V.int (i:Nat))))):=by
 intro pins s σ H xs us Q I r h;obtain⟨a,n,rfl,aX,aR,q⟩:=h;obtain⟨u,rfl,ho⟩:=vals1 r;cases ho;obtain⟨t,u,v,bB⟩:=I.bL a _ aX;have hsz:Builtin.Range.rangeSize 0 (n:Int) 1=((n:Nat):Int):=by
  rw[rangeSize_one];split<;>omega
 refine call_list_range (I.ok.hd aV) (show IsRange s.heap a 0 (n:Int) 1 t u v from bB) (small_one (by omega) (by omega) (by omega) (by omega)) hsz (by omega) fun h' tk acc c' aN d1 rp=>?_;have hlen:((List.range n).map fun i=>V.int (i:Nat)).length<=sizeLine:=by
  rw[ey,List.length_range];exact jg aR (by decide)
 exact⟨.ref s.heap.objs.size,upd H s.heap.objs.size (.lst ((List.range n).map fun i=>V.int (i:Nat))),I.laid (t':=tk) aN (cH _) ⟨hlen,acc.toList,c',awo rp,by simpa using d1⟩,Z,q _ (I.bL.fresh (cH _))⟩
def awq:V->List V->ao->bA->Prop:=fun x xs H Q=>∃ i:Int,x=.int i/\xs=[]/\Q (.int ((Builtin.Int.intBits i:Nat):Int)) H
theorem awr:abQ X "int.bit_length" awq:=by
 intro pins s σ H x xs v us Q I cc r h;obtain⟨i,rfl,rfl,q⟩:=h;obtain⟨t,rfl⟩:=cc;cases r;exact call_int_bit_length ⟨.int ((Builtin.Int.intBits i:Nat):Int),H,I.tok _,⟨_,rfl⟩,q⟩
theorem Wj:ajF X (J0 X.K):=by
 intro pins s σ H x y v u Q I cc b4 h;obtain⟨p,xs,i,z,rfl,rfl,a6,he,q⟩:=h;cases cc;obtain⟨t,rfl⟩:=b4;obtain⟨its,r,pl,hz⟩:=I.list a6;obtain⟨j,h1,aC,bI,dz,js⟩:=abP he;obtain⟨w,Bu,nU⟩:=r.get aC;have aF:=r.length;have aR:=Bp;have fin:EP X pins σ Q w s:=⟨z,H,I,nU,q⟩;by_cases h0:0<=i
 ·have bN:i.toNat=j:=by
   rw[seqIndex_of h0 js]at h1;exact Option.some.inj h1
  exact wpAny_getItem_list pl.isList h0 (by omega) (by rw[bN];simpa using Bu) fin
 ·have bN:(i+(its.toArray.size:Int)).toNat=j:=by
   rw[seqIndex_neg (by omega) dz]at h1;rw[iD,← aF];exact Option.some.inj h1
  exact wpAny_getItem_list_neg pl.isList (by omega) (by rw[iD]<;>omega) (by omega) (by rw[bN];simpa using Bu) fin
theorem aws{kvs:List (Key×aO)}{ns:List Int}(aN:kvs.map (·.1)=ns.map Sum.inl){acc:Array aO}(h:ItemsOf (fun i v=>∃ k x,kvs[i]?=some (k,x)/\uT k v=true) acc kvs.length):IntsAre acc.toList ns:=by
 obtain⟨aF,a0⟩:=h;have hlen:ns.length=kvs.length:=by
  have:=congrArg List.length aN;simpa using this.symm
 refine Vals.ints ?_;have key:∀ (m:Nat),m<=ns.length->Vals ((ns.take m).map V.int) (acc.toList.take m):=by
  intro m;induction m with
  |zero=>intro _;exact .nil
  |succ m bV =>
   intro hm;have rn:m<acc.size:=by omega
   have ak4:m<ns.length:=by omega
   have bF:acc.toList[m]?=some acc[m]:=by simp[rn]
   rw[vX,vX,oh,bF,dT ak4];refine Vals.append (bV (by omega)) (.cons ?_ .nil);obtain⟨k,x,acL,awt⟩:=a0 m acc[m] (by simp[rn]);have dw:(kvs.map (·.1))[m]?=some k:=by rw[ek,acL];rfl
   rw[aN,ek,dT ak4]at dw;have oA:k=Sum.inl ns[m]:=(Option.some.inj dw).symm;subst oA;exact Value.isInt_shape awt
 have:=key ns.length (cH _);rw[f3 (cH _),f3 (by simp;omega)]at this;exact this
theorem awu(aV:X.calm=true):q9 X (.builtin "sorted") (fun vs H Q=>∃ (a:au) (kvs:List (Key×V)) (ns:List Int),vs=[.ref a]/\H a=some (.dX kvs)/\kvs.map (·.1)=ns.map Sum.inl /\
  ∀ (oM:List Int) (p:au),oM.Perm ns->oM.Pairwise (·<=·)->H p=none->Q (.ref p) (upd H p (.lst (oM.map V.int)))):=by
 intro pins s σ H vs us Q I r h;obtain⟨a,kvs,ns,rfl,aX,aN,q⟩:=h;obtain⟨u,rfl,ho⟩:=vals1 r;cases ho;obtain⟨z,hd,xs,rel,dd⟩:=ab7 I.bL aX;obtain⟨ep,kW⟩:=dd.dictAt;have Gj:xs.length<=sizeLine:=by rw[← rel.length];exact z
 refine Calls.call_function_entry kind_sorted plain_sorted entry_sorted (args_sorted1 _) ?_;unfold Builtin.«sorted»;refine wpAny_bind (m:=checkCount "sorted" 1 1 _) (wpAny_pure ?_);refine wpAny_bind (PySem.W.kdu_collect (A:=X.A.in1) (PySem.W.kdl_dict (knd:=iT X.prog X.w) (kvs:=xs) (ep:=ep) hd) (I.ok.hd aV) kW Gj fun h1 tk acc ak5 rp=>?_);have wU:IntsAre acc.toList ns:=aws (by rw[← rel.keys];exact aN) rp;have yP:acc.toList.length<=sizeLine:=by
  rw[I7,rp.1];exact Gj
 refine wpAny_bind (wpAny_newList ?_ yP);have JG:(h1.push { cls:=.type "list",data:=.seq acc.toList.toArray }).get? h1.objs.size=some (seqObj "list" acc.toList.toArray 0):=lV _ rfl;refine wpAny_bind (wpAny_holding (wpAny_call_entry slot_list_sort ⟨_,JG,rfl⟩ entry_list_sort (list_sort_treeAny JG wU yP fun out oM a1 a2 a3=>⟨_,rfl,?_⟩) (args_list_sort _)));refine wpAny_pure ⟨_,rfl,?_⟩;obtain⟨a9,awv⟩:=sortedHeap_at (out:=out) JG;have qI:s.heap.get? h1.objs.size=none:=by
  cases z:s.heap.get? h1.objs.size with
  |none=>rfl
  |some o=>exact absurd (fH (ak5 _ _ z)) (uK _)
 have hlen:(oM.map V.int).length<=sizeLine:=by
  rw[ey,a2.length_eq,← wU.length];exact yP
 have keep:∀ b o,s.heap.get? b=some o->(sortedHeap (h1.push { cls:=.type "list",data:=.seq acc.toList.toArray }) h1.objs.size acc.toList out).get? b=some o:=fun b o e=>by
  have ak:=ak5 b o e;have c0:=fH ak;rw[sortedHeap_old (gU c0) (by rw[q0];exact Nat.lt_succ_of_lt c0)];exact iC _ ak
 exact⟨.ref h1.objs.size,upd H h1.objs.size (.lst (oM.map V.int)),I.awj (t':=tk) keep qI ⟨hlen,out.toList,a9,akj a1,by simpa using awv⟩,Z,q oM _ a2 a3 (I.bL.free qI)⟩
def aww(td ty tx:TE):TE:=fun σ H Q=>td σ H fun x H1=>∃ a,x=.ref a/\V2 H1 a/\ty σ H1 fun y aB=>tx σ aB fun z aJ=>∃ kvs k,aJ a=some (.dX kvs)/\y=c3 k/\kvs.length<sizeLine /\
 (∀ v,dY kvs k=some v->Q v aJ)/\(dY kvs k=none->Q z (upd aJ a (.dX (putK kvs k z))))
theorem awx{o e f:Expr}{apos h8:Pos}{td ty tx:TE}(bB:PE X o td)(he:PE X e ty)(hf:PE X f tx)(m:M2 X o "setdefault" apos e f h8):PE X (.Call (.Attribute o "setdefault" apos) [e,f] [] h8) (aww td ty tx):=by
 intro pins s σ H Q I h;refine wpAny_Call_method m.base m.few m.line PySem.F.plainAttrs_dict PySem.F.slot_dict_setdefault PySem.F.type_dict_setdefault (cL (bB pins s σ H _ I h) fun u s1 aU=>?_);obtain⟨x,H1,bp,cc,a,ex,d,bU⟩:=aU;subst ex;obtain rfl:u=Value.ref a:=cc;obtain⟨t1,t2,_⟩:=acd bp d;refine⟨t1,t2,?_⟩;rw[m.trees];refine Calls.callWith_builtin rfl (Calls.evalArgs_plain (Calls.spliced_cons (cL (he pins s1 σ H1 _ bp bU) fun hR s2 ⟨y,aB,dK,b4,cB⟩ =>
  Calls.spliced_cons (cL (hf pins s2 σ aB _ dK cB) fun fv s3 ⟨z,aJ,eV,Fw,kvs,k,aX,aP,aF,g1,g2⟩=>Calls.spliced_nil ?_))))
 subst aP;obtain⟨awy,hd,vs,rel,dd⟩:=ab7 eV.bL aX;have awz:vs.length<=sizeLine:=by rw[← rel.length];exact awy
 have hval:=rel.val k;refine call_meetsIn PySem.F.slot_dict_setdefault dd.typeIs PySem.F.entry_dict_setdefault (PySem.F.args_dict_setdefault_3 _ _ _) (kt_meets_setdefault (iT X.prog X.w) a (wX b4) hd fv) ⟨vs,dd,awz,fun v a0=>?_,fun aR h' BJ aH=>?_⟩
 ·rw[a0]at hval;cases aN:dY kvs k with
  |none=>rw[aN]at hval;exact False.elim hval
  |some w=>rw[aN]at hval;exact⟨w,aJ,eV.tok _,hval,g1 w aN⟩
 ·rw[aR]at hval;cases aN:dY kvs k with
  |some w=>rw[aN]at hval;exact False.elim hval
  |none =>
   have g8:(putK kvs k z).length<=sizeLine:=by have:=Bx kvs k z;omega
   have hex:∃ q,h'.get? a=some q:=let ⟨q,_,_,a6,_⟩:=BJ;⟨q,a6⟩
   exact⟨z,_,ab8 eV (by rw[aX];exact True.intro) aH hex (akv g8 hd (rel.put k Fw) BJ),Fw,g2 aN⟩
end
end L2
namespace Sg
open PySem L2 Sr
open Sw28 (Item Font passed times many signAt rising Rule u16 within asked byte setOn begun s16 Anchor mapped word)
def top(i:Nat):Stmt:=PySem.Challenge.pw_signrow_s01_answers.main.body.getD i (.Pass ⟨0,0,0,0⟩)
abbrev acM:Stmt:=inClass (top 1) 0
abbrev acN:Stmt:=inClass (top 2) 0
abbrev acO:Stmt:=inClass (top 2) 1
abbrev acP:Stmt:=inClass (top 5) 0
abbrev acQ:Stmt:=inClass (top 5) 1
abbrev acR:Stmt:=inClass (top 9) 0
abbrev acS:Stmt:=inClass (top 10) 0
abbrev acT:Stmt:=inClass (top 11) 0
abbrev acU:Stmt:=inClass (top 11) 1
abbrev acV:Stmt:=inClass (top 11) 2
abbrev acW:Stmt:=inClass (top 11) 3
abbrev acX:Stmt:=inClass (top 11) 4
abbrev acY:Stmt:=inClass (top 13) 0
abbrev acZ:Stmt:=inClass (top 14) 0
abbrev ac0:Stmt:=inClass (top 14) 1
abbrev ac1:Stmt:=inClass (top 14) 2
abbrev ac2:Stmt:=inClass (top 20) 0
abbrev ac3:Stmt:=inClass (top 20) 1
abbrev ac4:Stmt:=inClass (top 20) 2
abbrev ac5:Stmt:=inClass (top 20) 3
abbrev ac6:Stmt:=inClass (top 20) 4
abbrev ac7:Stmt:=inClass (top 20) 5
abbrev ac8:Stmt:=inClass (top 20) 6
abbrev ac9:Stmt:=inClass (top 20) 7
abbrev ac_:Stmt:=inClass (top 20) 8
abbrev ac':Stmt:=inClass (top 52) 0
abbrev ada:Stmt:=inClass (top 53) 0
abbrev adb:Stmt:=inClass (top 54) 0
abbrev ade:Stmt:=inClass (top 85) 0
abbrev adf:Stmt:=inClass (top 85) 1
abbrev adg:Stmt:=inClass (top 85) 2
abbrev adh:Stmt:=inClass (top 101) 0
abbrev adi:Stmt:=inClass (top 101) 1
abbrev adk:Stmt:=inClass (top 101) 2
abbrev adl:Stmt:=inClass (top 101) 3
abbrev adn:Stmt:=inClass (top 101) 4
abbrev ado:Stmt:=inClass (top 101) 5
abbrev adp:Stmt:=inClass (top 102) 0
abbrev adq:Stmt:=inClass (top 102) 1
abbrev adt:Stmt:=inClass (top 102) 2
abbrev adu:Stmt:=inClass (top 102) 3
abbrev adv:Stmt:=top 3
abbrev adw:Stmt:=top 4
abbrev adx:Stmt:=top 17
abbrev ady:Stmt:=top 18
abbrev adz:Stmt:=top 19
abbrev adA:Stmt:=top 26
abbrev adB:Stmt:=top 27
abbrev adC:Stmt:=top 28
abbrev adD:Stmt:=top 29
abbrev adE:Stmt:=top 30
abbrev adF:Stmt:=top 31
abbrev adG:Stmt:=top 32
abbrev adH:Stmt:=top 33
abbrev adI:Stmt:=top 34
abbrev adJ:Stmt:=top 36
abbrev adK:Stmt:=top 38
abbrev adL:Stmt:=top 39
abbrev adM:Stmt:=top 41
abbrev adN:Stmt:=top 42
abbrev adO:Stmt:=top 43
abbrev adP:Stmt:=top 44
abbrev adQ:Stmt:=top 45
abbrev adR:Stmt:=top 46
abbrev adS:Stmt:=top 55
abbrev adT:Stmt:=top 56
abbrev adU:Stmt:=top 57
abbrev adV:Stmt:=top 58
abbrev adW:Stmt:=top 59
abbrev adX:Stmt:=top 60
abbrev adY:Stmt:=top 61
abbrev adZ:Stmt:=top 63
abbrev ad0:Stmt:=top 65
abbrev ad1:Stmt:=top 69
abbrev ad2:Stmt:=top 70
abbrev ad3:Stmt:=top 71
abbrev ad4:Stmt:=top 72
abbrev ad5:Stmt:=top 73
abbrev ad6:Stmt:=top 74
abbrev ad7:Stmt:=top 76
abbrev ad8:Stmt:=top 77
abbrev ad9:Stmt:=top 78
abbrev ad_:Stmt:=top 79
abbrev ad':Stmt:=top 80
abbrev aea:Stmt:=top 81
abbrev aeb:Stmt:=top 97
abbrev aec:Stmt:=top 98
abbrev aed:Stmt:=top 99
abbrev aee:Stmt:=top 100
abbrev aef:Stmt:=top 103
abbrev aeg:Stmt:=top 104
set_option genInjectivity false in
set_option genSizeOf false in
structure bW where
 rq:au
 Ky:au
 Kz:cG
 tH:au
 KC:au
 KD:cG
 KH:au
 KJ:cG
 jw:au
 KN:au
 KQ:cG
 KR:au
 KX:cG
 rr:au
 KY:au
 KZ:cG
 qJ:au
 K4:au
 K5:cG
 eu:au
 K6:au
 K7:cG
 K8:au
 K9:cG
 K_:au
 La:cG
 Lb:au
 Ld:cG
 Le:au
 Lf:cG
 nj:au
 Lg:au
 Lh:cG
 su:au
 Li:au
 Lj:cG
 Lk:au
 Ln:cG
 Lp:au
 Lq:cG
 jl:au
 iJ:au
 Lr:au
 Ls:cG
 Lw:au
 Lx:cG
 Ly:au
 Lz:cG
 LC:au
 LK:cG
 LQ:au
 LR:cG
 L1:au
 L_:cG
 Ma:au
 Mf:cG
 Mg:au
 Mh:cG
 Mi:au
 Mj:cG
 qK:au
 Mk:au
 Ml:cG
 rt:au
 Mp:au
 Mq:cG
 vm:au
 Mr:au
 Ms:cG
 B_:au
 fC:au
 Mt:au
 Mu:cG
 Mv:au
 Mw:cG
 Mx:au
 Mz:cG
 jx:au
 MF:au
 MJ:cG
 MK:au
 MN:cG
 MP:au
 M4:cG
 M5:au
 M6:cG
 M7:au
 M8:cG
 M9:au
 M_:cG
 iY:au
 Nb:au
 Nf:cG
 Ng:au
 Nh:cG
 Ni:au
 Nj:cG
 Nk:au
 Nm:cG
 Np:au
 Nq:cG
 Nr:au
 Nt:cG
 Nu:au
 Nv:cG
 Nx:au
 Ny:cG
 Nz:au
 NK:cG
 NP:au
 NQ:cG
 NT:au
 NZ:cG
 N5:au
 N6:cG
 N7:au
 N8:cG
 N_:au
 Oa:cG
 Ob:au
 Oc:cG
 Od:au
 Oe:cG
 Og:au
 Oh:cG
 Oi:au
 Oj:cG
 Ol:au
 Om:cG
 Oo:au
 Oq:cG
 Ot:au
 Ou:cG
 Ov:au
 Ow:cG
 Ox:au
 Oz:cG
 OD:au
 OJ:cG
 O1:au
 O2:cG
 O3:au
 O4:cG
 O5:au
 O6:cG
 O7:au
 O8:cG
 O9:au
 O_:cG
 O':au
 Pa:cG
 Pb:au
 Pg:cG
 Ph:au
 Pj:cG
 Pk:au
 Pn:cG
 Pq:au
 Pr:cG
 Pu:au
 Px:cG
 Py:au
 Pz:cG
 PB:au
 PJ:cG
 PK:au
 PL:cG
 PN:au
 PT:cG
 PX:au
 P0:cG
 P1:au
 P4:cG
 P_:au
 P':cG
 Qa:au
 Qc:cG
 Qd:au
 Qe:cG
 Qf:au
 Qg:cG
 Qh:au
 Qi:cG
 Qj:au
 Qk:cG
 Ql:au
 Qm:cG
 Qn:au
 Qo:cG
 Qp:au
 Qq:cG
 Qs:au
 Qt:cG
 Qu:au
 Qv:cG
 Qw:au
 Qx:cG
 Qy:au
 Wk:cG
 Gk:au
 Gl:au
structure Txt(K:cp)(av:g_)(t:bW):Prop where
 aeh:av "Context"=some (.ref t.rq)
 sv:iU K t.rq
 aei:mq K t.rq t.Ky
 Wl:cQ K t.rq "before"
 Qz:cQ K t.rq "there"
 Wm:cQ K t.rq "behind"
 QB:cQ K t.rq "acts"
 Wn:cu K "__init__" "Context.__init__" acM t.Ky t.Kz
 aej:av "Slot"=some (.ref t.tH)
 vo:iU K t.tH
 aek:mq K t.tH t.KC
 Gm:cQ K t.tH "free"
 Wo:cQ K t.tH "allowed"
 Wq:cu K "__init__" "Slot.__init__" acN t.KC t.KD
 Wr:cu K "bits_at" "Slot.bits_at" acO t.KH t.KJ
 Ws:Meth K t.tH "bits_at" t.KH
 ael:av "Contexts"=some (.ref t.jw)
 tK:iU K t.jw
 aem:mq K t.jw t.KN
 Gn:cQ K t.jw "entries"
 Wt:cQ K t.jw "onward"
 Wu:cQ K t.jw "backward"
 Wv:cu K "__init__" "Contexts.__init__" acP t.KN t.KQ
 Ww:cu K "first_fitting" "Contexts.first_fitting" acQ t.KR t.KX
 aen:Meth K t.jw "first_fitting" t.KR
 Wx:av "Rule"=some (.ref t.rr)
 jy:iU K t.rr
 Wy:mq K t.rr t.KY
 tL:cQ K t.rr "kind"
 QC:cQ K t.rr "passes"
 ru:cQ K t.rr "body"
 Wz:cu K "__init__" "Rule.__init__" acR t.KY t.KZ
 aeo:av "Feature"=some (.ref t.qJ)
 Gp:iU K t.qJ
 aep:mq K t.qJ t.K4
 WD:cQ K t.qJ "change_numbers"
 WK:cQ K t.qJ "place_numbers"
 WL:cu K "__init__" "Feature.__init__" acS t.K4 t.K5
 aer:av "Font"=some (.ref t.eu)
 gq:iU K t.eu
 aes:mq K t.eu t.K6
 Ca:cQ K t.eu "pieces"
 QD:cQ K t.eu "classes"
 WM:cQ K t.eu "widths"
 QF:cQ K t.eu "passing"
 Cd:cQ K t.eu "changes"
 Gq:cQ K t.eu "places"
 Ce:cQ K t.eu "features"
 WQ:cu K "__init__" "Font.__init__" acT t.K6 t.K7
 WR:cu K "sign_of" "Font.sign_of" acU t.K8 t.K9
 WT:Meth K t.eu "sign_of" t.K8
 WW:cu K "is_mark" "Font.is_mark" acV t.K_ t.La
 WX:Meth K t.eu "is_mark" t.K_
 WY:cu K "passes_over" "Font.passes_over" acW t.Lb t.Ld
 QG:Meth K t.eu "passes_over" t.Lb
 W0:cu K "left_places" "Font.left_places" acX t.Le t.Lf
 yQ:Meth K t.eu "left_places" t.Le
 aeu:av "Joining"=some (.ref t.nj)
 vp:iU K t.nj
 aev:mq K t.nj t.Lg
 QH:cQ K t.nj "order"
 QJ:cQ K t.nj "length"
 W2:cQ K t.nj "joined"
 W3:cu K "__init__" "Joining.__init__" acY t.Lg t.Lh
 aew:av "Joinings"=some (.ref t.su)
 sx:iU K t.su
 aex:mq K t.su t.Li
 Cg:cQ K t.su "by_signs"
 QK:cQ K t.su "lengths"
 W4:cu K "__init__" "Joinings.__init__" acZ t.Li t.Lj
 W5:cu K "tell" "Joinings.tell" ac0 t.Lk t.Ln
 aey:Meth K t.su "tell" t.Lk
 W6:cu K "first_fitting" "Joinings.first_fitting" ac1 t.Lp t.Lq
 aez:Meth K t.su "first_fitting" t.Lp
 W7:av "WrongFile"=some (.ref t.jl)
 W8:yN K t.jl
 aeA:av "Reader"=some (.ref t.iJ)
 dV:iU K t.iJ
 aeB:mq K t.iJ t.Lr
 Gs:cQ K t.iJ "content"
 Ci:cQ K t.iJ "at"
 yR:cQ K t.iJ "sign_count"
 W9:cu K "__init__" "Reader.__init__" ac2 t.Lr t.Ls
 W_:cu K "byte" "Reader.byte" ac3 t.Lw t.Lx
 Gu:Meth K t.iJ "byte" t.Lw
 Xa:cu K "number" "Reader.number" ac4 t.Ly t.Lz
 w5:Meth K t.iJ "number" t.Ly
 Xb:cu K "long_number" "Reader.long_number" ac5 t.LC t.LK
 QL:Meth K t.iJ "long_number" t.LC
 Xc:cu K "signed_number" "Reader.signed_number" ac6 t.LQ t.LR
 yS:Meth K t.iJ "signed_number" t.LQ
 Xd:cu K "within" "Reader.within" ac7 t.L1 t.L_
 jz:Meth K t.iJ "within" t.L1
 Xe:cu K "sign" "Reader.sign" ac8 t.Ma t.Mf
 rv:Meth K t.iJ "sign" t.Ma
 Xf:cu K "many_signs" "Reader.many_signs" ac9 t.Mg t.Mh
 QM:Meth K t.iJ "many_signs" t.Mg
 Xg:cu K "require_end" "Reader.require_end" ac_ t.Mi t.Mj
 aeC:Meth K t.iJ "require_end" t.Mi
 aeD:av "Anchor"=some (.ref t.qK)
 tM:iU K t.qK
 aeE:mq K t.qK t.Mk
 QS:cQ K t.qK "mark_class"
 QT:cQ K t.qK "right"
 QV:cQ K t.qK "up"
 Xh:cu K "__init__" "Anchor.__init__" ac' t.Mk t.Ml
 aeF:av "Anchors"=some (.ref t.rt)
 Gv:iU K t.rt
 aeG:mq K t.rt t.Mp
 Xi:cQ K t.rt "marks"
 Xj:cQ K t.rt "bases"
 Xk:cu K "__init__" "Anchors.__init__" ada t.Mp t.Mq
 aeH:av "Move"=some (.ref t.vm)
 yU:iU K t.vm
 aeI:mq K t.vm t.Mr
 Xl:cQ K t.vm "right"
 Xm:cQ K t.vm "up"
 Xn:cQ K t.vm "wider"
 Xo:cu K "__init__" "Move.__init__" adb t.Mr t.Ms
 Xp:av "TooLong"=some (.ref t.B_)
 Xq:yN K t.B_
 aeJ:av "Row"=some (.ref t.fC)
 eE:iU K t.fC
 aeK:mq K t.fC t.Mt
 iw:cQ K t.fC "signs"
 w6:cQ K t.fC "characters"
 vq:cQ K t.fC "widths"
 yV:cQ K t.fC "rights"
 yW:cQ K t.fC "ups"
 Xr:cu K "__init__" "Row.__init__" ade t.Mt t.Mu
 Xu:cu K "become" "Row.become" adf t.Mv t.Mw
 Cj:Meth K t.fC "become" t.Mv
 Xv:cu K "begin_placing" "Row.begin_placing" adg t.Mx t.Mz
 aeL:Meth K t.fC "begin_placing" t.Mx
 aeM:av "Session"=some (.ref t.jx)
 oV:iU K t.jx
 aeN:mq K t.jx t.MF
 tO:cQ K t.jx "font"
 Xw:cu K "__init__" "Session.__init__" adh t.MF t.MJ
 Xx:cu K "start" "Session.start" adi t.MK t.MN
 aeO:Meth K t.jx "start" t.MK
 Xy:cu K "take_file" "Session.take_file" adk t.MP t.M4
 aeP:Meth K t.jx "take_file" t.MP
 Xz:cu K "tell_sign" "Session.tell_sign" adl t.M5 t.M6
 aeQ:Meth K t.jx "tell_sign" t.M5
 XC:cu K "tell_feature" "Session.tell_feature" adn t.M7 t.M8
 aeR:Meth K t.jx "tell_feature" t.M7
 XD:cu K "tell_set" "Session.tell_set" ado t.M9 t.M_
 aeS:Meth K t.jx "tell_set" t.M9
 aeT:av "Feed"=some (.ref t.iY)
 kI:iU K t.iY
 aeU:mq K t.iY t.Nb
 Ck:cQ K t.iY "calls"
 w7:cQ K t.iY "at"
 XF:cu K "__init__" "Feed.__init__" adp t.Nb t.Nf
 XH:cu K "has_more" "Feed.has_more" adq t.Ng t.Nh
 aeV:Meth K t.iY "has_more" t.Ng
 XJ:cu K "take" "Feed.take" adt t.Ni t.Nj
 Gw:Meth K t.iY "take" t.Ni
 XK:cu K "take_list" "Feed.take_list" adu t.Nk t.Nm
 QW:Meth K t.iY "take_list" t.Nk
 QX:cu K "make_slot" "make_slot" adv t.Np t.Nq
 aeW:av "make_slot"=some (.ref t.Np)
 Gx:cu K "make_slots" "make_slots" adw t.Nr t.Nt
 XM:av "make_slots"=some (.ref t.Nr)
 nk:cu K "require" "require" adx t.Nu t.Nv
 oW:av "require"=some (.ref t.Nu)
 rx:cu K "require_rising" "require_rising" ady t.Nx t.Ny
 tQ:av "require_rising"=some (.ref t.Nx)
 QZ:cu K "require_not_falling" "require_not_falling" adz t.Nz t.NK
 aeX:av "require_not_falling"=some (.ref t.Nz)
 Q0:cu K "read_exchanges" "read_exchanges" adA t.NP t.NQ
 aeY:av "read_exchanges"=some (.ref t.NP)
 Q5:cu K "read_spreads" "read_spreads" adB t.NT t.NZ
 aeZ:av "read_spreads"=some (.ref t.NT)
 Q6:cu K "read_joinings" "read_joinings" adC t.N5 t.N6
 ae0:av "read_joinings"=some (.ref t.N5)
 Q7:cu K "read_set" "read_set" adD t.N7 t.N8
 ae1:av "read_set"=some (.ref t.N7)
 Cm:cu K "read_sets" "read_sets" adE t.N_ t.Oa
 Q8:av "read_sets"=some (.ref t.N_)
 Q9:cu K "read_act" "read_act" adF t.Ob t.Oc
 ae2:av "read_act"=some (.ref t.Ob)
 Q_:cu K "read_context" "read_context" adG t.Od t.Oe
 ae3:av "read_context"=some (.ref t.Od)
 Q':cu K "read_contexts" "read_contexts" adH t.Og t.Oh
 ae4:av "read_contexts"=some (.ref t.Og)
 Ra:cu K "read_body" "read_body" adI t.Oi t.Oj
 ae5:av "read_body_changefile"=some (.ref t.Oi)
 Rb:cu K "read_rule" "read_rule" adJ t.Ol t.Om
 ae6:av "read_rule_changefile"=some (.ref t.Ol)
 Rd:cu K "require_acts" "require_acts" adK t.Oo t.Oq
 ae7:av "require_acts"=some (.ref t.Oo)
 Rf:cu K "read_change_rules" "read_change_rules" adL t.Ot t.Ou
 ae8:av "read_change_rules"=some (.ref t.Ot)
 Rg:cu K "exchange_signs" "exchange_signs" adM t.Ov t.Ow
 ae9:av "exchange_signs"=some (.ref t.Ov)
 Rh:cu K "spread_signs" "spread_signs" adN t.Ox t.Oz
 ae_:av "spread_signs"=some (.ref t.Ox)
 Ri:cu K "join_signs" "join_signs" adO t.OD t.OJ
 ae':av "join_signs"=some (.ref t.OD)
 Rj:cu K "do_acts" "do_acts" adP t.O1 t.O2
 afa:av "do_acts"=some (.ref t.O1)
 Rk:cu K "change_around" "change_around" adQ t.O3 t.O4
 afb:av "change_around"=some (.ref t.O3)
 Rm:cu K "change_by" "change_by" adR t.O5 t.O6
 afc:av "change_by"=some (.ref t.O5)
 Rn:cu K "read_move" "read_move" adS t.O7 t.O8
 afd:av "read_move"=some (.ref t.O7)
 Ro:cu K "read_moves" "read_moves" adT t.O9 t.O_
 afe:av "read_moves"=some (.ref t.O9)
 Rp:cu K "read_pairs" "read_pairs" adU t.O' t.Pa
 afg:av "read_pairs"=some (.ref t.O')
 Rq:cu K "read_anchor" "read_anchor" adV t.Pb t.Pg
 afh:av "read_anchor"=some (.ref t.Pb)
 Gy:cu K "read_anchor_list" "read_anchor_list" adW t.Ph t.Pj
 XP:av "read_anchor_list"=some (.ref t.Ph)
 Rr:cu K "read_anchors" "read_anchors" adX t.Pk t.Pn
 afi:av "read_anchors"=some (.ref t.Pk)
 Rt:cu K "read_body" "read_body" adY t.Pq t.Pr
 afj:av "read_body_placefile"=some (.ref t.Pq)
 Ru:cu K "read_rule" "read_rule" adZ t.Pu t.Px
 afk:av "read_rule_placefile"=some (.ref t.Pu)
 Rv:cu K "read_place_rules" "read_place_rules" ad0 t.Py t.Pz
 afl:av "read_place_rules"=some (.ref t.Py)
 Rw:cu K "read_piece" "read_piece" ad1 t.PB t.PJ
 afm:av "read_piece"=some (.ref t.PB)
 Rx:cu K "read_pieces" "read_pieces" ad2 t.PK t.PL
 afn:av "read_pieces"=some (.ref t.PK)
 Ry:cu K "read_class" "read_class" ad3 t.PN t.PT
 afo:av "read_class"=some (.ref t.PN)
 Gz:cu K "read_rule_numbers" "read_rule_numbers" ad4 t.PX t.P0
 XQ:av "read_rule_numbers"=some (.ref t.PX)
 Rz:cu K "read_features" "read_features" ad5 t.P1 t.P4
 afp:av "read_features"=some (.ref t.P1)
 RB:cu K "read_font" "read_font" ad6 t.P_ t.P'
 afq:av "read_font"=some (.ref t.P_)
 RC:cu K "move_signs" "move_signs" ad7 t.Qa t.Qc
 afr:av "move_signs"=some (.ref t.Qa)
 RD:cu K "widen_pairs" "widen_pairs" ad8 t.Qd t.Qe
 afs:av "widen_pairs"=some (.ref t.Qd)
 GC:cu K "attach" "attach" ad9 t.Qf t.Qg
 XR:av "attach"=some (.ref t.Qf)
 RG:cu K "attach_to_bases" "attach_to_bases" ad_ t.Qh t.Qi
 aft:av "attach_to_bases"=some (.ref t.Qh)
 RJ:cu K "attach_to_marks" "attach_to_marks" ad' t.Qj t.Qk
 afu:av "attach_to_marks"=some (.ref t.Qj)
 RK:cu K "place_by" "place_by" aea t.Ql t.Qm
 afv:av "place_by"=some (.ref t.Ql)
 RL:cu K "asked_features" "asked_features" aeb t.Qn t.Qo
 afw:av "asked_features"=some (.ref t.Qn)
 GD:cu K "rules_in_order" "rules_in_order" aec t.Qp t.Qq
 XS:av "rules_in_order"=some (.ref t.Qp)
 RM:cu K "set_characters" "set_characters" aed t.Qs t.Qt
 afx:av "set_characters"=some (.ref t.Qs)
 RN:cu K "tell_row" "tell_row" aee t.Qu t.Qv
 afy:av "tell_row"=some (.ref t.Qu)
 RP:cu K "answer_call" "answer_call" aef t.Qw t.Qx
 afz:av "answer_call"=some (.ref t.Qw)
 X3:cu K "answers" "answers" aeg t.Qy t.Wk
 afA:av "answers"=some (.ref t.Qy)
 k_MARK:∃ u,av "MARK"=some u/\RelV (.int (3)) u
 k_EXCHANGE:∃ u,av "EXCHANGE"=some u/\RelV (.int (1)) u
 k_SPREAD:∃ u,av "SPREAD"=some u/\RelV (.int (2)) u
 k_JOIN:∃ u,av "JOIN"=some u/\RelV (.int (3)) u
 k_LOOK_AROUND:∃ u,av "LOOK_AROUND"=some u/\RelV (.int (4)) u
 k_MOVE:∃ u,av "MOVE"=some u/\RelV (.int (1)) u
 k_PAIR:∃ u,av "PAIR"=some u/\RelV (.int (2)) u
 k_MARK_TO_BASE:∃ u,av "MARK_TO_BASE"=some u/\RelV (.int (3)) u
 k_MARK_TO_MARK:∃ u,av "MARK_TO_MARK"=some u/\RelV (.int (4)) u
 k_LAST_CHARACTER:∃ u,av "LAST_CHARACTER"=some u/\RelV (.int (1114111)) u
 k_MOST_SIGNS:∃ u,av "MOST_SIGNS"=some u/\RelV (.int (4096)) u
 k_SG_START:∃ u,av "SG_START"=some u/\RelV (.int (1)) u
 k_SG_OPEN:∃ u,av "SG_OPEN"=some u/\RelV (.int (2)) u
 k_SG_SIGN:∃ u,av "SG_SIGN"=some u/\RelV (.int (3)) u
 k_SG_HAS:∃ u,av "SG_HAS"=some u/\RelV (.int (4)) u
 k_WRONG_NUMBER:∃ u,av "WRONG_NUMBER"=some u/\RelV (.int (-1)) u
 k_WRONG_FILE:∃ u,av "WRONG_FILE"=some u/\RelV (.int (-2)) u
 k_NO_FILE:∃ u,av "NO_FILE"=some u/\RelV (.int (-4)) u
 k_TOO_LONG:∃ u,av "TOO_LONG"=some u/\RelV (.int (-5)) u
 k_NO_ROOM:∃ u,av "NO_ROOM"=some u/\RelV (.int (-6)) u
 k_MODULUS:∃ u,av "MODULUS"=some u/\RelV (.int (4294967296)) u
 k_PASSING:av "PASSING"=some (.ref t.Gk)
 afB:∀ H,fO K H t.Gk [.int 0,.int 1,.int 2,.int 4]
 k_FIRST_BYTES:av "FIRST_BYTES"=some (.ref t.Gl)
 X4:∀ H,fO K H t.Gl [.int 73,.int 112]
 hB:av "len"=none
 jA:av "range"=none
 xd:av "enumerate"=none
 X5:av "zip"=none
 yX:av "dict"=none
 X6:av "tuple"=none
 GF:av "list"=none
 afC:av "max"=none
 afD:av "sorted"=none
@[elab_as_elim] theorem awA {p:dH->Prop}:(us:dH)->us.length=0->p []->p us | [],_,h=>h
@[elab_as_elim] theorem ak6 {p:dH->Prop}:(us:dH)->us.length=1->(∀ cn,p [cn])->p us|a::us,e,h=>awA (p:=fun l=>p (a::l)) us (Nat.succ.inj e) (h a)
theorem _root_.L2.cu.b1{K:cp}{x qual:Str}{st:Stmt}{f:au}{fd:cG}{ps:List Str}(F:cu K x qual st f fd)(aF:ps.length=1:=by rfl)
  (h:∀ c3 doc pm an bK fu cn,bindArgs (PySem.W.fnOf x qual (sl st) (ri st) (cA st) .none c3 doc pm an bK fu) ⟨[cn],[]⟩=pure (ps.zip [cn]):=by intros;exact rfl):Binds K fd ps [] :=
 F.binds fun c3 doc pm an bK fu us e=>ak6 us (e.trans aF) (h c3 doc pm an bK fu)
@[elab_as_elim] theorem ak7 {p:dH->Prop}:(us:dH)->us.length=2->(∀ cn a1,p [cn,a1])->p us|a::us,e,h=>ak6 (p:=fun l=>p (a::l)) us (Nat.succ.inj e) (h a)
theorem _root_.L2.cu.iv{K:cp}{x qual:Str}{st:Stmt}{f:au}{fd:cG}{ps:List Str}(F:cu K x qual st f fd)(aF:ps.length=2:=by rfl)
  (h:∀ c3 doc pm an bK fu cn a1,bindArgs (PySem.W.fnOf x qual (sl st) (ri st) (cA st) .none c3 doc pm an bK fu) ⟨[cn,a1],[]⟩=pure (ps.zip [cn,a1]):=by intros;exact rfl):Binds K fd ps [] :=
 F.binds fun c3 doc pm an bK fu us e=>ak7 us (e.trans aF) (h c3 doc pm an bK fu)
@[elab_as_elim] theorem ak8 {p:dH->Prop}:(us:dH)->us.length=3->(∀ cn a1 a2,p [cn,a1,a2])->p us|a::us,e,h=>ak7 (p:=fun l=>p (a::l)) us (Nat.succ.inj e) (h a)
theorem _root_.L2.cu.jQ{K:cp}{x qual:Str}{st:Stmt}{f:au}{fd:cG}{ps:List Str}(F:cu K x qual st f fd)(aF:ps.length=3:=by rfl)
  (h:∀ c3 doc pm an bK fu cn a1 a2,bindArgs (PySem.W.fnOf x qual (sl st) (ri st) (cA st) .none c3 doc pm an bK fu) ⟨[cn,a1,a2],[]⟩=pure (ps.zip [cn,a1,a2]):=by intros;exact rfl):Binds K fd ps [] :=
 F.binds fun c3 doc pm an bK fu us e=>ak8 us (e.trans aF) (h c3 doc pm an bK fu)
@[elab_as_elim] theorem ak9 {p:dH->Prop}:(us:dH)->us.length=4->(∀ cn a1 a2 a3,p [cn,a1,a2,a3])->p us|a::us,e,h=>ak8 (p:=fun l=>p (a::l)) us (Nat.succ.inj e) (h a)
theorem _root_.L2.cu.yZ{K:cp}{x qual:Str}{st:Stmt}{f:au}{fd:cG}{ps:List Str}(F:cu K x qual st f fd)(aF:ps.length=4:=by rfl)
  (h:∀ c3 doc pm an bK fu cn a1 a2 a3,bindArgs (PySem.W.fnOf x qual (sl st) (ri st) (cA st) .none c3 doc pm an bK fu) ⟨[cn,a1,a2,a3],[]⟩=pure (ps.zip [cn,a1,a2,a3]):=by intros;exact rfl):Binds K fd ps [] :=
 F.binds fun c3 doc pm an bK fu us e=>ak9 us (e.trans aF) (h c3 doc pm an bK fu)
@[elab_as_elim] theorem awB {p:dH->Prop}:(us:dH)->us.length=5->(∀ cn a1 a2 a3 a4,p [cn,a1,a2,a3,a4])->p us|a::us,e,h=>ak9 (p:=fun l=>p (a::l)) us (Nat.succ.inj e) (h a)
theorem _root_.L2.cu.ak_{K:cp}{x qual:Str}{st:Stmt}{f:au}{fd:cG}{ps:List Str}(F:cu K x qual st f fd)(aF:ps.length=5:=by rfl)
  (h:∀ c3 doc pm an bK fu cn a1 a2 a3 a4,bindArgs (PySem.W.fnOf x qual (sl st) (ri st) (cA st) .none c3 doc pm an bK fu) ⟨[cn,a1,a2,a3,a4],[]⟩=pure (ps.zip [cn,a1,a2,a3,a4]):=by intros;exact rfl):Binds K fd ps [] :=
 F.binds fun c3 doc pm an bK fu us e=>awB us (e.trans aF) (h c3 doc pm an bK fu)
section
variable{K:cp}{av:g_}{t:bW}(T:Txt K av t)
include T
theorem Txt.awC:Binds K t.Kz ["self","before","there","behind","acts"] []:=T.Wn.ak_
theorem Txt.awD:Binds K t.KD ["self","free","allowed"] []:=T.Wq.jQ
theorem Txt.ak':Binds K t.KJ ["self","signs","at"] []:=T.Wr.jQ
theorem Txt.awE:Binds K t.KQ ["self","entries"] []:=T.Wv.iv
theorem Txt.awF:Binds K t.KX ["self","line","at","past"] []:=T.Ww.yZ
theorem Txt.ala:Binds K t.KZ ["self","kind","passes","body"] []:=T.Wz.yZ
theorem Txt.awG:Binds K t.K5 ["self","change_numbers","place_numbers"] []:=T.WL.jQ
theorem Txt.awH:Binds K t.K7 ["self","pieces","classes","widths"] []:=T.WQ.yZ
theorem Txt.alb:Binds K t.K9 ["self","character"] []:=T.WR.iv
theorem Txt.alc:Binds K t.La ["self","sign"] []:=T.WW.iv
theorem Txt.afE:Binds K t.Ld ["self","rule","sign"] []:=T.WY.jQ
theorem Txt.GJ:Binds K t.Lf ["self","rule","signs"] []:=T.W0.jQ
theorem Txt.awI:Binds K t.Lh ["self","order","length","joined"] []:=T.W3.yZ
theorem Txt.awJ:Binds K t.Lj ["self"] []:=T.W4.b1
theorem Txt.awK:Binds K t.Ln ["self","signs","joined"] []:=T.W5.jQ
theorem Txt.awL:Binds K t.Lq ["self","line","at"] []:=T.W6.jQ
theorem Txt.awM:Binds K t.Ls ["self","content"] []:=T.W9.iv
theorem Txt.X7:Binds K t.Lx ["self"] []:=T.W_.b1
theorem Txt.Cp:Binds K t.Lz ["self"] []:=T.Xa.b1
theorem Txt.afF:Binds K t.LK ["self"] []:=T.Xb.b1
theorem Txt.GK:Binds K t.LR ["self"] []:=T.Xc.b1
theorem Txt.j4:Binds K t.L_ ["self","lowest","highest"] []:=T.Xd.jQ
theorem Txt.tR:Binds K t.Mf ["self"] []:=T.Xe.b1
theorem Txt.afG:Binds K t.Mh ["self","fewest","most"] []:=T.Xf.jQ
theorem Txt.awN:Binds K t.Mj ["self"] []:=T.Xg.b1
theorem Txt.awO:Binds K t.Ml ["self","mark_class","right","up"] []:=T.Xh.yZ
theorem Txt.awP:Binds K t.Mq ["self","marks","bases"] []:=T.Xk.jQ
theorem Txt.awQ:Binds K t.Ms ["self","right","up","wider"] []:=T.Xo.yZ
theorem Txt.awR:Binds K t.Mu ["self","signs","characters"] []:=T.Xr.jQ
theorem Txt.RQ:Binds K t.Mw ["self","signs","characters"] []:=T.Xu.jQ
theorem Txt.awS:Binds K t.Mz ["self","font"] []:=T.Xv.iv
theorem Txt.awT:Binds K t.MJ ["self"] []:=T.Xw.b1
theorem Txt.awU:Binds K t.MN ["self"] []:=T.Xx.b1
theorem Txt.awV:Binds K t.M4 ["self","content"] []:=T.Xy.iv
theorem Txt.awW:Binds K t.M6 ["self","character"] []:=T.Xz.iv
theorem Txt.awX:Binds K t.M8 ["self","tag"] []:=T.XC.iv
theorem Txt.awY:Binds K t.M_ ["self","room","characters","tags"] []:=T.XD.yZ
theorem Txt.awZ:Binds K t.Nf ["self","calls"] []:=T.XF.iv
theorem Txt.aw0:Binds K t.Nh ["self"] []:=T.XH.b1
theorem Txt.X8:Binds K t.Nj ["self"] []:=T.XJ.b1
theorem Txt.afH:Binds K t.Nm ["self"] []:=T.XK.b1
theorem Txt.aw1:Binds K t.Nq ["rows","distance"] []:=T.QX.iv
theorem Txt.ald:Binds K t.Nt ["rows"] []:=T.Gx.b1
theorem Txt.qL:Binds K t.Nv ["right"] []:=T.nk.b1
theorem Txt.xg:Binds K t.Ny ["keys"] []:=T.rx.b1
theorem Txt.aw2:Binds K t.NK ["keys"] []:=T.QZ.b1
theorem Txt.aw3:Binds K t.NQ ["reader"] []:=T.Q0.b1
theorem Txt.aw4:Binds K t.NZ ["reader"] []:=T.Q5.b1
theorem Txt.aw5:Binds K t.N6 ["reader"] []:=T.Q6.b1
theorem Txt.aw6:Binds K t.N8 ["reader"] []:=T.Q7.b1
theorem Txt.afI:Binds K t.Oa ["reader","fewest"] []:=T.Cm.iv
theorem Txt.aw7:Binds K t.Oc ["reader","place_count"] []:=T.Q9.iv
theorem Txt.aw8:Binds K t.Oe ["reader"] []:=T.Q_.b1
theorem Txt.aw9:Binds K t.Oh ["reader"] []:=T.Q'.b1
theorem Txt.aw_:Binds K t.Oj ["reader","kind"] []:=T.Ra.iv
theorem Txt.aw':Binds K t.Om ["reader"] []:=T.Rb.b1
theorem Txt.axa:Binds K t.Oq ["contexts","rules"] []:=T.Rd.iv
theorem Txt.axb:Binds K t.Ou ["reader"] []:=T.Rf.b1
theorem Txt.axc:Binds K t.Ow ["font","rule","row"] []:=T.Rg.jQ
theorem Txt.axd:Binds K t.Oz ["font","rule","row"] []:=T.Rh.jQ
theorem Txt.axe:Binds K t.OJ ["font","rule","row"] []:=T.Ri.jQ
theorem Txt.axf:Binds K t.O2 ["font","acts","line","k"] []:=T.Rj.yZ
theorem Txt.axg:Binds K t.O4 ["font","rule","row"] []:=T.Rk.jQ
theorem Txt.axh:Binds K t.O6 ["font","rule","row"] []:=T.Rm.jQ
theorem Txt.axi:Binds K t.O8 ["reader"] []:=T.Rn.b1
theorem Txt.axj:Binds K t.O_ ["reader"] []:=T.Ro.b1
theorem Txt.axk:Binds K t.Pa ["reader"] []:=T.Rp.b1
theorem Txt.axl:Binds K t.Pg ["reader"] []:=T.Rq.b1
theorem Txt.ale:Binds K t.Pj ["reader"] []:=T.Gy.b1
theorem Txt.axm:Binds K t.Pn ["reader"] []:=T.Rr.b1
theorem Txt.axn:Binds K t.Pr ["reader","kind"] []:=T.Rt.iv
theorem Txt.axo:Binds K t.Px ["reader"] []:=T.Ru.b1
theorem Txt.axp:Binds K t.Pz ["reader"] []:=T.Rv.b1
theorem Txt.axq:Binds K t.PJ ["reader","behind"] []:=T.Rw.iv
theorem Txt.axr:Binds K t.PL ["reader"] []:=T.Rx.b1
theorem Txt.axt:Binds K t.PT ["reader"] []:=T.Ry.b1
theorem Txt.alf:Binds K t.P0 ["reader","rules"] []:=T.Gz.iv
theorem Txt.axu:Binds K t.P4 ["reader","font"] []:=T.Rz.iv
theorem Txt.axv:Binds K t.P' ["content"] []:=T.RB.b1
theorem Txt.axw:Binds K t.Qc ["font","rule","row"] []:=T.RC.jQ
theorem Txt.axx:Binds K t.Qe ["font","rule","row"] []:=T.RD.jQ
theorem Txt.alg:Binds K t.Qg ["anchors","row","at","base","span"] []:=T.GC.ak_
theorem Txt.axy:Binds K t.Qi ["font","rule","row"] []:=T.RG.jQ
theorem Txt.axz:Binds K t.Qk ["font","rule","row"] []:=T.RJ.jQ
theorem Txt.axA:Binds K t.Qm ["font","rule","row"] []:=T.RK.jQ
theorem Txt.axB:Binds K t.Qo ["font","tags"] []:=T.RL.iv
theorem Txt.alh:Binds K t.Qq ["rules","number_lists"] []:=T.GD.iv
theorem Txt.axC:Binds K t.Qt ["font","characters","tags"] []:=T.RM.jQ
theorem Txt.axD:Binds K t.Qv ["row"] []:=T.RN.b1
theorem Txt.axE:Binds K t.Qx ["session","feed"] []:=T.RP.iv
end
theorem axF:cW ["self","before","there","behind","acts"] ["self","before","there","behind","acts"] (cA acM):={}
theorem axG:cW ["self","free","allowed"] ["self","free","allowed"] (cA acN):={}
theorem axH:cW ["self","signs","at"] ["self","signs","at"] (cA acO):={}
theorem RT:cW ["self","entries","entry"] ["self","entries"] (cA acP):={}
theorem xq:cW ["self","line","at","past","bits","distance","slot","lowest"] ["self","line","at","past"] (cA acQ):={}
theorem axI:cW ["self","kind","passes","body"] ["self","kind","passes","body"] (cA acR):={}
theorem axJ:cW ["self","change_numbers","place_numbers"] ["self","change_numbers","place_numbers"] (cA acS):={}
theorem afJ:cW ["self","pieces","classes","widths","sign_class"] ["self","pieces","classes","widths"] (cA acT):={}
theorem Cq:cW ["self","character","low","high","middle","piece"] ["self","character"] (cA acU):={}
theorem axK:cW ["self","sign"] ["self","sign"] (cA acV):={}
theorem axL:cW ["self","rule","sign"] ["self","rule","sign"] (cA acW):={}
theorem GP:cW ["self","rule","signs","passing","passes","at","sign"] ["self","rule","signs"] (cA acX):={}
theorem axM:cW ["self","order","length","joined"] ["self","order","length","joined"] (cA acY):={}
theorem axN:cW ["self"] ["self"] (cA acZ):={}
theorem afK:cW ["self","signs","joined","told","lengths"] ["self","signs","joined"] (cA ac0):={}
theorem RV:cW ["self","line","at","best","length","joining"] ["self","line","at"] (cA ac1):={}
theorem axO:cW ["self","content"] ["self","content"] (cA ac2):={}
theorem ali:cW ["self","value"] ["self"] (cA ac3):={}
theorem alj:cW ["self","high"] ["self"] (cA ac4):={}
theorem alk:cW ["self","high"] ["self"] (cA ac5):={}
theorem alm:cW ["self","value"] ["self"] (cA ac6):={}
theorem aln:cW ["self","lowest","highest","value"] ["self","lowest","highest"] (cA ac7):={}
theorem axP:cW ["self"] ["self"] (cA ac8):={}
theorem afL:cW ["self","fewest","most","k"] ["self","fewest","most"] (cA ac9):={}
theorem axQ:cW ["self"] ["self"] (cA ac_):={}
theorem axR:cW ["self","mark_class","right","up"] ["self","mark_class","right","up"] (cA ac'):={}
theorem axS:cW ["self","marks","bases"] ["self","marks","bases"] (cA ada):={}
theorem axT:cW ["self","right","up","wider"] ["self","right","up","wider"] (cA adb):={}
theorem axU:cW ["self","signs","characters"] ["self","signs","characters"] (cA ade):={}
theorem axV:cW ["self","signs","characters"] ["self","signs","characters"] (cA adf):={}
theorem Cr:cW ["self","font","sign"] ["self","font"] (cA adg):={}
theorem axW:cW ["self"] ["self"] (cA adh):={}
theorem axX:cW ["self"] ["self"] (cA adi):={}
theorem alo:cW ["self","content","font"] ["self","content"] (cA adk):={}
theorem axY:cW ["self","character"] ["self","character"] (cA adl):={}
theorem axZ:cW ["self","tag"] ["self","tag"] (cA adn):={}
theorem alp:cW ["self","room","characters","tags","row"] ["self","room","characters","tags"] (cA ado):={}
theorem ax0:cW ["self","calls"] ["self","calls"] (cA adp):={}
theorem ax1:cW ["self"] ["self"] (cA adq):={}
theorem ax2:cW ["self"] ["self"] (cA adt):={}
theorem alq:cW ["self","begin"] ["self"] (cA adu):={}
theorem xr:cW ["rows","distance","free","order","sets","allowed","sign"] ["rows","distance"] (cA adv):={}
theorem GQ:cW ["rows","farthest","sets","distance"] ["rows"] (cA adw):={}
theorem ax3:cW ["right"] ["right"] (cA adx):={}
theorem alr:cW ["keys","k"] ["keys"] (cA ady):={}
theorem als:cW ["keys","k"] ["keys"] (cA adz):={}
theorem GR:cW ["reader","pairs","k","first","pair"] ["reader"] (cA adA):={}
theorem GX:cW ["reader","pairs","k","first","pair"] ["reader"] (cA adB):={}
theorem GZ:cW ["reader","joinings","firsts","k","first","signs"] ["reader"] (cA adC):={}
theorem alu:cW ["reader","signs"] ["reader"] (cA adD):={}
theorem afM:cW ["reader","fewest","k"] ["reader","fewest"] (cA adE):={}
theorem alv:cW ["reader","place_count","place"] ["reader","place_count"] (cA adF):={}
theorem G3:cW ["reader","before","there","behind","acts","k"] ["reader"] (cA adG):={}
theorem afN:cW ["reader","k"] ["reader"] (cA adH):={}
theorem ax4:cW ["reader","kind"] ["reader","kind"] (cA adI):={}
theorem afO:cW ["reader","kind","passes"] ["reader"] (cA adJ):={}
theorem X_:cW ["contexts","rules","context","place","number"] ["contexts","rules"] (cA adK):={}
theorem Yb:cW ["reader","rules","rule","k"] ["reader"] (cA adL):={}
theorem afP:cW ["font","rule","row","signs","at"] ["font","rule","row"] (cA adM):={}
theorem xu:cW ["font","rule","row","signs","characters","sign","character","parts","part"] ["font","rule","row"] (cA adN):={}
theorem nY:cW ["font","rule","row","left","line","signs","gone","k","joining","at","staying"] ["font","rule","row"] (cA adO):={}
theorem Yc:cW ["font","acts","line","k","place","number","sign"] ["font","acts","line","k"] (cA adP):={}
theorem pR:cW ["font","rule","row","left","line","past","k","context","end","signs","at","sign"] ["font","rule","row"] (cA adQ):={}
theorem ax5:cW ["font","rule","row"] ["font","rule","row"] (cA adR):={}
theorem afQ:cW ["reader","right","up"] ["reader"] (cA adS):={}
theorem G4:cW ["reader","pairs","k","sign","pair"] ["reader"] (cA adT):={}
theorem Cu:cW ["reader","pairs","k","first","second","pair"] ["reader"] (cA adU):={}
theorem afR:cW ["reader","mark_class","right"] ["reader"] (cA adV):={}
theorem Yd:cW ["reader","pairs","k","sign"] ["reader"] (cA adW):={}
theorem xv:cW ["reader","marks","bases","pair","sign","anchor"] ["reader"] (cA adX):={}
theorem ax6:cW ["reader","kind"] ["reader","kind"] (cA adY):={}
theorem afS:cW ["reader","kind","passes"] ["reader"] (cA adZ):={}
theorem afT:cW ["reader","k"] ["reader"] (cA ad0):={}
theorem Ye:cW ["reader","behind","first","last","sign"] ["reader","behind"] (cA ad1):={}
theorem G5:cW ["reader","pieces","behind","k","piece"] ["reader"] (cA ad2):={}
theorem alw:cW ["reader","sign_class"] ["reader"] (cA ad3):={}
theorem afU:cW ["reader","rules","numbers","k"] ["reader","rules"] (cA ad4):={}
theorem G6:cW ["reader","font","features","tags","k","tag","change_numbers"] ["reader","font"] (cA ad5):={}
theorem xA:cW ["content","reader","byte","pieces","classes","widths","font","k"] ["content"] (cA ad6):={}
theorem afV:cW ["font","rule","row","at","move"] ["font","rule","row"] (cA ad7):={}
theorem Yg:cW ["font","rule","row","left","k","pair"] ["font","rule","row"] (cA ad8):={}
theorem afW:cW ["anchors","row","at","base","span","own","other"] ["anchors","row","at","base","span"] (cA ad9):={}
theorem y0:cW ["font","rule","row","base","span","at","sign"] ["font","rule","row"] (cA ad_):={}
theorem alx:cW ["font","rule","row","at"] ["font","rule","row"] (cA ad'):={}
theorem ax7:cW ["font","rule","row"] ["font","rule","row"] (cA aea):={}
theorem afX:cW ["font","tags","tag"] ["font","tags"] (cA aeb):={}
theorem G7:cW ["rules","number_lists","asked","numbers","number"] ["rules","number_lists"] (cA aec):={}
theorem tU:cW ["font","characters","tags","features","row","rule","character","feature"] ["font","characters","tags"] (cA aed):={}
theorem Yh:cW ["row","told","at","sign"] ["row"] (cA aee):={}
theorem Yi:cW ["session","feed","call","room","characters"] ["session","feed"] (cA aef):={}
theorem RW:cW ["calls","session","feed","given","answer"] ["calls"] (cA aeg):={}
section
variable{P:fx}{w:e4}{K:cp}{av:g_}{base:Heap}{t:bW}
def aly(t:bW):eY:=fun vs H Q E=>∃ b:Bool,vs=[.bl b]/\(b=true->Q .non H)/\(b=false->E (.ref t.jl) none H)
theorem qM(T:Txt K av t):cJ P w K av base (cM P w) 1 t.Nu t.Nv ["right"] (aly t):=by
 refine T.nk.cZ ax3 (fun vs H Q E h=>?_) (fun bK A outer s H vs Q E aA h=>?_)
 ·obtain⟨b,rfl,_⟩:=h;rfl
 ·obtain⟨b,rfl,k1,k2⟩:=h;refine⟨_,bk (gj (abh (Bq (aj 0) (fun _=>rfl))) (bk (akL rfl (fun _ _ z=>z) rfl T.W7 T.W8)) hu),?_⟩;refine⟨_,Z,b,Z,?_⟩;cases b with
  |true=>exact k1 rfl
  |false=>exact k2 rfl
end
def bf(L:d2)(H H':ao):Prop:=∀ b o,b∉L->H b=some o->H' b=some o
theorem bf.refl(L:d2)(H:ao):bf L H H:=fun _ _ _ e=>e
theorem bf.trans{L:d2}{H H1 aB:ao}(a:bf L H H1)(b:bf L H1 aB):bf L H aB:=fun c o n e=>b c o n (a c o n e)
theorem bf.mono{L L':d2}{H H':ao}(a:bf L H H')(h:∀ b∈L,b∈L'):bf L' H H':=fun c o n e=>a c o (fun z=>n (h c z)) e
theorem bf.pT{L:d2}{H:ao}{a:au}{o:HO}(h:a∈L):bf L H (upd H a o):=fun c u n e=>by
 rw[a7 (fun z:c=a=>n (z.symm▸h))];exact e
theorem bf.iZ{L:d2}{H:ao}{a:au}{o:HO}(h:H a=none):bf L H (upd H a o):=fun c u n e=>by
 rw[a7 (bR e h)];exact e
theorem bf.qN{L:d2}{H H':ao}{a:au}{o:HO}(k:bf L H H')(h:a∈L):bf L H (upd H' a o):=k.trans (bf.pT h)
theorem bf.jm{L:d2}{H H':ao}{a:au}{o:HO}(k:bf L H H')(h:H' a=none):bf L H (upd H' a o):=k.trans (bf.iZ h)
theorem bf.free{L:d2}{H H':ao}{a:au}(k:bf L H H')(n:a∉L)(h:H' a=none):H a=none:=by
 cases e:H a with
 |none=>rfl
 |some o=>rw[k a o n e]at h;cases h
theorem bf.xB{L:d2}{H H':ao}{a:au}{o:HO}(k:bf L H H')(h:H a=none):bf L H (upd H' a o):=fun c u n e=>by
 rw[a7 (bR e h)];exact k c u n e
theorem hq{H H':ao}(k:aQ H H')(L:d2):bf L H H':=fun b o _ e=>k b o e
def bH(A:ao)(L:d2)(H:ao):ao:=fun b=>if(A b).isSome=true\/b∈L then none else H b
theorem ew{A:ao}{L:d2}{H:ao}{b:au}{o:HO}:bH A L H b=some o↔A b=none/\b∉L/\H b=some o:=by
 unfold bH;by_cases h:(A b).isSome=true\/b∈L
 ·rw[bM h];constructor
  ·intro z;cases z
  ·rintro⟨h1,aC,_⟩;rcases h with h|h
   ·rw[h1]at h;cases h
   ·exact absurd h aC
 ·rw[bx h];constructor
  ·intro z;refine⟨?_,fun w=>h (.inr w),z⟩;cases e:A b with
   |none=>rfl
   |some u=>exact absurd (.inl (by rw[e];rfl)) h
  ·rintro⟨_,_,bI⟩;exact bI
theorem y1{A A':ao}{L L':d2}{H H':ao}(h:∀ b o,A b=none->b∉L->H b=some o->A' b=none/\b∉L'/\H' b=some o):aQ (bH A L H) (bH A' L' H'):=fun b o e=>by
 obtain⟨h1,aC,bI⟩:=ew.mp e;exact ew.mpr (h b o h1 aC bI)
theorem hC{A:ao}{L:d2}{H:ao}:aQ (bH A L H) H:=fun b o e=>(ew.mp e).2.2
theorem jB{A:ao}{L M:d2}{H H':ao}(k:bf M H H')(h:∀ b∈M,A b≠none\/b∈L):aQ (bH A L H) (bH A L H'):=y1 fun b o h1 aC bI=>⟨h1,aC,k b o (fun z=>(h b z).elim (fun w=>w h1) aC) bI⟩
theorem tV{A B:ao}{L:d2}{H:ao}(h:∀ b,A b≠none->B b≠none)(aF:∀ b∈L,B b≠none):aQ (bH B [] H) (bH A L H):=y1 fun b o h1 aC bI=>⟨by
  cases e:A b with
  |none=>rfl
  |some u=>exact absurd h1 (h b (by rw[e];simp)),fun z=>aF b z h1,bI⟩
theorem y2{A:ao}{L L':d2}{H:ao}(h:∀ b∈L',b∈L):aQ (bH A L H) (bH A L' H):=y1 fun b o h1 aC bI=>⟨h1,fun z=>aC (h b z),bI⟩
theorem bf.dom{L:d2}{H H':ao}(k:bf L H H')(aF:∀ b∈L,H' b≠none):∀ b,H b≠none->H' b≠none:=fun b ak=>by
 by_cases z:b∈L
 ·exact aF b z
 ·cases e:H b with
  |none=>exact absurd e ak
  |some o=>rw[k b o z e];simp
theorem aQ.dom{H H':ao}(k:aQ H H'):∀ b,H b≠none->H' b≠none:=fun b ak=>by
 cases e:H b with
 |none=>exact absurd e ak
 |some o=>rw[k b o e];simp
theorem j5{H:ao}{a:au}{o:HO}(h:H a=some o):H a≠none:=by rw[h];simp
abbrev nat(n:Nat):V:=.int (n:Int)
noncomputable def tW (ca:au) (n g:Int):List (Str×V):=[("content",.ref ca),("at",.int n),("sign_count",.int g)]
structure ef(t:bW)(H:ao)(rd ca:au)(bs rest:aK)(g:Nat):Prop where
 cY:∃ dx n,H rd=some (.ins t.iJ dx (tW ca (n:Nat) (g:Nat)))/\rest=bs.drop n/\n<=bs.length
 sz:H ca=some (.lst (bs.map nat))
 lt:∀ b∈bs,b<256
 ln:bs.length<=65536
section
variable{t:bW}{H H' A:ao}{rd ca L:au}{bs rest:aK}{g:Nat}{o:HO}
theorem ef.dom(R:ef t H rd ca bs rest g):H rd≠none:=by
 obtain⟨dx,n,h,_⟩:=R.cY;exact j5 h
theorem ef.sA(R:ef t H rd ca bs rest g):H ca≠none:=j5 R.sz
theorem ef.ne(R:ef t H rd ca bs rest g):ca≠rd:=by
 obtain⟨dx,n,h,_⟩:=R.cY;exact hO R.sz h (by intro z;cases z)
theorem ef.keep(R:ef t H rd ca bs rest g){M:d2}(k:bf M H H')(h1:rd∉M)(aC:ca∉M):ef t H' rd ca bs rest g:=by
 obtain⟨dx,n,h,e⟩:=R.cY;exact⟨⟨dx,n,k _ _ h1 h,e⟩,k _ _ aC R.sz,R.lt,R.ln⟩
theorem ef.oX(R:ef t H rd ca bs rest g)(k:aQ H H'):ef t H' rd ca bs rest g:=R.keep (hq k []) (by simp) (by simp)
theorem ef.upd(R:ef t H rd ca bs rest g)(h1:L≠rd)(aC:L≠ca):ef t (L2.upd H L o) rd ca bs rest g :=
 R.keep (M:=[L]) (bf.pT (by simp)) (by simp[Ne.symm h1]) (by simp[Ne.symm aC])
theorem ef.new(R:ef t H rd ca bs rest g)(h:H L=none):ef t (L2.upd H L o) rd ca bs rest g :=
 R.upd (fun e=>R.dom (e▸h)) (fun e=>R.sA (e▸h))
end
def ry{α:Type}(t:bW)(p:Nat->Sw28.P α)(Rep:ao->V->α->Prop)(H:ao)(rd:au)(Q:bA)(E:cN):Prop :=
 ∃ ca bs rest g,ef t H rd ca bs rest g /\
  (∀ x r v H',p g rest=some (x,r)->ef t H' rd ca bs r g->bf [rd] H H'->Rep (bH H [] H') v x->Q v H') /\
  (p g rest=none->∀ H',bf [rd] H H'->E (.ref t.jl) none H')
def k9:ao->V->Nat->Prop:=fun _ v x=>v=nat x
def y5:ao->V->Int->Prop:=fun _ v x=>v=.int x
def hr:ao->V->aK->Prop:=fun H v xs=>∃ a,v=.ref a/\H a=some (.lst (xs.map nat))
theorem ax8:bootBuiltins "max"=some (.builtin "max"):=by decide +kernel
theorem ax9:bootBuiltins "sorted"=some (.builtin "sorted"):=by decide +kernel
theorem G8:bootBuiltins "dict"=some (.type "dict"):=by decide +kernel
theorem Yj:bootBuiltins "list"=some (.type "list"):=by decide +kernel
theorem alz:bootBuiltins "tuple"=some (.type "tuple"):=by decide +kernel
theorem ax_:bootBuiltins "range"=some (.type "range"):=by decide +kernel
theorem ax'{A:Around}{k:Nat}(aA:hI k A):A.units<cLine:=aA.atj
theorem alA{A:Around}{k:Nat}(aA:hI k A):A.units+2<cLine:=Nat.lt_of_le_of_lt (Nat.add_le_add_left (by decide:2<=64) _) aA.units
theorem dJ{gJ:ti}{P:fx}{w:e4}{K:cp}{av:g_}{base:Heap}{N:List Str}{qual:Str}{scope:Scope}{f:au}{cd:aO}{A:Around}{outer:List Env}{s:aY}{H:ao}{E aya:cN} :
  sm ((sb gJ P w K av base N qual scope f cd A outer s H E).exc aya):=⟨_,_,_,rfl,rfl,rfl⟩
theorem nZ{a:V}:[a].length<=sizeLine:=by rw[sizeLine_eq];show 1<=_;decide
theorem tX{a b:V}:[a,b].length<=sizeLine:=by rw[sizeLine_eq];show 2<=_;decide
theorem ayb{a b c:V}:[a,b,c].length<=sizeLine:=by rw[sizeLine_eq];show 3<=_;decide
theorem len0{a:List V}(h:a=[]):a.length<sizeLine:=by rw[sizeLine_eq,h];decide
theorem jR{n:Nat}(h:n<=65536):n<sizeLine:=Nat.lt_of_le_of_lt h (by rw[sizeLine_eq];decide)
theorem RX{n:Nat}(h:n<=65536):n<=sizeLine:=Aa (jR h)
section
variable{X:bT}{K':cp}
theorem Cv(hv:X.K=K'):JZ X (J0 K'):=hv▸gA
theorem Cw(hv:X.K=K'):JZ X (J1 K'):=hv▸Bv
abbrev ayc(K:cp):List V->ao->bA->Prop:=fun xs H Q=>∃ p bO,xs=[.ref p]/\(aT K H p bO\/fO K H p bO)/\Q (.int bO.length) H
theorem afY(hv:X.K=K'):q9 X (.builtin "len") (ayc K'):=hv▸iH
theorem rz{e:Expr}{f:Str}{pos:PySem.Pos}{cO:TE}(hv:X.K=K')(he:PE X e cO)(ak:attributeBase e f X.env (eval e X.env)=eval e X.env):PE X (.Attribute e f pos) (Vw K' cO f):=hv▸bQ he ak
theorem alB{es:List Expr}{k:Nat}{t:yr}{n:Nat}{pos:PySem.Pos}(hv:X.K=K')(aV:X.calm=true)(h:JL X es t)
  (aR:(assignEach es X.env).length=n:=by rfl) (m2:(assignEach es X.env).findIdx? (·.1)=none:=by rfl):PG X (.Tuple es k pos) (abm K' n t):=hv▸s8 aV h aR m2
abbrev afZ(K:cp)(cO:TE):TT:=fun σ H Q=>cO σ H fun x H'=>∃ k,abB K x H' k/\Q k H'
theorem ayd{a:Expr}{cO:TE}(hv:X.K=K')(aX:PE X a cO)(he:∀ whole,isTrue a X.env whole=(do let v ← whole;standAt a.pos;holding [v] (truthy v))):pK X a (afZ K' cO):=hv▸Bq aX he
end
theorem cB{a1 a2:TS}{D s H}(h:let iG:=a2;c4 a1 iG D s H):(c4 a1 a2) D s H:=h
theorem dZ{a1 a2 a3:TS}{D s H}(h:let kv:=a3;let iG:=c4 a2 kv;c4 a1 iG D s H):(c4 a1 (c4 a2 a3)) D s H:=h
theorem hH{a1 a2 a3 a4:TS}{D s H}(h:let qx:=a4;let kv:=c4 a3 qx;let iG:=c4 a2 kv;c4 a1 iG D s H):(c4 a1 (c4 a2 (c4 a3 a4))) D s H:=h
theorem mc{a1 a2 a3 a4 a5:TS}{D s H}(h:let s9:=a5;let qx:=c4 a4 s9;let kv:=c4 a3 qx;let iG:=c4 a2 kv;c4 a1 iG D s H):(c4 a1 (c4 a2 (c4 a3 (c4 a4 a5)))) D s H:=h
theorem wM{a1 a2 a3 a4 a5 tY:TS}{D s H}(h:let Cx:=tY;let s9:=c4 a5 Cx;let qx:=c4 a4 s9;let kv:=c4 a3 qx;let iG:=c4 a2 kv;c4 a1 iG D s H):(c4 a1 (c4 a2 (c4 a3 (c4 a4 (c4 a5 tY))))) D s H:=h
theorem u0{a1 a2 a3 a4 a5 tY y7:TS}{D s H}(h:let Bl:=y7;let Cx:=c4 tY Bl;let s9:=c4 a5 Cx;let qx:=c4 a4 s9;let kv:=c4 a3 qx;let iG:=c4 a2 kv;c4 a1 iG D s H):(c4 a1 (c4 a2 (c4 a3 (c4 a4 (c4 a5 (c4 tY y7)))))) D s H:=h
theorem Gh{a1 a2 a3 a4 a5 tY y7 RZ:TS}{D s H}(h:let af0:=RZ;let Bl:=c4 y7 af0;let Cx:=c4 tY Bl;let s9:=c4 a5 Cx;let qx:=c4 a4 s9;let kv:=c4 a3 qx;let iG:=c4 a2 kv;c4 a1 iG D s H):(c4 a1 (c4 a2 (c4 a3 (c4 a4 (c4 a5 (c4 tY (c4 y7 RZ))))))) D s H:=h
theorem aye{a1 a2 a3 a4 a5 tY y7 RZ alC alD alE alF:TS}{D s H}(h:let ayf:=alF;let ayg:=c4 alE ayf;let x10:=c4 alD ayg;let Wb:=c4 alC x10;let af0:=c4 RZ Wb;let Bl:=c4 y7 af0;let Cx:=c4 tY Bl;let s9:=c4 a5 Cx;let qx:=c4 a4 s9;let kv:=c4 a3 qx;let iG:=c4 a2 kv;c4 a1 iG D s H):(c4 a1 (c4 a2 (c4 a3 (c4 a4 (c4 a5 (c4 tY (c4 y7 (c4 RZ (c4 alC (c4 alD (c4 alE alF))))))))))) D s H:=h
inductive fc(f:V->ao->bA->cN->Prop)(vs:List V)(H:ao)(Q:bA)(E:cN):Prop
 |mk (a:V) (a0:vs=[a]) (q:f a H Q E)
inductive fT(f:V->V->ao->bA->cN->Prop)(vs:List V)(H:ao)(Q:bA)(E:cN):Prop
 |mk (a b:V) (a0:vs=[a,b]) (q:f a b H Q E)
inductive gd(f:V->V->V->ao->bA->cN->Prop)(vs:List V)(H:ao)(Q:bA)(E:cN):Prop
 |mk (a b c:V) (a0:vs=[a,b,c]) (q:f a b c H Q E)
inductive nq(f:V->V->V->V->ao->bA->cN->Prop)(vs:List V)(H:ao)(Q:bA)(E:cN):Prop
 |mk (a b c d:V) (a0:vs=[a,b,c,d]) (q:f a b c d H Q E)
inductive xC(f:V->V->V->V->V->ao->bA->cN->Prop)(vs:List V)(H:ao)(Q:bA)(E:cN):Prop
 |mk (a b c d e:V) (a0:vs=[a,b,c,d,e]) (q:f a b c d e H Q E)
section
variable{vs:List V}{H:ao}{Q:bA}{E:cN}
theorem fc.len{f}(h:fc f vs H Q E):vs.length=1:=by obtain⟨_,rfl,_⟩:=h;rfl
theorem fc.cX{F}:∀ vs H Q E,fc F vs H Q E->vs.length=1:=fun _ _ _ _ h=>fc.len h
theorem fT.len{f}(h:fT f vs H Q E):vs.length=2:=by obtain⟨_,_,rfl,_⟩:=h;rfl
theorem fT.cX{F}:∀ vs H Q E,fT F vs H Q E->vs.length=2:=fun _ _ _ _ h=>fT.len h
theorem gd.len{f}(h:gd f vs H Q E):vs.length=3:=by obtain⟨_,_,_,rfl,_⟩:=h;rfl
theorem gd.cX{F}:∀ vs H Q E,gd F vs H Q E->vs.length=3:=fun _ _ _ _ h=>gd.len h
theorem nq.len{f}(h:nq f vs H Q E):vs.length=4:=by obtain⟨_,_,_,_,rfl,_⟩:=h;rfl
theorem nq.cX{F}:∀ vs H Q E,nq F vs H Q E->vs.length=4:=fun _ _ _ _ h=>nq.len h
theorem xC.len{f}(h:xC f vs H Q E):vs.length=5:=by obtain⟨_,_,_,_,_,rfl,_⟩:=h;rfl
theorem xC.cX{F}:∀ vs H Q E,xC F vs H Q E->vs.length=5:=fun _ _ _ _ h=>xC.len h
end
def iK(H:ao)(x dx C:au)(fs:List (Str×V)):ao:=upd (upd H dx (.own x)) x (.ins C dx fs)
section
variable{H:ao}{x dx C:au}{fs Ba:List (Str×V)}
theorem rA:iK H x dx C fs x=some (.ins C dx fs):=a8
theorem n3(cU:H x=none)(nd:H dx=none):aQ H (iK H x dx C fs):=fun b o e=>by
 unfold iK;rw[a7 (bR e cU),a7 (bR e nd)];exact e
end
inductive alG(C:au)(f1 f2:Str)(s a b:V)(H:ao)(Q:bA)(pU:cN):Prop
 |mk (x dx):s=.ref x->H x=some (.ins C dx [])->Q .non (upd H x (.ins C dx [(f1,a),(f2,b)]))->alG C f1 f2 s a b H Q pU
def Yk(C:au)(f1 f2:Str):eY:=gd (alG C f1 f2)
inductive alH(C:au)(f1 f2 fK:Str)(s a b c:V)(H:ao)(Q:bA)(xD:cN):Prop
 |mk (x dx):s=.ref x->H x=some (.ins C dx [])->Q .non (upd H x (.ins C dx [(f1,a),(f2,b),(fK,c)]))->alH C f1 f2 fK s a b c H Q xD
def R0(C:au)(f1 f2 fK:Str):eY:=nq (alH C f1 f2 fK)
inductive alI(C:au)(f1 f2 fK f4:Str)(s a b c d:V)(H:ao)(Q:bA)(af2:cN):Prop
 |mk (x dx):s=.ref x->H x=some (.ins C dx [])->Q .non (upd H x (.ins C dx [(f1,a),(f2,b),(fK,c),(f4,d)]))->alI C f1 f2 fK f4 s a b c d H Q af2
def alJ(C:au)(f1 f2 fK f4:Str):eY:=xC (alI C f1 f2 fK f4)
section
variable{H:ao}{C:au}{f1 f2 fK f4:Str}{a b c d:V}{G9:au->ao->Prop}{E:cN}
theorem af3(h:∀ x dx,H x=none->H dx=none->G9 x (iK H x dx C [(f1,a),(f2,b)])):∀ x dx,H x=none->H dx=none->dx≠x ->
  Yk C f1 f2 (.ref x::([a,b]++[])) (upd (upd H dx (.own x)) x (.ins C dx [])) (fun v aB=>v=.non/\G9 x aB) E:=fun x dx cU nd _ =>
 ⟨_,_,_,rfl,x,dx,rfl,a8,rfl,by rw[ih];exact h x dx cU nd⟩
theorem R1(h:∀ x dx,H x=none->H dx=none->G9 x (iK H x dx C [(f1,a),(f2,b),(fK,c)])):∀ x dx,H x=none->H dx=none->dx≠x ->
  R0 C f1 f2 fK (.ref x::([a,b,c]++[])) (upd (upd H dx (.own x)) x (.ins C dx [])) (fun v aB=>v=.non/\G9 x aB) E:=fun x dx cU nd _ =>
 ⟨_,_,_,_,rfl,x,dx,rfl,a8,rfl,by rw[ih];exact h x dx cU nd⟩
theorem ayh(h:∀ x dx,H x=none->H dx=none->G9 x (iK H x dx C [(f1,a),(f2,b),(fK,c),(f4,d)])):∀ x dx,H x=none->H dx=none->dx≠x ->
  alJ C f1 f2 fK f4 (.ref x::([a,b,c,d]++[])) (upd (upd H dx (.own x)) x (.ins C dx [])) (fun v aB=>v=.non/\G9 x aB) E:=fun x dx cU nd _ =>
 ⟨_,_,_,_,_,rfl,x,dx,rfl,a8,rfl,by rw[ih];exact h x dx cU nd⟩
end
abbrev fD{α:Type}(Rep:ao->V->α->Prop):Prop:=∀ H H' v x,aQ H H'->Rep H v x->Rep H' v x
theorem vr:fD k9:=fun _ _ _ _ _ h=>h
theorem alK:fD y5:=fun _ _ _ _ _ h=>h
theorem hg:fD hr:=fun _ _ _ _ s ⟨a,e,h⟩=>⟨a,e,s _ _ h⟩
inductive hj{α:Type}(Rep:ao->V->α->Prop)(H:ao)(v:V)(xs:List α):Prop
 |mk (a vs):v=.ref a->H a=some (.lst vs)->Paired (Rep H) vs xs->hj Rep H v xs
theorem fL{α:Type}{Rep:ao->V->α->Prop}(m:fD Rep):fD (hj Rep):=fun _ _ _ _ s ⟨a,vs,e,h,p⟩=>⟨a,vs,e,s _ _ h,Paired.d8 p fun _ _ r=>m _ _ _ _ s r⟩
theorem G_{α β:Type}{F:α->β->Prop}:∀ {l:List α} {r:List β} {a:α} {b:β},Paired F l r->F a b->Paired F (l++[a]) (r++[b])
 |_,_,_,_,.nil,h=>.cons h .nil
 |_,_,_,_,.cons q t,h=>.cons q (G_ t h)
theorem alL:∀ {H:ao} {vs:List V} {xs:aK},Paired (k9 H) vs xs->vs=xs.map nat
 |_,_,_,.nil=>rfl
 |_,_,_,.cons (h:_=nat _) t=>by rw[fU,← alL t,h]
theorem Yl{H:ao}{v:V}{xs:aK}(h:hj k9 H v xs):hr H v xs:=by
 obtain⟨a,vs,e,aX,p⟩:=h;exact⟨a,e,by rw[aX,alL p]⟩
theorem za{α β:Type}{F:α->β->Prop}:∀ {l:List α} {r:List β} {i:Nat} {b:β},Paired F l r->r[i]?=some b->∃ a,l[i]?=some a/\F a b
 |_,_,_,_,.nil,h=>by simp at h
 |_,_,0,_,.cons q _,h=>by simp at h;subst h;exact⟨_,Z,q⟩
 |_,_,i+1,_,.cons _ t,h=>by simpa using za t (by simpa using h)
theorem mG{α β:Type}{F:α->β->Prop}:∀ {l:List α} {r:List β} {i:Nat} {a:α},Paired F l r->l[i]?=some a->∃ b,r[i]?=some b/\F a b
 |_,_,_,_,.nil,h=>by simp at h
 |_,_,0,_,.cons q _,h=>by simp at h;subst h;exact⟨_,Z,q⟩
 |_,_,i+1,_,.cons _ t,h=>by simpa using mG t (by simpa using h)
theorem f9{α β:Type}{F:α->β->Prop}{l:List α}{r:List β}(p:Paired F l r):l.length=r.length:=Paired.length p
section
variable{t:bW}{α:Type}{p:Sw28.P α}{Rep:ao->V->α->Prop}{A H H':ao}{rd ca L:au}{bs kB:Sw28.B}{g i:Nat}
def Many(t:bW){α:Type}(p:Sw28.P α)(Rep:ao->V->α->Prop)(A:ao)(rd ca L:au)(bs kB:Sw28.B)(g i:Nat)(H:ao):Prop :=
 ∃ xs r vs,times p i kB=some (xs,r)/\ef t H rd ca bs r g/\bf [rd] A H/\H L=some (.lst vs)/\Paired (Rep (bH A [L] H)) vs xs
theorem Many.start(R:ef t H rd ca bs kB g)(k:bf [rd] A H)(dc:H L=some (.lst [])):Many t p Rep A rd ca L bs kB g 0 H:=⟨[],kB,[],rfl,R,k,dc,.nil⟩
theorem R2(mono:fD Rep)(qO:A rd≠none)(k:bf [rd] A H)(G':H rd≠none)(dc:∀ b∈(LL:d2),H b≠none){v:V}{x:α}(rep:Rep (bH H [] H') v x):Rep (bH A LL H') v x :=
 mono _ _ _ _ (tV (k.dom fun b ak=>by simp at ak;rw[ak];exact G') dc) rep
theorem Many.next(mono:fD Rep)(qO:A rd≠none)(R3:A ca≠none)(mC:A L=none){xs:List α}{r:Sw28.B}{vs:List V}(h1:times p i kB=some (xs,r))(k:bf [rd] A H)(dc:H L=some (.lst vs))(aL:Paired (Rep (bH A [L] H)) vs xs)
  {x:α} {r':Sw28.B} {v:V} (aq:p r=some (x,r')) (k7:ef t H' rd ca bs r' g) (k':bf [rd] H H') (rep:Rep (bH A [L] H') v x) :
  H' L=some (.lst vs)/\Many t p Rep A rd ca L bs kB g (i+1) (upd H' L (.lst (vs++[v]))):=by
 have i_:L≠rd:=fun e=>qO (e▸mC);have acu:L≠ca:=fun e=>R3 (e▸mC);have ayi:H' L=some (.lst vs):=k' _ _ (by simp[i_]) dc;have dB:bf [rd] A (upd H' L (.lst (vs++[v]))):=(k.trans k').xB mC;refine⟨ayi,xs++[x],r',vs++[v],?_,k7.upd i_ acu,dB,a8,?_⟩
 ·rw[Em,h1];simp[aq]
 ·have s1:aQ (bH A [L] H) (bH A [L] H'):=jB k' fun b ak=>by simp at ak;exact .inl (ak▸qO)
  have s2:aQ (bH A [L] H') (bH A [L] (upd H' L (.lst (vs++[v])))):=jB (M:=[L]) (bf.pT (by simp)) fun b ak=>.inr ak;exact G_ (Paired.d8 aL fun _ _ q=>mono _ _ _ _ (s1.trans s2) q) (mono _ _ _ _ s2 rep)
theorem Many.done(mono:fD Rep)(dc:A L=none)(m:Many t p Rep A rd ca L bs kB g i H):∃ xs r,times p i kB=some (xs,r)/\ef t H rd ca bs r g/\bf [rd] A H/\hj Rep (bH A [] H) (.ref L) xs:=by
 obtain⟨xs,r,vs,h1,R,k,h,p⟩:=m;exact⟨xs,r,h1,R,k,L,vs,Z,ew.mpr ⟨dc,by simp,h⟩,Paired.d8 p fun _ _ q=>mono _ _ _ _ (y2 (by simp)) q⟩
abbrev One(t:bW){α:Type}(p:Sw28.P α)(Rep:ao->V->α->Prop)(H:ao)(rd ca:au)(bs r:Sw28.B)(g:Nat)(Q:bA)(E:cN):Prop :=
 (∀ x r' v H',p r=some (x,r')->ef t H' rd ca bs r' g->bf [rd] H H'->Rep (bH H [] H') v x->Q v H')/\(p r=none->∀ H',bf [rd] H H'->E (.ref t.jl) none H')
theorem R4{σ:St}{H:ao}{A N:ao->Prop}(h:A H):se σ H fun b aJ=>if b=true then A aJ else N aJ:=by
 show if true=true then A H else N H;rw[bM rfl];exact h
theorem xE{te:TE}{σ:St}{dB n:Nat}{gw:ao->Prop}{E:cN}{D:au}(mono:fD Rep)(R:ef t H rd ca bs kB g)(aR:n<=65536)(bw:H D=none)
  (rB:∀ (i:Nat) (H1:ao) (r:Sw28.B) (er:bA),ef t H1 rd ca bs r g->bf [rd] H H1->One t p Rep H1 rd ca bs r g er E->te ((wipe σ [dB]).set dB (some (.int (0+(i:Nat))))) H1 er)
  (k1:∀ xs r H',times p n kB=some (xs,r)->ef t H' rd ca bs r g->bf [rd] H H'->hj Rep (bH H [] H') (.ref D) xs->gw H')
  (k2:times p n kB=none->∀ H',bf [rd] H H'->E (.ref t.jl) none H') :
  ∃ W:Nat->Nat->ao->Prop,(∃ m,W 0 m (upd H D (.lst [])))/\∀ i m H,W i m H ->
   ((oL 0 n).stop i H/\gw H)\/((oL 0 n).go i H/\∃ fQ:ao->Prop,(∀ H',fQ H'->∃ dU,dU<m/\W (i+1) dU H')/\∀ x H',(oL 0 n).mg i H x H'->kY dB x (wipe σ [dB]) H' fun dW aB=>wipe dW [dB]=wipe σ [dB]/\se dW aB fun b aJ =>
    if b=true then te dW aJ fun y bC=>∃ acc,bC D=some (.lst acc)/\acc.length<sizeLine/\fQ (upd bC D (.lst (acc++[y])))else fQ aJ):=by
 have qO:=R.dom;have R3:=R.sA;refine ab5 (lo:=0) (gw:=gw) (fun i H1=>Many t p Rep H rd ca D bs kB g i H1) (.start (R.new bw) (bf.iZ bw) a8) (fun i H1 hi m=>?_) fun H1 m=>?_
 ·obtain⟨xs,r,vs,h1,dr,k,h,pp⟩:=m;refine⟨by simp[wipe],R4 (rB i H1 r _ dr k ⟨fun x r' v H' aq k7 k' rep=>?_,fun lE H' k'=>?_⟩)⟩
  ·have xF:=R2 (LL:=[D]) mono qO k dr.dom (fun b ak=>by simp at ak;rw[ak];exact j5 h) rep
   obtain⟨e,dU⟩:=Many.next mono qO R3 bw h1 k h pp aq k7 k' xF;refine⟨vs,e,?_,dU⟩;have:=mX _ h1;rw[f9 pp];exact jR (by simp at this;omega)
  ·exact k2 (x9 p h1 lE n hi) H' (k.trans k')
 ·obtain⟨xs,r,h1,dr,k,rl⟩:=m.done mono bw;exact k1 xs r H1 h1 dr k rl
end
inductive alM{α:Type}(t:bW)(p:Nat->Sw28.P α)(Rep:ao->V->α->Prop)(a:V)(H:ao)(Q:bA)(E:cN):Prop
 |mk (rd):a=.ref rd->ry t p Rep H rd Q E->alM t p Rep a H Q E
def jC{α:Type}(t:bW)(p:Nat->Sw28.P α)(Rep:ao->V->α->Prop):eY:=fc (alM t p Rep)
section
variable{t:bW}{α:Type}{p:Nat->Sw28.P α}{Rep:ao->V->α->Prop}{H:ao}{rd ca:au}{bs rest:Sw28.B}{g i:Nat}{σ:St}{Q:bA}{E:cN}{m:Str}{sp:eY}{cO:TA}
theorem iM(R:ef t H rd ca bs rest g)(a0:σ[i]?=some (some (.ref rd)))(h:cO σ H fun vs aB=>sp (.ref rd::(vs++[])) aB Q E)(hm:∀ a n g,(tW a n g).lookup m=none:=by intros;rfl):Fx t.iJ m sp [] E (gh i) cO σ H Q:=by
 obtain⟨dx,n,bB,_⟩:=R.cY;exact⟨_,a0,rd,dx,_,Z,bB,hm _ _ _,h⟩
theorem hW(R:ef t H rd ca bs rest g)(a0:σ[i]?=some (some (.ref rd)))(o:One t (p g) Rep H rd ca bs rest g Q E)(hm:∀ a n g,(tW a n g).lookup m=none:=by intros;rfl):Fx t.iJ m (jC t p Rep) [] E (gh i) m_ σ H Q :=
 iM R a0 ⟨_,rfl,rd,rfl,ca,bs,rest,g,R,o.1,o.2⟩ hm
theorem mH(R:ef t H rd ca bs rest g)(a0:σ[i]?=some (some (.ref rd)))(o:One t (p g) Rep H rd ca bs rest g Q E):Vy (jC t p Rep) [] E (nS (gh i) m_) σ H Q :=
 ⟨_,a0,_,rfl,rd,rfl,ca,bs,rest,g,R,o.1,o.2⟩
end
section
variable{P:fx}{w:e4}{K:cp}{av:g_}{base:Heap}{t:bW}
theorem ayj(T:Txt K av t):cJ P w K av base (cM P w) 1 t.Ky t.Kz ["self","before","there","behind","acts"] (alJ t.rq "before" "there" "behind" "acts"):=by
 refine T.Wn.cZ axF xC.cX ?_;rintro bK A outer s H _ Q E aA ⟨cn,vh,b1,iv,jQ,rfl,x,dx,rfl,aq,q⟩;refine⟨_,(aW (eX (aj 0) (aj 1) Z) (aW (eX (aj 0) (aj 2) Z) (aW (eX (aj 0) (aj 3) Z) (bk (eX (aj 0) (aj 4) Z))))),?_⟩;apply hH;intros;refine⟨_,Z,_,Z,x,_,dx,_,Z,aq,T.sv,T.Wl,by show 0<1000;decide,?_⟩;refine⟨_,Z,_,Z,x,_,dx,_,Z,a8,T.sv,T.Qz,by show 1<1000;decide,?_⟩;refine⟨_,Z,_,Z,x,_,dx,_,Z,a8,T.sv,T.Wm,by show 2<1000;decide,?_⟩;refine⟨_,Z,_,Z,x,_,dx,_,Z,a8,T.sv,T.QB,by show 3<1000;decide,?_⟩;rw[ih,ih,ih];exact q
theorem ayk(T:Txt K av t):cJ P w K av base (cM P w) 1 t.KC t.KD ["self","free","allowed"] (Yk t.tH "free" "allowed"):=by
 refine T.Wq.cZ axG gd.cX ?_;rintro bK A outer s H _ Q E aA ⟨cn,vh,b1,rfl,x,dx,rfl,aq,q⟩;refine⟨_,(aW (eX (aj 0) (aj 1) Z) (bk (eX (aj 0) (aj 2) Z))),?_⟩;apply cB;intros;refine⟨_,Z,_,Z,x,_,dx,_,Z,aq,T.vo,T.Gm,by show 0<1000;decide,?_⟩;refine⟨_,Z,_,Z,x,_,dx,_,Z,a8,T.vo,T.Wo,by show 1<1000;decide,?_⟩;rw[ih];exact q
theorem alN(T:Txt K av t):cJ P w K av base (cM P w) 1 t.KY t.KZ ["self","kind","passes","body"] (R0 t.rr "kind" "passes" "body"):=by
 refine T.Wz.cZ axI nq.cX ?_;rintro bK A outer s H _ Q E aA ⟨cn,vh,b1,iv,rfl,x,dx,rfl,aq,q⟩;refine⟨_,(aW (eX (aj 0) (aj 1) Z) (aW (eX (aj 0) (aj 2) Z) (bk (eX (aj 0) (aj 3) Z)))),?_⟩;apply dZ;intros;refine⟨_,Z,_,Z,x,_,dx,_,Z,aq,T.jy,T.tL,by show 0<1000;decide,?_⟩;refine⟨_,Z,_,Z,x,_,dx,_,Z,a8,T.jy,T.QC,by show 1<1000;decide,?_⟩;refine⟨_,Z,_,Z,x,_,dx,_,Z,a8,T.jy,T.ru,by show 2<1000;decide,?_⟩;rw[ih,ih];exact q
theorem ayl(T:Txt K av t):cJ P w K av base (cM P w) 1 t.K4 t.K5 ["self","change_numbers","place_numbers"] (Yk t.qJ "change_numbers" "place_numbers"):=by
 refine T.WL.cZ axJ gd.cX ?_;rintro bK A outer s H _ Q E aA ⟨cn,vh,b1,rfl,x,dx,rfl,aq,q⟩;refine⟨_,(aW (eX (aj 0) (aj 1) Z) (bk (eX (aj 0) (aj 2) Z))),?_⟩;apply cB;intros;refine⟨_,Z,_,Z,x,_,dx,_,Z,aq,T.Gp,T.WD,by show 0<1000;decide,?_⟩;refine⟨_,Z,_,Z,x,_,dx,_,Z,a8,T.Gp,T.WK,by show 1<1000;decide,?_⟩;rw[ih];exact q
theorem aym(T:Txt K av t):cJ P w K av base (cM P w) 1 t.Lg t.Lh ["self","order","length","joined"] (R0 t.nj "order" "length" "joined"):=by
 refine T.W3.cZ axM nq.cX ?_;rintro bK A outer s H _ Q E aA ⟨cn,vh,b1,iv,rfl,x,dx,rfl,aq,q⟩;refine⟨_,(aW (eX (aj 0) (aj 1) Z) (aW (eX (aj 0) (aj 2) Z) (bk (eX (aj 0) (aj 3) Z)))),?_⟩;apply dZ;intros;refine⟨_,Z,_,Z,x,_,dx,_,Z,aq,T.vp,T.QH,by show 0<1000;decide,?_⟩;refine⟨_,Z,_,Z,x,_,dx,_,Z,a8,T.vp,T.QJ,by show 1<1000;decide,?_⟩;refine⟨_,Z,_,Z,x,_,dx,_,Z,a8,T.vp,T.W2,by show 2<1000;decide,?_⟩;rw[ih,ih];exact q
theorem ayn(T:Txt K av t):cJ P w K av base (cM P w) 1 t.Mk t.Ml ["self","mark_class","right","up"] (R0 t.qK "mark_class" "right" "up"):=by
 refine T.Xh.cZ axR nq.cX ?_;rintro bK A outer s H _ Q E aA ⟨cn,vh,b1,iv,rfl,x,dx,rfl,aq,q⟩;refine⟨_,(aW (eX (aj 0) (aj 1) Z) (aW (eX (aj 0) (aj 2) Z) (bk (eX (aj 0) (aj 3) Z)))),?_⟩;apply dZ;intros;refine⟨_,Z,_,Z,x,_,dx,_,Z,aq,T.tM,T.QS,by show 0<1000;decide,?_⟩;refine⟨_,Z,_,Z,x,_,dx,_,Z,a8,T.tM,T.QT,by show 1<1000;decide,?_⟩;refine⟨_,Z,_,Z,x,_,dx,_,Z,a8,T.tM,T.QV,by show 2<1000;decide,?_⟩;rw[ih,ih];exact q
theorem ayo(T:Txt K av t):cJ P w K av base (cM P w) 1 t.Mp t.Mq ["self","marks","bases"] (Yk t.rt "marks" "bases"):=by
 refine T.Xk.cZ axS gd.cX ?_;rintro bK A outer s H _ Q E aA ⟨cn,vh,b1,rfl,x,dx,rfl,aq,q⟩;refine⟨_,(aW (eX (aj 0) (aj 1) Z) (bk (eX (aj 0) (aj 2) Z))),?_⟩;apply cB;intros;refine⟨_,Z,_,Z,x,_,dx,_,Z,aq,T.Gv,T.Xi,by show 0<1000;decide,?_⟩;refine⟨_,Z,_,Z,x,_,dx,_,Z,a8,T.Gv,T.Xj,by show 1<1000;decide,?_⟩;rw[ih];exact q
theorem ayp(T:Txt K av t):cJ P w K av base (cM P w) 1 t.Mr t.Ms ["self","right","up","wider"] (R0 t.vm "right" "up" "wider"):=by
 refine T.Xo.cZ axT nq.cX ?_;rintro bK A outer s H _ Q E aA ⟨cn,vh,b1,iv,rfl,x,dx,rfl,aq,q⟩;refine⟨_,(aW (eX (aj 0) (aj 1) Z) (aW (eX (aj 0) (aj 2) Z) (bk (eX (aj 0) (aj 3) Z)))),?_⟩;apply dZ;intros;refine⟨_,Z,_,Z,x,_,dx,_,Z,aq,T.yU,T.Xl,by show 0<1000;decide,?_⟩;refine⟨_,Z,_,Z,x,_,dx,_,Z,a8,T.yU,T.Xm,by show 1<1000;decide,?_⟩;refine⟨_,Z,_,Z,x,_,dx,_,Z,a8,T.yU,T.Xn,by show 2<1000;decide,?_⟩;rw[ih,ih];exact q
theorem ayq(T:Txt K av t):cJ P w K av base (cM P w) 1 t.Lr t.Ls ["self","content"] (fT fun s c H Q _=>∃ x dx ca,s=.ref x/\c=.ref ca/\H x=some (.ins t.iJ dx [])/\Q .non (upd H x (.ins t.iJ dx (tW ca 0 0)))):=by
 refine T.W9.cZ axO fT.cX ?_;rintro bK A outer s H _ Q E aA ⟨cn,c,rfl,x,dx,ca,rfl,rfl,aq,q⟩;refine⟨_,(aW (eX (aj 0) (aj 1) Z) (aW (eX (aj 0) b3 Z) (bk (eX (aj 0) b3 Z)))),?_⟩;apply dZ;intros;refine⟨_,Z,_,Z,x,_,dx,_,Z,aq,T.dV,T.Gs,by show 0<1000;decide,?_⟩;refine⟨_,Z,x,_,dx,_,Z,a8,T.dV,T.Ci,by show 1<1000;decide,?_⟩;refine⟨_,Z,x,_,dx,_,Z,a8,T.dV,T.yR,by show 2<1000;decide,?_⟩;rw[ih,ih];exact q
theorem af4{bs:Sw28.B}{n:Nat}(h:n<bs.length):byte (bs.drop n)=some (bs[n],bs.drop (n+1)):=by
 rw[z8 h];rfl
theorem alO{bs:Sw28.B}{n:Nat}(h:bs.length<=n):byte (bs.drop n)=none:=by
 rw[Ef h];rfl
theorem Ym(T:Txt K av t):cJ P w K av base (cM P w) 2 t.Lw t.Lx ["self"] (jC t (fun _=>byte) k9):=by
 refine T.W_.cZ ali fc.cX ?_;rintro bK A outer s H _ Q E aA ⟨cn,rfl,rd,rfl,ca,bs,rest,g,R,k1,k2⟩;try simp only at k1 k2
 refine⟨_,(aW (et (dI (qM T) aA.bh Z T.oW T.nk.aG T.qL .nil bj (aD (nR q_ (bQ (aj 0) Z) (hx iH Z T.hB hN (aD (bQ (aj 0) Z) aM)) (fj _)) aM))) (aW (ct (i:=1) ali.nd Z (Or.inl Z) (eO gA (bQ (aj 0) Z) (bQ (aj 0) Z) (fun _ _=>Z))) (aW (ajY (aj 0) b3 ajZ) (bk (dM (aj 1)))))),?_⟩;apply hH;intros;obtain⟨dx,n,bB,rfl,aR⟩:=R.cY;refine⟨_,Z,rd,_,dx,_,_,Z,bB,T.dV,T.Ci,Z,?_⟩;refine⟨_,Z,rd,_,dx,_,_,Z,bB,T.dV,T.Gs,Z,ca,_,Z,.inl (aT.of R.sz),_,_,Z,Z,_,Z,fun ak=>?_,fun ak=>?_⟩
 ·have c0:n<bs.length:=by simpa using ak
  refine⟨_,Z,rd,_,dx,_,_,Z,bB,T.dV,T.Gs,Z,?_⟩;refine⟨_,Z,rd,_,dx,_,_,Z,bB,T.dV,T.Ci,Z,ca,_,_,_,Z,Z,aT.of R.sz,gO (v:=nat bs[n]) (by simp[c0]),?_⟩;refine⟨_,Z,rd,_,dx,_,_,Z,bB,T.dV,T.Ci,Z,_,_,Z,Z,dx,_,bB,by show 3<1000;decide,?_⟩;refine⟨_,Z,?_⟩;refine k1 bs[n] (bs.drop (n+1)) _ _ (af4 c0) ⟨⟨dx,n+1,?_,rfl,c0⟩,?_,R.lt,R.ln⟩ (bf.pT (by simp)) rfl
  ·rw[a8];rfl
  ·rw[a7 R.ne];exact R.sz
 ·have hle:bs.length<=n:=by simpa using ak
  exact k2 (alO hle) H (bf.refl _ _)
theorem af5(r:Sw28.B):u16 r=(byte r).bind fun a=>(byte a.2).map fun b=>(a.1 * 256+b.1,b.2):=by
 match r with
 | []=>rfl
 | [a]=>rfl
 |a::b::r=>simp[u16,byte,Nat.mul_comm]
theorem ayr{bs r r':Sw28.B}{x:Nat}(ak:∀ b∈r,b<256)(h:byte r=some (x,r')):x<256/\∀ b∈r',b<256:=by
 match r,h with
 |a::r,h =>
  simp only[byte,Option.some.injEq,Prod.mk.injEq]at h;obtain⟨rfl,rfl⟩:=h;exact⟨ak _ h_,fun b hm=>ak b (h2 _ hm)⟩
theorem ef.small{H:ao}{rd ca:au}{bs rest:Sw28.B}{g:Nat}(R:ef t H rd ca bs rest g):∀ b∈rest,b<256:=by
 obtain⟨dx,n,_,e,_⟩:=R.cY;intro b ak;rw[e]at ak;exact R.lt b (Ul ak)
theorem alP{r r':Sw28.B}{x:Nat}(ak:∀ b∈r,b<256)(h:u16 r=some (x,r')):x<65536:=by
 match r,h with
 |a::b::r,h =>
  simp only[u16,Option.some.injEq,Prod.mk.injEq]at h;have h1:=ak a (by simp);have aC:=ak b (by simp);omega
theorem alQ{i j:Int}(h1:0<=i)(aC:i<4294967296):Vv i j:=.inl ⟨by omega,by omega⟩
theorem Cy(T:Txt K av t):cJ P w K av base (cM P w) 3 t.Ly t.Lz ["self"] (jC t (fun _=>u16) k9):=by
 refine T.Xa.cZ alj fc.cX ?_;rintro bK A outer s H _ Q E aA ⟨cn,rfl,rd,rfl,ca,bs,rest,g,R,k1,k2⟩;try simp only at k1 k2
 refine⟨_,(aW (ct (i:=1) alj.nd Z (Or.inl Z) (gv (aj 0) T.dV T.Gu (Ym T) aA.bh T.X7 .nil bj)) (bk (dM (fa m8 (fa ajL (aj 1) b3) (gv (aj 0) T.dV T.Gu (Ym T) aA.bh T.X7 .nil bj))))),?_⟩;apply cB;intros;refine hW R rfl ⟨fun x r v H1 aq dr cD rep=>?_,fun aR H' aG=>k2 (by show u16 rest=none;rw[af5,aR];rfl) H' aG⟩;subst rep;have Kd:=(ayr (bs:=bs) R.small aq).1;refine⟨_,Z,_,_,Z,Z,alQ (by omega) (by omega),?_⟩;refine hW dr rfl ⟨fun y dp v aB aP cP bZ rep=>?_,fun aR H' aG=>k2 (by show u16 rest=none;rw[af5,aq];simp[aR]) H' (cD.trans aG)⟩;subst rep;refine⟨_,_,Z,Z,?_⟩;exact k1 (x * 256+y) dp _ aB (by show u16 rest=_;rw[af5,aq];simp[aP]) cP (cD.trans bZ) (by show V.int _=nat _;simp[nat])
theorem af6(T:Txt K av t):cJ P w K av base (cM P w) 4 t.LC t.LK ["self"] (jC t (fun _=>Sw28.u32) k9):=by
 refine T.Xb.cZ alk fc.cX ?_;rintro bK A outer s H _ Q E aA ⟨cn,rfl,rd,rfl,ca,bs,rest,g,R,k1,k2⟩;try simp only at k1 k2
 refine⟨_,(aW (ct (i:=1) alk.nd Z (Or.inl Z) (gv (aj 0) T.dV T.w5 (Cy T) aA.bh T.Cp .nil bj)) (bk (dM (fa m8 (fa ajL (aj 1) b3) (gv (aj 0) T.dV T.w5 (Cy T) aA.bh T.Cp .nil bj))))),?_⟩;apply cB;intros;refine hW R rfl ⟨fun x r v H1 aq dr cD rep=>?_,fun aR H' aG=>k2 (by show(u16 rest).bind _=none;rw[aR];rfl) H' aG⟩;subst rep;have Kd:=alP R.small aq;refine⟨_,Z,_,_,Z,Z,alQ (by omega) (by omega),?_⟩;refine hW dr rfl ⟨fun y dp v aB aP cP bZ rep=>?_,fun aR H' aG=>k2 (by show(u16 rest).bind _=none;rw[aq];simp[aR]) H' (cD.trans aG)⟩;subst rep;refine⟨_,_,Z,Z,?_⟩;exact k1 (65536 * x+y) dp _ aB (by show(u16 rest).bind _=_;rw[aq];simp[aP]) cP (cD.trans bZ) (by show V.int _=nat _;simp[nat,Int.mul_comm])
theorem Hf(T:Txt K av t):cJ P w K av base (cM P w) 4 t.LQ t.LR ["self"] (jC t (fun _=>s16) y5):=by
 refine T.Xc.cZ alm fc.cX ?_;rintro bK A outer s H _ Q E aA ⟨cn,rfl,rd,rfl,ca,bs,rest,g,R,k1,k2⟩;try simp only at k1 k2
 refine⟨_,(aW (ct (i:=1) alm.nd Z (Or.inl Z) (gv (aj 0) T.dV T.w5 (Cy T) aA.bh T.Cp .nil bj)) (bk (dM (Vj (gM abA (aj 1) b3 (fj _)) (fa ky (aj 1) b3) (aj 1))))),?_⟩;apply cB;intros;refine hW R rfl ⟨fun x r v H1 aq dr cD rep=>?_,fun aR H' aG=>k2 (by show(u16 rest).map _=none;rw[aR];rfl) H' aG⟩;subst rep;refine⟨_,Z,_,_,Z,Z,_,Z,?_⟩;refine dF (fun ak=>?_) fun ak=>?_
 ·have g9:¬ x<32768:=by simp at ak;omega
  refine⟨_,Z,_,_,Z,Z,k1 ((x:Int)-65536) r _ H1 ?_ dr cD rfl⟩;show(u16 rest).map _=_;rw[aq];simp[g9]
 ·have g9:x<32768:=by simp at ak;omega
  refine⟨_,Z,k1 (x:Int) r _ H1 ?_ dr cD rfl⟩;show(u16 rest).map _=_;rw[aq];simp[g9]
theorem ays{lo hi:Int}{r r':Sw28.B}{x:Nat}(h:u16 r=some (x,r')):eb lo hi r=if lo<=(x:Int)/\(x:Int)<=hi then some (x,r')else none:=by
 unfold eb;rw[gZ,h];simp
theorem j6(T:Txt K av t):cJ P w K av base (cM P w) 4 t.L1 t.L_ ["self","lowest","highest"] (gd fun a b c H Q E=>∃ rd lo hi,a=.ref rd/\b=.int lo/\c=.int hi/\ry t (fun _=>eb lo hi) k9 H rd Q E):=by
 refine T.Xd.cZ aln gd.cX ?_;rintro bK A outer s H _ Q E aA ⟨cn,a1,a2,rfl,rd,lo,hi,rfl,rfl,rfl,ca,bs,rest,g,R,k1,k2⟩;try simp only at k1 k2
 refine⟨_,(aW (ct (i:=3) aln.nd Z (Or.inl Z) (gv (aj 0) T.dV T.w5 (Cy T) aA.bh T.Cp .nil bj)) (aW (et (dI (qM T) aA.bh Z T.oW T.nk.aG T.qL .nil bj (aD (nR yu (aj 1) (aj 3) (fj _)) aM))) (aW (et (dI (qM T) aA.bh Z T.oW T.nk.aG T.qL .nil bj (aD (nR yu (aj 3) (aj 2) (fj _)) aM))) (bk (dM (aj 3)))))),?_⟩;apply hH;intros;refine hW R rfl ⟨fun x r v H1 aq dr cD rep=>?_,fun aR H' aG=>k2 (by show(u16 rest).bind _=none;rw[aR];rfl) H' aG⟩;subst rep;have e:=ays (lo:=lo) (hi:=hi) aq;refine⟨_,Z,_,Z,_,_,Z,Z,_,Z,fun ak=>?_,fun ak=>?_⟩
 ·have h1:lo<=(x:Int):=by simpa using ak
  refine⟨_,Z,_,Z,_,_,Z,Z,_,Z,fun ak=>?_,fun ak=>?_⟩
  ·have aC:(x:Int)<=hi:=by simpa using ak
   exact⟨_,Z,k1 x r _ H1 (by show eb lo hi rest=_;rw[e,bM ⟨h1,aC⟩]) dr cD rfl⟩
  ·have aC:¬ (x:Int)<=hi:=by simpa using ak
   exact k2 (by show eb lo hi rest=_;rw[e,bx fun z=>aC z.2]) H1 cD
 ·have h1:¬ lo<=(x:Int):=by simpa using ak
  exact k2 (by show eb lo hi rest=_;rw[e,bx fun z=>h1 z.1]) H1 cD
theorem j7{H:ao}{rd ca:au}{bs rest:Sw28.B}{g:Nat}{lo hi:Int}{Q:bA}{E:cN}(R:ef t H rd ca bs rest g)(o:One t (eb lo hi) k9 H rd ca bs rest g Q E) :
  (gd fun a b c H Q E=>∃ rd lo hi,a=.ref rd/\b=.int lo/\c=.int hi/\ry t (fun _=>eb lo hi) k9 H rd Q E) [.ref rd,.int lo,.int hi] H Q E :=
 ⟨_,_,_,rfl,rd,lo,hi,rfl,rfl,rfl,ca,bs,rest,g,R,o.1,o.2⟩
theorem tZ(T:Txt K av t):cJ P w K av base (cM P w) 5 t.Ma t.Mf ["self"] (jC t Sw28.sign k9):=by
 refine T.Xe.cZ axP fc.cX ?_;rintro bK A outer s H _ Q E aA ⟨cn,rfl,rd,rfl,ca,bs,rest,g,R,k1,k2⟩;try simp only at k1 k2
 refine⟨_,(bk (dM (fl (aj 0) T.dV T.jz (j6 T) aA.bh T.j4 .nil bj (aD b3 (aD (fa ky (bQ (aj 0) Z) b3) aM))))),?_⟩;obtain⟨dx,n,bB,_⟩:=id R.cY;refine iM R rfl ⟨_,rfl,rd,_,dx,_,_,rfl,bB,T.dV,T.yR,rfl,_,_,rfl,rfl,j7 R ⟨fun x r v H1 aq dr cD rep=>?_,fun aR H' aG=>?_⟩⟩
 ·exact k1 x r v H1 (by rw[sign_eq];exact aq) dr cD rep
 ·exact k2 (by rw[sign_eq];exact aR) H' aG
theorem af7(T:Txt K av t):cJ P w K av base (cM P w) 6 t.Mg t.Mh ["self","fewest","most"] (gd fun a b c H Q E=>∃ rd lo hi,a=.ref rd/\b=nat lo/\c=nat hi/\hi<=65536/\ry t (fun g=>many lo hi (Sw28.sign g)) hr H rd Q E):=by
 refine T.Xf.cZ afL gd.cX ?_;rintro bK A outer s H _ Q E aA ⟨cn,a1,a2,rfl,rd,lo,hi,rfl,rfl,rfl,alR,ca,bs,rest,g,R,k1,k2⟩;try simp only at k1 k2
 refine⟨_,(bk (dM (iI (own:=[("k",3)]) dJ (fun _ _ z=>z) Z afL.nd (mj Z T.jA (aD (fl (aj 0) T.dV T.jz (j6 T) aA.bh T.j4 .nil bj (aD (aj 1) (aD (aj 2) aM))) aM)) (gY (by rfl)) (fun _ _ _ _ _=>dm (i:=3) afL.nd Z (Or.inl Z)) (fun _ _ _ _ _=>hy) (fun _ _ _ _ _=>(gv (aj 0) T.dV T.rv (tZ T) aA.bh T.tR .nil bj))))),?_⟩;refine iM R rfl ⟨_,rfl,_,rfl,j7 R ⟨fun n r v H1 aq dr cD rep=>?_,fun aR H' aG=>k2 (by rw[ov,aR];rfl) H' aG⟩⟩;subst rep;have ak:=wi aq;refine⟨_,Z,by omega,by omega,fun D bw=>?_⟩;refine xE (E:=E) (p:=Sw28.sign g) (Rep:=k9) (n:=n) vr dr (by omega) bw (fun i aB dp er cP _ o=>hW cP rfl o) (fun xs dp aB lN cP bZ rl=>?_) fun aR aB bZ=>?_
 ·refine k1 xs dp _ aB (by rw[ov,aq];exact lN) cP (cD.trans bZ) (Yl ?_);exact fL vr _ _ _ _ (tV (cD.dom fun b ak=>by simp at ak;rw[ak];exact dr.dom) (by simp)) rl
 ·exact k2 (by rw[ov,aq];exact aR) aB (cD.trans bZ)
theorem ayt(T:Txt K av t):cJ P w K av base (cM P w) 2 t.Mi t.Mj ["self"] (fc fun a H Q E=>∃ rd,a=.ref rd/\∃ ca bs rest g,ef t H rd ca bs rest g/\(rest=[]->Q .non H)/\(rest≠[]->E (.ref t.jl) none H)):=by
 refine T.Xg.cZ axQ fc.cX ?_;rintro bK A outer s H _ Q E aA ⟨cn,rfl,rd,rfl,ca,bs,rest,g,R,k1,k2⟩;try simp only at k1 k2
 refine⟨_,(bk (et (dI (qM T) aA.bh Z T.oW T.nk.aG T.qL .nil bj (aD (nR jO (bQ (aj 0) Z) (hx iH Z T.hB hN (aD (bQ (aj 0) Z) aM)) (fj _)) aM)))),?_⟩;obtain⟨dx,n,bB,rfl,aR⟩:=R.cY;refine⟨_,Z,rd,_,dx,_,_,Z,bB,T.dV,T.Ci,Z,?_⟩;refine⟨_,Z,rd,_,dx,_,_,Z,bB,T.dV,T.Gs,Z,ca,_,Z,.inl (aT.of R.sz),Z,_,Z,fun ak=>?_,fun ak=>?_⟩
 ·refine k1 (Ef ?_);simp at ak;omega
 ·refine k2 fun e=>?_;have:=List.drop_eq_nil_iff.mp e;simp at ak;omega
def alS(H:ao)(x y:V)(b:Bool):Prop:=(∃ i j:Int,x=.int i/\y=.int j/\b=decide (i<j))\/∃ p q ns ms,x=.ref p/\y=.ref q/\H p=some (.tup (ns.map V.int))/\H q=some (.tup (ms.map V.int))/\b=HT.lexLt ns ms
inductive alT(t:bW)(a:V)(H:ao)(Q:bA)(E:cN):Prop
 |mk (l xs) (B:Nat->Bool):a=.ref l->H l=some (.lst xs)->xs.length<=65536->(∀ k x y,xs[k]?=some x->xs[k+1]?=some y->alS H x y (B k))->((∀ k,k+1<xs.length->B k=true)->Q .non H)->(∀ k,k+1<xs.length->B k=false->E (.ref t.jl) none H)->alT t a H Q E
def R5(t:bW):eY:=fc (alT t)
theorem xG(T:Txt K av t):cJ P w K av base (cM P w) 2 t.Nx t.Ny ["keys"] (R5 t):=by
 refine T.rx.cZ alr fc.cX ?_;rintro bK A outer s H _ Q E aA ⟨cn,rfl,l,xs,B,rfl,aF,hz,lK,k1,k2⟩;try simp only at k1 k2
 refine⟨_,(bk (hp (gP dJ Z) Z (abp Z T.jA (aD b3 (aD (hx iH Z T.hB hN (aD (aj 0) aM)) aM))) (dm (i:=1) alr.nd Z (Or.inl Z)) (bk (et (dI (qM T) aA.bh Z T.oW T.nk.aG T.qL .nil bj (aD (nR (q_.or (atY (ax' aA))) (eO gA (aj 0) (fa ky (aj 1) b3) (fun _ _=>Z)) (eO gA (aj 0) (aj 1) (fun _ _=>Z)) (fj _)) aM)))))),?_⟩;refine⟨_,Z,l,xs,Z,.inl (aT.of aF),_,_,Z,⟨by omega,by omega,by omega,by omega⟩,?_⟩;refine tg (fun i σ H'=>H'=H/\(∃ dB,σ=[some (.ref l),dB])/\∀ j,j<i->B j=true) ⟨rfl,⟨_,rfl⟩,fun j bN=>absurd bN (Ai _)⟩ (fun i σ H' hi aU=>?_) fun σ H' aU=>?_
 ·obtain⟨e,⟨dB,a9⟩,ak⟩:=aU;subst e a9;have aC:i+1<xs.length:=by omega
  have aq:xs[i]?=some xs[i]:=dT (by omega);have aP:xs[i+1]?=some xs[i+1]:=dT aC;refine⟨_,Z,_,Z,_,_,Z,Z,l,xs,_,xs[i],Z,Z,aT.of aF,at_of (j:=i) (by omega) aq,?_⟩;refine⟨_,Z,_,Z,l,xs,_,xs[i+1],Z,Z,aT.of aF,at_of (j:=i+1) (by omega) aP,?_⟩;have fin:∀ b:Bool,b=B i->aly t ([V.bl b]++[]) H' (fun v H1=>(fun σ H1=>H1=H'/\(∃ dB,σ=[some (V.ref l),dB])/\∀ j,j<i+1->B j=true) [some (V.ref l),some (V.int (1+(i:Nat)))] H1) E:=fun b vt =>
   ⟨b,rfl,fun h=>⟨rfl,⟨_,rfl⟩,fun j bN=>by
    rcases Nat.lt_or_eq_of_le (Nat.le_of_lt_succ bN)with z|z
    ·exact ak j z
    ·rw[z,← vt];exact h⟩,fun h=>k2 i aC (by rw[← vt];exact h)⟩
  rcases lK i _ _ aq aP with⟨a,b,bF,a9,dw⟩|⟨p,q,ns,ms,bF,a9,oA,e5,dw⟩
  ·exact .inl ⟨a,b,bF,a9,fin _ dw.symm⟩
  ·exact .inr ⟨p,q,ns,ms,bF,a9,fO.of oA,fO.of e5,fin _ dw.symm⟩
 ·obtain⟨e,_,ak⟩:=aU;subst e;exact k1 fun k aN=>ak k (by omega)
theorem ayu(T:Txt K av t):cJ P w K av base (cM P w) 2 t.Nz t.NK ["keys"] (fc fun a H Q E=>∃ l,∃ ns:List Int,a=.ref l/\H l=some (.lst (ns.map V.int))/\ns.length<=65536/\((∀ k,k+1<ns.length->ns.getD k 0<=ns.getD (k+1) 0)->Q .non H)/\(∀ k,k+1<ns.length->¬ ns.getD k 0<=ns.getD (k+1) 0->E (.ref t.jl) none H)):=by
 refine T.QZ.cZ als fc.cX ?_;rintro bK A outer s H _ Q E aA ⟨cn,rfl,l,ns,rfl,aF,hz,k1,k2⟩;try simp only at k1 k2
 refine⟨_,(bk (hp (gP dJ Z) Z (abp Z T.jA (aD b3 (aD (hx iH Z T.hB hN (aD (aj 0) aM)) aM))) (dm (i:=1) als.nd Z (Or.inl Z)) (bk (et (dI (qM T) aA.bh Z T.oW T.nk.aG T.qL .nil bj (aD (nR yu (eO gA (aj 0) (fa ky (aj 1) b3) (fun _ _=>Z)) (eO gA (aj 0) (aj 1) (fun _ _=>Z)) (fj _)) aM)))))),?_⟩;refine⟨_,Z,l,_,Z,.inl (aT.of aF),_,_,Z,⟨by omega,by omega,by omega,by simp;omega⟩,?_⟩;refine tg (fun i σ H'=>H'=H/\(∃ dB,σ=[some (.ref l),dB])/\∀ j,j<i->ns.getD j 0<=ns.getD (j+1) 0) ⟨rfl,⟨_,rfl⟩,fun j bN=>absurd bN (Ai _)⟩ (fun i σ H' hi aU=>?_) fun σ H' aU=>?_
 ·obtain⟨e,⟨dB,a9⟩,ak⟩:=aU;subst e a9;have aC:i+1<ns.length:=by simp at hi;omega
  have aq:(ns.map V.int)[i]?=some (V.int (ns.getD i 0)):=by simp[List.getD,dT (show i<ns.length by omega)]
  have aP:(ns.map V.int)[i+1]?=some (V.int (ns.getD (i+1) 0)):=by simp[List.getD,dT aC]
  refine⟨_,Z,_,Z,_,_,Z,Z,l,_,_,_,Z,Z,aT.of aF,at_of (j:=i) (by omega) aq,?_⟩;refine⟨_,Z,_,Z,l,_,_,_,Z,Z,aT.of aF,at_of (j:=i+1) (by omega) aP,?_⟩;refine⟨_,_,Z,Z,_,Z,fun h=>⟨rfl,⟨_,rfl⟩,fun j bN=>?_⟩,fun h=>k2 i aC (by simpa using h)⟩;rcases Nat.lt_or_eq_of_le (Nat.le_of_lt_succ bN)with z|z
  ·exact ak j z
  ·rw[z];simpa using h
 ·obtain⟨e,_,ak⟩:=aU;subst e;exact k1 fun k aN=>ak k (by simp;omega)
theorem af8:∀ l:aK,rising l=true↔∀ k,k+1<l.length->l.getD k 0<l.getD (k+1) 0
 | []=>by simp[rising]
 | [a]=>by simp[rising]
 |a::b::r=>by
  have bV:=af8 (b::r);simp only[rising,jf,pg,bV];constructor
  ·rintro⟨h1,aC⟩ k aN;cases k with
   |zero=>simpa using h1
   |succ k=>simpa using aC k (by simpa using aN)
  ·intro h;refine⟨by simpa using h 0 (by simp),fun k aN=>by simpa using h (k+1) (by simpa using aN)⟩
theorem af9:∀ l:aK,Sw28.level l=true↔∀ k,k+1<l.length->l.getD k 0<=l.getD (k+1) 0
 | []=>by simp[Sw28.level]
 | [a]=>by simp[Sw28.level]
 |a::b::r=>by
  have bV:=af9 (b::r);simp only[Sw28.level,jf,pg,bV];constructor
  ·rintro⟨h1,aC⟩ k aN;cases k with
   |zero=>simpa using h1
   |succ k=>simpa using aC k (by simpa using aN)
  ·intro h;refine⟨by simpa using h 0 (by simp),fun k aN=>by simpa using h (k+1) (by simpa using aN)⟩
theorem alU{t:bW}{H:ao}{Q:bA}{E:cN}{l:au}{xs:List V}{ns:aK}(aF:H l=some (.lst xs))(aR:xs.length=ns.length)(hz:xs.length<=65536)
  (aV:∀ k x y,xs[k]?=some x->xs[k+1]?=some y->alS H x y (decide (ns.getD k 0<ns.getD (k+1) 0))) (k1:rising ns=true->Q .non H) (k2:rising ns=false->E (.ref t.jl) none H):R5 t [.ref l] H Q E:=by
 refine⟨_,Z,l,xs,fun k=>decide (ns.getD k 0<ns.getD (k+1) 0),Z,aF,hz,aV,fun h=>k1 ((af8 ns).mpr fun k aN=>h3 (h k (by omega))),fun k aN ak=>k2 ?_⟩;cases e:rising ns with
 |false=>rfl
 |true =>
  have:=(af8 ns).mp e k (by omega);exact absurd this (wa ak)
theorem R6{t:bW}{H:ao}{Q:bA}{E:cN}{l:au}{ns:aK}(aF:H l=some (.lst (ns.map nat)))(hz:ns.length<=65536)(k1:rising ns=true->Q .non H)(k2:rising ns=false->E (.ref t.jl) none H):R5 t [.ref l] H Q E:=by
 refine alU aF (by simp) (by simpa using hz) (fun k x y aq aP=>.inl ⟨(ns.getD k 0:Nat),(ns.getD (k+1) 0:Nat),?_,?_,?_⟩) k1 k2
 ·rw[ek]at aq;cases e:ns[k]? with
  |none=>rw[e]at aq;cases aq
  |some a=>rw[e]at aq;cases aq;simp[List.getD,e]
 ·rw[ek]at aP;cases e:ns[k+1]? with
  |none=>rw[e]at aP;cases aP
  |some a=>rw[e]at aP;cases aP;simp[List.getD,e]
 ·exact wg.mpr (by omega)
section
variable{K':cp}{a D:au}{xs:List V}{te:TE}{tt:TT}{σ:St}{dB:Nat}{H:ao}{gw:ao->Prop}
theorem af_(keep:Nat->Option V)(aX:aT K' H a xs)(hz:xs.length<=65536)(bw:H D=none)
  (rB:∀ (i:Nat) x H' (er:bA) (N:ao->Prop),xs[i]?=some x->aQ H H'->(∀ y,keep i=some y->er y H')->(keep i=none->N H')->tt ((wipe σ [dB]).set dB (some x)) H' fun b aJ=>if b=true then te ((wipe σ [dB]).set dB (some x)) aJ er else N aJ)
  (k:gw (upd H D (.lst ((List.range xs.length).filterMap keep)))) :
  ∃ W:Nat->Nat->ao->Prop,(∃ m,W 0 m (upd H D (.lst [])))/\∀ i m H,W i m H ->
   ((jk K' a).stop i H/\gw H)\/((jk K' a).go i H/\∃ fQ:ao->Prop,(∀ H',fQ H'->∃ dU,dU<m/\W (i+1) dU H')/\∀ x H',(jk K' a).mg i H x H'->kY dB x (wipe σ [dB]) H' fun dW aB=>wipe dW [dB]=wipe σ [dB]/\tt dW aB fun b aJ =>
    if b=true then te dW aJ fun y bC=>∃ acc,bC D=some (.lst acc)/\acc.length<sizeLine/\fQ (upd bC D (.lst (acc++[y])))else fQ aJ):=by
 have bY:∀ zs,aQ H (upd H D (.lst zs)):=fun zs b o e=>by rw[a7 (bR e bw)];exact e
 refine ab6 (xs:=xs) (gw:=gw) (fun i H1=>H1=upd H D (.lst ((List.range i).filterMap keep))) rfl (fun i H1 _ e=>e▸(bY _).seq aX) (fun i x H1 aq e=>?_) fun H1 e=>e▸k;subst e;have hi:i<xs.length:=(eF.mp aq).1;refine⟨by simp[wipe],rB i x _ _ _ aq (bY _) (fun y aP=>⟨_,a8,?_,?_⟩) fun aR=>?_⟩
 ·have h1:((List.range i).filterMap keep).length<=i:=jg (List.length_filterMap_le _ _) (by simp)
  exact jR (by omega)
 ·rw[ih,p7,Eh];simp[aP]
 ·rw[p7,Eh];simp[aR]
theorem range_all{n:Nat}{bO:List V}(h:bO.length=n):(List.range n).filterMap (fun i=>bO[i]?)=bO:=by
 subst h;have key:∀ (m:Nat),m<=bO.length->(List.range m).filterMap (fun i=>bO[i]?)=bO.take m:=by
  intro m;induction m with
  |zero=>intro _;simp
  |succ m bV =>
   intro hm;have e:bO[m]?=some bO[m]:=dT (by omega);rw[p7,Eh,bV (by omega),vX,e];simp[e]
 rw[key _ (cH _),f3 (cH _)]
theorem n5(bO:List V)(aP:bO.length=xs.length)(aX:aT K' H a xs)(hz:xs.length<=65536)(bw:H D=none)
  (rB:∀ (i:Nat) x y H' (er:bA),xs[i]?=some x->bO[i]?=some y->aQ H H'->er y H'->te ((wipe σ [dB]).set dB (some x)) H' er) (k:gw (upd H D (.lst bO))) :
  ∃ W:Nat->Nat->ao->Prop,(∃ m,W 0 m (upd H D (.lst [])))/\∀ i m H,W i m H ->
   ((jk K' a).stop i H/\gw H)\/((jk K' a).go i H/\∃ fQ:ao->Prop,(∀ H',fQ H'->∃ dU,dU<m/\W (i+1) dU H')/\∀ x H',(jk K' a).mg i H x H'->kY dB x (wipe σ [dB]) H' fun dW aB=>wipe dW [dB]=wipe σ [dB]/\se dW aB fun b aJ =>
    if b=true then te dW aJ fun y bC=>∃ acc,bC D=some (.lst acc)/\acc.length<sizeLine/\fQ (upd bC D (.lst (acc++[y])))else fQ aJ):=by
 refine af_ (fun i=>bO[i]?) aX hz bw (fun i x H' er N aq aH h1 aC=>R4 ?_) (by rw[range_all aP];exact k);have hi:i<bO.length:=by rw[aP];exact(eF.mp aq).1
 exact rB i x bO[i] H' er aq (dT hi) aH (h1 _ (dT hi))
end
inductive qP{α:Type}(key:α->Key)(R:ao->V->α->Prop)(H:ao)(v:V)(x:α):Prop
 |mk (T b):v=.ref T->H T=some (.tup [c3 (key x),b])->R H b x->qP key R H v x
theorem Cz{α:Type}{key:α->Key}{R:ao->V->α->Prop}(m:fD R):fD (qP key R):=fun _ _ _ _ s ⟨T,b,e,h,r⟩=>⟨T,b,e,s _ _ h,m _ _ _ _ s r⟩
inductive xH{α:Type}(key:α->Key)(R:ao->V->α->Prop)(H:ao)(v:V)(xs:List α):Prop
 |mk (a kvs):v=.ref a->H a=some (.dX kvs)->Paired (fun bD x=>bD.1=key x/\R H bD.2 x) kvs xs->xH key R H v xs
theorem R7{α:Type}{key:α->Key}{R:ao->V->α->Prop}(m:fD R):fD (xH key R):=fun _ _ _ _ s ⟨a,kvs,e,h,p⟩=>⟨a,kvs,e,s _ _ h,Paired.d8 p fun _ _ ⟨e,r⟩=>⟨e,m _ _ _ _ s r⟩⟩
theorem af'{α:Type}{key:α->Key}{R:ao->V->α->Prop}{H:ao}:∀ {vs:List V} {xs:List α},Paired (qP key R H) vs xs->∃ (ps:d2) (kvs:List (Key×V)),vs=ps.map V.ref/\Paired (fun p (bD:Key×V)=>H p=some (.tup [c3 bD.1,bD.2])) ps kvs/\Paired (fun(bD:Key×V) x=>bD.1=key x/\R H bD.2 x) kvs xs
 |_,_,.nil=>⟨[],[],rfl,.nil,.nil⟩
 |_,_,.cons (b:=x) ⟨T,b,e,h,r⟩ tl=>by
  obtain⟨ps,kvs,a9,u9,nT⟩:=af' tl;exact⟨T::ps,(key x,b)::kvs,by rw[e,a9];rfl,.cons h u9,.cons ⟨rfl,r⟩ nT⟩
theorem alV{α:Type}{key:α->Key}{F:(Key×V)->α->Prop}(iR:∀ bD x,F bD x->bD.1=key x):∀ {kvs:List (Key×V)} {xs:List α},Paired F kvs xs->kvs.map (·.1)=xs.map key
 |_,_,.nil=>rfl
 |_,_,.cons h tl=>by rw[fU,fU,iR _ _ h,alV iR tl]
theorem alW:∀ (more kvs:List (Key×V)),((kvs++more).map (·.1)).Nodup->mD kvs more=kvs++more
 | [],kvs,_=>by simp[mD]
 |p::r,kvs,h=>by
  show mD (putK kvs p.1 p.2) r=_;have aR:dY kvs p.1=none:=by
   cases e:dY kvs p.1 with
   |none=>rfl
   |some v =>
    have h1:=acr e;rw[oh,fU]at h;have:=(List.nodup_append.mp h).2.2 p.1 h1 p.1 h_;exact absurd rfl this
  rw[V0 _ aR,alW r]
  ·simp
  ·simpa using h
theorem aga:∀ {l:aK},rising l=true->l.Pairwise (· < ·)
 | [],_=>List.Pairwise.nil
 | [a],_=>by simp
 |a::b::r,h=>by
  simp only[rising,jf,pg]at h;have bV:=aga h.2;refine x8.mpr ⟨fun c aV=>?_,bV⟩;rcases gR.mp aV with rfl|aV
  ·exact h.1
  ·exact rZ h.1 ((x8.mp bV).1 c aV)
theorem ayv{l:aK}(h:l.Pairwise (· < ·)):l.Nodup:=h.imp (fun h=>gU h)
abbrev bJ(n:Nat):Key:=Sum.inl (n:Int)
theorem ayw{l:aK}(h:l.Nodup):(l.map bJ).Nodup:=by
 rw[List.Nodup,I4];exact h.imp fun mY he=>mY (by injection he with e;omega)
theorem agb{α:Type}{key:α->Nat}{R:ao->V->α->Prop}{H:ao}{kvs:List (Key×V)}{xs:List α}(p:Paired (fun(bD:Key×V) x=>bD.1=bJ (key x)/\R H bD.2 x) kvs xs)(aA:rising (xs.map key)=true):mD [] kvs=kvs:=by
 refine alW kvs [] ?_;rw[I3,alV (key:=fun x=>bJ (key x)) (fun _ _ h=>h.1) p];have:=ayw (ayv (aga aA));rw[kj]at this;exact this
theorem Hg{α:Type}{key:α->Key}{R:ao->V->α->Prop}{H:ao}(k:Key):∀ {kvs:List (Key×V)} {xs:List α},Paired (fun(bD:Key×V) x=>bD.1=key x/\R H bD.2 x) kvs xs ->
  (xs.find? (fun x=>decide (key x=k))=none->dY kvs k=none)/\∀ x,xs.find? (fun x=>decide (key x=k))=some x->∃ v,dY kvs k=some v/\R H v x
 |_,_,.nil=>⟨fun _=>rfl,fun x h=>by simp at h⟩
 |_,_,.cons (a:=bD) (b:=x) ⟨e,r⟩ tl=>by
  obtain⟨i1,i2⟩:=Hg (key:=key) (R:=R) (H:=H) k tl;by_cases aN:key x=k
  ·rw[kh,fw aN];refine⟨fun h=>(by cases h),fun y aP=>?_⟩;cases aP;exact⟨bD.2,oR (e.trans aN),r⟩
  ·rw[kh,ou aN,oT (fun z=>aN (e▸z))];exact⟨i1,i2⟩
theorem zc{α:Type}(p:Sw28.P α)(t:Sw28.B):many 1 1024 p t=(eb 1 1024 t).bind fun x=>times p x.1 x.2:=ov 1 1024 p t
theorem pW{lo:Int}{hi:Nat}{r:Sw28.B}{x:Nat×Sw28.B}(h:eb lo hi r=some x):x.1<=hi:=by
 have:=wi h;omega
section
variable{α:Type}{p:Sw28.P α}{R:ao->V->α->Prop}{A H aB:ao}{rd ca L T:au}{bs kB:Sw28.B}{g i:Nat}
theorem Many.pair{key:α->Key}(mono:fD R)(qO:A rd≠none)(R3:A ca≠none)(mC:A L=none){xs:List α}{r:Sw28.B}{vs:List V}(h1:times p i kB=some (xs,r))(k:bf [rd] A H)(dc:H L=some (.lst vs))(aL:Paired (qP key R (bH A [L] H)) vs xs)
  {x:α} {r':Sw28.B} {b:V} (aq:p r=some (x,r')) (cP:ef t aB rd ca bs r' g) (k2:bf [rd] H aB) (rep:R (bH A [L] aB) b x) (cx:aB T=none) :
  (upd aB T (.tup [c3 (key x),b])) L=some (.lst vs)/\Many t p (qP key R) A rd ca L bs kB g (i+1) (upd (upd aB T (.tup [c3 (key x),b])) L (.lst (vs++[.ref T]))):=by
 have i_:L≠rd:=fun e=>qO (e▸mC);have nr:aB L=some (.lst vs):=k2 _ _ (by simp[i_]) dc;have ayx:T≠rd:=fun e=>cP.dom (e▸cx);have CG:T≠L:=fun e=>by rw[e,nr]at cx;cases cx
 have Yn:A T=none:=(k.trans k2).free (by simp[ayx]) cx;have s:aQ (bH A [L] aB) (bH A [L] (upd aB T (.tup [c3 (key x),b]))):=jB (M:=[]) (bf.iZ cx) (by simp);exact Many.next (Cz mono) qO R3 mC h1 k dc aL aq (cP.new cx) (k2.jm cx) ⟨T,b,rfl,ew.mpr ⟨Yn,by simp[CG],a8⟩,mono _ _ _ _ s rep⟩
theorem alX{key:α->Key}{K':cp}{a D:au}{vs:List V}{xs:List α}{σ:St}{dB:Nat}{gw:ao->Prop}(aN:dB < σ.length)(aX:H a=some (.lst vs))(pp:Paired (qP key R H) vs xs)(hz:vs.length<=65536)(bw:H D=none)
  (k:gw (upd H D (.lst (xs.map fun x=>c3 (key x))))) :
  ∃ W:Nat->Nat->ao->Prop,(∃ m,W 0 m (upd H D (.lst [])))/\∀ i m H,W i m H ->
   ((jk K' a).stop i H/\gw H)\/((jk K' a).go i H/\∃ fQ:ao->Prop,(∀ H',fQ H'->∃ dU,dU<m/\W (i+1) dU H')/\∀ x H',(jk K' a).mg i H x H'->kY dB x (wipe σ [dB]) H' fun dW aB=>wipe dW [dB]=wipe σ [dB]/\se dW aB fun b aJ =>
    if b=true then(wN (J1 K') (gh dB) (uX (.int 0))) dW aJ fun y bC=>∃ acc,bC D=some (.lst acc)/\acc.length<sizeLine/\fQ (upd bC D (.lst (acc++[y])))else fQ aJ):=by
 refine n5 (xs.map fun x=>c3 (key x)) (by rw[ey,f9 pp]) (aT.of aX) hz bw (fun i v y H' er a0 aP aH q=>?_) k;obtain⟨x,aq,T,b,e,cx,_⟩:=mG pp a0;have Yo:y=c3 (key x):=by
  rw[ek,aq]at aP;exact(Option.some.inj aP).symm
 subst e Yo;exact⟨_,by simp[wipe,aN],T,_,0,c3 (key x),Z,Z,fO.of (aH _ _ cx),Z,q⟩
end
abbrev ayy(K:cp):List V->ao->bA->Prop:=fun xs H Q=>∃ (a:au) (ps:d2) (kvs:List (Key×V)),xs=[.ref a]/\aT K H a (ps.map V.ref)/\Paired (fun p bD=>fO K H p [c3 bD.1,bD.2]) ps kvs /\
  ∀ p,H p=none->Q (.ref p) (upd H p (.dX (mD [] kvs)))
theorem agc{α:Type}{p:Sw28.P α}{R:ao->V->α->Prop}{A H:ao}{rd ca L:au}{bs kB:Sw28.B}{g n dB:Nat}{K':cp}{key:α->Nat}{σ:St}{D:Ends}{E:cN}(mono:fD R)(mC:A L=none)(qO:A rd≠none)
  (m:Many t p (qP (fun x=>bJ (key x)) R) A rd ca L bs kB g n H) (aR:n<=65536) (alY:σ[1]?=some (some (.ref L))) (aN:dB < σ.length)
  (k1:∀ xs r v H',times p n kB=some (xs,r)->rising (xs.map key)=true->ef t H' rd ca bs r g->bf [rd] A H'->xH (fun x=>bJ (key x)) R (bH A [] H') v xs->D.Fb v H')
  (k2:∀ xs r,times p n kB=some (xs,r)->rising (xs.map key)=false->∀ H',bf [rd] A H'->E (.ref t.jl) none H') :
  c4 (wL (Vy (R5 t) [] E (nS (wV (Fq K' (gh 1)) (kY dB) se (wN (J1 K') (gh dB) (uX (.int 0))) [dB]) m_))) (ajA (abJ (ayy K') (nS (gh 1) m_))) D σ H:=by
 obtain⟨xs,r,vs,h1,dr,aG,dc,pp⟩:=m;have hlen:=mX _ h1;have aHl:xs.length=n:=hlen;have agd:Paired (qP (fun x=>bJ (key x)) R H) vs xs:=Paired.d8 pp fun _ _ q=>Cz mono _ _ _ _ hC q;have t_:vs.length<=65536:=by rw[f9 pp];omega
 refine⟨_,alY,L,Z,⟨_,aT.of dc⟩,fun Y ix=>?_⟩;refine alX (K':=K') aN dc agd t_ ix ?_;have aHm:Y≠rd:=fun e=>dr.dom (e▸ix);have bO:(upd H Y (.lst (xs.map fun x=>c3 (bJ (key x))))) Y=some (.lst ((xs.map key).map nat)):=by
  rw[a8,kj];rfl
 refine R6 bO (by rw[ey];omega) (fun aA=>?_) fun aA=>k2 xs r h1 aA _ (aG.jm ix);have jD:(upd H Y (.lst (xs.map fun x=>c3 (bJ (key x))))) L=some (.lst vs):=by rw[a7 (bR dc ix)];exact dc
 have dh:bf [rd] A (upd H Y (.lst (xs.map fun x=>c3 (bJ (key x))))):=aG.jm ix;have e2:ef t (upd H Y (.lst (xs.map fun x=>c3 (bJ (key x))))) rd ca bs r g:=dr.new ix;have s3:aQ (bH A [L] H) (bH A [L] (upd H Y (.lst (xs.map fun x=>c3 (bJ (key x)))))):=jB (M:=[]) (bf.iZ ix) (by simp);generalize upd H Y (.lst (xs.map fun x=>c3 (bJ (key x))))=aJ at *;obtain⟨ps,kvs,e,bU,cB⟩:=af' pp;subst e;refine⟨_,alY,L,ps,kvs,Z,aT.of jD,Paired.d8 bU fun _ _ z=>fO.of (hC _ _ (s3 _ _ z)),fun d hd=>?_⟩;have nd:d≠rd:=fun e=>e2.dom (e▸hd);have Hh:A d=none:=dh.free (by simp[nd]) hd;have s4:aQ (bH A [L] aJ) (bH A [] (upd aJ d (.dX (mD [] kvs)))):=(jB (M:=[]) (bf.iZ hd) (by simp)).trans (y2 (by simp));refine k1 xs r _ _ h1 aA (e2.new hd) (dh.jm hd) ⟨d,kvs,rfl,ew.mpr ⟨Hh,by simp,?_⟩,Paired.d8 cB fun _ _ ⟨gn,eH⟩=>⟨gn,mono _ _ _ _ (s3.trans s4) eH⟩⟩;rw[a8,agb (key:=key) cB aA]
def Hi:ao->V->List (Nat×Nat)->Prop:=xH (fun y=>bJ y.1) fun H v y=>k9 H v y.2
def R8:ao->V->List (Nat×aK)->Prop:=xH (fun y=>bJ y.1) fun H v y=>hr H v y.2
theorem ayz:fD Hi:=R7 fun _ _ _ _ s h=>vr _ _ _ _ s h
theorem ayA:fD R8:=R7 fun _ _ _ _ s h=>hg _ _ _ _ s h
theorem alZ{α:Type}{good:List α->Bool}{p:Sw28.P α}{r:Sw28.B}(h:eb 1 1024 r=none):Sw28.only good (many 1 1024 p) r=none:=by
 rw[gZ,zc,h];rfl
theorem al0{α:Type}{good:List α->Bool}{p:Sw28.P α}{r cI:Sw28.B}{n:Nat}(h:eb 1 1024 r=some (n,cI))(aC:times p n cI=none):Sw28.only good (many 1 1024 p) r=none:=by
 rw[gZ,zc,h];simp[aC]
theorem Yp{α:Type}{good:List α->Bool}{p:Sw28.P α}{r cI:Sw28.B}{n:Nat}{y:List α×Sw28.B}(h:eb 1 1024 r=some (n,cI))(aC:times p n cI=some y):Sw28.only good (many 1 1024 p) r=if good y.1=true then some y else none:=by
 rw[gZ,zc,h];simp[aC]
theorem n6{α β:Type}{p:Sw28.P α}{q:Sw28.P β}{r:Sw28.B}(h:p r=none):Sw28.pair p q r=none:=by
 unfold Sw28.pair;rw[h];rfl
theorem kJ{α β:Type}{p:Sw28.P α}{q:Sw28.P β}{r cI:Sw28.B}{x:α}(h:p r=some (x,cI))(aC:q cI=none):Sw28.pair p q r=none:=by
 unfold Sw28.pair;rw[h];simp[aC]
theorem oY{α β:Type}{p:Sw28.P α}{q:Sw28.P β}{r cI dp:Sw28.B}{x:α}{y:β}(h:p r=some (x,cI))(aC:q cI=some (y,dp)):Sw28.pair p q r=some ((x,y),dp):=by
 unfold Sw28.pair;rw[h];simp[aC]
section
variable{α:Type}{key:α->Nat}{p:Sw28.P α}{r cI dp:Sw28.B}{n:Nat}{xs:List α}
theorem Yq(h:eb 1 1024 r=none):Sw28.only (fun l:List α=>rising (l.map key)) (many 1 1024 p) r=none:=alZ h
theorem Yr(h:eb 1 1024 r=some (n,cI))(aC:times p n cI=none):Sw28.only (fun l:List α=>rising (l.map key)) (many 1 1024 p) r=none:=al0 h aC
theorem Ys(h:eb 1 1024 r=some (n,cI))(aC:times p n cI=some (xs,dp))(aA:rising (xs.map key)=true):Sw28.only (fun l:List α=>rising (l.map key)) (many 1 1024 p) r=some (xs,dp):=by
 rw[Yp h aC,bM aA]
theorem Yt(h:eb 1 1024 r=some (n,cI))(aC:times p n cI=some (xs,dp))(aA:rising (xs.map key)=false):Sw28.only (fun l:List α=>rising (l.map key)) (many 1 1024 p) r=none:=by
 rw[Yp h aC,bx (by rw[aA];exact jr)]
theorem ayB(h:eb 1 1024 r=none):many 1 1024 p r=none:=by rw[zc,h];rfl
theorem ayC(h:eb 1 1024 r=some (n,cI))(aC:times p n cI=none):many 1 1024 p r=none:=by rw[zc,h];exact aC
theorem ayD(h:eb 1 1024 r=some (n,cI))(aC:times p n cI=some (xs,dp)):many 1 1024 p r=some (xs,dp):=by rw[zc,h];exact aC
end
theorem agf{H:ao}{rd ca:au}{bs rest:Sw28.B}{g lo hi:Nat}{Q:bA}{E:cN}(R:ef t H rd ca bs rest g)(alR:hi<=65536)(o:One t (many lo hi (Sw28.sign g)) hr H rd ca bs rest g Q E) :
  (gd fun a b c H Q E=>∃ rd lo hi,a=.ref rd/\b=nat lo/\c=nat hi/\hi<=65536/\ry t (fun g=>many lo hi (Sw28.sign g)) hr H rd Q E) [.ref rd,nat lo,nat hi] H Q E :=
 ⟨_,_,_,rfl,rd,lo,hi,rfl,rfl,rfl,alR,ca,bs,rest,g,R,o.1,o.2⟩
theorem ayE(T:Txt K av t):cJ P w K av base (cM P w) 6 t.NP t.NQ ["reader"] (jC t aiB Hi):=by
 refine T.Q0.cZ GR fc.cX ?_;rintro bK A outer s H _ Q E aA ⟨cn,rfl,rd,rfl,ca,bs,rest,g,R,k1,k2⟩;try simp only at k1 k2
 refine⟨_,(aW (ct (i:=1) GR.nd Z (Or.inl Z) (hc aM)) (aW (hp (gP dJ Z) Z (mj Z T.jA (aD (fl (aj 0) T.dV T.jz (j6 T) aA.bh T.j4 .nil bj (aD b3 (aD b3 aM))) aM)) (dm (i:=2) GR.nd Z (Or.inl Z)) (aW (ct (i:=3) GR.nd Z (Or.inl Z) (gv (aj 0) T.dV T.rv (tZ T) aA.bh T.tR .nil bj)) (bk (et (mA lW pn pq pQ (aj 1) (aD (sa (aD (aj 3) (aD (gv (aj 0) T.dV T.rv (tZ T) aA.bh T.tR .nil bj) aM))) aM)))))) (aW (et (dI (xG T) aA.bh Z T.tQ T.rx.aG T.xg .nil bj (aD (iI (own:=[("pair",4)]) dJ (fun _ _ z=>z) Z GR.nd (gH (aj 1)) (gY (by rfl)) (fun _ _ _ _ _=>dm (i:=4) GR.nd Z (Or.inl Z)) (fun _ _ _ _ _=>hy) (fun _ _ _ _ _=>(eO (Cw (K':=K) Z) (aj 4) b3 (fun _ _=>Z)))) aM))) (bk (dM (ra (V4 Z) Z T.yX G8 (aD (aj 1) aM))))))),?_⟩;apply hH;intros;refine⟨eZ _,fun L dc=>?_⟩;have dr:ef t (upd H L (.lst [])) rd ca bs rest g:=R.new dc;refine iM dr rfl (j7 dr ⟨fun n r v aB aR cP bZ rep=>?_,fun aR H' aG=>k2 (Yq aR) H' ((bf.iZ dc).trans aG)⟩);subst rep;have lE:n<=1024:=pW (hi:=1024) aR;have jT:bf [rd] H aB:=(bf.iZ dc).trans bZ;have i_:L≠rd:=fun e=>R.dom (e▸dc);have nr:aB L=some (.lst []):=bZ _ _ (by simp[i_]) a8;refine⟨_,Z,by omega,by omega,?_⟩;refine tg (n:=n) (lo:=0) (fun i σ aJ=>(∃ s2 s3 s4,σ=[some (.ref rd),some (.ref L),s2,s3,s4])/\Many t (Sw28.pair (Sw28.sign g) (Sw28.sign g)) (qP (fun y=>bJ y.1) fun H v y=>k9 H v y.2) H rd ca L bs r g i aJ) ⟨⟨_,_,_,rfl⟩,.start cP jT nr⟩ (fun i σ aJ hi aU=>?_) fun σ aJ aU=>?_
 ·obtain⟨⟨s2,s3,s4,e⟩,m⟩:=aU;subst e;obtain⟨xs,d4,vs,h1,e2,dh,jD,pp⟩:=m;have stop:(Sw28.pair (Sw28.sign g) (Sw28.sign g)) d4=none->∀ H',bf [rd] aJ H'->E (.ref t.jl) none H':=fun hz H' aG=>k2 (Yr aR (x9 _ h1 hz n hi)) H' (dh.trans aG);refine hW e2 rfl ⟨fun x jN v bC aq gs dG rep=>?_,fun hz H' aG=>stop (n6 hz) H' aG⟩;subst rep;have pX:bC L=some (.lst vs):=dG _ _ (by simp[i_]) jD;refine⟨_,Z,.inl ⟨Z,_,aT.of pX⟩,_,Z,?_⟩;refine hW gs rfl ⟨fun y m5 v b2 aP iy fX rep=>?_,fun hz H' aG=>stop (kJ aq hz) H' (dG.trans aG)⟩;refine⟨tX,fun ez cx=>?_⟩;have xF:k9 (bH H [L] b2) v y:=R2 vr R.dom (dh.trans dG) gs.dom (fun b ak=>by simp at ak;rw[ak];exact j5 pX) rep;obtain⟨xJ,CJ⟩:=Many.pair (p:=(Sw28.pair (Sw28.sign g) (Sw28.sign g))) (key:=fun y=>bJ y.1) (R:=fun H v y=>k9 H v y.2) (x:=(x,y)) (fun _ _ _ _ s h=>vr _ _ _ _ s h) R.dom R.sA dc h1 dh jD pp (oY aq aP) iy (dG.trans fX) (b:=v) xF cx;refine⟨L,vs,_,Z,Z,xJ,?_,⟨_,_,_,Z⟩,CJ⟩;have aF:=mX _ h1;rw[f9 pp];exact jR (by simp at aF;omega)
 ·obtain⟨⟨s2,s3,s4,e⟩,m⟩:=aU;subst e;refine agc (p:=(Sw28.pair (Sw28.sign g) (Sw28.sign g))) (R:=fun H v y=>k9 H v y.2) (n:=n) (key:=fun y=>y.1) (fun _ _ _ _ s h=>vr _ _ _ _ s h) dc R.dom m (by omega) rfl (by simp) (fun xs d4 v bC h1 aA gs dG rep=>?_) fun xs d4 h1 aA H' aG=>?_
  ·exact k1 xs d4 v bC (Ys aR h1 aA) gs dG rep
  ·exact k2 (Yt aR h1 aA) H' aG
theorem ayF(T:Txt K av t):cJ P w K av base (cM P w) 7 t.NT t.NZ ["reader"] (jC t aiC R8):=by
 refine T.Q5.cZ GX fc.cX ?_;rintro bK A outer s H _ Q E aA ⟨cn,rfl,rd,rfl,ca,bs,rest,g,R,k1,k2⟩;try simp only at k1 k2
 refine⟨_,(aW (ct (i:=1) GX.nd Z (Or.inl Z) (hc aM)) (aW (hp (gP dJ Z) Z (mj Z T.jA (aD (fl (aj 0) T.dV T.jz (j6 T) aA.bh T.j4 .nil bj (aD b3 (aD b3 aM))) aM)) (dm (i:=2) GX.nd Z (Or.inl Z)) (aW (ct (i:=3) GX.nd Z (Or.inl Z) (gv (aj 0) T.dV T.rv (tZ T) aA.bh T.tR .nil bj)) (bk (et (mA lW pn pq pQ (aj 1) (aD (sa (aD (aj 3) (aD (fl (aj 0) T.dV T.QM (af7 T) aA.bh T.afG .nil bj (aD b3 (aD b3 aM))) aM))) aM)))))) (aW (et (dI (xG T) aA.bh Z T.tQ T.rx.aG T.xg .nil bj (aD (iI (own:=[("pair",4)]) dJ (fun _ _ z=>z) Z GX.nd (gH (aj 1)) (gY (by rfl)) (fun _ _ _ _ _=>dm (i:=4) GX.nd Z (Or.inl Z)) (fun _ _ _ _ _=>hy) (fun _ _ _ _ _=>(eO (Cw (K':=K) Z) (aj 4) b3 (fun _ _=>Z)))) aM))) (bk (dM (ra (V4 Z) Z T.yX G8 (aD (aj 1) aM))))))),?_⟩;apply hH;intros;refine⟨eZ _,fun L dc=>?_⟩;have dr:ef t (upd H L (.lst [])) rd ca bs rest g:=R.new dc;refine iM dr rfl (j7 dr ⟨fun n r v aB aR cP bZ rep=>?_,fun aR H' aG=>k2 (Yq aR) H' ((bf.iZ dc).trans aG)⟩);subst rep;have lE:n<=1024:=pW (hi:=1024) aR;have jT:bf [rd] H aB:=(bf.iZ dc).trans bZ;have i_:L≠rd:=fun e=>R.dom (e▸dc);have nr:aB L=some (.lst []):=bZ _ _ (by simp[i_]) a8;refine⟨_,Z,by omega,by omega,?_⟩;refine tg (n:=n) (lo:=0) (fun i σ aJ=>(∃ s2 s3 s4,σ=[some (.ref rd),some (.ref L),s2,s3,s4])/\Many t (Sw28.pair (Sw28.sign g) (many 1 8 (Sw28.sign g))) (qP (fun y=>bJ y.1) fun H v y=>hr H v y.2) H rd ca L bs r g i aJ) ⟨⟨_,_,_,rfl⟩,.start cP jT nr⟩ (fun i σ aJ hi aU=>?_) fun σ aJ aU=>?_
 ·obtain⟨⟨s2,s3,s4,e⟩,m⟩:=aU;subst e;obtain⟨xs,d4,vs,h1,e2,dh,jD,pp⟩:=m;have stop:(Sw28.pair (Sw28.sign g) (many 1 8 (Sw28.sign g))) d4=none->∀ H',bf [rd] aJ H'->E (.ref t.jl) none H':=fun hz H' aG=>k2 (Yr aR (x9 _ h1 hz n hi)) H' (dh.trans aG);refine hW e2 rfl ⟨fun x jN v bC aq gs dG rep=>?_,fun hz H' aG=>stop (n6 hz) H' aG⟩;subst rep;have pX:bC L=some (.lst vs):=dG _ _ (by simp[i_]) jD;refine⟨_,Z,.inl ⟨Z,_,aT.of pX⟩,_,Z,?_⟩;refine iM gs rfl (agf (lo:=1) (hi:=8) gs (by decide) ⟨fun y m5 v b2 aP iy fX rep=>?_,fun hz H' aG=>stop (kJ aq hz) H' (dG.trans aG)⟩);refine⟨tX,fun ez cx=>?_⟩;have xF:hr (bH H [L] b2) v y:=R2 hg R.dom (dh.trans dG) gs.dom (fun b ak=>by simp at ak;rw[ak];exact j5 pX) rep;obtain⟨xJ,CJ⟩:=Many.pair (p:=(Sw28.pair (Sw28.sign g) (many 1 8 (Sw28.sign g)))) (key:=fun y=>bJ y.1) (R:=fun H v y=>hr H v y.2) (x:=(x,y)) (fun _ _ _ _ s h=>hg _ _ _ _ s h) R.dom R.sA dc h1 dh jD pp (oY aq aP) iy (dG.trans fX) (b:=v) xF cx;refine⟨L,vs,_,Z,Z,xJ,?_,⟨_,_,_,Z⟩,CJ⟩;have aF:=mX _ h1;rw[f9 pp];exact jR (by simp at aF;omega)
 ·obtain⟨⟨s2,s3,s4,e⟩,m⟩:=aU;subst e;refine agc (p:=(Sw28.pair (Sw28.sign g) (many 1 8 (Sw28.sign g)))) (R:=fun H v y=>hr H v y.2) (n:=n) (key:=fun y=>y.1) (fun _ _ _ _ s h=>hg _ _ _ _ s h) dc R.dom m (by omega) rfl (by simp) (fun xs d4 v bC h1 aA gs dG rep=>?_) fun xs d4 h1 aA H' aG=>?_
  ·exact k1 xs d4 v bC (Ys aR h1 aA) gs dG rep
  ·exact k2 (Yt aR h1 aA) H' aG
section
variable{A H:ao}{rd ca x:au}{bs r:Sw28.B}{g:Nat}
theorem ef.up(R:ef t H rd ca bs r g)(k:bf [rd] A H)(h:H x=none):A x=none:=k.free (by simp only[g5];intro e;exact R.dom (e▸h)) h
theorem bf.up1(R:ef t H rd ca bs r g)(k:bf [rd] A H):∀ b,A b≠none->H b≠none:=k.dom fun b ak=>by simp at ak;rw[ak];exact R.dom
theorem vu{α:Type}{Rep:ao->V->α->Prop}{H':ao}{v:V}{y:α}(mono:fD Rep)(R:ef t H rd ca bs r g)(k:bf [rd] A H)(rep:Rep (bH H [] H') v y):Rep (bH A [] H') v y :=
 mono _ _ _ _ (tV (bf.up1 R k) (by simp)) rep
theorem R9{α:Type}{Rep:ao->V->α->Prop}{H':ao}{v:V}{y:α}(mono:fD Rep)(qO:A rd≠none)(k:bf [rd] H H')(rep:Rep (bH A [] H) v y):Rep (bH A [] H') v y :=
 mono _ _ _ _ (jB k fun b ak=>by simp at ak;exact .inl (ak▸qO)) rep
theorem vw{α:Type}{Rep:ao->V->α->Prop}{H':ao}{v:V}{y:α}(mono:fD Rep)(k:aQ H H')(rep:Rep (bH A [] H) v y):Rep (bH A [] H') v y :=
 mono _ _ _ _ (jB (M:=[]) (hq k []) (by simp)) rep
end
inductive vA(t:bW)(H:ao)(v:V)(x:Int×Int×Int):Prop
 |mk (p dx):v=.ref p->H p=some (.ins t.vm dx [("right",.int x.1),("up",.int x.2.1),("wider",.int x.2.2)])->vA t H v x
inductive rC(t:bW)(H:ao)(v:V)(x:Nat×Int×Int):Prop
 |mk (p dx):v=.ref p->H p=some (.ins t.qK dx [("mark_class",nat x.1),("right",.int x.2.1),("up",.int x.2.2)])->rC t H v x
theorem Yu:fD (vA t):=fun _ _ _ _ s ⟨p,dx,e,h⟩=>⟨p,dx,e,s _ _ h⟩
theorem Hj:fD (rC t):=fun _ _ _ _ s ⟨p,dx,e,h⟩=>⟨p,dx,e,s _ _ h⟩
def rD:Sw28.P (Nat×Int×Int):=Sw28.pair u16 (Sw28.pair s16 s16)
theorem ayG(T:Txt K av t):cJ P w K av base (cM P w) 5 t.O7 t.O8 ["reader"] (jC t (fun _=>Eo) (vA t)):=by
 refine T.Rn.cZ afQ fc.cX ?_;rintro bK A outer s H _ Q E aA ⟨cn,rfl,rd,rfl,ca,bs,rest,g,R,k1,k2⟩;try simp only at k1 k2
 refine⟨_,(aW (ct (i:=1) afQ.nd Z (Or.inl Z) (gv (aj 0) T.dV T.yS (Hf T) aA.bh T.GK .nil bj)) (aW (ct (i:=2) afQ.nd Z (Or.inl Z) (gv (aj 0) T.dV T.yS (Hf T) aA.bh T.GK .nil bj)) (bk (dM (qD T.aeI (ayp T) aA.bh Z T.aeH T.awQ .nil bj (aD (aj 1) (aD (aj 2) (aD (gv (aj 0) T.dV T.yS (Hf T) aA.bh T.GK .nil bj) aM)))))))),?_⟩;apply dZ;intros;refine hW R rfl ⟨fun x r v H1 aq dr cD rep=>?_,fun hz H' aG=>k2 (n6 hz) H' aG⟩;subst rep;refine hW dr rfl ⟨fun y dp v aB aP cP bZ rep=>?_,fun hz H' aG=>k2 (kJ aq (n6 hz)) H' (cD.trans aG)⟩;subst rep;refine⟨_,Z,_,Z,hW cP rfl ⟨fun z d4 v aJ hz e2 dh rep=>R1 fun p dx np nd=>?_,fun hz H' aG=>k2 (kJ aq (kJ aP hz)) H' ((cD.trans bZ).trans aG)⟩⟩;subst rep;have aG:=(cD.trans bZ).trans dh;exact k1 (x,y,z) d4 _ _ (oY aq (oY aP hz)) (e2.oX (n3 np nd)) (aG.trans (hq (n3 np nd) _)) ⟨p,dx,rfl,ew.mpr ⟨e2.up aG np,by simp,rA⟩⟩
theorem ayH(T:Txt K av t):cJ P w K av base (cM P w) 5 t.Pb t.Pg ["reader"] (jC t (fun _=>rD) (rC t)):=by
 refine T.Rq.cZ afR fc.cX ?_;rintro bK A outer s H _ Q E aA ⟨cn,rfl,rd,rfl,ca,bs,rest,g,R,k1,k2⟩;try simp only at k1 k2
 refine⟨_,(aW (ct (i:=1) afR.nd Z (Or.inl Z) (gv (aj 0) T.dV T.w5 (Cy T) aA.bh T.Cp .nil bj)) (aW (ct (i:=2) afR.nd Z (Or.inl Z) (gv (aj 0) T.dV T.yS (Hf T) aA.bh T.GK .nil bj)) (bk (dM (qD T.aeE (ayn T) aA.bh Z T.aeD T.awO .nil bj (aD (aj 1) (aD (aj 2) (aD (gv (aj 0) T.dV T.yS (Hf T) aA.bh T.GK .nil bj) aM)))))))),?_⟩;apply dZ;intros;refine hW R rfl ⟨fun x r v H1 aq dr cD rep=>?_,fun hz H' aG=>k2 (n6 hz) H' aG⟩;subst rep;refine hW dr rfl ⟨fun y dp v aB aP cP bZ rep=>?_,fun hz H' aG=>k2 (kJ aq (n6 hz)) H' (cD.trans aG)⟩;subst rep;refine⟨_,Z,_,Z,hW cP rfl ⟨fun z d4 v aJ hz e2 dh rep=>R1 fun p dx np nd=>?_,fun hz H' aG=>k2 (kJ aq (kJ aP hz)) H' ((cD.trans bZ).trans aG)⟩⟩;subst rep;have aG:=(cD.trans bZ).trans dh;exact k1 (x,y,z) d4 _ _ (oY aq (oY aP hz)) (e2.oX (n3 np nd)) (aG.trans (hq (n3 np nd) _)) ⟨p,dx,rfl,ew.mpr ⟨e2.up aG np,by simp,rA⟩⟩
def R_(t:bW):ao->V->List (Nat×Int×Int×Int)->Prop:=xH (fun y=>bJ y.1) fun H v y=>vA t H v y.2
theorem ayI:fD (R_ t):=R7 fun _ _ _ _ s h=>Yu _ _ _ _ s h
theorem ayJ(T:Txt K av t):cJ P w K av base (cM P w) 6 t.O9 t.O_ ["reader"] (jC t aiE (R_ t)):=by
 refine T.Ro.cZ G4 fc.cX ?_;rintro bK A outer s H _ Q E aA ⟨cn,rfl,rd,rfl,ca,bs,rest,g,R,k1,k2⟩;try simp only at k1 k2
 refine⟨_,(aW (ct (i:=1) G4.nd Z (Or.inl Z) (hc aM)) (aW (hp (gP dJ Z) Z (mj Z T.jA (aD (fl (aj 0) T.dV T.jz (j6 T) aA.bh T.j4 .nil bj (aD b3 (aD b3 aM))) aM)) (dm (i:=2) G4.nd Z (Or.inl Z)) (aW (ct (i:=3) G4.nd Z (Or.inl Z) (gv (aj 0) T.dV T.rv (tZ T) aA.bh T.tR .nil bj)) (bk (et (mA lW pn pq pQ (aj 1) (aD (sa (aD (aj 3) (aD (dI (ayG T) aA.bh Z T.afd T.Rn.aG T.axi .nil bj (aD (aj 0) aM)) aM))) aM)))))) (aW (et (dI (xG T) aA.bh Z T.tQ T.rx.aG T.xg .nil bj (aD (iI (own:=[("pair",4)]) dJ (fun _ _ z=>z) Z G4.nd (gH (aj 1)) (gY (by rfl)) (fun _ _ _ _ _=>dm (i:=4) G4.nd Z (Or.inl Z)) (fun _ _ _ _ _=>hy) (fun _ _ _ _ _=>(eO (Cw (K':=K) Z) (aj 4) b3 (fun _ _=>Z)))) aM))) (bk (dM (ra (V4 Z) Z T.yX G8 (aD (aj 1) aM))))))),?_⟩;apply hH;intros;refine⟨eZ _,fun L dc=>?_⟩;have dr:ef t (upd H L (.lst [])) rd ca bs rest g:=R.new dc;refine iM dr rfl (j7 dr ⟨fun n r v aB aR cP bZ rep=>?_,fun aR H' aG=>k2 (Yq aR) H' ((bf.iZ dc).trans aG)⟩);subst rep;have lE:n<=1024:=pW (hi:=1024) aR;have jT:bf [rd] H aB:=(bf.iZ dc).trans bZ;have i_:L≠rd:=fun e=>R.dom (e▸dc);have nr:aB L=some (.lst []):=bZ _ _ (by simp[i_]) a8;refine⟨_,Z,by omega,by omega,?_⟩;refine tg (n:=n) (lo:=0) (fun i σ aJ=>(∃ s2 s3 s4,σ=[some (.ref rd),some (.ref L),s2,s3,s4])/\Many t (Sw28.pair (Sw28.sign g) (Eo)) (qP (fun y=>bJ y.1) fun H v y=>vA t H v y.2) H rd ca L bs r g i aJ) ⟨⟨_,_,_,rfl⟩,.start cP jT nr⟩ (fun i σ aJ hi aU=>?_) fun σ aJ aU=>?_
 ·obtain⟨⟨s2,s3,s4,e⟩,m⟩:=aU;subst e;obtain⟨xs,d4,vs,h1,e2,dh,jD,pp⟩:=m;have stop:(Sw28.pair (Sw28.sign g) (Eo)) d4=none->∀ H',bf [rd] aJ H'->E (.ref t.jl) none H':=fun hz H' aG=>k2 (Yr aR (x9 _ h1 hz n hi)) H' (dh.trans aG);refine hW e2 rfl ⟨fun x jN v bC aq gs dG rep=>?_,fun hz H' aG=>stop (n6 hz) H' aG⟩;subst rep;have pX:bC L=some (.lst vs):=dG _ _ (by simp[i_]) jD;refine⟨_,Z,.inl ⟨Z,_,aT.of pX⟩,_,Z,?_⟩;refine mH gs rfl ⟨fun y m5 v b2 aP iy fX rep=>?_,fun hz H' aG=>stop (kJ aq hz) H' (dG.trans aG)⟩;refine⟨tX,fun ez cx=>?_⟩;have xF:vA t (bH H [L] b2) v y:=R2 Yu R.dom (dh.trans dG) gs.dom (fun b ak=>by simp at ak;rw[ak];exact j5 pX) rep;obtain⟨xJ,CJ⟩:=Many.pair (p:=(Sw28.pair (Sw28.sign g) (Eo))) (key:=fun y=>bJ y.1) (R:=fun H v y=>vA t H v y.2) (x:=(x,y)) (fun _ _ _ _ s h=>Yu _ _ _ _ s h) R.dom R.sA dc h1 dh jD pp (oY aq aP) iy (dG.trans fX) (b:=v) xF cx;refine⟨L,vs,_,Z,Z,xJ,?_,⟨_,_,_,Z⟩,CJ⟩;have aF:=mX _ h1;rw[f9 pp];exact jR (by simp at aF;omega)
 ·obtain⟨⟨s2,s3,s4,e⟩,m⟩:=aU;subst e;refine agc (p:=(Sw28.pair (Sw28.sign g) (Eo))) (R:=fun H v y=>vA t H v y.2) (n:=n) (key:=fun y=>y.1) (fun _ _ _ _ s h=>Yu _ _ _ _ s h) dc R.dom m (by omega) rfl (by simp) (fun xs d4 v bC h1 aA gs dG rep=>?_) fun xs d4 h1 aA H' aG=>?_
  ·exact k1 xs d4 v bC (Ys aR h1 aA) gs dG rep
  ·exact k2 (Yt aR h1 aA) H' aG
def agg(t:bW):ao->V->List (Nat×Nat×Int×Int)->Prop:=hj (qP (fun y=>bJ y.1) fun H v y=>rC t H v y.2)
theorem al1(T:Txt K av t):cJ P w K av base (cM P w) 6 t.Ph t.Pj ["reader"] (jC t (fun g=>many 1 1024 (Sw28.pair (Sw28.sign g) rD)) (agg t)):=by
 refine T.Gy.cZ Yd fc.cX ?_;rintro bK A outer s H _ Q E aA ⟨cn,rfl,rd,rfl,ca,bs,rest,g,R,k1,k2⟩;try simp only at k1 k2
 refine⟨_,(aW (ct (i:=1) Yd.nd Z (Or.inl Z) (hc aM)) (aW (hp (gP dJ Z) Z (mj Z T.jA (aD (fl (aj 0) T.dV T.jz (j6 T) aA.bh T.j4 .nil bj (aD b3 (aD b3 aM))) aM)) (dm (i:=2) Yd.nd Z (Or.inl Z)) (aW (ct (i:=3) Yd.nd Z (Or.inl Z) (gv (aj 0) T.dV T.rv (tZ T) aA.bh T.tR .nil bj)) (bk (et (mA lW pn pq pQ (aj 1) (aD (sa (aD (aj 3) (aD (dI (ayH T) aA.bh Z T.afh T.Rq.aG T.axl .nil bj (aD (aj 0) aM)) aM))) aM)))))) (bk (dM (aj 1))))),?_⟩;apply dZ;intros;refine⟨eZ _,fun L dc=>?_⟩;have dr:ef t (upd H L (.lst [])) rd ca bs rest g:=R.new dc;refine iM dr rfl (j7 dr ⟨fun n r v aB aR cP bZ rep=>?_,fun aR H' aG=>k2 (ayB aR) H' ((bf.iZ dc).trans aG)⟩);subst rep;have lE:n<=1024:=pW (hi:=1024) aR;have jT:bf [rd] H aB:=(bf.iZ dc).trans bZ;have i_:L≠rd:=fun e=>R.dom (e▸dc);have nr:aB L=some (.lst []):=bZ _ _ (by simp[i_]) a8;refine⟨_,Z,by omega,by omega,?_⟩;refine tg (n:=n) (lo:=0) (fun i σ aJ=>(∃ s2 s3,σ=[some (.ref rd),some (.ref L),s2,s3])/\Many t (Sw28.pair (Sw28.sign g) (rD)) (qP (fun y=>bJ y.1) fun H v y=>rC t H v y.2) H rd ca L bs r g i aJ) ⟨⟨_,_,rfl⟩,.start cP jT nr⟩ (fun i σ aJ hi aU=>?_) fun σ aJ aU=>?_
 ·obtain⟨⟨s2,s3,e⟩,m⟩:=aU;subst e;obtain⟨xs,d4,vs,h1,e2,dh,jD,pp⟩:=m;have stop:(Sw28.pair (Sw28.sign g) (rD)) d4=none->∀ H',bf [rd] aJ H'->E (.ref t.jl) none H':=fun hz H' aG=>k2 (ayC aR (x9 _ h1 hz n hi)) H' (dh.trans aG);refine hW e2 rfl ⟨fun x jN v bC aq gs dG rep=>?_,fun hz H' aG=>stop (n6 hz) H' aG⟩;subst rep;have pX:bC L=some (.lst vs):=dG _ _ (by simp[i_]) jD;refine⟨_,Z,.inl ⟨Z,_,aT.of pX⟩,_,Z,?_⟩;refine mH gs rfl ⟨fun y m5 v b2 aP iy fX rep=>?_,fun hz H' aG=>stop (kJ aq hz) H' (dG.trans aG)⟩;refine⟨tX,fun ez cx=>?_⟩;have xF:rC t (bH H [L] b2) v y:=R2 Hj R.dom (dh.trans dG) gs.dom (fun b ak=>by simp at ak;rw[ak];exact j5 pX) rep;obtain⟨xJ,CJ⟩:=Many.pair (p:=(Sw28.pair (Sw28.sign g) (rD))) (key:=fun y=>bJ y.1) (R:=fun H v y=>rC t H v y.2) (x:=(x,y)) (fun _ _ _ _ s h=>Hj _ _ _ _ s h) R.dom R.sA dc h1 dh jD pp (oY aq aP) iy (dG.trans fX) (b:=v) xF cx;refine⟨L,vs,_,Z,Z,xJ,?_,⟨_,_,Z⟩,CJ⟩;have aF:=mX _ h1;rw[f9 pp];exact jR (by simp at aF;omega)
 ·obtain⟨⟨s2,s3,e⟩,m⟩:=aU;subst e;obtain⟨xs,d4,h1,gs,dG,rep⟩:=Many.done (p:=(Sw28.pair (Sw28.sign g) (rD))) (Rep:=qP (fun y=>bJ y.1) fun H v y=>rC t H v y.2) (Cz fun _ _ _ _ s h=>Hj _ _ _ _ s h) dc m;exact⟨_,Z,k1 xs d4 _ aJ (ayD aR h1) gs dG rep⟩
theorem ayK(T:Txt K av t):cJ P w K av base (cM P w) 7 t.N7 t.N8 ["reader"] (jC t Sw28.signs hr):=by
 refine T.Q7.cZ alu fc.cX ?_;rintro bK A outer s H _ Q E aA ⟨cn,rfl,rd,rfl,ca,bs,rest,g,R,k1,k2⟩;try simp only at k1 k2
 refine⟨_,(aW (ct (i:=1) alu.nd Z (Or.inl Z) (fl (aj 0) T.dV T.QM (af7 T) aA.bh T.afG .nil bj (aD b3 (aD b3 aM)))) (aW (et (dI (xG T) aA.bh Z T.tQ T.rx.aG T.xg .nil bj (aD (aj 1) aM))) (bk (dM (aj 1))))),?_⟩;apply dZ;intros;refine iM R rfl (agf (lo:=1) (hi:=1024) R (by decide) ⟨fun xs r v H1 aq dr cD rep=>?_,fun hz H' aG=>k2 (by unfold Sw28.signs;rw[gZ,hz];rfl) H' aG⟩);obtain⟨a,rfl,aX⟩:=rep;have aF:xs.length<=1024:=(wh aq).2;refine⟨_,Z,R6 (hC _ _ aX) (by omega) (fun aA=>⟨_,rfl,?_⟩) fun aA=>?_⟩
 ·exact k1 xs r _ H1 (by unfold Sw28.signs;rw[gZ,aq];simp[aA]) dr cD ⟨a,rfl,aX⟩
 ·exact k2 (by unfold Sw28.signs;rw[gZ,aq];simp[aA]) H1 cD
theorem agh(T:Txt K av t):cJ P w K av base (cM P w) 8 t.N_ t.Oa ["reader","fewest"] (fT fun a b H Q E=>∃ rd lo,a=.ref rd/\b=nat lo/\ry t (fun g=>many lo 8 (Sw28.signs g)) (hj hr) H rd Q E):=by
 refine T.Cm.cZ afM fT.cX ?_;rintro bK A outer s H _ Q E aA ⟨cn,a1,rfl,rd,lo,rfl,rfl,ca,bs,rest,g,R,k1,k2⟩;try simp only at k1 k2
 refine⟨_,(bk (dM (iI (own:=[("k",2)]) dJ (fun _ _ z=>z) Z afM.nd (mj Z T.jA (aD (fl (aj 0) T.dV T.jz (j6 T) aA.bh T.j4 .nil bj (aD (aj 1) (aD b3 aM))) aM)) (gY (by rfl)) (fun _ _ _ _ _=>dm (i:=2) afM.nd Z (Or.inl Z)) (fun _ _ _ _ _=>hy) (fun _ _ _ _ _=>(dI (ayK T) aA.bh Z T.ae1 T.Q7.aG T.aw6 .nil bj (aD (aj 0) aM)))))),?_⟩;refine iM R rfl ⟨_,rfl,j7 R ⟨fun n r v H1 aq dr cD rep=>?_,fun aR H' aG=>k2 (by rw[ov];exact(congrArg (fun z=>Option.bind z _) aR)) H' aG⟩⟩;subst rep;have ayL:n<=8:=pW (hi:=8) aq;refine⟨_,Z,by omega,by omega,fun D bw=>?_⟩;refine xE (E:=E) (p:=Sw28.signs g) (Rep:=hr) (n:=n) hg dr (by omega) bw (fun i aB dp er cP _ o=>mH cP rfl o) (fun xs dp aB lN cP bZ rl=>?_) fun aR aB bZ=>?_
 ·exact k1 xs dp _ aB (by rw[ov];exact(congrArg (fun z=>Option.bind z _) aq).trans lN) cP (cD.trans bZ) (vu (fL hg) dr cD rl)
 ·exact k2 (by rw[ov];exact(congrArg (fun z=>Option.bind z _) aq).trans aR) aB (cD.trans bZ)
inductive Hl(H:ao)(v:V)(y:Nat×Nat):Prop
 |mk (T):v=.ref T->H T=some (.tup [nat y.1,nat y.2])->Hl  H v y
theorem Yv:fD Hl:=fun _ _ _ _ s ⟨p,e,h⟩=>⟨p,e,s _ _ h⟩
theorem ayM(T:Txt K av t):cJ P w K av base (cM P w) 5 t.Ob t.Oc ["reader","place_count"] (fT fun a b H Q E=>∃ rd c,a=.ref rd/\b=nat c/\ry t (fun _=>En c) Hl H rd Q E):=by
 refine T.Q9.cZ alv fT.cX ?_;rintro bK A outer s H _ Q E aA ⟨cn,a1,rfl,rd,c,rfl,rfl,ca,bs,rest,g,R,k1,k2⟩;try simp only at k1 k2
 refine⟨_,(aW (ct (i:=2) alv.nd Z (Or.inl Z) (fl (aj 0) T.dV T.jz (j6 T) aA.bh T.j4 .nil bj (aD b3 (aD (fa ky (aj 1) b3) aM)))) (bk (dM (sa (aD (aj 2) (aD (gv (aj 0) T.dV T.w5 (Cy T) aA.bh T.Cp .nil bj) aM)))))),?_⟩;apply cB;intros;refine iM R rfl ⟨_,rfl,_,_,rfl,rfl,j7 R ⟨fun x r v H1 aq dr cD rep=>?_,fun hz H' aG=>k2 (n6 hz) H' aG⟩⟩;subst rep;refine⟨_,Z,hW dr rfl ⟨fun y dp v aB aP cP bZ rep=>⟨tX,fun p aL=>?_⟩,fun hz H' aG=>k2 (kJ aq hz) H' (cD.trans aG)⟩⟩;subst rep;exact k1 (x,y) dp _ _ (oY aq aP) (cP.new aL) ((cD.trans bZ).jm aL) ⟨p,rfl,ew.mpr ⟨cP.up (cD.trans bZ) aL,by simp,a8⟩⟩
inductive zf(t:bW)(H:ao)(v:V)(a:Sw28.Around):Prop
 |mk (p dx eA rE qQ jE):v=.ref p->H p=some (.ins t.rq dx [("before",eA),("there",rE),("behind",qQ),("acts",jE)])->hj hr H eA a.before->hj hr H rE a.here->hj hr H qQ a.behind->hj Hl H jE a.acts->zf t H v a
theorem Yw:fD (zf t):=fun _ _ _ _ s ⟨p,dx,eA,rE,qQ,jE,e,h,h1,aC,bI,dz⟩=>⟨p,dx,eA,rE,qQ,jE,e,s _ _ h,fL hg _ _ _ _ s h1,fL hg _ _ _ _ s aC,fL hg _ _ _ _ s bI,fL Yv _ _ _ _ s dz⟩
theorem agi{H:ao}{rd ca:au}{bs rest:Sw28.B}{g i:Nat}{lo:Nat}{σ:St}{Q:bA}{E:cN}(R:ef t H rd ca bs rest g)(a0:σ[i]?=some (some (.ref rd)))(o:One t (many lo 8 (Sw28.signs g)) (hj hr) H rd ca bs rest g Q E) :
  Vy (fT fun a b H Q E=>∃ rd lo,a=.ref rd/\b=nat lo/\ry t (fun g=>many lo 8 (Sw28.signs g)) (hj hr) H rd Q E) [] E (nS (gh i) (nS (uX (.int (lo:Nat))) m_)) σ H Q :=
 ⟨_,a0,_,_,rfl,rd,lo,rfl,rfl,ca,bs,rest,g,R,o.1,o.2⟩
theorem ayN(T:Txt K av t):cJ P w K av base (cM P w) 9 t.Od t.Oe ["reader"] (jC t qb (zf t)):=by
 refine T.Q_.cZ G3 fc.cX ?_;rintro bK A outer s H _ Q E aA ⟨cn,rfl,rd,rfl,ca,bs,rest,g,R,k1,k2⟩;try simp only at k1 k2
 refine⟨_,(aW (ct (i:=1) G3.nd Z (Or.inl Z) (dI (agh T) aA.bh Z T.Q8 T.Cm.aG T.afI .nil bj (aD (aj 0) (aD b3 aM)))) (aW (ct (i:=2) G3.nd Z (Or.inr Z) (dI (agh T) aA.bh Z T.Q8 T.Cm.aG T.afI .nil bj (aD (aj 0) (aD b3 aM)))) (aW (ct (i:=3) G3.nd Z (Or.inl Z) (dI (agh T) aA.bh Z T.Q8 T.Cm.aG T.afI .nil bj (aD (aj 0) (aD b3 aM)))) (aW (w4 (i:=4) (own:=[("k",5)]) dJ (fun _ _ z=>z) Z G3.nd Z Z (wW Z Z Z Z) (mj Z T.jA (aD (fl (aj 0) T.dV T.jz (j6 T) aA.bh T.j4 .nil bj (aD b3 (aD b3 aM))) aM)) (gY (by rfl)) (fun _ _ _ _ _=>dm (i:=5) G3.nd Z (Or.inl Z)) (fun _ _ _ _ _=>hy) (fun _ _ _ _ _=>(dI (ayM T) aA.bh Z T.ae2 T.Q9.aG T.aw7 .nil bj (aD (aj 0) (aD (hx (afY (K':=K) Z) Z T.hB hN (aD (aj 2) aM)) aM))))) (bk (dM (qD T.aei (ayj T) aA.bh Z T.aeh T.awC .nil bj (aD (aj 1) (aD (aj 2) (aD (aj 3) (aD (aj 4) aM))))))))))),?_⟩;apply mc;intros;refine agi (lo:=0) R rfl ⟨fun b cI eA H1 ak dr cD rb=>?_,fun hz H' aG=>k2 (by unfold qb;rw[hz];rfl) H' aG⟩;refine agi (lo:=1) dr rfl ⟨fun h dp rE aB hh cP bZ ayO=>?_,fun hz H' aG=>k2 (by unfold qb;rw[ak];simp[hz]) H' (cD.trans aG)⟩;refine agi (lo:=0) cP rfl ⟨fun k d4 qQ aJ aN e2 dh agj=>?_,fun hz H' aG=>k2 (by unfold qb;rw[ak];simp[hh,hz]) H' ((cD.trans bZ).trans aG)⟩;have jT:=(cD.trans bZ).trans dh;have al2:hj hr (bH H [] aJ) rE h:=R9 (fL hg) R.dom dh (vu (fL hg) dr cD ayO);obtain⟨cO,R',rfl,Sd,ayP⟩:=id al2;refine iM e2 rfl (j7 e2 ⟨fun n jN v bC aR gs dG rep=>?_,fun hz H' aG=>k2 (by unfold qb;rw[ak];simp only[d7,hh,aN];rw[ov];exact(by rw[show eb ((0:Nat):Int) ((8:Nat):Int) d4=none from hz];rfl)) H' (jT.trans aG)⟩);subst rep;have ayL:n<=8:=pW (hi:=8) aR;refine⟨_,Z,by omega,by omega,fun D bw=>?_⟩;have ayQ:bC cO=some (.lst R'):=dG _ _ (by simp only[g5];intro e;have:=ew.mp Sd;exact R.dom (e▸this.1)) (hC _ _ Sd);refine xE (E:=E) (p:=En h.length) (Rep:=Hl) (n:=n) Yv gs (by omega) bw (fun i b2 m5 er iy fX o=>?_) (fun xs m5 b2 lN iy fX rl=>?_) fun hz b2 fX=>?_
 ·refine⟨_,Z,_,Z,cO,R',Z,.inl (aT.of (fX _ _ (by simp only[g5];intro e;have:=ew.mp Sd;exact R.dom (e▸this.1)) ayQ)),_,_,Z,rd,h.length,Z,by rw[f9 ayP],ca,bs,m5,g,iy,o.1,o.2⟩
 ·refine⟨_,Z,_,Z,_,Z,_,Z,ayh fun p dx np nd=>?_⟩;have vB:=(jT.trans dG).trans fX;have bY:=n3 (C:=t.rq) (fs:=[("before",eA),("there",.ref cO),("behind",qQ),("acts",.ref D)]) np nd;refine k1 ⟨b,h,k,xs⟩ m5 _ _ ?_ (iy.oX bY) (vB.trans (hq bY _)) ⟨p,dx,eA,.ref cO,qQ,.ref D,rfl,ew.mpr ⟨iy.up vB np,by simp,rA⟩,?_,?_,?_,?_⟩
  ·unfold qb;rw[ak];simp only[d7,hh,aN];rw[ov];rw[show eb ((0:Nat):Int) ((8:Nat):Int) d4=some (n,jN) from aR];simp[lN]
  ·exact vw (fL hg) bY (R9 (fL hg) R.dom ((bZ.trans dh).trans (dG.trans fX)) rb)
  ·exact vw (fL hg) bY (R9 (fL hg) R.dom (dG.trans fX) al2)
  ·exact vw (fL hg) bY (R9 (fL hg) R.dom (dG.trans fX) (vu (fL hg) cP (cD.trans bZ) agj))
  ·exact vw (fL Yv) bY (vu (fL Yv) gs (jT.trans dG) rl)
 ·refine k2 ?_ b2 ((jT.trans dG).trans fX);unfold qb;rw[ak];simp only[d7,hh,aN];rw[ov];rw[show eb ((0:Nat):Int) ((8:Nat):Int) d4=some (n,jN) from aR];simp[hz]
section
variable{K':cp}{a b:au}{xs bO:List V}{tb:TS}{D:Ends}{σ:St}{H:ao}{i1 i2:Nat}
abbrev g2(K:cp)(i1 i2:Nat):lH:=abm K 2 (abl (kY i1) (abl (kY i2) ajD))
theorem Ho{T:au}{x y:V}{Q:St->ao->Prop}(h:H T=some (.tup [x,y]))(q:Q ((σ.set i1 (some x)).set i2 (some y)) H):g2 K' i1 i2 (.ref T) σ H Q:=⟨T,_,rfl,fO.of h,rfl,x,_,rfl,y,_,rfl,rfl,q⟩
theorem Hp(Pv:Nat->St->ao->Prop)(h0:Pv 0 σ H)(aF:∀ i σ H,i<=xs.length->Pv i σ H->aT K' H a xs)
  (aH:∀ i x T σ H,xs[i]?=some x->Pv i σ H->H T=none->tb { D with cU:=Pv (i+1),fu:=Pv (i+1),jJ:=D.cU } ((σ.set i1 (some (nat i))).set i2 (some x)) (upd H T (.tup [nat i,x]))) (hd:∀ σ H,Pv xs.length σ H->D.cU σ H) :
  ∃ W:Nat->Nat->St->ao->Prop,(∃ m,W 0 m σ H)/\∀ i m σ H,W i m σ H ->
   ((yK K' a).stop i H/\D.cU σ H)\/((yK K' a).go i H/\∃ N:St->ao->Prop,(∀ dg H',N dg H'->∃ dU,dU<m/\W (i+1) dU dg H')/\∀ x H',(yK K' a).mg i H x H'->g2 K' i1 i2 x σ H' fun dW aB=>tb { D with cU:=N,fu:=N,jJ:=D.cU } dW aB):=by
 refine⟨fun i m σ H=>m=xs.length-i/\i<=xs.length/\Pv i σ H,⟨xs.length,by simp,eZ _,h0⟩,?_⟩;rintro i m σ H ⟨rfl,hi,p⟩;have q:=aF i σ H hi p;by_cases c0:i<xs.length
 ·refine .inr ⟨⟨xs,xs[i],q,by simp[c0]⟩,Pv (i+1),fun dg H' p'=>⟨xs.length-(i+1),by omega,rfl,c0,p'⟩,fun v H' y=>?_⟩;obtain⟨T,x,rfl,cx,rfl,y⟩:=y;exact Ho a8 (aH i x T σ _ (y xs q) p cx)
 ·have e:i=xs.length:=by omega
  subst e;exact .inl ⟨⟨xs,q,cH _⟩,hd σ H p⟩
theorem al3(U6:xs.length=bO.length)(Pv:Nat->St->ao->Prop)(h0:Pv 0 σ H)(aF:∀ i σ H,i<=xs.length->Pv i σ H->aT K' H a xs/\aT K' H b bO)
  (aH:∀ i x y T σ H,xs[i]?=some x->bO[i]?=some y->Pv i σ H->H T=none->tb { D with cU:=Pv (i+1),fu:=Pv (i+1),jJ:=D.cU } ((σ.set i1 (some x)).set i2 (some y)) (upd H T (.tup [x,y]))) (hd:∀ σ H,Pv xs.length σ H->D.cU σ H) :
  ∃ W:Nat->Nat->St->ao->Prop,(∃ m,W 0 m σ H)/\∀ i m σ H,W i m σ H ->
   ((Ko K' a b).stop i H/\D.cU σ H)\/((Ko K' a b).go i H/\∃ N:St->ao->Prop,(∀ dg H',N dg H'->∃ dU,dU<m/\W (i+1) dU dg H')/\∀ x H',(Ko K' a b).mg i H x H'->g2 K' i1 i2 x σ H' fun dW aB=>tb { D with cU:=N,fu:=N,jJ:=D.cU } dW aB):=by
 refine⟨fun i m σ H=>m=xs.length-i/\i<=xs.length/\Pv i σ H,⟨xs.length,by simp,eZ _,h0⟩,?_⟩;rintro i m σ H ⟨rfl,hi,p⟩;obtain⟨bU,cB⟩:=aF i σ H hi p;by_cases c0:i<xs.length
 ·refine .inr ⟨⟨xs,bO,xs[i],bO[i]'(by omega),bU,cB,by simp[c0],dT (by omega)⟩,Pv (i+1),fun dg H' p'=>⟨xs.length-(i+1),by omega,rfl,c0,p'⟩,fun v H' y=>?_⟩;obtain⟨T,x,y',rfl,cx,rfl,ayR,ayS⟩:=y;exact Ho a8 (aH i x y' T σ _ (ayR xs bU) (ayS bO cB) p cx)
 ·have e:i=xs.length:=by omega
  subst e;exact .inl ⟨⟨xs,bO,bU,cB,.inl (cH _)⟩,hd σ H p⟩
end
def mapA(A:List (Nat×Nat)):List (Key×V):=A.map fun y=>(bJ y.1,nat y.2)
theorem n7{a b:Nat}:bJ a=bJ b↔a=b:=by
 constructor
 ·intro h;injection h with h
  omega
 ·rintro rfl;rfl
theorem agk(s:Nat):∀ A:List (Nat×Nat),dY (mapA A) (bJ s)=(pD A s).map nat
 | []=>rfl
 |y::A=>by
  have bV:=agk s A;unfold mapA at bV ⊢;rw[fU];by_cases h:y.1=s
  ·rw[oR (by rw[h])];simp[pD,h]
  ·rw[oT (fun e=>h (n7.mp e)),bV];simp[pD,h]
theorem ayT(A:List (Nat×Nat))(s b:Nat):putK (mapA A) (bJ s) (nat b)=mapA (r3 A s b):=by
 unfold putK r3 mapA;have e:((A.map fun y=>(bJ y.1,nat y.2)).any fun bD=>decide (bD.1=bJ s))=A.any fun y=>decide (y.1=s):=by
  rw[List.any_map];congr 1
  funext y
  exact wg.mpr n7
 rw[e];split
 ·rw[kj,kj];apply Ah;intro y _;by_cases h:y.1=s
  ·simp[h]
  ·have h':¬ bJ y.1=bJ s:=fun e=>h (n7.mp e)
   simp only[Function.comp,bx h,bx h']
 ·simp
theorem ayU(A:List (Nat×Nat))(s b:Nat):(r3 A s b).length<=A.length+1:=by
 unfold r3;split<;>simp
theorem agl(fr k:Nat):∀ (ss:aK) (A:List (Nat×Nat)),(qt fr k A ss).length<=A.length+ss.length
 | [],A=>by simp[qt]
 |s::ss,A=>by
  have h1:=agl fr k ss (r3 A s (ji A fr s ||| 2 ^ k));have aC:=ayU A s (ji A fr s ||| 2 ^ k);show(qt fr k (r3 A s (ji A fr s ||| 2 ^ k)) ss).length<=_;rw[eo];omega
structure Yx(rows:List (List (aK))):Prop where
 ln:rows.length<=64
 agm:∀ r∈rows,r.length<=16
 st:∀ r∈rows,∀ s∈r,s.length<=1024
inductive CK(t:bW)(rows:List (List (aK)))(d:Nat)(G:ao)(v:V):Prop
 |mk (p dx m):v=.ref p->G p=some (.ins t.tH dx [("free",nat (freeOf rows d)),("allowed",.ref m)])->G m=some (.dX (mapA (U7 rows d)))->CK t rows d G v
theorem zj{rows:List (List (aK))}{d:Nat}{H H':ao}{v:V}(s:aQ H H')(h:CK t rows d H v):CK t rows d H' v:=by
 obtain⟨p,dx,m,e,h1,aC⟩:=h;exact⟨p,dx,m,e,s _ _ h1,s _ _ aC⟩
theorem take_snoc{α:Type}{l:List α}{i:Nat}{x:α}(h:l[i]?=some x):l.take (i+1)=l.take i++[x]:=by
 rw[vX,h];rfl
theorem zip_get{α:Type}{l:List α}{i:Nat}{x:α}(h:l[i]?=some x):l.zipIdx[i]?=some (x,i):=by
 rw[Iz,h];simp
theorem agn{k:Nat}(h:k<=64):ajK 1 (k:Int):=⟨by omega,by omega,by decide⟩
theorem al4(a k:Nat):Builtin.bitOr (a:Int) (1 * 2 ^ (k:Int).toNat)=((a ||| 2 ^ k:Nat):Int):=by
 have e:(1:Int) * 2 ^ ((k:Int)).toNat=((2 ^ k:Nat):Int):=by simp
 rw[e,akE.avD (Int.natCast_nonneg _) (Int.natCast_nonneg _),I9,I9]
theorem ei{H H':ao}{a:au}{o:HO}(s:aQ H H')(h:H a=none):aQ H (upd H' a o):=fun b u e=>by
 rw[a7 (bR e h)];exact s _ _ e
inductive al5(t:bW)(a b:V)(H:ao)(Q:bA)(E:cN):Prop
 |mk (l vs rows d):a=.ref l->b=nat d->H l=some (.lst vs)->Paired (hj hr H) vs rows->Yx rows->(∀ v H',aQ H H'->CK t rows d (bH H [] H') v->Q v H')->al5 t a b H Q E
def ayV(t:bW):eY:=fT (al5 t)
theorem ayW(T:Txt K av t):cJ P w K av base (cM P w) 3 t.Np t.Nq ["rows","distance"] (ayV t):=by
 refine T.QX.cZ xr fT.cX ?_;rintro bK A outer s H _ Q E aA ⟨cn,a1,rfl,l,vs,rows,d,rfl,rfl,aF,pp,ok,k1⟩;refine⟨_,(aW (ct (i:=2) xr.nd rfl (Or.inl rfl) b3) (aW (hp (gP dJ rfl) rfl (BL rfl T.xd (aD (aj 0) aM)) (s8 rfl (jM (dm (i:=3) xr.nd rfl (Or.inl rfl)) (jM (dm (i:=4) xr.nd rfl (Or.inl rfl)) r7))) (bk (gj (gM yu (hx iH rfl T.hB hN (aD (aj 4) aM)) (aj 1) (fj _)) (bk (Fo (i:=2) xr.nd rfl (Or.inl rfl) (fa abx b3 (aj 3)) asL)) hu))) (aW (ct (i:=5) xr.nd rfl (Or.inl rfl) FN) (aW (hp (gP dJ rfl) rfl (BL rfl T.xd (aD (aj 0) aM)) (s8 rfl (jM (dm (i:=3) xr.nd rfl (Or.inl rfl)) (jM (dm (i:=4) xr.nd rfl (Or.inl rfl)) r7))) (bk (gj (gM JV (hx iH rfl T.hB hN (aD (aj 4) aM)) (aj 1) (fj _)) (bk (hp (gP dJ rfl) rfl (gH (eO gA (aj 4) (aj 1) (fun _ _=>rfl))) (dm (i:=6) xr.nd rfl (Or.inl rfl)) (bk (Ka (k6 aA) (aj 5) (aj 6) (fa asK (FP (k6 aA) (aj 5) (aj 6) (aj 2) ⟨rfl,rfl,rfl,rfl⟩) (fa abx b3 (aj 3))) rfl)))) hu))) (bk (dM (qD T.aek (ayk T) aA.bh rfl T.aej T.awD .nil bj (aD (aj 2) (aD (aj 5) aM))))))))),?_⟩;apply mc;intros;have t_:vs.length=rows.length:=f9 pp;refine⟨_,Z,l,vs,Z,aT.of aF,?_⟩;refine Hp (xs:=vs) (fun i σ H1=>aQ H H1/\∃ s3 s4 s5 cV,σ=[some (.ref l),some (nat d),some (nat ((rows.zipIdx.take i).foldl (fun b y=>if y.1.length<=d then b ||| 2 ^ y.2 else b) 0)),s3,s4,s5,cV]) ⟨aQ.refl _,_,_,_,_,rfl⟩ (fun i σ H1 _ ⟨s,_⟩=>aT.of (s _ _ aF)) (fun i x ez σ H1 aq ⟨s,s3,s4,s5,cV,e⟩ cx=>?_) fun σ H1 aU=>?_
 ·subst e;obtain⟨ss,jn,q,ws,e,a6,jU⟩:=mG pp aq;subst e;have hi:i<rows.length:=(eF.mp jn).1;have al6:i<=64:=by have:=ok.ln;omega
  have s':aQ H (upd H1 ez (.tup [nat i,.ref q])):=s.trans (fun b u e=>by rw[a7 (bR e cx)];exact e);rw[take_snoc (zip_get jn),oo];refine⟨_,Z,q,ws,Z,.inl (aT.of (s' _ _ a6)),_,Z,_,_,Z,Z,_,Z,?_⟩;rw[f9 jU];refine dF (fun ak=>?_) fun ak=>?_
  ·have g9:ss.length<=d:=by simpa using ak
   refine⟨_,Z,_,Z,_,_,Z,Z,agn al6,_,_,Z,Z,s',some (nat i),some (.ref q),s5,cV,?_⟩;simp only[hs,rW,bM g9,al4];rfl
  ·have g9:¬ ss.length<=d:=by simpa using ak
   refine⟨s',some (nat i),some (.ref q),s5,cV,?_⟩;simp only[hs,rW,bx g9];rfl
 ·obtain⟨s1,s3,s4,s5,cV,e⟩:=aU;subst e;rw[f3 (by simp;omega)];intro ua ayX;have ago:H ua=none:=s1.free ayX;have al7:aQ H (upd H1 ua (.dX [])):=ei s1 ago;refine⟨_,Z,l,vs,Z,aT.of (al7 _ _ aF),?_⟩;refine Hp (xs:=vs) (fun i σ aB=>aQ H aB/\aB ua=some (.dX (mapA ((rows.zipIdx.take i).foldl (r4 (freeOf rows d) d) [])))/\((rows.zipIdx.take i).foldl (r4 (freeOf rows d) d) []).length<=1024 * i/\∃ s3 s4 cV,σ=[some (.ref l),some (nat d),some (nat (freeOf rows d)),s3,s4,some (.ref ua),cV]) ⟨al7,a8,cH _,_,_,_,rfl⟩ (fun i σ aB _ ⟨s,_⟩=>aT.of (s _ _ aF)) (fun i x ez σ aB aq ⟨s,hd,jj,s3,s4,cV,e⟩ cx=>?_) fun σ aB aU=>?_
  ·subst e;obtain⟨ss,jn,q,ws,e,a6,jU⟩:=mG pp aq;subst e;have hi:i<rows.length:=(eF.mp jn).1;have al6:i<64:=by have:=ok.ln;omega
   have k_:ss∈rows:=gb jn;have s':aQ H (upd aB ez (.tup [nat i,.ref q])):=s.trans (fun b u e=>by rw[a7 (bR e cx)];exact e);have lD:(upd aB ez (.tup [nat i,.ref q])) ua=some (.dX (mapA ((rows.zipIdx.take i).foldl (r4 (freeOf rows d) d) []))):=by rw[a7 (bR hd cx)];exact hd
   rw[take_snoc (zip_get jn),oo];generalize (rows.zipIdx.take i).foldl (r4 (freeOf rows d) d) []=A0 at *;refine⟨_,Z,q,ws,Z,.inl (aT.of (s' _ _ a6)),_,Z,_,_,Z,Z,_,Z,?_⟩;rw[f9 jU];refine dF (fun ak=>?_) fun ak=>?_
   ·have g9:d<ss.length:=by simpa using ak
    have m2:ss[d]?=some ss[d]:=dT g9;obtain⟨wv,ayY,bG,e,e3⟩:=za jU m2;subst e;have aHn:ss[d].length<=1024:=ok.st ss k_ _ (mW g9);refine⟨_,Z,_,Z,q,ws,_,_,Z,Z,aT.of (s' _ _ a6),gO ayY,bG,Z,⟨_,aT.of (s' _ _ e3)⟩,?_⟩;refine qz (xs:=ss[d].map nat) (fun j σ aJ=>aQ H aJ/\aJ ua=some (.dX (mapA (qt (freeOf rows d) i A0 (ss[d].take j))))/\∃ cV,σ=[some (.ref l),some (nat d),some (nat (freeOf rows d)),some (nat i),some (.ref q),some (.ref ua),cV]) ⟨s',lD,_,rfl⟩ (fun j σ aJ _ ⟨s,_⟩=>aT.of (s _ _ e3)) (fun j z σ aJ hz aU=>?_) fun σ aJ aU=>?_
    ·obtain⟨s3,rk,cV,e⟩:=aU;subst e;have bN:j<ss[d].length:=by simpa using(eF.mp hz).1
     have al8:ss[d][j]?=some ss[d][j]:=dT bN;have ayZ:z=nat ss[d][j]:=by
      rw[ek,al8]at hz;exact(Option.some.inj hz).symm
     subst ayZ;have hlen:(qt (freeOf rows d) i A0 (ss[d].take j)).length<=65536:=by
      have:=agl (freeOf rows d) i (ss[d].take j) A0;have aC:(ss[d].take j).length<=1024:=by rw[g4];omega
      omega
     rw[take_snoc al8];have ay0:qt (freeOf rows d) i A0 (ss[d].take j++[ss[d][j]])=r3 (qt (freeOf rows d) i A0 (ss[d].take j)) ss[d][j] (ji (qt (freeOf rows d) i A0 (ss[d].take j)) (freeOf rows d) ss[d][j] ||| 2 ^ i):=by
      unfold qt;rw[oo];rfl
     rw[ay0];generalize qt (freeOf rows d) i A0 (ss[d].take j)=A1 at *;refine⟨_,Z,ua,Z,.inl ⟨_,.inl rk⟩,_,Z,_,Z,_,hU.k (k:=bJ ss[d][j]) rk,_,Z,_,_,Z,Z,agn (by omega),((ji A1 (freeOf rows d) ss[d][j]:Nat):Int),_,?_,Z,?_⟩
     ·rw[agk];unfold ji;cases pD A1 ss[d][j]<;>rfl
     ·refine⟨_,Z,_,Z,ua,_,Z,tB.k (k:=bJ ss[d][j]) rk (by unfold mapA;rw[ey];exact jR hlen),ei s3 ago,?_,_,Z⟩;rw[a8];simp only[al4];exact congrArg (fun z=>some (HO.dX z)) (ayT _ _ _)
    ·obtain⟨s3,rk,cV,e⟩:=aU;subst e;refine⟨s3,?_,?_,_,_,_,Z⟩
     ·rw[rk,f3 (by simp)];simp[r4,g9,List.getD,m2]
     ·have aC:=agl (freeOf rows d) i ss[d] A0
      simp only[hs,rW,r4,bM g9,List.getD,m2,Option.getD_some];omega
   ·have g9:¬ d<ss.length:=by simpa using ak
    refine⟨s',?_,?_,_,_,_,Z⟩
    ·simp only[hs,rW,r4,bx g9];exact lD
    ·simp only[hs,rW,r4,bx g9];omega
  ·obtain⟨s,hd,jj,s3,s4,cV,e⟩:=aU;subst e;rw[f3 (by simp;omega)]at hd;refine⟨_,Z,_,Z,af3 fun p dx np nd=>?_⟩;have bY:=n3 (C:=t.tH) (fs:=[("free",nat (freeOf rows d)),("allowed",.ref ua)]) np nd;exact k1 _ _ (s.trans bY) ⟨p,dx,ua,rfl,ew.mpr ⟨s.free np,by simp,rA⟩,ew.mpr ⟨ago,by simp,bY _ _ hd⟩⟩
abbrev fB:ao:=fun _=>none
theorem n8{L:d2}{H:ao}{b:au}{o:HO}:bH fB L H b=some o↔b∉L/\H b=some o:=by
 rw[ew];simp
inductive vC(t:bW)(rows:List (List (aK)))(G:ao)(v:V):Prop
 |mk (a vs):v=.ref a->G a=some (.lst vs)->(∀ r∈rows,r.length<=vs.length)->vs.length<=16->(∀ d s,vs[d]?=some s->CK t rows d G s)->vC t rows G v
theorem zm{rows:List (List (aK))}{H H':ao}{v:V}(s:aQ H H')(h:vC t rows H v):vC t rows H' v:=by
 obtain⟨a,vs,e,h1,aC,bI,dz⟩:=h;exact⟨a,vs,e,s _ _ h1,aC,bI,fun d z hz=>zj s (dz d z hz)⟩
inductive al9(t:bW)(a:V)(H:ao)(Q:bA)(E:cN):Prop
 |mk (l vs rows):a=.ref l->H l=some (.lst vs)->Paired (hj hr H) vs rows->Yx rows->1<=rows.length->(∀ v H',aQ H H'->vC t rows (bH H [] H') v->Q v H')->al9 t a H Q E
def ay1(t:bW):eY:=fc (al9 t)
theorem al_(T:Txt K av t):cJ P w K av base (cM P w) 4 t.Nr t.Nt ["rows"] (ay1 t):=by
 refine T.Gx.cZ GQ fc.cX ?_;rintro bK A outer s H _ Q E aA ⟨cn,rfl,l,vs,rows,rfl,aF,pp,ok,h1,k1⟩;refine⟨_,(aW (ct (i:=1) GQ.nd Z (Or.inl Z) (hx (aus Z) Z T.afC ax8 (aD (iI (own:=[("sets",2)]) dJ (fun _ _ z=>z) Z GQ.nd (gH (aj 0)) (gY (by rfl)) (fun _ _ _ _ _=>dm (i:=2) GQ.nd Z (Or.inl Z)) (fun _ _ _ _ _=>hy) (fun _ _ _ _ _=>(hx (afY (K':=K) Z) Z T.hB hN (aD (aj 2) aM)))) aM))) (bk (dM (iI (own:=[("distance",3)]) dJ (fun _ _ z=>z) Z GQ.nd (mj Z T.jA (aD (aj 1) aM)) (gY (by rfl)) (fun _ _ _ _ _=>dm (i:=3) GQ.nd Z (Or.inl Z)) (fun _ _ _ _ _=>hy) (fun _ _ _ _ _=>(dI (ayW T) aA.bh Z T.aeW T.QX.aG T.aw1 .nil bj (aD (aj 0) (aD (aj 3) aM)))))))),?_⟩;apply cB;intros;have t_:vs.length=rows.length:=f9 pp;have jj:=ok.ln;refine⟨_,Z,l,Z,⟨_,aT.of aF⟩,fun D0 al'=>?_⟩;refine n5 (rows.map fun r=>V.int (r.length:Nat)) (by simp[t_]) (aT.of aF) (by omega) al' (fun i x y H' er aq aP aH q=>?_) ?_
 ·obtain⟨ss,jn,a,ws,e,a6,jU⟩:=mG pp aq;subst e;refine⟨_,Z,a,ws,Z,.inl (aT.of (aH _ _ a6)),?_⟩;rw[ek,jn]at aP;rw[f9 jU];have gk:V.int (ss.length:Nat)=y:=Option.some.inj aP;rw[gk];exact q
 have s1:aQ H (upd H D0 (.lst (rows.map fun r=>V.int (r.length:Nat)))):=ei (aQ.refl _) al';have agp:(upd H D0 (.lst (rows.map fun r=>V.int (r.length:Nat)))) D0=some (.lst ((rows.map fun r=>((r.length:Nat):Int)).map V.int)):=by
  rw[a8,kj];rfl
 generalize upd H D0 (.lst (rows.map fun r=>V.int (r.length:Nat)))=H1 at *;refine⟨D0,_,Z,aT.of agp,by simp;omega,fun m hm ay2=>?_⟩;obtain⟨Yy,iz,rfl⟩:=g6.mp hm;have aHo:=ok.agm Yy iz;refine⟨_,Z,_,Z,by omega,by omega,fun D bw=>?_⟩;have Yz:H D=none:=s1.free bw;refine ab5 (n:=Yy.length) (lo:=0) (fun i aB=>aQ H aB/\∃ ws,aB D=some (.lst ws)/\ws.length=i/\∀ d s,ws[d]?=some s->CK t rows d (bH H [D] aB) s) ⟨ei s1 Yz,[],a8,rfl,fun d s h=>by simp at h⟩ (fun i aB hi aU=>?_) fun aB aU=>?_
 ·obtain⟨s2,ws,jF,lC,qI⟩:=aU;refine⟨Z,R4 ⟨_,rfl,_,rfl,_,_,rfl,l,vs,rows,i,rfl,by simp,s2 _ _ aF,Paired.d8 pp fun _ _ z=>fL hg _ _ _ _ s2 z,ok,fun v aJ s3 rs=>?_⟩⟩;have CN:=s3 _ _ jF;refine⟨ws,CN,jR (by omega),ei (s2.trans s3) Yz,_,a8,by simp[lC],fun d s hd=>?_⟩;have bG:aQ (bH H [D] aB) (bH H [D] (upd aJ D (.lst (ws++[v])))):=y1 fun b o a1 a2 a3=>⟨a1,a2,by rw[a7 (by simpa using a2)];exact s3 _ _ a3⟩;by_cases ay3:d<ws.length
  ·rw[Uk ay3]at hd;exact zj bG (qI d s hd)
  ·rw[I1 (by omega)]at hd;have ay4:d=i:=by
    have:=(eF.mp hd).1;simp at this;omega
   subst ay4;rw[lC,Nat.sub_self]at hd;have:v=s:=by simpa using hd
   subst this;refine zj (y1 fun b o a1 a2 a3=>?_) rs;have nb:b≠D:=bR (H:=fun c=>if aB c=none then none else some (HO.lst [])) (b:=b) (a:=D) (o:=.lst []) (by simp[jF]) (by simp[a1]) |>.symm;exact⟨s2.free a1,by simp[nb],by rw[a7 nb];exact a3⟩
 ·obtain⟨s2,ws,jF,lC,qI⟩:=aU;refine k1 _ _ s2 ⟨D,ws,rfl,ew.mpr ⟨Yz,by simp,jF⟩,fun r aA=>?_,by omega,fun d s hd=>zj (y2 (by simp)) (qI d s hd)⟩;have:=ay2 _ (I' aA);omega
structure Hq(l:List Sw28.Around):Prop where
 ln:l.length<=64
 a1:∀ a∈l,a.before.length<=8/\a.here.length<=8/\a.behind.length<=8
 a2:∀ a∈l,∀ s∈a.before++(a.here++a.behind),s.length<=1024
def oZ(l:List Sw28.Around):List (List (aK)):=l.map fun a=>a.here++a.behind
def sD(l:List Sw28.Around):List (List (aK)):=l.map fun a=>a.before
theorem Hq.on{l:List Sw28.Around}(h:Hq l):Yx (oZ l) where
 ln:=by simp[oZ,h.ln]
 agm:=fun r aA=>by
  obtain⟨a,aX,rfl⟩:=g6.mp aA;have:=h.a1 a aX;simp;omega
 st:=fun r aA s aH=>by
  obtain⟨a,aX,rfl⟩:=g6.mp aA;exact h.a2 a aX s (v9 _ aH)
theorem Hq.jJ{l:List Sw28.Around}(h:Hq l):Yx (sD l) where
 ln:=by simp[sD,h.ln]
 agm:=fun r aA=>by
  obtain⟨a,aX,rfl⟩:=g6.mp aA;have:=h.a1 a aX;omega
 st:=fun r aA s aH=>by
  obtain⟨a,aX,rfl⟩:=g6.mp aA;exact h.a2 a aX s (uJ _ aH)
theorem Sh{α β:Type}{F:α->β->Prop}:∀ {l l':List α} {r r':List β},Paired F l r->Paired F l' r'->Paired F (l++l') (r++r')
 |_,_,_,_,.nil,h=>h
 |_,_,_,_,.cons q t,h=>.cons q (Sh t h)
inductive ama(t:bW)(a b:V)(H:ao)(Q:bA)(E:cN):Prop
 |mk (x dx G l):a=.ref x->H x=some (.ins t.jw dx [])->aQ G H->G x=none->hj (zf t) G b l->Hq l->1<=l.length->(∀ la eA H',bf [x] H H'->H' x=some (.ins t.jw dx [("entries",b),("onward",la),("backward",eA)])->vC t (oZ l) (bH H [] H') la->vC t (sD l) (bH H [] H') eA->Q .non H')->ama t a b H Q E
def ay5(t:bW):eY:=fT (ama t)
theorem ay6{β:Type}{Rep:ao->V->β->Prop}{K':cp}{a D:au}{xs:List V}{te:TE}{σ:St}{dB:Nat}{H:ao}{gw:ao->Prop}(mono:fD Rep)(bO:List β)(aP:bO.length=xs.length)(aX:aT K' H a xs)(hz:xs.length<=65536)(bw:H D=none)
  (rB:∀ (i:Nat) x y H' (er:bA),xs[i]?=some x->bO[i]?=some y->aQ H H'->H' D≠none->(∀ v lO,aQ H' lO->Rep (bH fB [D] lO) v y->er v lO)->te ((wipe σ [dB]).set dB (some x)) H' er)
  (k:∀ H' ws,aQ H H'->H' D=some (.lst ws)->Paired (Rep (bH fB [D] H')) ws bO->gw H') :
  ∃ W:Nat->Nat->ao->Prop,(∃ m,W 0 m (upd H D (.lst [])))/\∀ i m H,W i m H ->
   ((jk K' a).stop i H/\gw H)\/((jk K' a).go i H/\∃ fQ:ao->Prop,(∀ H',fQ H'->∃ dU,dU<m/\W (i+1) dU H')/\∀ x H',(jk K' a).mg i H x H'->kY dB x (wipe σ [dB]) H' fun dW aB=>wipe dW [dB]=wipe σ [dB]/\se dW aB fun b aJ =>
    if b=true then te dW aJ fun y bC=>∃ acc,bC D=some (.lst acc)/\acc.length<sizeLine/\fQ (upd bC D (.lst (acc++[y])))else fQ aJ):=by
 refine ab6 (xs:=xs) (gw:=gw) (fun i aB=>aQ H aB/\∃ ws,aB D=some (.lst ws)/\Paired (Rep (bH fB [D] aB)) ws (bO.take i)) ⟨ei (aQ.refl _) bw,[],a8,.nil⟩ (fun i aB _ ⟨s,_⟩=>s.seq aX) (fun i x aB aq aU=>?_) fun aB aU=>?_
 ·obtain⟨s2,ws,jF,jU⟩:=aU;have hi:i<bO.length:=by rw[aP];exact(eF.mp aq).1
  have Sp:bO[i]?=some bO[i]:=dT hi;refine⟨by simp[wipe],R4 (rB i x bO[i] aB _ aq Sp s2 (j5 jF) fun v aJ s3 rep=>⟨ws,s3 _ _ jF,?_,ei (s2.trans s3) bw,_,a8,?_⟩)⟩
  ·have:ws.length<=i:=by rw[f9 jU,g4];omega
   exact jR (by omega)
  ·have bG:∀ b2,aQ b2 aJ->aQ (bH fB [D] b2) (bH fB [D] (upd aJ D (.lst (ws++[v])))):=fun b2 s5=>y1 fun b o a1 a2 a3=>⟨a1,a2,by rw[a7 (by simpa using a2)];exact s5 _ _ a3⟩
   rw[take_snoc Sp];exact G_ (Paired.d8 jU fun _ _ z=>mono _ _ _ _ (bG aB s3) z) (mono _ _ _ _ (bG aJ (aQ.refl _)) rep)
 ·obtain⟨s2,ws,jF,jU⟩:=aU;rw[← aP,f3 (cH _)]at jU;exact k aB ws s2 jF jU
theorem ay7(T:Txt K av t):cJ P w K av base (cM P w) 5 t.KN t.KQ ["self","entries"] (ay5 t):=by
 refine T.Wv.cZ RT fT.cX ?_;rintro bK A outer s H _ Q E aA ⟨cn,b,rfl,x,dx,G,l,rfl,aq,nu,YB,⟨hb,vs,e,uc,pp⟩,ok,h1,k1⟩;refine⟨_,(aW (eX (aj 0) (aj 1) Z) (aW (eX (aj 0) (dI (al_ T) aA.bh Z T.XM T.Gx.aG T.ald .nil bj (aD (iI (own:=[("entry",2)]) dJ (fun _ _ z=>z) Z RT.nd (gH (aj 1)) (gY (by rfl)) (fun _ _ _ _ _=>dm (i:=2) RT.nd Z (Or.inl Z)) (fun _ _ _ _ _=>hy) (fun _ _ _ _ _=>(fa aki (rz (K':=K) Z (aj 2) Z) (rz (K':=K) Z (aj 2) Z)))) aM)) Z) (bk (eX (aj 0) (dI (al_ T) aA.bh Z T.XM T.Gx.aG T.ald .nil bj (aD (iI (own:=[("entry",2)]) dJ (fun _ _ z=>z) Z RT.nd (gH (aj 1)) (gY (by rfl)) (fun _ _ _ _ _=>dm (i:=2) RT.nd Z (Or.inl Z)) (fun _ _ _ _ _=>hy) (fun _ _ _ _ _=>(rz (K':=K) Z (aj 2) Z))) aM)) Z)))),?_⟩;apply dZ;intros;subst e;have t_:vs.length=l.length:=f9 pp;have jj:=ok.ln;refine⟨_,Z,_,Z,x,_,dx,_,Z,aq,T.tK,T.Gn,by show 0<1000;decide,?_⟩;have Sq:aQ G (upd H x (.ins t.jw dx (cC "entries" (.ref hb) []))):=ei nu YB;have mZ:(upd H x (.ins t.jw dx (cC "entries" (.ref hb) []))) x=some (.ins t.jw dx [("entries",.ref hb)]):=a8;have cD:bf [x] H (upd H x (.ins t.jw dx (cC "entries" (.ref hb) []))):=bf.pT (by simp);have amb:H x≠none:=j5 aq;generalize upd H x (.ins t.jw dx (cC "entries" (.ref hb) []))=H1 at *;refine⟨_,Z,hb,Z,⟨_,aT.of (Sq _ _ uc)⟩,fun D bw=>?_⟩;have zp:G D=none:=Sq.free bw;refine ay6 (fL hg) (oZ l) (by simp[oZ,t_]) (aT.of (Sq _ _ uc)) (by omega) bw (fun i v y aB er a0 aP s2 Hr kq=>?_) fun aB ws s2 jF jU=>?_
 ·obtain⟨a,aX,p,eU,eA,rE,qQ,jE,rfl,aL,rb,⟨cO,R',rfl,Sd,ptp⟩,⟨ba,vD,rfl,CP,amc⟩,amd⟩:=mG pp a0;have Hs:aQ G aB:=Sq.trans s2;have gk:y=a.here++a.behind:=by
   unfold oZ at aP;rw[ek,aX]at aP;exact(Option.some.inj aP).symm
  subst gk;refine⟨_,Z,p,_,eU,_,_,Z,Hs _ _ aL,T.sv,T.Qz,Z,?_⟩;refine⟨_,Z,p,_,eU,_,_,Z,Hs _ _ aL,T.sv,T.Wm,Z,cO,ba,R',vD,Z,Z,Hs _ _ Sd,Hs _ _ CP,?_,fun q a6=>?_⟩
  ·have:=ok.a1 a (gb aX)
   rw[f9 ptp,f9 amc];exact RX (by omega)
  ·have agq:q≠D:=fun e=>Hr (e▸a6)
   have ame:aQ G (bH fB [D] (upd aB q (.lst (R'++vD)))):=fun b o e=>n8.mpr ⟨by simp only[g5];exact bR e zp,by rw[a7 (bR (Hs _ _ e) a6)];exact Hs _ _ e⟩;exact kq _ _ (ei (aQ.refl _) a6) ⟨q,_,rfl,n8.mpr ⟨by simp[agq],a8⟩,Sh (Paired.d8 ptp fun _ _ z=>hg _ _ _ _ ame z) (Paired.d8 amc fun _ _ z=>hg _ _ _ _ ame z)⟩
 refine⟨_,Z,D,ws,oZ l,Z,jF,Paired.d8 jU fun _ _ z=>fL hg _ _ _ _ hC z,ok.on,by simp[oZ];omega,fun la aJ s3 rs=>?_⟩;have agr:aQ H1 aJ:=s2.trans s3;refine⟨_,Z,x,_,dx,_,Z,agr _ _ mZ,T.tK,T.Wt,by show 1<1000;decide,?_⟩;have aHp:∀ {H':ao},aQ H1 H'->∀ b,H1 b≠none->H' b≠none:=fun s=>aQ.dom s;have ay8:bf [x] H aJ:=cD.trans (hq agr _);have ay9:∀ b,H b≠none->aB b≠none:=(cD.trans (hq s2 _)).dom fun b ak=>by simp at ak;rw[ak];exact j5 (s2 _ _ mZ)
 have amf:vC t (oZ l) (bH H [] aJ) la:=zm (tV ay9 (by simp)) rs;have YC:aQ G (upd aJ x (.ins t.jw dx (cC "onward" la [("entries",.ref hb)]))):=ei (Sq.trans agr) YB;have zq:(upd aJ x (.ins t.jw dx (cC "onward" la [("entries",.ref hb)]))) x=some (.ins t.jw dx [("entries",.ref hb),("onward",la)]):=a8;have dG:bf [x] H (upd aJ x (.ins t.jw dx (cC "onward" la [("entries",.ref hb)]))):=ay8.qN (by simp);have amg:vC t (oZ l) (bH H [] (upd aJ x (.ins t.jw dx (cC "onward" la [("entries",.ref hb)])))) la:=zm (jB (M:=[x]) (bf.pT (by simp)) fun b ak=>by simp at ak;exact .inl (ak▸amb)) amf;generalize upd aJ x (.ins t.jw dx (cC "onward" la [("entries",.ref hb)]))=bC at *;clear rs amf;refine⟨_,Z,hb,Z,⟨_,aT.of (YC _ _ uc)⟩,fun D2 jo=>?_⟩;obtain⟨bv,amh,ami⟩:∃ bv:List V,bv.length=vs.length/\∀ (i:Nat) (v:V),vs[i]?=some v->∃ (a:Sw28.Around) (w:V),l[i]?=some a/\bv[i]?=some w/\hj hr G w a.before/\∃ p eU rE qQ jE,v=V.ref p/\G p=some (.ins t.rq eU [("before",w),("there",rE),("behind",qQ),("acts",jE)]):=by
  clear t_ k1 h1 jj ok amg jU uc;induction pp with
  |nil=>exact⟨[],Z,fun i v h=>by simp at h⟩
  |cons h tl bV =>
   obtain⟨bv,bF,a9⟩:=bV;obtain⟨p,eU,eA,rE,qQ,jE,rfl,aL,rb,_⟩:=h;refine⟨eA::bv,by simp[bF],fun i v a0=>?_⟩;cases i with
   |zero =>
    simp at a0;subst a0;exact⟨_,eA,Z,Z,rb,p,eU,rE,qQ,jE,Z,aL⟩
   |succ i=>simpa using a9 i v (by simpa using a0)
 refine n5 bv amh (aT.of (YC _ _ uc)) (by omega) jo (fun i v y b2 er a0 aP s5 q=>?_) ?_
 ·obtain⟨a,w,aX,hw,_,p,eU,rE,qQ,jE,rfl,aL⟩:=ami i v a0;rw[hw]at aP;cases aP;exact⟨_,Z,p,_,eU,_,_,Z,s5 _ _ (YC _ _ aL),T.sv,T.Wl,Z,q⟩
 have zu:aQ bC (upd bC D2 (.lst bv)):=ei (aQ.refl _) jo;have xK:(upd bC D2 (.lst bv)) D2=some (.lst bv):=a8;generalize upd bC D2 (.lst bv)=b2 at *;have pb:Paired (hj hr b2) bv (sD l):=by
  have key:∀ (n:Nat) (bv:List V) (l:List Sw28.Around),bv.length=l.length->(∀ (i:Nat) (a:Sw28.Around) (w:V),l[i]?=some a->bv[i]?=some w->hj hr b2 w a.before)->Paired (hj hr b2) bv (sD l):=by
   intro n bv;induction bv with
   |nil =>
    intro l aF _;cases l with
    |nil=>exact .nil
    |cons _ _=>simp at aF
   |cons w bv bV =>
    intro l aF h;cases l with
    |nil=>simp at aF
    |cons a l=>exact .cons (h 0 a w rfl rfl) (bV l (by simpa using aF) fun i a' w' h1 aC=>h (i+1) a' w' (by simpa using h1) (by simpa using aC))
  refine key 0 bv l (by omega) fun i a w aX hw=>?_;have hi:i<vs.length:=by rw[← amh];exact(eF.mp hw).1
  obtain⟨a',w',Ey,amj,rb,_⟩:=ami i _ (dT hi);rw[aX]at Ey;rw[hw]at amj;cases Ey;cases amj;exact fL hg _ _ _ _ (YC.trans zu) rb
 refine⟨_,Z,D2,bv,sD l,Z,xK,pb,ok.jJ,by simp[sD];omega,fun eA eN cV rs=>?_⟩;have Ht:aQ bC eN:=zu.trans cV;refine⟨_,Z,x,_,dx,_,Z,Ht _ _ zq,T.tK,T.Wu,by show 2<1000;decide,?_⟩;have nx:bf [x] H eN:=dG.trans (hq Ht _);have ay_:∀ b,H b≠none->b2 b≠none:=(dG.trans (hq zu _)).dom fun b ak=>by simp at ak;rw[ak];exact j5 (zu _ _ zq)
 have amk:∀ o,aQ (bH H [] eN) (bH H [] (upd eN x o)):=fun o=>jB (M:=[x]) (bf.pT (by simp)) fun b ak=>by simp at ak;exact .inl (ak▸amb)
 refine k1 la eA _ (nx.qN (by simp)) a8 (zm ((jB (M:=[]) (hq Ht []) (by simp)).trans (amk _)) amg) (zm ((tV ay_ (by simp)).trans (amk _)) rs)
inductive ags(t:bW)(G:ao)(v:V)(y:(aK×Nat)×Nat):Prop
 |mk (p dx):v=.ref p->G p=some (.ins t.nj dx [("order",nat y.2),("length",nat y.1.1.length),("joined",nat y.1.2)])->ags t G v y
theorem ay':fD (ags t):=fun _ _ _ _ s ⟨p,dx,e,h⟩=>⟨p,dx,e,s _ _ h⟩
structure YD(G:ao)(lb:List (Key×V))(L:Nat->aK):Prop where
 no:∀ a,dY lb (bJ a)=none->L a=[]
 yes:∀ a v,dY lb (bJ a)=some v->∃ q,v=.ref q/\G q=some (.lst ((L a).map nat))
 inj:∀ a b q,dY lb (bJ a)=some (.ref q)->dY lb (bJ b)=some (.ref q)->a=b
theorem YD.mono{G zv:ao}{lb:List (Key×V)}{L:Nat->aK}(s:aQ G zv)(h:YD G lb L):YD zv lb L :=
 ⟨h.no,fun a v e=>by obtain⟨q,bF,a9⟩:=h.yes a v e;exact⟨q,bF,s _ _ a9⟩,h.inj⟩
def CQ(t:bW)(G:ao)(j:au)(ds:List (aK×Nat))(L:Nat->aK):Prop :=
 ∃ dx bs ls kvs lb,G j=some (.ins t.su dx [("by_signs",.ref bs),("lengths",.ref ls)])/\G bs=some (.gF kvs)/\Paired (fun(bD:List Key×V) y=>bD.1=y.1.1.map bJ/\ags t G bD.2 y) kvs ds.zipIdx /\
  G ls=some (.dX lb)/\YD G lb L/\lb.length<=ds.length
theorem CT{G zv:ao}{j:au}{ds:List (aK×Nat)}{L:Nat->aK}(s:aQ G zv)(h:CQ t G j ds L):CQ t zv j ds L:=by
 obtain⟨dx,bs,ls,kvs,lb,h1,aC,bI,dz,js,tE⟩:=h;exact⟨dx,bs,ls,kvs,lb,s _ _ h1,s _ _ aC,Paired.d8 bI fun _ _ z=>⟨z.1,ay' _ _ _ _ s z.2⟩,s _ _ dz,js.mono s,tE⟩
theorem aza(T:Txt K av t):cJ P w K av base (cM P w) 1 t.Li t.Lj ["self"] (fc fun a H Q _=>∃ x dx,a=.ref x/\H x=some (.ins t.su dx [])/\∀ H' bs ls,bf [x] H H'->H' x=some (.ins t.su dx [("by_signs",.ref bs),("lengths",.ref ls)])->H' bs=some (.gF [])->H' ls=some (.dX [])->H bs=none->H ls=none->Q .non H'):=by
 refine T.W4.cZ axN fc.cX ?_;rintro bK A outer s H _ Q E aA ⟨cn,rfl,x,dx,rfl,aq,k1⟩;refine⟨_,(aW (eX (aj 0) au7 Z) (bk (eX (aj 0) FN Z))),?_⟩;apply cB;intros;intro bs h9;refine⟨_,Z,x,_,dx,_,Z,by rw[a7 (bR aq h9)];exact aq,T.sx,T.Cg,by show 0<1000;decide,?_⟩;intro ls nA;have cU:x≠ls:=fun e=>by rw[← e,a8]at nA;cases nA
 have nb:bs≠x:=(bR aq h9).symm;have YF:(upd H bs (.gF [])) ls=none:=by rw[a7 cU.symm]at nA;exact nA
 have aml:bs≠ls:=fun e=>by rw[← e,a8]at YF;cases YF
 have amm:H ls=none:=by rw[a7 aml.symm]at YF;exact YF
 refine⟨_,Z,x,_,dx,_,Z,by rw[a7 cU,a8],T.sx,T.QK,by show 1<1000;decide,?_⟩;refine k1 _ bs ls (fun b o n e=>?_) a8 ?_ ?_ h9 amm
 ·have amn:b≠x:=by simpa using n
  rw[a7 amn,a7 (bR e amm),a7 amn,a7 (bR e h9)];exact e
 ·rw[a7 nb,a7 aml,a7 nb,a8]
 ·rw[a7 cU.symm,a8]
theorem agt(n:Nat):∀ ns:aK,J2 (nat n) (ns.map nat)=decide (n∈ns)
 | []=>by simp[J2]
 |a::ns=>by
  have bV:=agt n ns;unfold J2 at bV ⊢;rw[fU,Al,bV];by_cases h:a=n
  ·subst h;simp[vb]
  ·have h':¬ ((a:Int)=(n:Int)):=by omega
   have aC:¬ n=a:=fun e=>h e.symm;simp[vb,h',aC]
theorem azb(ns:aK):(ns.map nat).all va=true:=by simp[va]
def azc(A:ao)(M:d2)(H H':ao):Prop:=∀ b o,(A b≠none\/b∈M)->H b=some o->H' b=some o
theorem amo(l:aK):(l.map bJ).map c3=l.map nat:=by
 rw[kj];rfl
theorem agu:∀ {a b:aK},a.map bJ=b.map bJ->a=b
 | [],[],_=>rfl
 | [],_::_,h=>by simp at h
 |_::_,[],h=>by simp at h
 |x::a,y::b,h=>by
  rw[fU,fU]at h;injection h with h1 aC
  rw[n7.mp h1,agu aC]
theorem amq{F:(List Key×V)->(aK×Nat)×Nat->Prop}(iR:∀ bD y,F bD y->bD.1=y.1.1.map bJ)(key:aK):∀ {kvs:List (List Key×V)} {ds:List (aK×Nat)} {k:Nat},Paired F kvs (ds.zipIdx k) ->
  (dY kvs (key.map bJ)).isSome=ds.any fun d=>d.1 == key
 |_,[],_,.nil=>rfl
 |_,d::ds,k,h=>by
  rw[x6]at h;cases h with
  |cons q tl =>
   have bV:=amq iR key tl;have e:=iR _ _ q;rw[Al];by_cases hd:d.1=key
   ·rw[oR (by rw[e,hd])];simp[hd]
   ·rw[oT (fun z=>hd (agu (e.symm.trans z))),bV];simp[hd]
inductive amr(t:bW)(s a b:V)(H:ao)(Q:bA)(pU:cN):Prop
 |mk (j A M ds L S) (e:ib):s=.ref j->a=.ref S->b=nat e.2.2->H S=some (.lst ((keyOf e).map nat))->CQ t (bH A M H) j ds L->ds.length<=2048->e.2.1.length<=100->(∀ b,A b≠none->H b≠none)->(∀ b∈M,H b≠none)->r2 ds L->(∀ a,(L a).length<=ds.length)->(∀ H' L',azc A M H H'->CQ t (bH A M H') j (oG ds e) L'->r2 (oG ds e) L'->(∀ a,(L' a).length<=(oG ds e).length)->Q .non H')->amr t s a b H Q pU
def azd(t:bW):eY:=gd (amr t)
theorem aze(T:Txt K av t):cJ P w K av base (cM P w) 3 t.Lk t.Ln ["self","signs","joined"] (azd t):=by
 refine T.W5.cZ afK gd.cX ?_;rintro bK A outer s H _ Q E aA ⟨cn,a1,a2,rfl,j,A,M,ds,L,S,e,rfl,rfl,rfl,d1,ams,aHq,aHr,qO,azf,Ss,dc,k1⟩;refine⟨_,(aW (ct (i:=3) afK.nd rfl (Or.inl rfl) (ra ake rfl T.X6 alz (aD (aj 1) aM))) (aW (gj (pN (ab_ (k6 aA) (aj 3) (bQ (aj 0) rfl))) (bk abj) hu) (aW (Ka (k6 aA) (bQ (aj 0) rfl) (aj 3) (qD T.aev (aym T) aA.bh rfl T.aeu T.awI .nil bj (aD (hx awl rfl T.hB hN (aD (bQ (aj 0) rfl) aM)) (aD (hx iH rfl T.hB hN (aD (aj 3) aM)) (aD (aj 2) aM)))) rfl) (aW (ct (i:=4) afK.nd rfl (Or.inl rfl) (awx (bQ (aj 0) rfl) (eO Bv (aj 3) b3 (fun _ _=>rfl)) (hc aM) ⟨rfl,rfl,rfl,rfl⟩)) (bk (gj (gM auc (hx iH rfl T.hB hN (aD (aj 3) aM)) (aj 4) (by with_unfolding_all rfl)) (bk (et (mA lW pn pq pQ (aj 4) (aD (hx iH rfl T.hB hN (aD (aj 3) aM)) aM)))) hu)))))),?_⟩;apply mc;intros;obtain⟨dx,bs,ls,kvs,lb,bN,h9,pH,nA,rF,zx⟩:=id ams;obtain⟨amt,amu,bN⟩:=ew.mp bN;obtain⟨ab,pJ,h9⟩:=ew.mp h9;obtain⟨al,agv,nA⟩:=ew.mp nA;refine⟨_,Z,S,_,Z,.inl ⟨aT.of d1,fun ez cx=>?_⟩⟩;have fr:∀ {b:au},H b=none->A b=none/\b∉M:=fun{b} ak=>⟨by
  cases z:A b with
  |none=>rfl
  |some o=>exact absurd ak (qO b (by rw[z];simp)),fun z=>azf b z ak⟩
 have s1:aQ H (upd H ez (.tup ((keyOf e).map nat))):=ei (aQ.refl _) cx;have vG:(upd H ez (.tup ((keyOf e).map nat))) ez=some (.tup (((keyOf e).map bJ).map c3)):=by rw[a8,amo]
 have Yn:=fr cx;generalize upd H ez (.tup ((keyOf e).map nat))=H1 at *;have hval:=amq (fun _ _ z=>z.1) (keyOf e) pH;refine⟨_,Z,_,Z,j,_,dx,_,_,Z,s1 _ _ bN,T.sx,T.Cg,Z,bs,_,Z,hU.t (k:=(keyOf e).map bJ) (s1 _ _ h9) vG,_,Z,?_⟩;rw[hval];refine dF (fun ak=>?_) fun ak=>?_
 ·have nO:oG ds e=ds:=by unfold oG;rw[bM ak]
  exact k1 H1 L (fun b o _ q=>s1 _ _ q) (by rw[nO];exact CT (jB (M:=[]) (hq s1 []) (by simp)) ams) (by rw[nO];exact Ss) (by rw[nO];exact dc)
 have nO:oG ds e=ds++[(keyOf e,e.2.2)]:=by unfold oG;rw[bx ak]
 have azg:dY kvs ((keyOf e).map bJ)=none:=by
  cases z:dY kvs ((keyOf e).map bJ)with
  |none=>rfl
  |some v=>rw[z]at hval;exact absurd hval.symm ak
 have mJ:kvs.length=ds.length:=by rw[f9 pH,List.length_zipIdx]
 refine⟨_,Z,j,_,dx,_,_,Z,s1 _ _ bN,T.sx,T.Cg,Z,bs,kvs,Z,s1 _ _ h9,?_⟩;refine⟨_,Z,ez,_,Z,.inr (fO.of vG),_,Z,R1 fun p eU np nd=>?_⟩;have s2:aQ H1 (iK H1 p eU t.nj [("order",.int (kvs.length:Nat)),("length",.int ((((keyOf e).map bJ).map c3).length:Nat)),("joined",nat e.2.2)]):=n3 np nd;have V1:(iK H1 p eU t.nj [("order",.int (kvs.length:Nat)),("length",.int ((((keyOf e).map bJ).map c3).length:Nat)),("joined",nat e.2.2)]) p=some (.ins t.nj eU [("order",nat ds.length),("length",nat (keyOf e).length),("joined",nat e.2.2)]):=by
  rw[rA,mJ];simp
 have fp:=fr (s1.free np);generalize iK H1 p eU t.nj [("order",.int (kvs.length:Nat)),("length",.int ((((keyOf e).map bJ).map c3).length:Nat)),("joined",nat e.2.2)]=aB at *;have j8:=s1.trans s2;refine⟨_,Z,j,_,dx,_,_,Z,j8 _ _ bN,T.sx,T.Cg,Z,_,Z,bs,_,Z,tB.t (k:=(keyOf e).map bJ) (j8 _ _ h9) (s2 _ _ vG) (jR (by omega)),?_⟩;rw[V0 _ azg];have agw:j≠bs:=hO bN h9 (by intro z;cases z);have Sv:ls≠bs:=hO nA h9 (by intro z;cases z);have Sw:ez≠bs:=(bR h9 cx).symm;have amv:p≠bs:=(bR (s1 _ _ h9) np).symm;have k3:∀ b o,b≠bs->aB b=some o->(upd aB bs (.gF (kvs++[((keyOf e).map bJ,.ref p)]))) b=some o:=fun b o n q=>by rw[a7 n];exact q
 have YG:(upd aB bs (.gF (kvs++[((keyOf e).map bJ,.ref p)]))) bs=some (.gF (kvs++[((keyOf e).map bJ,.ref p)])):=a8;generalize upd aB bs (.gF (kvs++[((keyOf e).map bJ,.ref p)]))=aJ at *;refine⟨_,Z,j,_,dx,_,_,Z,k3 _ _ agw (j8 _ _ bN),T.sx,T.QK,Z,ls,Z,.inl ⟨_,.inl (k3 _ _ Sv (j8 _ _ nA))⟩,?_⟩;refine⟨_,Z,ez,_,0,nat e.1,Z,Z,fO.of (k3 _ _ Sw (s2 _ _ vG)),at_of (j:=0) rfl rfl,eZ _,fun gQ qR=>?_⟩;have s4:aQ aJ (upd aJ gQ (.lst [])):=ei (aQ.refl _) qR;have CV:(upd aJ gQ (.lst [])) gQ=some (.lst []):=a8;have amw:∀ {b:au},aJ b=none->H b=none:=fun{b} ak=>by
  cases z:H b with
  |none=>rfl
  |some o =>
   by_cases sE:b=bs
   ·rw[sE,YG]at ak;cases ak
   ·rw[k3 b o sE (j8 _ _ z)]at ak;cases ak
 have f0:=fr (amw qR);have CW:∀ b o,H b=some o->b≠gQ:=fun b o z=>bR z (amw qR);generalize upd aJ gQ (.lst [])=bC at *;have xM:∀ b o,b≠bs->H b=some o->bC b=some o:=fun b o n z=>s4 _ _ (k3 _ _ n (j8 _ _ z));refine⟨lb,bJ e.1,xM _ _ Sv nA,Z,jR (by omega),fun v a0=>?_,fun a0=>?_⟩
 ·
  obtain⟨q,rfl,a6⟩:=rF.yes _ _ a0;obtain⟨agx,amx,a6⟩:=ew.mp a6;have amy:q≠bs:=hO a6 h9 (by intro z;cases z);have kl:=xM _ _ amy a6;refine⟨_,Z,ez,_,Z,.inr (fO.of (s4 _ _ (k3 _ _ Sw (s2 _ _ vG)))),_,Z,q,_,Z,.inl (aT.of kl),Z,azb _,_,Z,?_⟩;have fin:∀ CX,(∀ b o,b≠bs->b≠q->H b=some o->CX b=some o)->CX bs=some (.gF (kvs++[((keyOf e).map bJ,.ref p)]))->CX p=some (.ins t.nj eU [("order",nat ds.length),("length",nat (keyOf e).length),("joined",nat e.2.2)]) ->
    CX q=some (.lst ((qq L e.1 (keyOf e).length e.1).map nat))->Q .non CX:=fun CX Sx f1 f2 fK=>by
   refine k1 CX (qq L e.1 (keyOf e).length) (fun b o ak z=>Sx b o ?_ ?_ z) ?_ (by rw[nO];exact Ss.tell e ak) ?_
   ·rintro rfl;exact ak.elim (fun w=>w ab) pJ
   ·rintro rfl;exact ak.elim (fun w=>w agx) amx
   ·rw[nO];have azh:j≠q:=hO bN a6 (by intro z;cases z);have azi:ls≠q:=hO nA a6 (by intro z;cases z);refine⟨dx,bs,ls,_,lb,ew.mpr ⟨amt,amu,Sx _ _ agw azh bN⟩,ew.mpr ⟨ab,pJ,f1⟩,?_,ew.mpr ⟨al,agv,Sx _ _ Sv azi nA⟩,⟨fun a z=>?_,fun a v z=>?_,rF.inj⟩,by simp;omega⟩
    ·rw[List.zipIdx_append];refine Sh (Paired.d8 pH fun bD y z=>⟨z.1,?_⟩) (.cons ⟨rfl,p,eU,rfl,ew.mpr ⟨fp.1,fp.2,by simpa using f2⟩⟩ .nil);obtain⟨p',Bs,bF,a9⟩:=z.2;obtain⟨dw,oA,e5⟩:=ew.mp a9;exact⟨p',Bs,bF,ew.mpr ⟨dw,oA,Sx _ _ (hO e5 h9 (by intro z;cases z)) (hO e5 a6 (by intro z;cases z)) e5⟩⟩
    ·unfold qq;rw[bx (fun w=>by rw[w,a0]at z;cases z)];exact rF.no a z
    ·by_cases aX:a=e.1
     ·subst aX;rw[a0]at z;cases z;exact⟨q,Z,ew.mpr ⟨agx,amx,fK⟩⟩
     ·obtain⟨d9,bF,a9⟩:=rF.yes a v z;obtain⟨dw,oA,e5⟩:=ew.mp a9;subst bF;have azj:d9≠q:=fun w=>aX (rF.inj a e.1 q (w▸z) a0);refine⟨d9,Z,ew.mpr ⟨dw,oA,?_⟩⟩;rw[show qq L e.1 (keyOf e).length a=L a from bx aX];exact Sx _ _ (hO e5 h9 (by intro z;cases z)) azj e5
   ·intro a;rw[nO];have:=dc a;unfold qq;split
    ·split<;>simp<;>(try omega)
     all_goals (have:=dc e.1;omega)
    ·simp;omega
  have hlen:(((keyOf e).map bJ).map c3).length=(keyOf e).length:=by simp
  rw[hlen];have ud:bC p=some (.ins t.nj eU [("order",nat ds.length),("length",nat (keyOf e).length),("joined",nat e.2.2)]):=s4 _ _ (k3 _ _ amv V1);refine dF (fun jG=>?_) fun jG=>?_
  ·have rG:¬ (keyOf e).length∈L e.1:=by
    have:=jG;simp[agt]at this;exact this
   refine⟨_,Z,.inl ⟨Z,_,aT.of kl⟩,_,Z,ez,_,Z,.inr (fO.of (s4 _ _ (k3 _ _ Sw (s2 _ _ vG)))),q,_,_,Z,Z,kl,?_,?_⟩
   ·rw[ey];have:=dc e.1;exact jR (by omega)
   ·have azk:p≠q:=hO ud kl (by intro z;cases z)
    refine fin _ (fun b o n1 n2 z=>by rw[a7 n2];exact xM _ _ n1 z) (by rw[a7 amy.symm];exact s4 _ _ YG) (by rw[a7 azk];exact ud) ?_;rw[a8,hlen];simp[qq,rG]
  ·have rG:(keyOf e).length∈L e.1:=by
    have:=jG;simp[agt]at this;exact this
   refine fin bC (fun b o n1 n2 z=>xM _ _ n1 z) (s4 _ _ YG) ud ?_;rw[kl];simp[qq,rG]
 ·
  have azl:=rF.no _ a0;have amz:ez≠ls:=(bR nA cx).symm;have YH:gQ≠ls:=(CW _ _ nA).symm;have azm:gQ≠bs:=(CW _ _ h9).symm;have ud:bC p=some (.ins t.nj eU [("order",nat ds.length),("length",nat (keyOf e).length),("joined",nat e.2.2)]):=s4 _ _ (k3 _ _ amv V1);have azn:p≠ls:=hO ud (xM _ _ Sv nA) (by intro z;cases z);have agy:p≠gQ:=hO ud CV (by intro z;cases z);refine⟨_,Z,ez,_,Z,.inr (fO.of (by rw[a7 amz];exact s4 _ _ (k3 _ _ Sw (s2 _ _ vG)))),_,Z,gQ,[],Z,.inl (aT.of (by rw[a7 YH];exact CV)),Z,Z,_,Z,?_⟩;refine FZ ⟨_,rfl,.inl ⟨rfl,_,aT.of (by rw[a7 YH];exact CV)⟩,_,rfl,ez,_,rfl,.inr (fO.of (by rw[a7 amz];exact s4 _ _ (k3 _ _ Sw (s2 _ _ vG)))),gQ,[],_,rfl,rfl,by rw[a7 YH];exact CV,len0 rfl,?_⟩;refine k1 _ (qq L e.1 (keyOf e).length) (fun b o ak z=>?_) ?_ (by rw[nO];exact Ss.tell e ak) ?_
  ·have n1:b≠bs:=by rintro rfl;exact ak.elim (fun w=>w ab) pJ
   have n2:b≠ls:=by rintro rfl;exact ak.elim (fun w=>w al) agv
   rw[a7 (CW _ _ z),a7 n2];exact xM _ _ n1 z
  ·rw[nO];have azo:j≠ls:=hO bN nA (by intro z;cases z);refine⟨dx,bs,ls,_,_,ew.mpr ⟨amt,amu,by rw[a7 (CW _ _ bN),a7 azo];exact xM _ _ agw bN⟩,ew.mpr ⟨ab,pJ,by rw[a7 azm.symm,a7 Sv.symm];exact s4 _ _ YG⟩,?_,ew.mpr ⟨al,agv,by rw[a7 YH.symm,a8]⟩,⟨fun a z=>?_,fun a v z=>?_,fun a b q gn eH=>?_⟩,?_⟩
   ·rw[List.zipIdx_append];refine Sh (Paired.d8 pH fun bD y z=>⟨z.1,?_⟩) (.cons ⟨rfl,p,eU,rfl,ew.mpr ⟨fp.1,fp.2,by rw[a7 agy,a7 azn];simpa using ud⟩⟩ .nil);obtain⟨p',Bs,bF,a9⟩:=z.2;obtain⟨dw,oA,e5⟩:=ew.mp a9;exact⟨p',Bs,bF,ew.mpr ⟨dw,oA,by rw[a7 (CW _ _ e5),a7 (hO e5 nA (by intro z;cases z))];exact xM _ _ (hO e5 h9 (by intro z;cases z)) e5⟩⟩
   ·rw[VR]at z;by_cases aX:a=e.1
    ·subst aX;simp at z
    ·rw[bx (fun w=>aX (n7.mp w))]at z;rw[show qq L e.1 (keyOf e).length a=L a from bx aX];exact rF.no a z
   ·rw[VR]at z;by_cases aX:a=e.1
    ·subst aX;simp at z;subst z;refine⟨gQ,Z,ew.mpr ⟨f0.1,f0.2,?_⟩⟩;rw[a8];simp[qq,azl]
    ·rw[bx (fun w=>aX (n7.mp w))]at z;obtain⟨d9,bF,a9⟩:=rF.yes a v z;obtain⟨dw,oA,e5⟩:=ew.mp a9;refine⟨d9,bF,ew.mpr ⟨dw,oA,?_⟩⟩;rw[show qq L e.1 (keyOf e).length a=L a from bx aX,a7 (CW _ _ e5),a7 (hO e5 nA (by intro z;cases z))];exact xM _ _ (hO e5 h9 (by intro z;cases z)) e5
   ·rw[VR]at gn eH;have old:∀ c,dY lb (bJ c)=some (.ref gQ)->False:=fun c w=>by
     obtain⟨d9,bF,a9⟩:=rF.yes c _ w;cases bF;exact CW _ _ (ew.mp a9).2.2 rfl
    by_cases aX:a=e.1
    ·by_cases g9:b=e.1
     ·rw[aX,g9]
     ·rw[bM (by rw[aX])]at gn;rw[bx (fun w=>g9 (n7.mp w))]at eH;cases gn;exact(old b eH).elim
    ·rw[bx (fun w=>aX (n7.mp w))]at gn;by_cases g9:b=e.1
     ·rw[bM (by rw[g9])]at eH;cases eH;exact(old a gn).elim
     ·rw[bx (fun w=>g9 (n7.mp w))]at eH;exact rF.inj a b q gn eH
   ·have:=Bx lb (bJ e.1) (.ref gQ)
    simp;omega
  ·intro a;rw[nO];unfold qq;have:=dc a;have:=dc e.1;split
   ·split<;>simp<;>omega
   ·simp;omega
def Sy(t:bW):ao->V->List ib->Prop:=fun H v l=>∃ j L,v=.ref j/\CQ t H j (jH l) L/\r2 (jH l) L
theorem amA:fD (Sy t):=fun _ _ _ _ s ⟨j,L,e,h,d⟩=>⟨j,L,e,CT s h,d⟩
theorem azp(l:List ib):(jH l).length<=l.length:=by
 have key:∀ (l:List ib) (ds:List (aK×Nat)),(l.foldl oG ds).length<=ds.length+l.length:=by
  intro l;induction l with
  |nil=>intro ds;simp
  |cons e l bV =>
   intro ds;have h:=bV (oG ds e);have aC:(oG ds e).length<=ds.length+1:=by
    unfold oG;split<;>simp
   rw[hs,eo];omega
 simpa [jH]using key l []
theorem azq(T:Txt K av t):cJ P w K av base (cM P w) 7 t.N5 t.N6 ["reader"] (jC t Ur (Sy t)):=by
 refine T.Q6.cZ GZ fc.cX ?_;rintro bK A outer s H _ Q E aA ⟨cn,rfl,rd,rfl,ca,bs,rest,g,R,k1,k2⟩;try simp only at k1 k2
 refine⟨_,(aW (ct (i:=1) GZ.nd Z (Or.inl Z) (aj2 T.aex (aza T) aA.bh Z T.aew T.awJ .nil bj)) (aW (ct (i:=2) GZ.nd Z (Or.inl Z) (hc aM)) (aW (hp (gP dJ Z) Z (mj Z T.jA (aD (fl (aj 0) T.dV T.jz (j6 T) aA.bh T.j4 .nil bj (aD b3 (aD b3 aM))) aM)) (dm (i:=3) GZ.nd Z (Or.inl Z)) (aW (ct (i:=4) GZ.nd Z (Or.inl Z) (gv (aj 0) T.dV T.rv (tZ T) aA.bh T.tR .nil bj)) (aW (ct (i:=5) GZ.nd Z (Or.inl Z) (fa aki (hc (aD (aj 4) aM)) (fl (aj 0) T.dV T.QM (af7 T) aA.bh T.afG .nil bj (aD b3 (aD b3 aM))))) (aW (et (fl (aj 1) T.sx T.aey (aze T) aA.bh T.awK .nil bj (aD (aj 5) (aD (gv (aj 0) T.dV T.rv (tZ T) aA.bh T.tR .nil bj) aM)))) (bk (et (mA lW pn pq pQ (aj 2) (aD (aj 4) aM)))))))) (aW (et (dI (ayu T) aA.bh Z T.aeX T.QZ.aG T.aw2 .nil bj (aD (aj 2) aM))) (bk (dM (aj 1))))))),?_⟩;apply mc;intros;intro x dx cU nd ne;refine⟨_,Z,x,dx,Z,a8,fun H1 bi li cD mZ SJ kE nb nl=>⟨rfl,?_⟩⟩;have azr:H bi=none:=by
  have z:bi≠x:=fun e=>by rw[e,a8]at nb;cases nb
  rw[a7 z]at nb;have eH:bi≠dx:=fun e=>by rw[e,a8]at nb;cases nb
  rw[a7 eH]at nb;exact nb
 have azs:H li=none:=by
  have z:li≠x:=fun e=>by rw[e,a8]at nl;cases nl
  rw[a7 z]at nl;have eH:li≠dx:=fun e=>by rw[e,a8]at nl;cases nl
  rw[a7 eH]at nl;exact nl
 have s1:aQ H H1:=fun b o e=>cD b o (by simp only[g5];exact bR e cU) (by rw[a7 (bR e cU),a7 (bR e nd)];exact e);clear cD nb nl;refine⟨eZ _,fun F iR=>?_⟩;have YJ:H F=none:=s1.free iR;have cP:ef t (upd H1 F (.lst [])) rd ca bs rest g:=(R.oX s1).new iR;have azt:CQ t (bH H [F] (upd H1 F (.lst []))) x [] (fun _=>[]):=by
  have fr:∀ b o,H1 b=some o->(upd H1 F (.lst [])) b=some o:=fun b o e=>by rw[a7 (bR e iR)];exact e
  have kp:∀ b o,H1 b=some o->b∉[F]:=fun b o e=>by simp only[g5];exact bR e iR
  exact⟨dx,bi,li,[],[],ew.mpr ⟨cU,kp _ _ mZ,fr _ _ mZ⟩,ew.mpr ⟨azr,kp _ _ SJ,fr _ _ SJ⟩,.nil,ew.mpr ⟨azs,kp _ _ kE,fr _ _ kE⟩,⟨fun _ _=>rfl,fun _ _ h=>(by cases h),fun _ _ _ h=>by cases h⟩,cH _⟩
 have bZ:bf [rd] H (upd H1 F (.lst [])):=(hq s1 _).xB YJ;have vH:(upd H1 F (.lst [])) F=some (.lst []):=a8;generalize upd H1 F (.lst [])=aB at *;refine iM cP rfl (j7 cP ⟨fun n r v aJ aR e2 dh rep=>?_,fun aR H' aG=>k2 (alZ aR) H' (bZ.trans aG)⟩);subst rep;have lE:n<=1024:=pW (hi:=1024) aR;have YK:F≠rd:=fun e=>R.dom (e▸YJ);have YL:∀ {bC b2:ao},bf [rd] bC b2->aQ (bH H [F] bC) (bH H [F] b2):=fun k=>jB k fun b ak=>by simp at ak;exact .inl (ak▸R.dom)
 have goN:∀ {bC:ao} {q:au} {o:HO},bC q=none->aQ (bH H [F] bC) (bH H [F] (upd bC q o)):=fun a6=>jB (M:=[]) (bf.iZ a6) (by simp);refine⟨_,Z,by omega,by omega,?_⟩;refine tg (n:=n) (lo:=0) (fun i σ bC=>(∃ s3 s4 s5,σ=[some (.ref rd),some (.ref x),some (.ref F),s3,s4,s5])/\∃ xs jN L,times (Sw28.pair (Sw28.sign g) (Sw28.pair (many 1 7 (Sw28.sign g)) (Sw28.sign g))) i r=some (xs,jN)/\ef t bC rd ca bs jN g/\bf [rd] H bC /\
   bC F=some (.lst (xs.map fun y=>nat y.1))/\CQ t (bH H [F] bC) x (jH xs) L/\r2 (jH xs) L/\∀ a,(L a).length<=(jH xs).length)
  ⟨⟨_,_,_,rfl⟩,[],r,fun _=>[],rfl,e2,bZ.trans dh,dh _ _ (by simp[YK]) vH,CT (YL dh) azt,r2.nil,fun _=>eZ _⟩ (fun i σ bC hi aU=>?_) fun σ bC aU=>?_
 ·obtain⟨⟨s3,s4,s5,e⟩,xs,jN,L,h1,gs,dG,Hu,agz,agA,l4⟩:=aU;subst e;have aF:=mX _ h1;have aa6:xs.length=i:=aF;have stop:Sw28.pair (Sw28.sign g) (Sw28.pair (many 1 7 (Sw28.sign g)) (Sw28.sign g)) jN=none->∀ H',bf [rd] bC H'->E (.ref t.jl) none H':=fun hz H' aG=>k2 (al0 aR (x9 _ h1 hz n hi)) H' (dG.trans aG);refine hW gs rfl ⟨fun a m5 v b2 aX iy fX rep=>?_,fun hz H' aG=>stop (n6 hz) H' aG⟩;subst rep;refine⟨_,Z,nZ,fun zy YM=>?_⟩;have o1:ef t (upd b2 zy (.lst [nat a])) rd ca bs m5 g:=iy.new YM;have xJ:(upd b2 zy (.lst [nat a])) zy=some (.lst [nat a]):=a8;have nx:bf [rd] bC (upd b2 zy (.lst [nat a])):=fX.jm YM;have azu:zy≠rd:=fun e=>iy.dom (e▸YM);have azv:aQ (bH H [F] bC) (bH H [F] (upd b2 zy (.lst [nat a]))):=(YL fX).trans (goN YM);generalize upd b2 zy (.lst [nat a])=eN at *;refine iM o1 rfl (agf (lo:=1) (hi:=7) o1 (by decide) ⟨fun vI yt v dD agB nC nD rep=>?_,fun hz H' aG=>stop (kJ aX (n6 hz)) H' (nx.trans aG)⟩);obtain⟨aZ,rfl,fe⟩:=rep;have yg:vI.length<=7:=(wh agB).2;refine⟨zy,aZ,_,_,Z,Z,nD _ _ (by simp[azu]) xJ,hC _ _ fe,by simp;exact RX (by omega),fun S d1=>?_⟩;have SM:ef t (upd dD S (.lst ([nat a]++vI.map nat))) rd ca bs yt g:=nC.new d1;have azw:(upd dD S (.lst ([nat a]++vI.map nat))) S=some (.lst ((a::vI).map nat)):=a8;have Hv:bf [rd] bC (upd dD S (.lst ([nat a]++vI.map nat))):=(nx.trans nD).jm d1;have azx:S≠rd:=fun e=>nC.dom (e▸d1);have azy:aQ (bH H [F] bC) (bH H [F] (upd dD S (.lst ([nat a]++vI.map nat)))):=(azv.trans (YL nD)).trans (goN d1);generalize upd dD S (.lst ([nat a]++vI.map nat))=mF at *;have amB:=CT azy agz;obtain⟨Hw,azz,azA,_,_,azB,_⟩:=id amB;refine⟨_,Z,x,Hw,_,Z,hC _ _ azB,Z,_,Z,?_⟩;refine hW SM rfl ⟨fun amC YP v iW azC zz n_ rep=>?_,fun hz H' aG=>stop (kJ aX (kJ agB hz)) H' (Hv.trans aG)⟩;subst rep;have vB:=(dG.trans Hv).trans n_;have amD:iW F=some (.lst (xs.map fun y=>nat y.1)):=n_ _ _ (by simp[YK]) (Hv _ _ (by simp[YK]) Hu);refine⟨_,_,_,Z,x,H,[F],jH xs,L,S,(a,vI,amC),Z,Z,Z,n_ _ _ (by simp[azx]) azw,CT (YL n_) amB,?_,by show vI.length<=100;omega,bf.up1 zz vB,fun b ak=>by simp at ak;rw[ak];exact j5 amD,agA,l4,fun Ku L' kpa azD azE l10=>?_⟩
  ·have:=azp xs
   omega
  have amE:Ku F=some (.lst (xs.map fun y=>nat y.1)):=kpa _ _ (.inr (by simp)) amD;have azF:bf [rd] H Ku:=fun b o n q=>kpa _ _ (.inl (j5 q)) (vB b o n q);have azG:ef t Ku rd ca bs YP g:=by
   obtain⟨fY,zA,bU,cB⟩:=zz.cY;exact⟨⟨fY,zA,kpa _ _ (.inl R.dom) bU,cB⟩,kpa _ _ (.inl R.sA) zz.sz,zz.lt,zz.ln⟩
  refine⟨_,Z,.inl ⟨Z,_,aT.of amE⟩,_,Z,F,_,_,Z,Z,amE,by rw[ey];exact jR (by omega),⟨_,_,_,Z⟩,xs++[(a,vI,amC)],YP,L',?_,azG.upd YK (fun e=>R.sA (e▸YJ)),azF.xB YJ,?_,?_,?_,?_⟩
  ·rw[Em,h1];simp[oY aX (oY agB azC)]
  ·rw[a8];simp
  ·rw[aaO];exact CT (jB (M:=[F]) (bf.pT (by simp)) fun b ak=>.inr ak) azD
  ·rw[aaO];exact azE
  ·rw[aaO];exact l10
 ·obtain⟨⟨s3,s4,s5,e⟩,xs,jN,L,h1,gs,dG,Hu,agz,agA,l4⟩:=aU;subst e;have aF:=mX _ h1;have aa6:xs.length=n:=aF;have azH:bC F=some (.lst ((xs.map fun y=>((y.1:Nat):Int)).map V.int)):=by
   rw[Hu,kj];rfl
  have lg:∀ k,(xs.map fun y=>((y.1:Nat):Int)).getD k 0=(((xs.map fun y=>y.1).getD k 0:Nat):Int):=fun k=>by
   simp only[List.getD,ek];cases xs[k]?<;>simp
  refine⟨_,Z,_,Z,F,_,Z,azH,by simp;omega,fun azI=>⟨_,rfl,?_⟩,fun k aN acy=>?_⟩
  ·have a0:Sw28.level (xs.map fun y=>y.1)=true:=(af9 _).mpr fun k aN=>by
    have:=azI k (by simpa using aN);rw[lg,lg]at this;omega
   refine k1 xs jN _ bC ?_ gs dG ⟨x,L,rfl,CT (y2 (by simp)) agz,agA⟩;unfold Ur;rw[Yp aR h1,bM a0]
  ·refine k2 ?_ bC dG;unfold Ur;rw[Yp aR h1,bx];intro a0;have:(xs.map fun y=>y.1).getD k 0<=(xs.map fun y=>y.1).getD (k+1) 0:=(af9 _).mp a0 k (by simpa using aN);rw[lg,lg]at acy;omega
theorem CZ{α:Type}{p:Sw28.P α}{iQ:α->Prop}(aL:∀ t x r,p t=some (x,r)->iQ x):∀ {n:Nat} {t:Sw28.B} {y:List α×Sw28.B},times p n t=some y->∀ x∈y.1,iQ x
 |0,t,y,h,x,aq=>by simp only[times]at h;cases h;cases aq
 |n+1,t,y,h,x,aq=>by
  simp only[times]at h;cases h1:p t with
  |none=>rw[h1]at h;simp at h
  |some z =>
   rw[h1]at h;simp only[d7]at h;cases aC:times p n z.2 with
   |none=>rw[aC]at h;simp at h
   |some w =>
    rw[aC]at h;simp only[gf,Option.some.injEq]at h;subst h;rcases gR.mp aq with rfl|aq
    ·exact aL t z.1 z.2 h1
    ·exact CZ aL aC x aq
theorem rH{α:Type}{p:Sw28.P α}{iQ:α->Prop}(aL:∀ t x r,p t=some (x,r)->iQ x){lo hi:Nat}{t:Sw28.B}{y:List α×Sw28.B}(h:many lo hi p t=some y):∀ x∈y.1,iQ x:=by
 rw[ov]at h;cases h1:eb lo hi t with
 |none=>rw[h1]at h;simp at h
 |some z =>
  rw[h1]at h;exact CZ aL h
theorem agC{g:Nat}{t r:Sw28.B}{x:aK}(h:Sw28.signs g t=some (x,r)):x.length<=1024:=by
 unfold Sw28.signs at h;rw[gZ]at h;cases h1:many 1 1024 (Sw28.sign g) t with
 |none=>rw[h1]at h;simp at h
 |some z =>
  rw[h1]at h;simp only[d7]at h;split at h
  ·cases h;exact(wh h1).2
  ·cases h
structure agD(a:Sw28.Around):Prop where
 l1:a.before.length<=8/\a.here.length<=8/\a.behind.length<=8
 st:∀ s∈a.before++(a.here++a.behind),s.length<=1024
 ok:yd a
 ac:a.acts.length<=8
theorem azJ{g:Nat}{t r:Sw28.B}{a:Sw28.Around}(h:qb g t=some (a,r)):agD a:=by
 unfold qb at h;cases h1:many 0 8 (Sw28.signs g) t with
 |none=>rw[h1]at h;simp at h
 |some b =>
  rw[h1]at h;simp only[d7]at h;cases aC:many 1 8 (Sw28.signs g) b.2 with
  |none=>rw[aC]at h;simp at h
  |some c =>
   rw[aC]at h;simp only[d7]at h;cases bI:many 0 8 (Sw28.signs g) c.2 with
   |none=>rw[bI]at h;simp at h
   |some d =>
    rw[bI]at h;simp only[d7]at h;cases dz:many 0 8 (En c.1.length) d.2 with
    |none=>rw[dz]at h;simp at h
    |some e =>
     rw[dz]at h;simp only[gf,Option.some.injEq,Prod.mk.injEq]at h;obtain⟨rfl,_⟩:=h;have aa3:=wh h1;have Vf:=wh aC;have m3:=wh bI;have azK:=wh dz;have bU:=rH (iQ:=fun s:aK=>s.length<=1024) (fun _ _ _=>agC) h1;have cB:=rH (iQ:=fun s:aK=>s.length<=1024) (fun _ _ _=>agC) aC;have dZ:=rH (iQ:=fun s:aK=>s.length<=1024) (fun _ _ _=>agC) bI;refine⟨⟨aa3.2,Vf.2,m3.2⟩,fun s aH=>?_,⟨Vf.1,?_⟩,azK.2⟩
     ·rcases pe.mp aH with z|z
      ·exact bU s z
      ·rcases pe.mp z with z|z
       ·exact cB s z
       ·exact dZ s z
     ·refine rH (iQ:=fun y:Nat×Nat=>y.1<c.1.length) (fun t' x r' aq=>?_) dz;rw[aiz,gZ]at aq;cases aL:Sw28.pair u16 u16 t' with
      |none=>rw[aL]at aq;simp at aq
      |some w =>
       rw[aL]at aq;simp only[d7]at aq;split at aq
       ·rename_i hd;cases aq;simpa using hd
       ·cases aq
theorem azL{l:List Sw28.Around}(h:∀ a∈l,agD a)(aF:l.length<=64):Hq l:=⟨aF,fun a aX=>(h a aX).l1,fun a aX=>(h a aX).st⟩
inductive zB(t:bW)(H:ao)(v:V)(l:List Sw28.Around):Prop
 |mk (x dx Hx la eA):v=.ref x->H x=some (.ins t.jw dx [("entries",Hx),("onward",la),("backward",eA)])->hj (zf t) H Hx l->vC t (oZ l) H la->vC t (sD l) H eA->zB t H v l
theorem azM:fD (zB t):=fun _ _ _ _ s ⟨x,dx,Hx,la,eA,e,h,h1,aC,bI⟩=>⟨x,dx,Hx,la,eA,e,s _ _ h,fL Yw _ _ _ _ s h1,zm s aC,zm s bI⟩
theorem m64{α:Type}(lo:Nat)(p:Sw28.P α)(t:Sw28.B):many lo 64 p t=(eb lo 64 t).bind fun x=>times p x.1 x.2:=ov lo 64 p t
theorem azN(T:Txt K av t):cJ P w K av base (cM P w) 10 t.Og t.Oh ["reader"] (jC t Us (zB t)):=by
 refine T.Q'.cZ afN fc.cX ?_;rintro bK A outer s H _ Q E aA ⟨cn,rfl,rd,rfl,ca,bs,rest,g,R,k1,k2⟩;try simp only at k1 k2
 refine⟨_,(bk (dM (qD T.aem (ay7 T) aA.bh Z T.ael T.awE .nil bj (aD (iI (own:=[("k",1)]) dJ (fun _ _ z=>z) Z afN.nd (mj Z T.jA (aD (fl (aj 0) T.dV T.jz (j6 T) aA.bh T.j4 .nil bj (aD b3 (aD b3 aM))) aM)) (gY (by rfl)) (fun _ _ _ _ _=>dm (i:=1) afN.nd Z (Or.inl Z)) (fun _ _ _ _ _=>hy) (fun _ _ _ _ _=>(dI (ayN T) aA.bh Z T.ae3 T.Q_.aG T.aw8 .nil bj (aD (aj 0) aM)))) aM)))),?_⟩;have hA:∀ r,Us g r=(eb 1 64 r).bind fun x=>times (qb g) x.1 x.2:=fun r=>m64 1 _ r;refine iM R rfl (j7 R ⟨fun n r v H1 aR dr cD rep=>?_,fun hz H' aG=>k2 (by rw[hA,hz];rfl) H' aG⟩);subst rep;have lE:n<=64:=pW (hi:=64) aR;have YQ:1<=n:=by have:=(wi aR).1;omega
 refine⟨_,Z,by omega,by omega,fun D bw=>?_⟩;refine xE (E:=E) (p:=qb g) (Rep:=zf t) (n:=n) Yw dr (by omega) bw (fun i aB dp er cP _ o=>mH cP rfl o) (fun xs dp aB lN cP bZ rl=>?_) fun hz aB bZ=>k2 (by rw[hA,aR];exact hz) aB (cD.trans bZ);have aF:xs.length=n:=mX _ lN;have ok:∀ a∈xs,agD a:=CZ (fun _ _ _=>azJ) lN;have aG:=cD.trans bZ;intro x dx cU nd ne;have bY:=n3 (C:=t.jw) (fs:=[]) cU nd;have YS:hj (zf t) (bH H [] aB) (.ref D) xs:=vu (fL Yw) dr cD rl;have azO:H x=none:=cP.up aG cU;have aHs:H dx=none:=cP.up aG nd;refine⟨_,_,Z,x,dx,bH H [] aB,xs,Z,a8,hC.trans bY,?_,YS,azL ok (by omega),by omega,fun la eA aJ dh bI cI azP=>⟨rfl,?_⟩⟩
 ·show bH H [] aB x=none;cases z:bH H [] aB x with
  |none=>rfl
  |some o =>
   rw[(ew.mp z).2.2]at cU;cases cU
 ·have s3:aQ aB aJ:=fun b o e=>dh b o (by simp only[g5];exact bR e cU) (bY _ _ e)
  have qT:∀ b,H b≠none->(iK aB x dx t.jw []) b≠none:=fun b ak=>aQ.dom bY b (bf.up1 cP aG b ak);refine k1 xs dp _ aJ (by rw[hA,aR];exact lN) (cP.oX s3) (aG.trans (hq s3 _)) ⟨x,dx,.ref D,la,eA,rfl,ew.mpr ⟨azO,by simp,bI⟩,vw (fL Yw) s3 YS,zm (tV qT (by simp)) cI,zm (tV qT (by simp)) azP⟩
def rI(t:bW):ao->V->Sw28.Sub->Prop:=fun H v s=>match s with
 | .one l=>Hi H v l
 | .more l=>R8 H v l
 | .joined l=>Sy t H v l
 | .around l=>zB t H v l
theorem SN:fD (rI t):=fun H H' v x s h=>match x,h with
 | .one _,h=>ayz _ _ _ _ s h
 | .more _,h=>ayA _ _ _ _ s h
 | .joined _,h=>amA _ _ _ _ s h
 | .around _,h=>azM _ _ _ _ s h
theorem j9{a b:Int}(h:decide (V.int a=V.int b)=true):a=b:=by
 have:=h3 h;injection this
theorem C_{a b:Int}(h:¬ decide (V.int a=V.int b)=true):a≠b:=fun e=>h (fw (by rw[e]))
inductive amF(t:bW)(a b:V)(H:ao)(Q:bA)(E:cN):Prop
 |mk (rd k):a=.ref rd->b=nat k->1<=k->k<=4->ry t (fun g=>qd g k) (rI t) H rd Q E->amF t a b H Q E
def azQ(t:bW):eY:=fT (amF t)
theorem azR(T:Txt K av t):cJ P w K av base (cM P w) 11 t.Oi t.Oj ["reader","kind"] (azQ t):=by
 obtain⟨agE,Dc,Dd⟩:=T.k_EXCHANGE;obtain⟨azS,agF,agG⟩:=T.k_JOIN;obtain⟨azT,agH,agI⟩:=T.k_SPREAD;refine T.Ra.cZ ax4 fT.cX ?_;rintro bK A outer s H _ Q E aA ⟨cn,a1,rfl,rd,k,rfl,rfl,h1,dz,ca,bs,rest,g,R,k1,k2⟩;try simp only at k1 k2
 refine⟨_,(aW (gj (gM jO (aj 1) (gW Z Dc Dd) (fj _)) (bk (dM (dI (ayE T) aA.bh Z T.aeY T.Q0.aG T.aw3 .nil bj (aD (aj 0) aM)))) hu) (aW (gj (gM jO (aj 1) (gW Z agH agI) (fj _)) (bk (dM (dI (ayF T) aA.bh Z T.aeZ T.Q5.aG T.aw4 .nil bj (aD (aj 0) aM)))) hu) (aW (gj (gM jO (aj 1) (gW Z agF agG) (fj _)) (bk (dM (dI (azq T) aA.bh Z T.ae0 T.Q6.aG T.aw5 .nil bj (aD (aj 0) aM)))) hu) (bk (dM (dI (azN T) aA.bh Z T.ae4 T.Q'.aG T.aw9 .nil bj (aD (aj 0) aM))))))),?_⟩;apply hH;intros;refine⟨_,Z,Z,_,Z,dF (fun ak=>?_) fun ak=>?_⟩
 ·have e:k=1:=by have:=j9 ak;omega
  subst e;exact mH R rfl ⟨fun x r v H' aq k7 aG rep=>k1 (.one x) r v H' (by simp[qd,d8,aq]) k7 aG rep,fun hz H' aG=>k2 (by simp[qd,d8,hz]) H' aG⟩
 have n1:k≠1:=by have:=C_ ak;omega
 refine⟨_,Z,Z,_,Z,dF (fun ak=>?_) fun ak=>?_⟩
 ·have e:k=2:=by have:=j9 ak;omega
  subst e;exact mH R rfl ⟨fun x r v H' aq k7 aG rep=>k1 (.more x) r v H' (by simp[qd,d8,aq]) k7 aG rep,fun hz H' aG=>k2 (by simp[qd,d8,hz]) H' aG⟩
 have n2:k≠2:=by have:=C_ ak;omega
 refine⟨_,Z,Z,_,Z,dF (fun ak=>?_) fun ak=>?_⟩
 ·have e:k=3:=by have:=j9 ak;omega
  subst e;exact mH R rfl ⟨fun x r v H' aq k7 aG rep=>k1 (.joined x) r v H' (by simp[qd,d8,aq]) k7 aG rep,fun hz H' aG=>k2 (by simp[qd,d8,hz]) H' aG⟩
 have qy:k≠3:=by have:=C_ ak;omega
 exact mH R rfl ⟨fun x r v H' aq k7 aG rep=>k1 (.around x) r v H' (by simp[qd,d8,aq,n1,n2,qy]) k7 aG rep,fun hz H' aG=>k2 (by simp[qd,d8,hz,n1,n2,qy]) H' aG⟩
inductive uf(t:bW){α:Type}(zE:ao->V->α->Prop)(H:ao)(v:V)(y:Nat×Nat×α):Prop
 |mk (p dx eA):v=.ref p->H p=some (.ins t.rr dx [("kind",nat y.1),("passes",nat y.2.1),("body",eA)])->zE H eA y.2.2->uf t zE H v y
theorem Hy{α:Type}{zE:ao->V->α->Prop}(m:fD zE):fD (uf t zE):=fun _ _ _ _ s ⟨p,dx,eA,e,h,r⟩=>⟨p,dx,eA,e,s _ _ h,m _ _ _ _ s r⟩
theorem azU(T:Txt K av t):cJ P w K av base (cM P w) 12 t.Ol t.Om ["reader"] (jC t sV (uf t (rI t))):=by
 obtain⟨agE,Dc,Dd⟩:=T.k_EXCHANGE;obtain⟨azV,agJ,agK⟩:=T.k_LOOK_AROUND;refine T.Rb.cZ afO fc.cX ?_;rintro bK A outer s H _ Q E aA ⟨cn,rfl,rd,rfl,ca,bs,rest,g,R,k1,k2⟩;try simp only at k1 k2
 refine⟨_,(aW (ct (i:=1) afO.nd Z (Or.inl Z) (fl (aj 0) T.dV T.jz (j6 T) aA.bh T.j4 .nil bj (aD (gW Z Dc Dd) (aD (gW Z agJ agK) aM)))) (aW (ct (i:=2) afO.nd Z (Or.inl Z) (fl (aj 0) T.dV T.jz (j6 T) aA.bh T.j4 .nil bj (aD b3 (aD b3 aM)))) (bk (dM (qD T.Wy (alN T) aA.bh Z T.Wx T.ala .nil bj (aD (aj 1) (aD (aj 2) (aD (dI (azR T) aA.bh Z T.ae5 T.Ra.aG T.aw_ .nil bj (aD (aj 0) (aD (aj 1) aM))) aM)))))))),?_⟩;apply dZ;intros;refine iM R rfl (j7 R ⟨fun k r v H1 aN dr cD rep=>?_,fun hz H' aG=>k2 (by unfold sV;rw[hz];rfl) H' aG⟩);subst rep;refine iM dr rfl (j7 dr ⟨fun s dp v aB aH cP bZ rep=>?_,fun hz H' aG=>k2 (by unfold sV;rw[aN];simp[hz]) H' (cD.trans aG)⟩);subst rep;have YT:=wi aN;refine⟨_,Z,_,Z,_,Z,_,Z,_,_,Z,rd,k,Z,Z,by omega,by omega,ca,bs,dp,g,cP,fun y d4 eA aJ aP e2 dh rep=>R1 fun p dx np nd=>?_,fun hz H' aG=>k2 (by unfold sV;rw[aN];simp[aH,hz]) H' ((cD.trans bZ).trans aG)⟩;have aG:=(cD.trans bZ).trans dh;have bY:=n3 (C:=t.rr) (fs:=[("kind",nat k),("passes",nat s),("body",eA)]) np nd;exact k1 (k,s,y) d4 _ _ (by unfold sV;rw[aN];simp[aH,aP]) (e2.oX bY) (aG.trans (hq bY _)) ⟨p,dx,eA,rfl,ew.mpr ⟨e2.up aG np,by simp,rA⟩,vw SN bY (vu SN cP (cD.trans bZ) rep)⟩
def ug(t:bW):ao->V->Rule Sw28.Sub->Prop:=fun H v r=>uf t (rI t) H v (lu r.rule,r.skip,r.rule)
theorem zF:fD (ug t):=fun _ _ _ _ s h=>Hy SN _ _ _ _ s h
def Df(rs:List (Rule Sw28.Sub))(n:Nat):Bool:=match rs[n]? with
 |some q=>(match q.rule with
  | .one _=>true
  |_=>false)
 |none=>false
def Hz(rs:List (Rule Sw28.Sub))(l:List Sw28.Around):Bool:=l.all fun a=>a.acts.all fun y=>Df rs y.2
theorem amG(rs:List (Rule Sw28.Sub)):Sw28.actsRight rs=rs.all fun r=>match r.rule with
  | .around l=>Hz rs l
  |_=>true:=rfl
theorem YW{α:Type}{l:List α}{i:Nat}{x:α}{q:α->Bool}(h:l[i]?=some x):(l.take (i+1)).all q=((l.take i).all q && q x):=by
 rw[take_snoc h,List.all_append];simp
theorem all_false{α:Type}{l:List α}{i:Nat}{x:α}{q:α->Bool}(h:l[i]?=some x)(a6:q x=false):l.all q=false:=by
 cases e:l.all q with
 |false=>rfl
 |true =>
  have:=rU.mp e x (gb h);rw[a6]at this;cases this
inductive amH(t:bW)(a b:V)(H:ao)(Q:bA)(E:cN):Prop
 |mk (l rl vs rs):zB t H a l->b=.ref rl->H rl=some (.lst vs)->Paired (ug t H) vs rs->(Hz rs l=true->Q .non H)->(Hz rs l=false->E (.ref t.jl) none H)->amH t a b H Q E
def azW(t:bW):eY:=fT (amH t)
theorem azX(T:Txt K av t):cJ P w K av base (cM P w) 2 t.Oo t.Oq ["contexts","rules"] (azW t):=by
 obtain⟨agE,Dc,Dd⟩:=T.k_EXCHANGE;refine T.Rd.cZ X_ fT.cX ?_;rintro bK A outer s H _ Q E aA ⟨cn,a1,rfl,l,rl,vs,rs,⟨x,dx,Hx,la,eA,rfl,aq,⟨hb,SQ,rfl,uc,hA⟩,_,_⟩,rfl,rJ,pr,k1,k2⟩;try simp only at k1 k2
 refine⟨_,(bk (hp (gP dJ Z) Z (gH (bQ (aj 0) Z)) (dm (i:=2) X_.nd Z (Or.inl Z)) (bk (hp (gP dJ Z) Z (gH (bQ (aj 2) Z)) (s8 Z (jM (dm (i:=3) X_.nd Z (Or.inl Z)) (jM (dm (i:=4) X_.nd Z (Or.inl Z)) r7))) (aW (et (dI (qM T) aA.bh Z T.oW T.nk.aG T.qL .nil bj (aD (nR q_ (aj 4) (hx iH Z T.hB hN (aD (aj 1) aM)) (fj _)) aM))) (bk (et (dI (qM T) aA.bh Z T.oW T.nk.aG T.qL .nil bj (aD (nR jO (bQ (eO gA (aj 1) (aj 4) (fun _ _=>Z)) Z) (gW Z Dc Dd) (fj _)) aM))))))))),?_⟩;have t_:vs.length=rs.length:=f9 pr;refine⟨_,Z,x,_,dx,_,_,Z,aq,T.tK,T.Gn,Z,hb,Z,⟨_,aT.of uc⟩,?_⟩;refine qz (xs:=SQ) (fun i σ H'=>H'=H/\(∃ s2 s3 s4,σ=[some (.ref x),some (.ref rl),s2,s3,s4])/\Hz rs (l.take i)=true) ⟨rfl,⟨_,_,_,rfl⟩,rfl⟩ (fun i σ H' _ ⟨e,_⟩=>aT.of (e▸uc)) (fun i v σ H' a0 aU=>?_) fun σ H' aU=>?_
 ·obtain⟨e,⟨s2,s3,s4,a9⟩,aX⟩:=aU;subst e a9;obtain⟨a,amI,p,eU,azY,rE,qQ,jE,rfl,aL,_,_,_,⟨aa,agL,rfl,amJ,nc⟩⟩:=mG hA a0;refine⟨_,Z,p,_,eU,_,_,Z,aL,T.sv,T.QB,Z,aa,Z,⟨_,aT.of amJ⟩,?_⟩;refine qz (xs:=agL) (fun j σ aB=>aB=H'/\(∃ s3 s4,σ=[some (.ref x),some (.ref rl),some (.ref p),s3,s4])/\((a.acts.take j).all fun y=>Df rs y.2)=true) ⟨rfl,⟨_,_,rfl⟩,rfl⟩ (fun j σ aB _ ⟨e,_⟩=>aT.of (e▸amJ)) (fun j w σ aB hw aU=>?_) fun σ aB aU=>?_
  ·obtain⟨e,⟨s3,s4,a9⟩,ak⟩:=aU;subst e a9;obtain⟨y,amK,ez,rfl,cx⟩:=mG nc hw;refine Ho cx ?_;have bad:Df rs y.2=false->E (.ref t.jl) none aB:=fun hz=>k2 (all_false amI (all_false amK hz));refine⟨_,Z,_,Z,rl,vs,Z,.inl (aT.of rJ),_,_,Z,Z,_,Z,fun h1=>?_,fun h1=>?_⟩
   ·have Aq:y.2<rs.length:=by
     have:=h3 h1;omega
    have aA:rs[y.2]?=some rs[y.2]:=dT Aq;obtain⟨u,cF,q,azZ,aHt,rfl,a6,_⟩:=za pr aA;refine⟨_,Z,_,Z,rl,vs,_,_,Z,Z,aT.of rJ,gO cF,q,_,azZ,_,_,Z,a6,T.jy,T.tL,Z,Z,_,Z,fun aC=>?_,fun aC=>?_⟩
    ·have Ar:lu rs[y.2].rule=1:=by have:=j9 aC;omega
     have bB:Df rs y.2=true:=by
      unfold Df;rw[aA];dsimp only;cases z:rs[y.2].rule<;>rw[z]at Ar<;>simp_all [lu]
     exact⟨Z,⟨_,_,Z⟩,by rw[YW amK,ak,bB];rfl⟩
    ·refine bad ?_;have Ar:lu rs[y.2].rule≠1:=by
      intro z;have:=wa aC;exact this (by rw[z];rfl)
     unfold Df;rw[aA];dsimp only;cases z:rs[y.2].rule<;>rw[z]at Ar<;>simp_all [lu]
   ·refine bad ?_;have Aq:¬ y.2<rs.length:=by
     have:=wa h1;omega
    unfold Df;rw[qZ (by omega)]
  ·obtain⟨e,⟨s3,s4,a9⟩,ak⟩:=aU;subst e a9;refine⟨Z,⟨_,_,_,Z⟩,?_⟩;rw[f9 nc,f3 (cH _)]at ak;unfold Hz at aX ⊢;rw[YW amI,aX,ak];rfl
 ·obtain⟨e,_,aX⟩:=aU;subst e;rw[f9 hA,f3 (cH _)]at aX;exact k1 aX
theorem YX{α β:Type}(f:α->β)(p:Sw28.P α):∀ (n:Nat) (t:Sw28.B),times (fun t=>(p t).map fun x=>(f x.1,x.2)) n t=(times p n t).map fun y=>(y.1.map f,y.2)
 |0,t=>rfl
 |n+1,t=>by
  simp only[times];cases h:p t with
  |none=>rfl
  |some x =>
   simp only[gf,d7,YX f p n];cases times p n x.2<;>simp
theorem amL(g n:Nat)(t:Sw28.B):times (Sw28.sub g) n t=(times (sV g) n t).map fun y=>(y.1.map fun x=>(⟨x.2.1,x.2.2⟩:Rule Sw28.Sub),y.2):=by
 rw[← YX];exact aix (fun t=>sub_eq g t) n t
theorem amM(g n:Nat)(t:Sw28.B):times (Sw28.pos g) n t=(times (sW g) n t).map fun y=>(y.1.map fun x=>(⟨x.2.1,x.2.2⟩:Rule Sw28.Pos),y.2):=by
 rw[← YX];exact aix (fun t=>pos_eq g t) n t
theorem az0{g:Nat}{t r:Sw28.B}{y:Nat×Nat×Sw28.Sub}(h:sV g t=some (y,r)):y.1=lu y.2.2:=by
 unfold sV at h;cases h1:eb 1 4 t with
 |none=>rw[h1]at h;simp at h
 |some k =>
  rw[h1]at h;simp only[d7]at h;cases aC:eb 0 7 k.2 with
  |none=>rw[aC]at h;simp at h
  |some s =>
   rw[aC]at h;simp only[d7]at h;cases bI:qd g k.1 s.2 with
   |none=>rw[bI]at h;simp at h
   |some z =>
    rw[bI]at h;simp only[gf,Option.some.injEq,Prod.mk.injEq]at h;obtain⟨rfl,_⟩:=h;have ak:=wi h1;exact(aqe (by omega) (by omega) bI).symm
theorem SX{α β amN:Type}{F:α->amN->Prop}{G:α->β->Prop}(f:β->amN)(h:∀ a b,G a b->F a (f b)):∀ {l:List α} {r:List β},Paired G l r->Paired F l (r.map f)
 |_,_,.nil=>.nil
 |_,_,.cons q t=>.cons (h _ _ q) (SX f h t)
theorem agM{α β:Type}{F G:α->β->Prop}:∀ {l:List α} {r:List β},Paired F l r->(∀ a b,b∈r->F a b->G a b)->Paired G l r
 |_,_,.nil,_=>.nil
 |_,_,.cons q t,h=>.cons (h _ _ h_ q) (agM t fun a b ak=>h a b (h2 _ ak))
theorem az1(T:Txt K av t):cJ P w K av base (cM P w) 13 t.Ot t.Ou ["reader"] (jC t (fun g=>Sw28.only Sw28.actsRight (many 0 64 (Sw28.sub g))) (hj (ug t))):=by
 obtain⟨azV,agJ,agK⟩:=T.k_LOOK_AROUND;refine T.Rf.cZ Yb fc.cX ?_;rintro bK A outer s H _ Q E aA ⟨cn,rfl,rd,rfl,ca,bs,rest,g,R,k1,k2⟩;try simp only at k1 k2
 refine⟨_,(aW (w4 (i:=1) (own:=[("k",3)]) dJ (fun _ _ z=>z) Z Yb.nd Z Z (wW Z Z Z Z) (mj Z T.jA (aD (fl (aj 0) T.dV T.jz (j6 T) aA.bh T.j4 .nil bj (aD b3 (aD b3 aM))) aM)) (gY (by rfl)) (fun _ _ _ _ _=>dm (i:=3) Yb.nd Z (Or.inl Z)) (fun _ _ _ _ _=>hy) (fun _ _ _ _ _=>(dI (azU T) aA.bh Z T.ae6 T.Rb.aG T.aw' .nil bj (aD (aj 0) aM)))) (aW (hp (gP dJ Z) Z (gH (aj 1)) (dm (i:=2) Yb.nd Z (Or.inl Z)) (bk (gj (gM jO (bQ (aj 2) Z) (gW Z agJ agK) (fj _)) (bk (et (dI (azX T) aA.bh Z T.ae7 T.Rd.aG T.axa .nil bj (aD (bQ (aj 2) Z) (aD (aj 1) aM))))) hu))) (bk (dM (aj 1))))),?_⟩;apply dZ;intros;have hA:∀ r,many 0 64 (Sw28.sub g) r=(eb 0 64 r).bind fun x=>times (Sw28.sub g) x.1 x.2:=fun r=>m64 0 _ r;refine iM R rfl (j7 R ⟨fun n r v H1 aR dr cD rep=>?_,fun hz H' aG=>k2 (by rw[gZ,hA,hz];rfl) H' aG⟩);subst rep;have lE:n<=64:=pW (hi:=64) aR;refine⟨_,Z,by omega,by omega,fun D bw=>?_⟩;refine xE (E:=E) (p:=sV g) (Rep:=uf t (rI t)) (n:=n) (Hy SN) dr (by omega) bw (fun i aB dp er cP _ o=>mH cP rfl o) (fun xs dp aB lN cP bZ rl=>?_) fun hz aB bZ=>k2 (by rw[gZ,hA,aR];simp[amL,hz]) aB (cD.trans bZ);have aF:xs.length=n:=mX _ lN;have aG:=cD.trans bZ;have az2:hj (uf t (rI t)) (bH H [] aB) (.ref D) xs:=vu (fL (Hy SN)) dr cD rl;have kinds:∀ y∈xs,y.1=lu y.2.2:=CZ (fun _ _ _=>az0) lN;obtain⟨amO,vs,e,jo,pp⟩:=az2;cases e;have YZ:Paired (ug t (bH H [] aB)) vs (xs.map fun x=>(⟨x.2.1,x.2.2⟩:Rule Sw28.Sub)):=SX (fun x:Nat×Nat×Sw28.Sub=>(⟨x.2.1,x.2.2⟩:Rule Sw28.Sub)) (fun a b h=>h) (agM (G:=fun v (y:Nat×Nat×Sw28.Sub)=>uf t (rI t) (bH H [] aB) v (lu y.2.2,y.2.1,y.2.2)) pp fun a b ak h=>by rw[← kinds b ak];exact h);generalize Y0:xs.map (fun x=>(⟨x.2.1,x.2.2⟩:Rule Sw28.Sub))=rs at YZ;have amP:times (Sw28.sub g) n r=some (rs,dp):=by rw[amL,lN,← Y0];rfl
 have rJ:rs.length=vs.length:=(f9 YZ).symm;have amQ:Paired (ug t aB) vs rs:=Paired.d8 YZ fun _ _ z=>zF _ _ _ _ hC z;have o2:=hC _ _ jo;refine⟨_,Z,D,Z,⟨_,aT.of o2⟩,?_⟩;refine qz (xs:=vs) (fun i σ H'=>H'=aB/\(∃ s2 s3,σ=[some (.ref rd),some (.ref D),s2,s3])/\((rs.take i).all fun r=>match r.rule with
  | .around l=>Hz rs l
  |_=>true)=true) ⟨rfl,⟨_,_,rfl⟩,rfl⟩ (fun i σ H' _ ⟨e,_⟩=>aT.of (e▸o2)) (fun i v σ H' a0 aU=>?_) fun σ H' aU=>?_
 ·obtain⟨e,⟨s2,s3,a9⟩,aX⟩:=aU;subst e a9;obtain⟨q,a6,p,eU,eA,rfl,aL,rb⟩:=mG amQ a0;refine⟨_,Z,p,_,eU,_,_,Z,aL,T.jy,T.tL,Z,Z,_,Z,?_⟩;refine dF (fun ak=>?_) fun ak=>?_
  ·have aN:lu q.rule=4:=by have:=j9 ak;simp at this;omega
   cases zG:q.rule with
   |one _=>rw[zG]at aN;cases aN
   |more _=>rw[zG]at aN;cases aN
   |joined _=>rw[zG]at aN;cases aN
   |around l =>
    have az3:zB t H' eA l:=by
     have:rI t H' eA q.rule:=rb;rw[zG]at this;exact this
    refine⟨_,Z,p,_,eU,_,_,Z,aL,T.jy,T.ru,Z,_,Z,_,_,Z,l,D,vs,rs,az3,Z,o2,amQ,fun bL=>⟨rfl,⟨_,_,rfl⟩,?_⟩,fun agN=>?_⟩
    ·rw[YW a6,aX,zG];simpa using bL
    ·refine k2 ?_ H' aG;rw[gZ,hA,aR];simp only[d7,amP];rw[bx];intro z;rw[amG]at z;have:=rU.mp z q (gb a6);rw[zG]at this;simp only at this;rw[agN]at this;cases this
  ·refine⟨Z,⟨_,_,Z⟩,?_⟩;have aN:lu q.rule≠4:=by
    intro z;exact ak (fw (by simp[z]))
   rw[YW a6,aX];cases zG:q.rule with
   |around l=>rw[zG]at aN;exact absurd rfl aN
   |_=>rfl
 ·obtain⟨e,⟨s2,s3,a9⟩,aX⟩:=aU;subst e a9;refine⟨_,Z,?_⟩;rw[f3 (by omega)]at aX;refine k1 rs dp _ H' ?_ cP aG ⟨D,vs,rfl,jo,YZ⟩;rw[gZ,hA,aR];simp only[d7,amP];rw[bM];rw[amG];exact aX
def Sm{α:Type}(iQ:α->Prop)(p:Sw28.P α):Prop:=∀ t x r,(∀ b∈t,b<256)->p t=some (x,r)->iQ x/\∀ b∈r,b<256
theorem Y2:Sm (fun x=>x<65536) u16:=fun t x r b_ h=>⟨alP b_ h,by
 match t,h with
 |a::b::t,h =>
  simp only[u16,Option.some.injEq,Prod.mk.injEq]at h;obtain⟨_,rfl⟩:=h;exact fun c aV=>b_ c (by simp[aV])⟩
theorem agO(g:Nat):Sm (fun x=>x<65536) (Sw28.sign g):=fun t x r b_ h=>by
 rw[sign_eq]at h;exact Y2 t x r b_ (wi h).2.2
theorem agP:Sm (fun _=>True) s16:=fun t x r b_ h=>by
 unfold s16 at h;cases h1:u16 t with
 |none=>rw[h1]at h;cases h
 |some z =>
  rw[h1]at h;simp only[gf,Option.some.injEq,Prod.mk.injEq]at h;obtain⟨_,rfl⟩:=h;exact⟨trivial,(Y2 t z.1 z.2 b_ h1).2⟩
theorem S5{α β:Type}{kN:α->Prop}{amR:β->Prop}{p:Sw28.P α}{q:Sw28.P β}(aL:Sm kN p)(a6:Sm amR q):Sm (fun x=>kN x.1/\amR x.2) (Sw28.pair p q):=fun t x r b_ h=>by
 unfold Sw28.pair at h;cases h1:p t with
 |none=>rw[h1]at h;cases h
 |some y =>
  rw[h1]at h;simp only[d7]at h;cases aC:q y.2 with
  |none=>rw[aC]at h;cases h
  |some z =>
   rw[aC]at h;simp only[gf,Option.some.injEq,Prod.mk.injEq]at h;obtain⟨rfl,rfl⟩:=h;have a:=aL t y.1 y.2 b_ h1;have b:=a6 y.2 z.1 z.2 a.2 aC;exact⟨⟨a.1,b.1⟩,b.2⟩
theorem agQ{α:Type}{iQ:α->Prop}{p:Sw28.P α}(aL:Sm iQ p):∀ {n:Nat} {t:Sw28.B} {y:List α×Sw28.B},(∀ b∈t,b<256)->times p n t=some y->∀ x∈y.1,iQ x
 |0,t,y,_,h,x,aq=>by simp only[times]at h;cases h;cases aq
 |n+1,t,y,b_,h,x,aq=>by
  simp only[times]at h;cases h1:p t with
  |none=>rw[h1]at h;simp at h
  |some z =>
   rw[h1]at h;simp only[d7]at h;have a:=aL t z.1 z.2 b_ h1;cases aC:times p n z.2 with
   |none=>rw[aC]at h;simp at h
   |some w =>
    rw[aC]at h;simp only[gf,Option.some.injEq]at h;subst h;rcases gR.mp aq with rfl|aq
    ·exact a.1
    ·exact agQ aL a.2 aC x aq
theorem az4:Sm (fun x:Nat×Int×Int=>x.1<65536) rD:=fun t x r b_ h=>by
 have:=S5 Y2 (S5 agP agP) t x r b_ h;exact⟨this.1.1,this.2⟩
abbrev k2(a b:Nat):List Key:=[bJ a,bJ b]
inductive zH{α:Type}(ka kb:α->Nat)(R:ao->V->α->Prop)(H:ao)(v:V)(x:α):Prop
 |mk (T U b):v=.ref T->H T=some (.tup [.ref U,b])->H U=some (.tup [nat (ka x),nat (kb x)])->R H b x->zH ka kb R H v x
theorem S6{α:Type}{ka kb:α->Nat}{R:ao->V->α->Prop}(m:fD R):fD (zH ka kb R):=fun _ _ _ _ s ⟨T,U,b,e,h,aC,r⟩=>⟨T,U,b,e,s _ _ h,s _ _ aC,m _ _ _ _ s r⟩
inductive S7{α:Type}(ka kb:α->Nat)(R:ao->V->α->Prop)(H:ao)(v:V)(xs:List α):Prop
 |mk (a kvs):v=.ref a->H a=some (.gF kvs)->Paired (fun(bD:List Key×V) x=>bD.1=k2 (ka x) (kb x)/\R H bD.2 x) kvs xs->S7 ka kb R H v xs
theorem amS{α:Type}{ka kb:α->Nat}{R:ao->V->α->Prop}(m:fD R):fD (S7 ka kb R):=fun _ _ _ _ s ⟨a,kvs,e,h,p⟩=>⟨a,kvs,e,s _ _ h,Paired.d8 p fun _ _ ⟨e,r⟩=>⟨e,m _ _ _ _ s r⟩⟩
theorem agR{α:Type}{ka kb:α->Nat}{R:ao->V->α->Prop}{H:ao}:∀ {vs:List V} {xs:List α},Paired (zH ka kb R H) vs xs->∃ (ps:d2) (kvs:List (List Key×V)),vs=ps.map V.ref /\
  Paired (fun p (bD:List Key×V)=>∃ a,H p=some (.tup [.ref a,bD.2])/\H a=some (.tup (bD.1.map c3))) ps kvs/\Paired (fun(bD:List Key×V) x=>bD.1=k2 (ka x) (kb x)/\R H bD.2 x) kvs xs
 |_,_,.nil=>⟨[],[],rfl,.nil,.nil⟩
 |_,_,.cons (b:=x) ⟨T,U,b,e,h,aC,r⟩ tl=>by
  obtain⟨ps,kvs,a9,u9,nT⟩:=agR tl;exact⟨T::ps,(k2 (ka x) (kb x),b)::kvs,by rw[e,a9];rfl,.cons ⟨U,h,aC⟩ u9,.cons ⟨rfl,r⟩ nT⟩
theorem amT:∀ (more kvs:List (List Key×V)),((kvs++more).map (·.1)).Nodup->qH kvs more=kvs++more
 | [],kvs,_=>by simp[qH]
 |p::r,kvs,h=>by
  show qH (putK kvs p.1 p.2) r=_;have aR:dY kvs p.1=none:=by
   cases e:dY kvs p.1 with
   |none=>rfl
   |some v =>
    have h1:=acr e;rw[oh,fU]at h;have:=(List.nodup_append.mp h).2.2 p.1 h1 p.1 h_;exact absurd rfl this
  rw[V0 _ aR,amT r]
  ·simp
  ·simpa using h
theorem amU{α:Type}{key:α->List Key}{F:(List Key×V)->α->Prop}(iR:∀ bD x,F bD x->bD.1=key x):∀ {kvs:List (List Key×V)} {xs:List α},Paired F kvs xs->kvs.map (·.1)=xs.map key
 |_,_,.nil=>rfl
 |_,_,.cons h tl=>by rw[fU,fU,iR _ _ h,amU iR tl]
theorem amV{α:Type}{ka kb:α->Nat}{R:ao->V->α->Prop}{H:ao}{kvs:List (List Key×V)}{xs:List α}(p:Paired (fun(bD:List Key×V) x=>bD.1=k2 (ka x) (kb x)/\R H bD.2 x) kvs xs)(aA:rising (xs.map fun x=>65536 * ka x+kb x)=true):qH [] kvs=kvs:=by
 refine amT kvs [] ?_;rw[I3,amU (key:=fun x=>k2 (ka x) (kb x)) (fun _ _ h=>h.1) p];have h:=aga aA;rw[I4]at h;rw[List.Nodup,I4];refine h.imp fun{x y} c0 he=>?_;injection he with bF a9
 injection a9 with a9 _
 rw[n7.mp bF,n7.mp a9]at c0;omega
theorem agS{α:Type}{ka kb:α->Nat}{R:ao->V->α->Prop}{H:ao}(a b:Nat):∀ {kvs:List (List Key×V)} {xs:List α},Paired (fun(bD:List Key×V) x=>bD.1=k2 (ka x) (kb x)/\R H bD.2 x) kvs xs ->
  (xs.find? (fun x=>decide (ka x=a) && decide (kb x=b))=none->dY kvs (k2 a b)=none)/\∀ x,xs.find? (fun x=>decide (ka x=a) && decide (kb x=b))=some x->∃ v,dY kvs (k2 a b)=some v/\R H v x
 |_,_,.nil=>⟨fun _=>rfl,fun x h=>by simp at h⟩
 |_,_,.cons (a:=bD) (b:=x) ⟨e,r⟩ tl=>by
  obtain⟨i1,i2⟩:=agS a b tl;by_cases aN:ka x=a/\kb x=b
  ·rw[kh];simp only[aN.1,aN.2,decide_true,Bool.and_self];refine⟨fun h=>(by cases h),fun y aP=>?_⟩;cases aP;exact⟨bD.2,oR (by rw[e,aN.1,aN.2]),r⟩
  ·have ak:(decide (ka x=a) && decide (kb x=b))=false:=by
    cases z:(decide (ka x=a) && decide (kb x=b))with
    |false=>rfl
    |true =>
     simp at z;exact absurd z aN
   rw[kh,ak,oT (fun z=>aN ?_)]
   ·exact⟨i1,i2⟩
   ·rw[e]at z;injection z with bF a9
    injection a9 with a9 _
    exact⟨n7.mp bF,n7.mp a9⟩
theorem az5{a b c d:Nat}(ak:b<65536)(hd:d<65536):HT.lexLt [(a:Int),(b:Int)] [(c:Int),(d:Int)]=decide (65536 * a+b<65536 * c+d):=by
 simp only[HT.lexLt];by_cases h:(a:Int)=(c:Int)
 ·rw[bM h];by_cases aC:(b:Int)=(d:Int)
  ·rw[bM aC];exact(ou (by omega)).symm
  ·rw[bx aC];exact wg.mpr (by omega)
 ·rw[bx h];exact wg.mpr (by omega)
theorem amW{t:bW}{α:Type}{ka kb:α->Nat}{H:ao}{Q:bA}{E:cN}{l:au}{us:List V}{xs:List α}(aF:H l=some (.lst us))(pu:Paired (fun u x=>∃ U,u=V.ref U/\H U=some (.tup [nat (ka x),nat (kb x)])) us xs)(ak:∀ x∈xs,kb x<65536)(hz:xs.length<=65536)
  (k1:rising (xs.map fun x=>65536 * ka x+kb x)=true->Q .non H) (k2:rising (xs.map fun x=>65536 * ka x+kb x)=false->E (.ref t.jl) none H):R5 t [.ref l] H Q E:=by
 refine alU aF (by rw[ey,f9 pu]) (by rw[f9 pu];exact hz) (fun k u w cF hw=>.inr ?_) k1 k2;obtain⟨x,aq,U,rfl,kO⟩:=mG pu cF;obtain⟨y,aP,W,rfl,Y4⟩:=mG pu hw;refine⟨U,W,[(ka x:Int),(kb x:Int)],[(ka y:Int),(kb y:Int)],Z,Z,kO,Y4,?_⟩;rw[az5 (ak x (gb aq)) (ak y (gb aP))];simp[List.getD,ek,aq,aP]
theorem amX{α:Type}{ka kb:α->Nat}{R:ao->V->α->Prop}{K':cp}{a D:au}{vs:List V}{xs:List α}{σ:St}{dB:Nat}{H:ao}{gw:ao->Prop}(aN:dB < σ.length)(aX:H a=some (.lst vs))(pp:Paired (zH ka kb R H) vs xs)(hz:vs.length<=65536)(bw:H D=none)
  (k:∀ us,Paired (fun u x=>∃ U,u=V.ref U/\H U=some (.tup [nat (ka x),nat (kb x)])) us xs->gw (upd H D (.lst us))) :
  ∃ W:Nat->Nat->ao->Prop,(∃ m,W 0 m (upd H D (.lst [])))/\∀ i m H,W i m H ->
   ((jk K' a).stop i H/\gw H)\/((jk K' a).go i H/\∃ fQ:ao->Prop,(∀ H',fQ H'->∃ dU,dU<m/\W (i+1) dU H')/\∀ x H',(jk K' a).mg i H x H'->kY dB x (wipe σ [dB]) H' fun dW aB=>wipe dW [dB]=wipe σ [dB]/\se dW aB fun b aJ =>
    if b=true then(wN (J1 K') (gh dB) (uX (.int 0))) dW aJ fun y bC=>∃ acc,bC D=some (.lst acc)/\acc.length<sizeLine/\fQ (upd bC D (.lst (acc++[y])))else fQ aJ):=by
 obtain⟨us,Y5,u9,nT⟩:∃ us:List V,us.length=vs.length/\Paired (fun u x=>∃ U,u=V.ref U/\H U=some (.tup [nat (ka x),nat (kb x)])) us xs/\∀ (i:Nat) (v u:V),vs[i]?=some v->us[i]?=some u->∃ T b,v=V.ref T/\H T=some (.tup [u,b]):=by
  clear hz aX k;induction pp with
  |nil=>exact⟨[],Z,.nil,fun i v u h=>by simp at h⟩
  |cons h tl bV =>
   obtain⟨us,bF,a9,dw⟩:=bV;obtain⟨T,U,b,rfl,h1,aC,_⟩:=h;refine⟨.ref U::us,by simp[bF],.cons ⟨U,rfl,aC⟩ a9,fun i v u a0 cF=>?_⟩;cases i with
   |zero =>
    simp at a0 cF;subst a0 cF;exact⟨T,b,Z,h1⟩
   |succ i=>exact dw i v u (by simpa using a0) (by simpa using cF)
 refine n5 us Y5 (aT.of aX) hz bw (fun i v y H' er a0 aP aH q=>?_) (k us u9);obtain⟨T,b,rfl,cx⟩:=nT i v y a0 aP;exact⟨_,by simp[wipe,aN],T,_,0,y,Z,Z,fO.of (aH _ _ cx),Z,q⟩
def S8:ao->V->List (Nat×Nat×Int)->Prop:=S7 (fun y=>y.1) (fun y=>y.2.1) fun H v y=>y5 H v y.2.2
theorem az6:fD S8:=amS fun _ _ _ _ s h=>alK _ _ _ _ s h
theorem az7(T:Txt K av t):cJ P w K av base (cM P w) 6 t.O' t.Pa ["reader"] (jC t pPairs S8):=by
 refine T.Rp.cZ Cu fc.cX ?_;rintro bK A outer s H _ Q E aA ⟨cn,rfl,rd,rfl,ca,bs,rest,g,R,k1,k2⟩;try simp only at k1 k2
 refine⟨_,(aW (ct (i:=1) Cu.nd Z (Or.inl Z) (hc aM)) (aW (hp (gP dJ Z) Z (mj Z T.jA (aD (fl (aj 0) T.dV T.jz (j6 T) aA.bh T.j4 .nil bj (aD b3 (aD b3 aM))) aM)) (dm (i:=2) Cu.nd Z (Or.inl Z)) (aW (ct (i:=3) Cu.nd Z (Or.inl Z) (gv (aj 0) T.dV T.rv (tZ T) aA.bh T.tR .nil bj)) (aW (ct (i:=4) Cu.nd Z (Or.inl Z) (gv (aj 0) T.dV T.rv (tZ T) aA.bh T.tR .nil bj)) (bk (et (mA lW pn pq pQ (aj 1) (aD (sa (aD (sa (aD (aj 3) (aD (aj 4) aM))) (aD (gv (aj 0) T.dV T.yS (Hf T) aA.bh T.GK .nil bj) aM))) aM))))))) (aW (et (dI (xG T) aA.bh Z T.tQ T.rx.aG T.xg .nil bj (aD (iI (own:=[("pair",5)]) dJ (fun _ _ z=>z) Z Cu.nd (gH (aj 1)) (gY (by rfl)) (fun _ _ _ _ _=>dm (i:=5) Cu.nd Z (Or.inl Z)) (fun _ _ _ _ _=>hy) (fun _ _ _ _ _=>(eO (Cw (K':=K) Z) (aj 5) b3 (fun _ _=>Z)))) aM))) (bk (dM (ra (ak3 Z (alA aA)) Z T.yX G8 (aD (aj 1) aM))))))),?_⟩;apply hH;intros;refine⟨eZ _,fun L dc=>?_⟩;have dr:ef t (upd H L (.lst [])) rd ca bs rest g:=R.new dc;refine iM dr rfl (j7 dr ⟨fun n r v aB aR cP bZ rep=>?_,fun aR H' aG=>k2 (Yq aR) H' ((bf.iZ dc).trans aG)⟩);subst rep;have lE:n<=1024:=pW (hi:=1024) aR;have jT:bf [rd] H aB:=(bf.iZ dc).trans bZ;have i_:L≠rd:=fun e=>R.dom (e▸dc);have nr:aB L=some (.lst []):=bZ _ _ (by simp[i_]) a8;have amY:fD (fun H v (y:Nat×Nat×Int)=>y5 H v y.2.2):=fun _ _ _ _ s h=>alK _ _ _ _ s h;refine⟨_,Z,by omega,by omega,?_⟩;refine tg (n:=n) (lo:=0) (fun i σ aJ=>(∃ s2 s3 s4 s5,σ=[some (.ref rd),some (.ref L),s2,s3,s4,s5])/\Many t (Sw28.pair (Sw28.sign g) (Sw28.pair (Sw28.sign g) s16)) (zH (fun y=>y.1) (fun y=>y.2.1) fun H v y=>y5 H v y.2.2) H rd ca L bs r g i aJ) ⟨⟨_,_,_,_,rfl⟩,.start cP jT nr⟩ (fun i σ aJ hi aU=>?_) fun σ aJ aU=>?_
 ·obtain⟨⟨s2,s3,s4,s5,e⟩,m⟩:=aU;subst e;obtain⟨xs,d4,vs,h1,e2,dh,jD,pp⟩:=m;have stop:Sw28.pair (Sw28.sign g) (Sw28.pair (Sw28.sign g) s16) d4=none->∀ H',bf [rd] aJ H'->E (.ref t.jl) none H':=fun hz H' aG=>k2 (Yr aR (x9 _ h1 hz n hi)) H' (dh.trans aG);refine hW e2 rfl ⟨fun x jN v bC aq gs dG rep=>?_,fun hz H' aG=>stop (n6 hz) H' aG⟩;subst rep;refine hW gs rfl ⟨fun y m5 v b2 aP iy fX rep=>?_,fun hz H' aG=>stop (kJ aq (n6 hz)) H' (dG.trans aG)⟩;subst rep;have amZ:b2 L=some (.lst vs):=fX _ _ (by simp[i_]) (dG _ _ (by simp[i_]) jD);refine⟨_,Z,.inl ⟨Z,_,aT.of amZ⟩,_,Z,_,Z,tX,fun U kO=>?_⟩;have o1:ef t (upd b2 U (.tup [nat x,nat y])) rd ca bs m5 g:=iy.new kO;have az8:(upd b2 U (.tup [nat x,nat y])) U=some (.tup [nat x,nat y]):=a8;have nx:bf [rd] aJ (upd b2 U (.tup [nat x,nat y])):=(dG.trans fX).jm kO;have az9:U≠rd:=fun e=>iy.dom (e▸kO);have az_:U≠L:=(bR amZ kO).symm;have am0:H U=none:=iy.up (dh.trans (dG.trans fX)) kO;generalize upd b2 U (.tup [nat x,nat y])=eN at *;refine hW o1 rfl ⟨fun d yt v dD hd nC nD rep=>?_,fun hz H' aG=>stop (kJ aq (kJ aP hz)) H' (nx.trans aG)⟩;refine⟨tX,fun ez cx=>?_⟩;have zJ:=nx.trans nD;have S9:dD L=some (.lst vs):=zJ _ _ (by simp[i_]) jD;have am1:dD U=some (.tup [nat x,nat y]):=nD _ _ (by simp[az9]) az8;have CG:ez≠L:=(bR S9 cx).symm;have Yn:H ez=none:=nC.up (dh.trans zJ) cx;obtain⟨az',aAa⟩:=Many.next (p:=Sw28.pair (Sw28.sign g) (Sw28.pair (Sw28.sign g) s16)) (x:=(x,y,d)) (v:=.ref ez) (S6 amY) R.dom R.sA dc h1 dh jD pp (oY aq (oY aP hd)) (nC.new (L:=ez) (o:=.tup [.ref U,v]) cx) (zJ.jm cx)
   ⟨ez,U,v,rfl,ew.mpr ⟨Yn,by simp[CG],a8⟩,ew.mpr ⟨am0,by simp[az_],by rw[a7 (bR am1 cx)];exact am1⟩,rep⟩
  refine⟨L,vs,_,Z,Z,az',?_,⟨_,_,_,_,Z⟩,aAa⟩;have aF:=mX _ h1;rw[f9 pp];exact jR (by simp at aF;omega)
 ·obtain⟨⟨s2,s3,s4,s5,e⟩,m⟩:=aU;subst e;obtain⟨xs,d4,vs,h1,e2,dh,jD,pp⟩:=m;have hlen:xs.length=n:=mX _ h1;have bY:=agQ (S5 (agO g) (S5 (agO g) agP)) cP.small h1;have agd:Paired (zH (fun y=>y.1) (fun y=>y.2.1) (fun H v y=>y5 H v y.2.2) aJ) vs xs:=Paired.d8 pp fun _ _ q=>S6 amY _ _ _ _ hC q;have t_:vs.length<=65536:=by rw[f9 pp];omega
  refine⟨_,Z,L,Z,⟨_,aT.of jD⟩,fun Y ix=>amX (by simp) jD agd t_ ix fun us pu=>?_⟩;have s4:aQ aJ (upd aJ Y (.lst us)):=ei (aQ.refl _) ix;have aAb:(upd aJ Y (.lst us)) Y=some (.lst us):=a8;have gs:ef t (upd aJ Y (.lst us)) rd ca bs d4 g:=e2.oX s4;have dG:bf [rd] H (upd aJ Y (.lst us)):=dh.trans (hq s4 _);generalize upd aJ Y (.lst us)=bC at *;refine amW aAb (Paired.d8 pu fun _ _ ⟨U,e,h⟩=>⟨U,e,s4 _ _ h⟩) (fun x aq=>(bY x aq).2.1) (by omega) (fun aA=>?_) fun aA=>k2 (Yt (key:=fun y:Nat×Nat×Int=>65536 * y.1+y.2.1) aR h1 aA) bC dG;obtain⟨ps,kvs,e,bU,cB⟩:=agR pp;subst e;have aHu:aQ (bH H [L] aJ) (bH H [L] bC):=jB (M:=[]) (hq s4 []) (by simp);refine⟨_,Z,L,ps,kvs,Z,aT.of (s4 _ _ jD),Paired.d8 bU fun _ _ ⟨a,gn,eH⟩=>⟨a,fO.of (s4 _ _ (hC _ _ gn)),s4 _ _ (hC _ _ eH)⟩,fun d hd=>?_⟩;have Hh:H d=none:=gs.up dG hd;have zu:aQ (bH H [L] bC) (bH H [] (upd bC d (.gF (qH [] kvs)))):=(jB (M:=[]) (bf.iZ hd) (by simp)).trans (y2 (by simp));refine k1 xs d4 _ _ (Ys (key:=fun y:Nat×Nat×Int=>65536 * y.1+y.2.1) aR h1 aA) (gs.new hd) (dG.jm hd) ⟨d,kvs,rfl,ew.mpr ⟨Hh,by simp,?_⟩,Paired.d8 cB fun _ _ ⟨gn,eH⟩=>⟨gn,eH⟩⟩;rw[a8,amV (ka:=fun y:Nat×Nat×Int=>y.1) (kb:=fun y=>y.2.1) (R:=fun H v y=>y5 H v y.2.2) (H:=bH H [L] aJ) cB aA]
theorem aAc{β:Type}{Rep:ao->V->β->Prop}{K':cp}{a D:au}{xs:List V}{te:TE}{σ:St}{i1 i2:Nat}{H:ao}{gw:ao->Prop}(mono:fD Rep)(bO:List β)(aP:bO.length=xs.length)(aX:aT K' H a xs)(hz:xs.length<=65536)(bw:H D=none)
  (hw:∀ x y,wipe (((wipe σ [i1,i2]).set i1 (some x)).set i2 (some y)) [i1,i2]=wipe σ [i1,i2])
  (rB:∀ (i:Nat) v y H' (er:bA),xs[i]?=some v->bO[i]?=some y->aQ H H'->H' D≠none->(∀ v lO,aQ H' lO->Rep (bH fB [D] lO) v y->er v lO)->∃ T x1 iG,v=.ref T/\H' T=some (.tup [x1,iG])/\te (((wipe σ [i1,i2]).set i1 (some x1)).set i2 (some iG)) H' er)
  (k:∀ H' ws,aQ H H'->H' D=some (.lst ws)->Paired (Rep (bH fB [D] H')) ws bO->gw H') :
  ∃ W:Nat->Nat->ao->Prop,(∃ m,W 0 m (upd H D (.lst [])))/\∀ i m H,W i m H ->
   ((jk K' a).stop i H/\gw H)\/((jk K' a).go i H/\∃ fQ:ao->Prop,(∀ H',fQ H'->∃ dU,dU<m/\W (i+1) dU H')/\∀ x H',(jk K' a).mg i H x H'->g2 K' i1 i2 x (wipe σ [i1,i2]) H' fun dW aB=>wipe dW [i1,i2]=wipe σ [i1,i2]/\se dW aB fun b aJ =>
    if b=true then te dW aJ fun y bC=>∃ acc,bC D=some (.lst acc)/\acc.length<sizeLine/\fQ (upd bC D (.lst (acc++[y])))else fQ aJ):=by
 refine ab6 (xs:=xs) (gw:=gw) (fun i aB=>aQ H aB/\∃ ws,aB D=some (.lst ws)/\Paired (Rep (bH fB [D] aB)) ws (bO.take i)) ⟨ei (aQ.refl _) bw,[],a8,.nil⟩ (fun i aB _ ⟨s,_⟩=>s.seq aX) (fun i x aB aq aU=>?_) fun aB aU=>?_
 ·obtain⟨s2,ws,jF,jU⟩:=aU;have hi:i<bO.length:=by rw[aP];exact(eF.mp aq).1
  have Sp:bO[i]?=some bO[i]:=dT hi;obtain⟨T,x1,iG,rfl,cx,q⟩:=rB i x bO[i] aB (fun y bC=>∃ acc,bC D=some (.lst acc)/\acc.length<sizeLine/\(aQ H (upd bC D (.lst (acc++[y])))/\∃ ws,(upd bC D (.lst (acc++[y]))) D=some (.lst ws)/\Paired (Rep (bH fB [D] (upd bC D (.lst (acc++[y]))))) ws (bO.take (i+1)))) aq Sp s2 (j5 jF) fun v aJ s3 rep=>by
   refine⟨ws,s3 _ _ jF,?_,ei (s2.trans s3) bw,_,a8,?_⟩
   ·have:ws.length<=i:=by rw[f9 jU,g4];omega
    exact jR (by omega)
   ·have bG:∀ b2,aQ b2 aJ->aQ (bH fB [D] b2) (bH fB [D] (upd aJ D (.lst (ws++[v])))):=fun b2 s5=>y1 fun b o a1 a2 a3=>⟨a1,a2,by rw[a7 (by simpa using a2)];exact s5 _ _ a3⟩
    rw[take_snoc Sp];exact G_ (Paired.d8 jU fun _ _ z=>mono _ _ _ _ (bG aB s3) z) (mono _ _ _ _ (bG aJ (aQ.refl _)) rep)
  exact Ho cx ⟨hw _ _,R4 q⟩
 ·obtain⟨s2,ws,jF,jU⟩:=aU;rw[← aP,f3 (cH _)]at jU;exact k aB ws s2 jF jU
def vJ(y:Nat×Nat×Int×Int):Anchor:=⟨y.1,y.2.1,y.2.2.1,y.2.2.2⟩
theorem aAd(g n:Nat)(t:Sw28.B):times (Sw28.anchor g) n t=(times (Sw28.pair (Sw28.sign g) rD) n t).map fun y=>(y.1.map vJ,y.2):=by
 rw[← YX];rfl
theorem am2(g:Nat)(t:Sw28.B):many 1 1024 (Sw28.anchor g) t=(many 1 1024 (Sw28.pair (Sw28.sign g) rD) t).map fun y=>(y.1.map vJ,y.2):=by
 rw[zc,zc];cases eb 1 1024 t with
 |none=>rfl
 |some x=>exact aAd g x.1 x.2
def xO(t:bW):ao->V->Anchor->Prop:=fun H v a=>rC t H v (a.cls,a.x,a.y)
theorem am3:fD (xO t):=fun _ _ _ _ s h=>Hj _ _ _ _ s h
inductive zK(t:bW)(H:ao)(v:V)(y:List Anchor×List Anchor):Prop
 |mk (p dx S_ eA):v=.ref p->H p=some (.ins t.rt dx [("marks",S_),("bases",eA)])->xH (fun a=>bJ a.sign) (xO t) H S_ y.1->S7 (fun a=>a.sign) (fun a=>a.cls) (xO t) H eA y.2->zK t H v y
theorem am4:fD (zK t):=fun _ _ _ _ s ⟨p,dx,S_,eA,e,h,h1,aC⟩=>⟨p,dx,S_,eA,e,s _ _ h,R7 am3 _ _ _ _ s h1,amS am3 _ _ _ _ s aC⟩
theorem agT{g:Nat}{r:Sw28.B}:Ja g r=(many 1 1024 (Sw28.pair (Sw28.sign g) rD) r).bind fun y=>if rising (y.1.map fun z=>z.1)=true then some (y.1.map vJ,y.2)else none:=by
 unfold Ja;rw[gZ,am2];cases many 1 1024 (Sw28.pair (Sw28.sign g) rD) r with
 |none=>rfl
 |some y =>
  simp only[gf,d7,kj];rfl
theorem agU{g:Nat}{r:Sw28.B}:Jb g r=(many 1 1024 (Sw28.pair (Sw28.sign g) rD) r).bind fun y=>if rising (y.1.map fun z=>65536 * z.1+z.2.1)=true then some (y.1.map vJ,y.2)else none:=by
 unfold Jb;rw[gZ,am2];cases many 1 1024 (Sw28.pair (Sw28.sign g) rD) r with
 |none=>rfl
 |some y =>
  simp only[gf,d7,kj];rfl
theorem aAe{α:Type}{iQ:α->Prop}{p:Sw28.P α}(aL:Sm iQ p){lo hi:Nat}{t:Sw28.B}{y:List α×Sw28.B}(b_:∀ b∈t,b<256)(h:many lo hi p t=some y):∀ x∈y.1,iQ x:=by
 rw[ov]at h;cases h1:eb lo hi t with
 |none=>rw[h1]at h;simp at h
 |some z =>
  rw[h1]at h;exact agQ aL ((Y2 t z.1 z.2 b_ (wi h1).2.2).2) h
theorem aAf(T:Txt K av t):cJ P w K av base (cM P w) 7 t.Pk t.Pn ["reader"] (jC t Jc (zK t)):=by
 refine T.Rr.cZ xv fc.cX ?_;rintro bK A outer s H _ Q E aA ⟨cn,rfl,rd,rfl,ca,bs,rest,g,R,k1,k2⟩;try simp only at k1 k2
 refine⟨_,(aW (ct (i:=1) xv.nd Z (Or.inl Z) (dI (al1 T) aA.bh Z T.XP T.Gy.aG T.ale .nil bj (aD (aj 0) aM))) (aW (et (dI (xG T) aA.bh Z T.tQ T.rx.aG T.xg .nil bj (aD (iI (own:=[("pair",3)]) dJ (fun _ _ z=>z) Z xv.nd (gH (aj 1)) (gY (by rfl)) (fun _ _ _ _ _=>dm (i:=3) xv.nd Z (Or.inl Z)) (fun _ _ _ _ _=>hy) (fun _ _ _ _ _=>(eO (Cw (K':=K) Z) (aj 3) b3 (fun _ _=>Z)))) aM))) (aW (w4 (i:=2) (own:=[("sign",4),("anchor",5)]) dJ (fun _ _ z=>z) Z xv.nd Z Z (wW Z Z Z Z) (gH (dI (al1 T) aA.bh Z T.XP T.Gy.aG T.ale .nil bj (aD (aj 0) aM))) (gY (by rfl)) (fun _ _ _ _ _=>alB (K':=K) (n:=2) Z Z (jM (dm (i:=4) xv.nd Z (Or.inl Z)) (jM (dm (i:=5) xv.nd Z (Or.inl Z)) r7))) (fun _ _ _ _ _=>hy) (fun _ _ _ _ _=>(sa (aD (sa (aD (aj 4) (aD (rz (K':=K) Z (aj 5) Z) aM))) (aD (aj 5) aM))))) (aW (et (dI (xG T) aA.bh Z T.tQ T.rx.aG T.xg .nil bj (aD (iI (own:=[("pair",3)]) dJ (fun _ _ z=>z) Z xv.nd (gH (aj 2)) (gY (by rfl)) (fun _ _ _ _ _=>dm (i:=3) xv.nd Z (Or.inl Z)) (fun _ _ _ _ _=>hy) (fun _ _ _ _ _=>(eO (Cw (K':=K) Z) (aj 3) b3 (fun _ _=>Z)))) aM))) (bk (dM (qD T.aeG (ayo T) aA.bh Z T.aeF T.awP .nil bj (aD (ra (V4 Z) Z T.yX G8 (aD (aj 1) aM)) (aD (ra (ak3 Z (alA aA)) Z T.yX G8 (aD (aj 2) aM)) aM))))))))),?_⟩;apply mc;intros;refine mH R rfl ⟨fun ms cI v H1 agV dr cD rep=>?_,fun hz H' aG=>k2 (n6 (by rw[agT,hz];rfl)) H' aG⟩;obtain⟨ma,am5,rfl,Dg,pm⟩:=rep;have Ex:=(wh agV).2;have aHv:am5.length=ms.length:=f9 pm;have aHw:ms.length<=1024:=Ex;have Y6:fD (fun H v (y:Nat×Nat×Int×Int)=>rC t H v y.2):=fun _ _ _ _ s h=>Hj _ _ _ _ s h;refine⟨_,Z,ma,Z,⟨_,aT.of (hC _ _ Dg)⟩,fun Y ix=>alX (by show 3<6;decide) (hC _ _ Dg) (Paired.d8 pm fun _ _ q=>Cz Y6 _ _ _ _ hC q) (by omega) ix ?_⟩;have bO:(upd H1 Y (.lst (ms.map fun x=>c3 (bJ x.1)))) Y=some (.lst ((ms.map fun x=>x.1).map nat)):=by
  rw[a8,kj];rfl
 have s2:aQ H1 (upd H1 Y (.lst (ms.map fun x=>c3 (bJ x.1)))):=ei (aQ.refl _) ix;generalize upd H1 Y (.lst (ms.map fun x=>c3 (bJ x.1)))=aB at *;have cP:=dr.oX s2;have bZ:bf [rd] H aB:=cD.trans (hq s2 _);refine R6 bO (by simp;omega) (fun hk=>?_) fun hk=>k2 (n6 (by rw[agT,agV];simp[hk])) aB bZ;have zL:Ja g rest=some (ms.map vJ,cI):=by rw[agT,agV];simp[hk]
 have aAg:agg t (bH H [] aB) (.ref ma) ms:=vw (fL (Cz Y6)) s2 ⟨ma,am5,rfl,Dg,pm⟩;clear pm Dg s2 bO;refine mH cP rfl ⟨fun bb d4 v aJ sE e2 dh rep=>?_,fun hz H' aG=>k2 (kJ zL (by rw[agU,hz];rfl)) H' (bZ.trans aG)⟩;obtain⟨ba,vD,rfl,CP,pb⟩:=rep;have aHx:bb.length<=1024:=(wh sE).2;have aAh:vD.length=bb.length:=f9 pb;have Y7:=bZ.trans dh;refine⟨ba,Z,⟨_,aT.of (hC _ _ CP)⟩,fun D bw=>?_⟩;have Yz:H D=none:=e2.up Y7 bw;have mN:fD (fun(G:ao) v (y:Nat×Nat×Int×Int)=>∃ p eU,v=V.ref p/\G p=some (.ins t.qK eU [("mark_class",nat y.2.1),("right",.int y.2.2.1),("up",.int y.2.2.2)])/\H p=none):=fun _ _ _ _ s ⟨p,eU,e,z,w⟩=>⟨p,eU,e,s _ _ z,w⟩;refine aAc (Rep:=zH (fun y=>y.1) (fun y=>y.2.1) (fun(G:ao) v (y:Nat×Nat×Int×Int)=>∃ p eU,v=V.ref p/\G p=some (.ins t.qK eU [("mark_class",nat y.2.1),("right",.int y.2.2.1),("up",.int y.2.2.2)])/\H p=none)) (S6 mN) bb aAh.symm (aT.of (hC _ _ CP)) (by omega) bw (fun _ _=>rfl) (fun i v y bC er a0 aP s4 Hr kq=>?_) fun bC ws s4 jF jU=>?_
 ·obtain⟨y',Yo,ez,b,rfl,cx,cv⟩:=mG pb a0;rw[aP]at Yo;cases Yo;obtain⟨p,eU,rfl,aL⟩:=id cv;have HB:bC ez=some (.tup [nat y.1,.ref p]):=s4 _ _ (hC _ _ cx);have ud:=s4 _ _ (hC _ _ aL);refine⟨ez,nat y.1,.ref p,Z,HB,?_⟩;refine⟨_,Z,_,Z,p,_,eU,_,_,Z,ud,T.tM,T.QS,Z,tX,fun U kO=>?_⟩;refine⟨_,Z,tX,fun q a6=>?_⟩;have am6:(upd bC U (.tup [nat y.1,nat y.2.1])) U=some (.tup [nat y.1,nat y.2.1]):=a8;have Tc:aQ bC (upd bC U (.tup [nat y.1,nat y.2.1])):=ei (aQ.refl _) kO;have am0:H U=none:=e2.up Y7 (s4.free kO);have aAi:U≠D:=fun e=>Hr (e▸kO);generalize upd bC U (.tup [nat y.1,nat y.2.1])=b2 at *;have agx:H q=none:=e2.up Y7 (s4.free (Tc.free a6));have agq:q≠D:=fun e=>Hr (e▸Tc.free a6);refine kq _ _ (Tc.trans (ei (aQ.refl _) a6)) ⟨q,U,.ref p,rfl,n8.mpr ⟨by simp[agq],a8⟩,n8.mpr ⟨by simp[aAi],by rw[a7 (bR am6 a6)];exact am6⟩,p,eU,rfl,n8.mpr ⟨?_,?_⟩,cP.up bZ (ew.mp aL).1⟩
  ·simp only[g5];exact bR (hC _ _ aL) bw
  ·rw[a7 (bR (Tc _ _ ud) a6)];exact Tc _ _ ud
 have gs:=e2.oX s4;have dG:bf [rd] H bC:=Y7.trans (hq s4 _);have bY:=aAe (S5 (agO g) az4) cP.small sE;have am7:Paired (zH (fun y=>y.1) (fun y=>y.2.1) (fun(G:ao) v (y:Nat×Nat×Int×Int)=>∃ p eU,v=V.ref p/\G p=some (.ins t.qK eU [("mark_class",nat y.2.1),("right",.int y.2.2.1),("up",.int y.2.2.2)])/\H p=none) bC) ws bb:=Paired.d8 jU fun _ _ z=>S6 mN _ _ _ _ hC z;have lC:ws.length=bb.length:=f9 jU;refine⟨_,Z,D,Z,⟨_,aT.of jF⟩,fun Y8 am8=>amX (by show 3<6;decide) jF am7 (by omega) am8 fun us pu=>?_⟩;have s5:aQ bC (upd bC Y8 (.lst us)):=ei (aQ.refl _) am8;have aAj:(upd bC Y8 (.lst us)) Y8=some (.lst us):=a8;generalize upd bC Y8 (.lst us)=b2 at *;have iy:=gs.oX s5;have fX:bf [rd] H b2:=dG.trans (hq s5 _);refine amW aAj (Paired.d8 pu fun _ _ ⟨U,e,h⟩=>⟨U,e,s5 _ _ h⟩) (fun x aq=>(bY x aq).2) (by omega) (fun zM=>?_) fun zM=>k2 (kJ zL (by rw[agU,sE];simp[zM])) b2 fX;have lK:Jb g cI=some (bb.map vJ,d4):=by rw[agU,sE];simp[zM]
 have aAk:agg t (bH H [] b2) (.ref ma) ms:=vw (fL (Cz Y6)) (s4.trans s5) (R9 (fL (Cz Y6)) R.dom dh aAg);obtain⟨aHy,aHz,e,aAl,aAm⟩:=aAk;cases e;obtain⟨ps,kvs,e,bU,cB⟩:=af' aAm;subst e;refine⟨_,Z,ma,ps,kvs,Z,aT.of (hC _ _ aAl),Paired.d8 bU fun _ _ z=>fO.of (hC _ _ z),fun qT Aw=>?_⟩;rw[agb (key:=fun y:Nat×Nat×Int×Int=>y.1) (R:=fun H v (y:Nat×Nat×Int×Int)=>rC t H v y.2) (H:=bH H [] b2) cB hk];have cV:aQ b2 (upd b2 qT (.dX kvs)):=ei (aQ.refl _) Aw;have aAn:(upd b2 qT (.dX kvs)) qT=some (.dX kvs):=a8;have adm:H qT=none:=iy.up fX Aw;generalize upd b2 qT (.dX kvs)=eN at *;have Ht:=s5.trans cV;have aAo:=Paired.d8 am7 fun _ _ z=>S6 mN _ _ _ _ Ht z;obtain⟨ps2,HD,e,dZ,hH⟩:=agR aAo;subst e;refine⟨_,Z,D,ps2,HD,Z,aT.of (Ht _ _ jF),Paired.d8 dZ fun _ _ ⟨a,gn,eH⟩=>⟨a,fO.of gn,eH⟩,fun db m'=>?_⟩;rw[amV (ka:=fun y:Nat×Nat×Int×Int=>y.1) (kb:=fun y=>y.2.1) (R:=fun(G:ao) v (y:Nat×Nat×Int×Int)=>∃ p eU,v=V.ref p/\G p=some (.ins t.qK eU [("mark_class",nat y.2.1),("right",.int y.2.2.1),("up",.int y.2.2.2)])/\H p=none) (H:=eN) hH zM];have fy:aQ eN (upd eN db (.gF HD)):=ei (aQ.refl _) m';have aAp:(upd eN db (.gF HD)) db=some (.gF HD):=a8;have o1:=iy.oX cV;have nx:bf [rd] H eN:=fX.trans (hq cV _);have aAq:H db=none:=o1.up nx m';generalize upd eN db (.gF HD)=dD at *;have nC:=o1.oX fy;have nD:bf [rd] H dD:=nx.trans (hq fy _);refine af3 fun p dx np nd=>?_;have kG:=n3 (C:=t.rt) (fs:=[("marks",.ref qT),("bases",.ref db)]) np nd;have rK:aQ eN (iK dD p dx t.rt [("marks",.ref qT),("bases",.ref db)]):=fy.trans kG;have aAr:H p=none:=nC.up nD np;refine k1 (ms.map vJ,bb.map vJ) d4 _ _ (oY zL lK) (nC.oX kG) (nD.trans (hq kG _)) ⟨p,dx,.ref qT,.ref db,rfl,ew.mpr ⟨aAr,by simp,rA⟩,⟨qT,kvs,rfl,ew.mpr ⟨adm,by simp,rK _ _ aAn⟩,?_⟩,⟨db,HD,rfl,ew.mpr ⟨aAq,by simp,kG _ _ aAp⟩,?_⟩⟩
 ·exact SX vJ (fun a b h=>h) (Paired.d8 (G:=fun(bD:Key×V) (x:Nat×Nat×Int×Int)=>bD.1=bJ x.1/\rC t (bH H [] (iK dD p dx t.rt [("marks",.ref qT),("bases",.ref db)])) bD.2 x.2) cB fun _ _ ⟨gn,eH⟩=>⟨gn,vw Hj (cV.trans rK) eH⟩)
 ·exact SX vJ (fun a b h=>h) (Paired.d8 (G:=fun(bD:List Key×V) (x:Nat×Nat×Int×Int)=>bD.1=Sg.k2 x.1 x.2.1/\rC t (bH H [] (iK dD p dx t.rt [("marks",.ref qT),("bases",.ref db)])) bD.2 x.2) hH fun _ _ ⟨gn,p',eU,e,eH,ni⟩=>⟨gn,p',eU,e,ew.mpr ⟨ni,by simp,rK _ _ eH⟩⟩)
def vK(t:bW):ao->V->Sw28.Pos->Prop:=fun H v s=>match s with
 | .one l=>R_ t H v l
 | .pair l=>S8 H v l
 | .onBase m b=>zK t H v (m,b)
 | .onMark m b=>zK t H v (m,b)
theorem Td:fD (vK t):=fun H H' v x s h=>match x,h with
 | .one _,h=>ayI _ _ _ _ s h
 | .pair _,h=>az6 _ _ _ _ s h
 | .onBase _ _,h=>am4 _ _ _ _ s h
 | .onMark _ _,h=>am4 _ _ _ _ s h
inductive am9(t:bW)(a b:V)(H:ao)(Q:bA)(E:cN):Prop
 |mk (rd k):a=.ref rd->b=nat k->1<=k->k<=4->ry t (fun g=>qe g k) (vK t) H rd Q E->am9 t a b H Q E
def aAs(t:bW):eY:=fT (am9 t)
theorem aAt(T:Txt K av t):cJ P w K av base (cM P w) 8 t.Pq t.Pr ["reader","kind"] (aAs t):=by
 obtain⟨am_,Te,Tf⟩:=T.k_MOVE;obtain⟨aAu,agW,agX⟩:=T.k_PAIR;refine T.Rt.cZ ax6 fT.cX ?_;rintro bK A outer s H _ Q E aA ⟨cn,a1,rfl,rd,k,rfl,rfl,h1,dz,ca,bs,rest,g,R,k1,k2⟩;try simp only at k1 k2
 refine⟨_,(aW (gj (gM jO (aj 1) (gW Z Te Tf) (fj _)) (bk (dM (dI (ayJ T) aA.bh Z T.afe T.Ro.aG T.axj .nil bj (aD (aj 0) aM)))) hu) (aW (gj (gM jO (aj 1) (gW Z agW agX) (fj _)) (bk (dM (dI (az7 T) aA.bh Z T.afg T.Rp.aG T.axk .nil bj (aD (aj 0) aM)))) hu) (bk (dM (dI (aAf T) aA.bh Z T.afi T.Rr.aG T.axm .nil bj (aD (aj 0) aM)))))),?_⟩;apply dZ;intros;refine⟨_,Z,Z,_,Z,dF (fun ak=>?_) fun ak=>?_⟩
 ·have e:k=1:=by have:=j9 ak;omega
  subst e;exact mH R rfl ⟨fun x r v H' aq k7 aG rep=>k1 (.one x) r v H' (by simp[qe,d8,aq]) k7 aG rep,fun hz H' aG=>k2 (by simp[qe,d8,hz]) H' aG⟩
 have n1:k≠1:=by have:=C_ ak;omega
 refine⟨_,Z,Z,_,Z,dF (fun ak=>?_) fun ak=>?_⟩
 ·have e:k=2:=by have:=j9 ak;omega
  subst e;exact mH R rfl ⟨fun x r v H' aq k7 aG rep=>k1 (.pair x) r v H' (by simp[qe,d8,aq]) k7 aG rep,fun hz H' aG=>k2 (by simp[qe,d8,hz]) H' aG⟩
 have n2:k≠2:=by have:=C_ ak;omega
 refine mH R rfl ⟨fun x r v H' aq k7 aG rep=>?_,fun hz H' aG=>?_⟩
 ·by_cases bI:k=3
  ·subst bI;exact k1 (.onBase x.1 x.2) r v H' (by simp[qe,d8,aq]) k7 aG rep
  ·exact k1 (.onMark x.1 x.2) r v H' (by simp[qe,d8,aq,n1,n2,bI]) k7 aG rep
 ·by_cases bI:k=3
  ·subst bI;exact k2 (by simp[qe,d8,hz]) H' aG
  ·exact k2 (by simp[qe,d8,hz,n1,n2,bI]) H' aG
theorem aAv(T:Txt K av t):cJ P w K av base (cM P w) 9 t.Pu t.Px ["reader"] (jC t sW (uf t (vK t))):=by
 obtain⟨aHA,aAw,aAx⟩:=T.k_MARK_TO_MARK;obtain⟨am_,Te,Tf⟩:=T.k_MOVE;refine T.Ru.cZ afS fc.cX ?_;rintro bK A outer s H _ Q E aA ⟨cn,rfl,rd,rfl,ca,bs,rest,g,R,k1,k2⟩;try simp only at k1 k2
 refine⟨_,(aW (ct (i:=1) afS.nd Z (Or.inl Z) (fl (aj 0) T.dV T.jz (j6 T) aA.bh T.j4 .nil bj (aD (gW Z Te Tf) (aD (gW Z aAw aAx) aM)))) (aW (ct (i:=2) afS.nd Z (Or.inl Z) (fl (aj 0) T.dV T.jz (j6 T) aA.bh T.j4 .nil bj (aD b3 (aD b3 aM)))) (bk (dM (qD T.Wy (alN T) aA.bh Z T.Wx T.ala .nil bj (aD (aj 1) (aD (aj 2) (aD (dI (aAt T) aA.bh Z T.afj T.Rt.aG T.axn .nil bj (aD (aj 0) (aD (aj 1) aM))) aM)))))))),?_⟩;apply dZ;intros;refine iM R rfl (j7 R ⟨fun k r v H1 aN dr cD rep=>?_,fun hz H' aG=>k2 (by unfold sW;rw[hz];rfl) H' aG⟩);subst rep;refine iM dr rfl (j7 dr ⟨fun s dp v aB aH cP bZ rep=>?_,fun hz H' aG=>k2 (by unfold sW;rw[aN];simp[hz]) H' (cD.trans aG)⟩);subst rep;have YT:=wi aN;refine⟨_,Z,_,Z,_,Z,_,Z,_,_,Z,rd,k,Z,Z,by omega,by omega,ca,bs,dp,g,cP,fun y d4 eA aJ aP e2 dh rep=>R1 fun p dx np nd=>?_,fun hz H' aG=>k2 (by unfold sW;rw[aN];simp[aH,hz]) H' ((cD.trans bZ).trans aG)⟩;have aG:=(cD.trans bZ).trans dh;have bY:=n3 (C:=t.rr) (fs:=[("kind",nat k),("passes",nat s),("body",eA)]) np nd;exact k1 (k,s,y) d4 _ _ (by unfold sW;rw[aN];simp[aH,aP]) (e2.oX bY) (aG.trans (hq bY _)) ⟨p,dx,eA,rfl,ew.mpr ⟨e2.up aG np,by simp,rA⟩,vw Td bY (vu Td cP (cD.trans bZ) rep)⟩
def sG(t:bW):ao->V->Rule Sw28.Pos->Prop:=fun H v r=>uf t (vK t) H v (qg r.rule,r.skip,r.rule)
theorem HF:fD (sG t):=fun _ _ _ _ s h=>Hy Td _ _ _ _ s h
theorem aAy{g:Nat}{t r:Sw28.B}{y:Nat×Nat×Sw28.Pos}(h:sW g t=some (y,r)):y.1=qg y.2.2:=by
 unfold sW at h;cases h1:eb 1 4 t with
 |none=>rw[h1]at h;simp at h
 |some k =>
  rw[h1]at h;simp only[d7]at h;cases aC:eb 0 7 k.2 with
  |none=>rw[aC]at h;simp at h
  |some s =>
   rw[aC]at h;simp only[d7]at h;cases bI:qe g k.1 s.2 with
   |none=>rw[bI]at h;simp at h
   |some z =>
    rw[bI]at h;simp only[gf,Option.some.injEq,Prod.mk.injEq]at h;obtain⟨rfl,_⟩:=h;have ak:=wi h1;exact(aqf (by omega) (by omega) bI).symm
theorem aAz(T:Txt K av t):cJ P w K av base (cM P w) 10 t.Py t.Pz ["reader"] (jC t (fun g=>many 0 64 (Sw28.pos g)) (hj (sG t))):=by
 refine T.Rv.cZ afT fc.cX ?_;rintro bK A outer s H _ Q E aA ⟨cn,rfl,rd,rfl,ca,bs,rest,g,R,k1,k2⟩;try simp only at k1 k2
 refine⟨_,(bk (dM (iI (own:=[("k",1)]) dJ (fun _ _ z=>z) Z afT.nd (mj Z T.jA (aD (fl (aj 0) T.dV T.jz (j6 T) aA.bh T.j4 .nil bj (aD b3 (aD b3 aM))) aM)) (gY (by rfl)) (fun _ _ _ _ _=>dm (i:=1) afT.nd Z (Or.inl Z)) (fun _ _ _ _ _=>hy) (fun _ _ _ _ _=>(dI (aAv T) aA.bh Z T.afk T.Ru.aG T.axo .nil bj (aD (aj 0) aM)))))),?_⟩;have hA:∀ r,many 0 64 (Sw28.pos g) r=(eb 0 64 r).bind fun x=>times (Sw28.pos g) x.1 x.2:=fun r=>m64 0 _ r;refine iM R rfl (j7 R ⟨fun n r v H1 aR dr cD rep=>?_,fun hz H' aG=>k2 (by rw[hA,hz];rfl) H' aG⟩);subst rep;have lE:n<=64:=pW (hi:=64) aR;refine⟨_,Z,by omega,by omega,fun D bw=>?_⟩;refine xE (E:=E) (p:=sW g) (Rep:=uf t (vK t)) (n:=n) (Hy Td) dr (by omega) bw (fun i aB dp er cP _ o=>mH cP rfl o) (fun xs dp aB lN cP bZ rl=>?_) fun hz aB bZ=>k2 (by rw[hA,aR];simp[amM,hz]) aB (cD.trans bZ);have aG:=cD.trans bZ;have kinds:∀ y∈xs,y.1=qg y.2.2:=CZ (fun _ _ _=>aAy) lN;obtain⟨amO,vs,e,jo,pp⟩:=vu (fL (Hy Td)) dr cD rl;refine k1 (xs.map fun x=>(⟨x.2.1,x.2.2⟩:Rule Sw28.Pos)) dp _ aB (by rw[hA,aR];simp[amM,lN]) cP aG ⟨amO,vs,e,jo,SX (fun x:Nat×Nat×Sw28.Pos=>(⟨x.2.1,x.2.2⟩:Rule Sw28.Pos)) (fun a b h=>h) (agM (G:=fun v (y:Nat×Nat×Sw28.Pos)=>uf t (vK t) (bH H [] aB) v (qg y.2.2,y.2.1,y.2.2)) pp fun a b ak h=>by rw[← kinds b ak];exact h)⟩
inductive HJ(H:ao)(v:V)(s:Sw28.Span):Prop
 |mk (T):v=.ref T->H T=some (.tup [nat s.first,nat s.last,nat s.sign])->HJ  H v s
theorem uh:fD HJ:=fun _ _ _ _ s ⟨p,e,h⟩=>⟨p,e,s _ _ h⟩
inductive am'(t:bW)(a b:V)(H:ao)(Q:bA)(E:cN):Prop
 |mk (rd) (Tg:Int):a=.ref rd->b=.int Tg->ry t (fun g=>qj g Tg) HJ H rd Q E->am' t a b H Q E
def aAA(t:bW):eY:=fT (am' t)
theorem aAB(T:Txt K av t):cJ P w K av base (cM P w) 6 t.PB t.PJ ["reader","behind"] (aAA t):=by
 obtain⟨aHB,aAC,aAD⟩:=T.k_LAST_CHARACTER;refine T.Rw.cZ Ye fT.cX ?_;rintro bK A outer s H _ Q E aA ⟨cn,a1,rfl,rd,Tg,rfl,rfl,ca,bs,rest,g,R,k1,k2⟩;try simp only at k1 k2
 refine⟨_,(aW (ct (i:=2) Ye.nd Z (Or.inl Z) (gv (aj 0) T.dV T.QL (af6 T) aA.bh T.afF .nil bj)) (aW (ct (i:=3) Ye.nd Z (Or.inl Z) (gv (aj 0) T.dV T.QL (af6 T) aA.bh T.afF .nil bj)) (aW (et (dI (qM T) aA.bh Z T.oW T.nk.aG T.qL .nil bj (aD (nR q_ (aj 1) (aj 2) (fj _)) aM))) (aW (et (dI (qM T) aA.bh Z T.oW T.nk.aG T.qL .nil bj (aD (nR yu (aj 2) (aj 3) (fj _)) aM))) (aW (et (dI (qM T) aA.bh Z T.oW T.nk.aG T.qL .nil bj (aD (nR yu (aj 3) (gW Z aAC aAD) (fj _)) aM))) (aW (ct (i:=4) Ye.nd Z (Or.inl Z) (gv (aj 0) T.dV T.rv (tZ T) aA.bh T.tR .nil bj)) (aW (et (dI (qM T) aA.bh Z T.oW T.nk.aG T.qL .nil bj (aD (nR q_ (fa ky (fa m8 (aj 4) (aj 3)) (aj 2)) (bQ (aj 0) Z) (fj _)) aM))) (bk (dM (sa (aD (aj 2) (aD (aj 3) (aD (aj 4) aM))))))))))))),?_⟩;apply Gh;intros;refine hW R rfl ⟨fun a cI v H1 aX dr cD rep=>?_,fun hz H' aG=>k2 (by unfold qj;rw[hz];rfl) H' aG⟩;subst rep;refine hW dr rfl ⟨fun b dp v aB ak cP bZ rep=>?_,fun hz H' aG=>k2 (by unfold qj;rw[aX];simp[hz]) H' (cD.trans aG)⟩;subst rep;have aG:=cD.trans bZ;refine⟨_,Z,_,Z,_,_,Z,Z,_,Z,fun q=>?_,fun q=>?_⟩
 case refine_2 =>
  have d9:¬ Tg<(a:Int):=wa q;exact k2 (by unfold qj;rw[aX];simp[ak,d9]) aB aG
 have c1:Tg<(a:Int):=h3 q;refine⟨_,Z,_,Z,_,_,Z,Z,_,Z,fun q=>?_,fun q=>?_⟩
 case refine_2 =>
  have d9:¬ a<=b:=by have:=wa q;omega
  exact k2 (by unfold qj;rw[aX];simp[ak,c1,d9]) aB aG
 have c2:a<=b:=by have:=h3 q;omega
 refine⟨_,Z,_,_,Z,Z,_,Z,fun q=>?_,fun q=>?_⟩
 case refine_2 =>
  have d9:¬ b<=1114111:=by have:=wa q;omega
  exact k2 (by unfold qj;rw[aX];simp[ak,c1,c2,d9]) aB aG
 have agY:b<=1114111:=by have:=h3 q;omega
 refine hW cP rfl ⟨fun s d4 v aJ aH e2 dh rep=>?_,fun hz H' aAE=>k2 (by unfold qj;rw[aX];simp[ak,c1,c2,agY,hz]) H' (aG.trans aAE)⟩;subst rep;obtain⟨dx,n,bB,_⟩:=id e2.cY;refine⟨_,Z,_,Z,_,_,Z,Z,_,Z,_,_,Z,Z,?_⟩;refine⟨_,Z,rd,_,dx,_,_,Z,bB,T.dV,T.yR,Z,_,_,Z,Z,_,Z,fun q=>?_,fun q=>?_⟩
 case refine_2 =>
  have d9:¬ (s:Int)+(b:Int)-(a:Int)<(g:Int):=wa q;exact k2 (by unfold qj;rw[aX];simp[ak,c1,c2,agY,aH,d9]) aJ (aG.trans dh)
 have r5:(s:Int)+(b:Int)-(a:Int)<(g:Int):=h3 q;refine⟨_,Z,_,Z,_,Z,ayb,fun p aL=>?_⟩;exact k1 ⟨a,b,s⟩ d4 _ _ (by unfold qj;rw[aX];simp[ak,c1,c2,agY,aH,r5]) (e2.new aL) ((aG.trans dh).jm aL) ⟨p,rfl,ew.mpr ⟨e2.up (aG.trans dh) aL,by simp,a8⟩⟩
def Dh(xs:List Sw28.Span):Int:=match xs.getLast? with
 |none=>-1
 |some s=>(s.last:Int)
theorem ana(xs:List Sw28.Span)(s:Sw28.Span):Dh (xs++[s])=(s.last:Int):=by
 unfold Dh;rw[List.getLast?_concat]
def Ti(g:Nat):Sw28.P (List Sw28.Span):=fun t=>(eb 0 1024 t).bind fun x=>pw g x.1 (-1) x.2
theorem aAF(T:Txt K av t):cJ P w K av base (cM P w) 7 t.PK t.PL ["reader"] (jC t Ti (hj HJ)):=by
 refine T.Rx.cZ G5 fc.cX ?_;rintro bK A outer s H _ Q E aA ⟨cn,rfl,rd,rfl,ca,bs,rest,g,R,k1,k2⟩;try simp only at k1 k2
 refine⟨_,(aW (ct (i:=1) G5.nd Z (Or.inl Z) (hc aM)) (aW (ct (i:=2) G5.nd Z (Or.inl Z) (abv abz b3)) (aW (hp (gP dJ Z) Z (mj Z T.jA (aD (fl (aj 0) T.dV T.jz (j6 T) aA.bh T.j4 .nil bj (aD b3 (aD b3 aM))) aM)) (dm (i:=3) G5.nd Z (Or.inl Z)) (aW (ct (i:=4) G5.nd Z (Or.inl Z) (dI (aAB T) aA.bh Z T.afm T.Rw.aG T.axq .nil bj (aD (aj 0) (aD (aj 2) aM)))) (aW (et (mA lW pn pq pQ (aj 1) (aD (aj 4) aM))) (bk (ct (i:=2) G5.nd Z (Or.inl Z) (eO Bv (aj 4) b3 (fun _ _=>Z))))))) (bk (dM (aj 1)))))),?_⟩;apply hH;intros;refine⟨eZ _,fun L dc=>?_⟩;have dr:ef t (upd H L (.lst [])) rd ca bs rest g:=R.new dc;refine⟨_,Z,?_⟩;refine iM dr rfl (j7 dr ⟨fun n r v aB aR cP bZ rep=>?_,fun aR H' aG=>k2 (by unfold Ti;rw[aR];rfl) H' ((bf.iZ dc).trans aG)⟩);subst rep;have lE:n<=1024:=pW (hi:=1024) aR;have jT:bf [rd] H aB:=(bf.iZ dc).trans bZ;have i_:L≠rd:=fun e=>R.dom (e▸dc);have nr:aB L=some (.lst []):=bZ _ _ (by simp[i_]) a8;refine⟨_,Z,by omega,by omega,?_⟩;refine tg (n:=n) (lo:=0) (fun i σ aJ=>∃ xs d4 vs,(∃ s3 s4,σ=[some (.ref rd),some (.ref L),some (.int (Dh xs)),s3,s4])/\xs.length=i/\(∀ m,pw g (i+m) (-1) r=(pw g m (Dh xs) d4).map fun y=>(xs++y.1,y.2))/\ef t aJ rd ca bs d4 g/\bf [rd] H aJ/\aJ L=some (.lst vs)/\Paired (HJ (bH H [L] aJ)) vs xs)
  ⟨[],r,[],⟨_,_,rfl⟩,rfl,fun m=>by rw[p8];show _=(pw g m (-1) r).map _;cases pw g m (-1) r<;>simp,cP,jT,nr,.nil⟩ (fun i σ aJ hi aU=>?_) fun σ aJ aU=>?_
 ·obtain⟨xs,d4,vs,⟨s3,s4,e⟩,aF,aL,e2,dh,jD,pp⟩:=aU;subst e;refine⟨_,Z,_,Z,_,_,Z,rd,Dh xs,Z,Z,ca,bs,d4,g,e2,fun s jN v bC (aH:qj g (Dh xs) d4=some (s,jN)) gs dG rep=>?_,fun(hz:qj g (Dh xs) d4=none) H' aG=>k2 ?_ H' (dh.trans aG)⟩
  ·obtain⟨ez,rfl,cx⟩:=rep;have pX:bC L=some (.lst vs):=dG _ _ (by simp[i_]) jD;have t_:vs.length=i:=by rw[f9 pp,aF]
   refine⟨_,Z,.inl ⟨Z,_,aT.of pX⟩,_,Z,L,vs,_,Z,Z,pX,jR (by omega),?_⟩;have HB:=ew.mp cx;have CG:ez≠L:=hO HB.2.2 pX (by intro z;cases z);refine⟨_,Z,ez,_,1,_,Z,Z,fO.of (by rw[a7 CG];exact HB.2.2),Z,xs++[s],jN,vs++[.ref ez],⟨_,_,by rw[ana];rfl⟩,by simp[aF],fun m=>?_,gs.upd i_ (fun e=>R.sA (e▸dc)),(dh.trans dG).xB dc,a8,?_⟩
   ·have:=aL (m+1)
    rw[show i+1+m=i+(m+1) by omega,this,pw,aH,ana];simp only[d7];cases pw g m (s.last:Int) jN<;>simp
   ·have s1:aQ (bH H [L] aJ) (bH H [L] (upd bC L (.lst (vs++[.ref ez])))):=(jB dG fun b ak=>by simp at ak;exact .inl (ak▸R.dom)).trans (jB (M:=[L]) (bf.pT (by simp)) fun b ak=>.inr ak)
    exact G_ (Paired.d8 pp fun _ _ q=>uh _ _ _ _ s1 q) ⟨ez,rfl,ew.mpr ⟨e2.up dh HB.1,by simp[CG],by rw[a7 CG];exact HB.2.2⟩⟩
  ·unfold Ti;rw[aR];have:=aL (n-i);rw[show i+(n-i)=n by omega,show n-i=(n-i-1)+1 by omega,pw,hz]at this;simpa using this
 ·obtain⟨xs,d4,vs,⟨s3,s4,e⟩,aF,aL,e2,dh,jD,pp⟩:=aU;subst e;have:=aL 0;rw[Nat.add_zero]at this;refine⟨_,Z,k1 xs d4 _ aJ ?_ e2 dh ⟨L,vs,rfl,ew.mpr ⟨dc,by simp,jD⟩,Paired.d8 pp fun _ _ q=>uh _ _ _ _ (y2 (by simp)) q⟩⟩;unfold Ti;rw[aR];simpa [pw]using this
def zN:Sw28.P Nat:=Sw28.only (fun c=>decide (c<4)) byte
theorem aAG(T:Txt K av t):cJ P w K av base (cM P w) 3 t.PN t.PT ["reader"] (jC t (fun _=>zN) k9):=by
 refine T.Ry.cZ alw fc.cX ?_;rintro bK A outer s H _ Q E aA ⟨cn,rfl,rd,rfl,ca,bs,rest,g,R,k1,k2⟩;try simp only at k1 k2
 refine⟨_,(aW (ct (i:=1) alw.nd Z (Or.inl Z) (gv (aj 0) T.dV T.Gu (Ym T) aA.bh T.X7 .nil bj)) (aW (et (dI (qM T) aA.bh Z T.oW T.nk.aG T.qL .nil bj (aD (nR yu (aj 1) b3 (fj _)) aM))) (bk (dM (aj 1))))),?_⟩;apply dZ;intros;refine hW R rfl ⟨fun x r v H1 aq dr cD rep=>?_,fun aR H' aG=>k2 (by unfold zN;rw[gZ,aR];rfl) H' aG⟩;subst rep;refine⟨_,Z,_,_,Z,Z,_,Z,fun q=>?_,fun q=>?_⟩
 ·have d9:x<4:=by have:=h3 q;omega
  exact⟨_,Z,k1 x r _ H1 (by unfold zN;rw[gZ,aq];simp[d9]) dr cD rfl⟩
 ·have d9:¬ x<4:=by have:=wa q;omega
  exact k2 (by unfold zN;rw[gZ,aq];simp[d9]) H1 cD
inductive anb(t:bW)(a b:V)(H:ao)(Q:bA)(E:cN):Prop
 |mk (rd rl vs):a=.ref rd->b=.ref rl->H rl=some (.lst vs)->ry t (fun _=>ql vs.length) hr H rd Q E->anb t a b H Q E
def aAH(t:bW):eY:=fT (anb t)
theorem anc(T:Txt K av t):cJ P w K av base (cM P w) 5 t.PX t.P0 ["reader","rules"] (aAH t):=by
 refine T.Gz.cZ afU fT.cX ?_;rintro bK A outer s H _ Q E aA ⟨cn,a1,rfl,rd,rl,vs,rfl,rfl,rJ,ca,bs,rest,g,R,k1,k2⟩;try simp only at k1 k2
 refine⟨_,(aW (w4 (i:=2) (own:=[("k",3)]) dJ (fun _ _ z=>z) Z afU.nd Z Z (wW Z Z Z Z) (mj Z T.jA (aD (fl (aj 0) T.dV T.jz (j6 T) aA.bh T.j4 .nil bj (aD b3 (aD b3 aM))) aM)) (gY (by rfl)) (fun _ _ _ _ _=>dm (i:=3) afU.nd Z (Or.inl Z)) (fun _ _ _ _ _=>hy) (fun _ _ _ _ _=>(fl (aj 0) T.dV T.jz (j6 T) aA.bh T.j4 .nil bj (aD b3 (aD (fa ky (hx (afY (K':=K) Z) Z T.hB hN (aD (aj 1) aM)) b3) aM))))) (aW (et (dI (xG T) aA.bh Z T.tQ T.rx.aG T.xg .nil bj (aD (aj 2) aM))) (bk (dM (aj 2))))),?_⟩;apply dZ;intros;have hA:∀ r,ql vs.length r=((eb 0 64 r).bind fun x=>times (eb 0 ((vs.length:Int)-1)) x.1 x.2).bind fun y=>if rising y.1=true then some y else none:=fun r=>by
  unfold ql;rw[gZ,m64 0];rfl
 have ane:rl≠rd:=by
  obtain⟨dx,n,bB,_⟩:=R.cY;exact hO rJ bB (by intro z;cases z)
 refine iM R rfl (j7 R ⟨fun n r v H1 aR dr cD rep=>?_,fun hz H' aG=>k2 (by rw[hA,hz];rfl) H' aG⟩);subst rep;have lE:n<=64:=pW (hi:=64) aR;have aAI:=cD _ _ (by simp[ane]) rJ;refine⟨_,Z,by omega,by omega,fun D bw=>?_⟩;refine xE (E:=E) (p:=eb 0 ((vs.length:Int)-1)) (Rep:=k9) (n:=n) vr dr (by omega) bw (fun i aB dp er cP bZ o=>iM cP rfl ⟨_,rfl,rl,vs,rfl,.inl (aT.of (bZ _ _ (by simp[ane]) aAI)),_,_,rfl,rfl,j7 cP o⟩) (fun xs dp aB lN cP bZ YS=>?_) fun hz aB bZ=>k2 (by rw[hA,aR];simp[hz]) aB (cD.trans bZ);have aF:xs.length=n:=mX _ lN;obtain⟨a,e,aX⟩:=Yl (vu (fL vr) dr cD YS);cases e;refine⟨_,Z,R6 (hC _ _ aX) (by omega) (fun aA=>⟨_,rfl,k1 xs dp _ aB (by rw[hA,aR];simp[lN,aA]) cP (cD.trans bZ) ⟨D,rfl,aX⟩⟩) fun aA=>k2 (by rw[hA,aR];simp[lN,aA]) aB (cD.trans bZ)⟩
inductive um(t:bW)(H:ao)(v:V)(x:Nat×aK×aK):Prop
 |mk (p dx jE eA):v=.ref p->H p=some (.ins t.qJ dx [("change_numbers",jE),("place_numbers",eA)])->hr H jE x.2.1->hr H eA x.2.2->um t H v x
theorem Y9:fD (um t):=fun _ _ _ _ s ⟨p,dx,jE,eA,e,h,h1,aC⟩=>⟨p,dx,jE,eA,e,s _ _ h,hg _ _ _ _ s h1,hg _ _ _ _ s aC⟩
def HN(t:bW):ao->V->List (Nat×aK×aK)->Prop:=xH (fun x=>bJ x.1) (um t)
theorem Y_:fD (HN t):=R7 Y9
theorem aAJ(prs:List (Key×V))(p:Key×V):mD [] (prs++[p])=putK (mD [] prs) p.1 p.2:=by
 unfold mD;rw[oo];rfl
inductive anf(t:bW)(a b:V)(H:ao)(Q:bA)(E:cN):Prop
 |mk (rd aZ dx fs cl pl rM j_):a=.ref rd->b=.ref aZ->aZ≠rd->H aZ=some (.ins t.eu dx fs)->fs.lookup (Str.ofString "changes")=some (V.ref cl)->fs.lookup (Str.ofString "places")=some (V.ref pl)->H cl=some (.lst rM)->H pl=some (.lst j_)->ry t (fun _=>Ao rM.length j_.length) (HN t) H rd Q E->anf t a b H Q E
def aAK(t:bW):eY:=fT (anf t)
theorem aAL(T:Txt K av t):cJ P w K av base (cM P w) 6 t.P1 t.P4 ["reader","font"] (aAK t):=by
 refine T.Rz.cZ G6 fT.cX ?_;rintro bK A outer s H _ Q E aA ⟨cn,a1,rfl,rd,aZ,dO,fs,cl,pl,rM,j_,rfl,rfl,ang,fe,lc,lp,iV,g8,ca,bs,rest,g,R,k1,k2⟩;try simp only at k1 k2
 refine⟨_,(aW (ct (i:=2) G6.nd Z (Or.inl Z) FN) (aW (ct (i:=3) G6.nd Z (Or.inl Z) (hc aM)) (aW (hp (gP dJ Z) Z (mj Z T.jA (aD (fl (aj 0) T.dV T.jz (j6 T) aA.bh T.j4 .nil bj (aD b3 (aD b3 aM))) aM)) (dm (i:=4) G6.nd Z (Or.inl Z)) (aW (ct (i:=5) G6.nd Z (Or.inl Z) (gv (aj 0) T.dV T.QL (af6 T) aA.bh T.afF .nil bj)) (aW (ct (i:=6) G6.nd Z (Or.inl Z) (dI (anc T) aA.bh Z T.XQ T.Gz.aG T.alf .nil bj (aD (aj 0) (aD (bQ (aj 1) Z) aM)))) (aW (Ka (k6 aA) (aj 2) (aj 5) (qD T.aep (ayl T) aA.bh Z T.aeo T.awG .nil bj (aD (aj 6) (aD (dI (anc T) aA.bh Z T.XQ T.Gz.aG T.alf .nil bj (aD (aj 0) (aD (bQ (aj 1) Z) aM))) aM))) Z) (bk (et (mA lW pn pq pQ (aj 3) (aD (aj 5) aM)))))))) (aW (et (dI (xG T) aA.bh Z T.tQ T.rx.aG T.xg .nil bj (aD (aj 3) aM))) (bk (dM (aj 2))))))),?_⟩;apply mc;intros;have hA:∀ r,Ao rM.length j_.length r=((eb 0 64 r).bind fun x=>times (Sw28.pair Sw28.u32 (Sw28.pair (ql rM.length) (ql j_.length))) x.1 x.2).bind fun y=>if rising (y.1.map fun x=>x.1)=true then some y else none:=fun r=>by
  unfold Ao;rw[gZ,m64 0];rfl
 have anh:∀ {a:au} {vs:List V},H a=some (.lst vs)->a≠rd:=fun{a vs} h=>by
  obtain⟨dx,n,bB,_⟩:=R.cY;exact hO h bB (by intro z;cases z)
 intro jb HS;refine⟨eZ _,fun jc HW=>?_⟩;have Tj:jc≠jb:=fun e=>by rw[e,a8]at HW;cases HW
 have agZ:H jc=none:=by rw[a7 Tj]at HW;exact HW
 have dr:ef t (upd (upd H jb (.dX [])) jc (.lst [])) rd ca bs rest g:=(R.new HS).new HW;have jT:bf [rd] H (upd (upd H jb (.dX [])) jc (.lst [])):=(bf.iZ HS).jm HW;have uo:(upd (upd H jb (.dX [])) jc (.lst [])) jb=some (.dX []):=by rw[a7 Tj.symm,a8]
 have vG:(upd (upd H jb (.dX [])) jc (.lst [])) jc=some (.lst []):=a8;generalize upd (upd H jb (.dX [])) jc (.lst [])=H1 at *;refine iM dr rfl (j7 dr ⟨fun n r v aB aR cP bZ rep=>?_,fun hz H' aG=>k2 (by rw[hA,hz];rfl) H' (jT.trans aG)⟩);subst rep;have lE:n<=64:=pW (hi:=64) aR;have Za:jb≠rd:=fun e=>R.dom (e▸HS);have Zb:jc≠rd:=fun e=>R.dom (e▸agZ);refine⟨_,Z,by omega,by omega,?_⟩;refine tg (n:=n) (lo:=0) (fun i σ aJ=>∃ xs d4 prs,(∃ s4 s5 cV,σ=[some (.ref rd),some (.ref aZ),some (.ref jb),some (.ref jc),s4,s5,cV])/\times (Sw28.pair Sw28.u32 (Sw28.pair (ql rM.length) (ql j_.length))) i r=some (xs,d4)/\ef t aJ rd ca bs d4 g/\bf [rd] H aJ /\
   aJ jc=some (.lst ((xs.map fun x=>x.1).map nat))/\aJ jb=some (.dX (mD [] prs))/\Paired (fun(bD:Key×V) x=>bD.1=bJ x.1/\um t (bH H [jb,jc] aJ) bD.2 x) prs xs)
  ⟨[],r,[],⟨_,_,_,rfl⟩,rfl,cP,jT.trans bZ,bZ _ _ (by simp[Zb]) vG,bZ _ _ (by simp[Za]) uo,.nil⟩ (fun i σ aJ hi aU=>?_) fun σ aJ aU=>?_
 ·obtain⟨xs,d4,prs,⟨s4,s5,cV,e⟩,h1,e2,dh,Zc,HX,pp⟩:=aU;subst e;have aF:xs.length=i:=mX _ h1;have aHC:prs.length=i:=by rw[f9 pp,aF]
  have stop:Sw28.pair Sw28.u32 (Sw28.pair (ql rM.length) (ql j_.length)) d4=none->∀ H',bf [rd] aJ H'->E (.ref t.jl) none H':=fun hz H' aG=>k2 (by rw[hA,aR];simp[x9 _ h1 hz n hi]) H' (dh.trans aG);refine hW e2 rfl ⟨fun e1 jN v bC b_ gs dG rep=>?_,fun hz H' aG=>stop (n6 hz) H' aG⟩;subst rep;have Zd:=dh.trans dG;refine⟨_,Z,_,Z,aZ,_,dO,_,_,Z,Zd _ _ (by simp[ang]) fe,T.gq,T.Cd,lc,_,_,Z,rd,cl,rM,Z,Z,Zd _ _ (by simp[anh iV]) iV,ca,bs,jN,g,gs,fun sz m5 jE b2 Di iy fX cv=>?_,fun hz H' aG=>stop (kJ b_ (n6 hz)) H' (dG.trans aG)⟩;have ag0:=Zd.trans fX;refine⟨_,Z,_,Z,_,Z,aZ,_,dO,_,_,Z,ag0 _ _ (by simp[ang]) fe,T.gq,T.Gq,lp,_,_,Z,rd,pl,j_,Z,Z,ag0 _ _ (by simp[anh g8]) g8,ca,bs,m5,g,iy,fun ha ag1 eA eN Wg o1 nx rb=>?_,fun hz H' aG=>stop (kJ b_ (kJ Di hz)) H' ((dG.trans fX).trans aG)⟩;have ag2:=(dG.trans fX).trans nx;have aAM:=dh.trans ag2;have ag3:∀ {H'},bf [rd] aJ H'->∀ b∈[jb,jc],H' b≠none:=fun{H'} k b ak=>by
   simp at ak;rcases ak with rfl|rfl
   ·exact j5 (k _ _ (by simp[Za]) HX)
   ·exact j5 (k _ _ (by simp[Zb]) Zc)
  have aAN:hr (bH H [jb,jc] eN) jE sz:=hg _ _ _ _ ((tV (bf.up1 gs Zd) (ag3 dG)).trans (jB nx fun b ak=>by simp at ak;exact .inl (ak▸R.dom))) cv;have aAO:hr (bH H [jb,jc] eN) eA ha:=hg _ _ _ _ (tV (bf.up1 iy ag0) (ag3 (dG.trans fX))) rb;refine af3 fun p eU np nd=>?_;have fy:=n3 (C:=t.qJ) (fs:=[("change_numbers",jE),("place_numbers",eA)]) np nd;have zO:(iK eN p eU t.qJ [("change_numbers",jE),("place_numbers",eA)]) p=some (.ins t.qJ eU [("change_numbers",jE),("place_numbers",eA)]):=rA;have ap:H p=none:=o1.up aAM np;have aAP:p∉[jb,jc]:=fun ak=>ag3 ag2 p ak np;have nC:=o1.oX fy;generalize iK eN p eU t.qJ [("change_numbers",jE),("place_numbers",eA)]=dD at *;have Ze:bf [rd] aJ dD:=ag2.trans (hq fy _);have aAQ:dD jb=some (.dX (mD [] prs)):=Ze _ _ (by simp[Za]) HX;have ani:dD jc=some (.lst ((xs.map fun x=>x.1).map nat)):=Ze _ _ (by simp[Zb]) Zc;refine⟨_,Z,_,Z,jb,_,Z,tB.k (k:=bJ e1) aAQ ?_,?_⟩
  ·have:=ab' prs []
   exact jR (by simp at this;omega)
  refine⟨_,Z,.inl ⟨Z,_,aT.of (by rw[a7 Tj];exact ani)⟩,_,Z,jc,_,_,Z,Z,by rw[a7 Tj];exact ani,by simp;exact jR (by omega),?_⟩;refine⟨xs++[(e1,sz,ha)],ag1,prs++[(bJ e1,.ref p)],⟨_,_,_,Z⟩,?_,(nC.upd Za (fun e=>R.sA (e▸HS))).upd Zb (fun e=>R.sA (e▸agZ)),((dh.trans Ze).xB HS).xB agZ,?_,?_,?_⟩
  ·rw[Em,h1];simp[oY b_ (oY Di Wg)]
  ·rw[a8];simp
  ·rw[a7 Tj.symm,a8,aAJ]
  ·have anj:aQ (bH H [jb,jc] dD) (bH H [jb,jc] (upd (upd dD jb (.dX (putK (mD [] prs) (bJ e1) (.ref p)))) jc (.lst ((xs.map fun x=>x.1).map nat++[nat e1])))):=jB (M:=[jb,jc]) (fun b o n e=>by
     simp at n;rw[a7 n.2,a7 n.1];exact e) fun b ak=>.inr ak
   have aAR:aQ (bH H [jb,jc] aJ) (bH H [jb,jc] dD):=jB Ze fun b ak=>by simp at ak;exact .inl (ak▸R.dom)
   have sB:aQ (bH H [jb,jc] eN) (bH H [jb,jc] dD):=jB (M:=[]) (hq fy []) (by simp);refine G_ (Paired.d8 pp fun _ _ z=>⟨z.1,Y9 _ _ _ _ (aAR.trans anj) z.2⟩) ⟨rfl,Y9 _ _ _ _ anj ⟨p,eU,jE,eA,rfl,ew.mpr ⟨ap,aAP,zO⟩,hg _ _ _ _ sB aAN,hg _ _ _ _ sB aAO⟩⟩
 ·obtain⟨xs,d4,prs,⟨s4,s5,cV,e⟩,h1,e2,dh,Zc,HX,pp⟩:=aU;subst e;have aF:xs.length=n:=mX _ h1;refine⟨_,Z,R6 Zc (by simp;omega) (fun aA=>⟨_,rfl,k1 xs d4 _ aJ (by rw[hA,aR];simp[h1,aA]) e2 dh ⟨jb,prs,rfl,ew.mpr ⟨HS,by simp,?_⟩,Paired.d8 pp fun _ _ z=>⟨z.1,Y9 _ _ _ _ (y2 (by simp)) z.2⟩⟩⟩) fun aA=>k2 (by rw[hA,aR];simp[h1,aA]) aJ dh⟩;rw[HX,agb (key:=fun x:Nat×aK×aK=>x.1) (R:=um t) (H:=bH H [jb,jc] aJ) pp aA]
def nF(c:Nat):Nat:=if c=3 then 4 else c
theorem aAS{c:Nat}(h:c<4):wQ [V.int 0,V.int 1,V.int 2,V.int 4] (c:Int)=some (nat (nF c)):=by
 match c,h with
 |0,_=>rfl
 |1,_=>rfl
 |2,_=>rfl
 |3,_=>rfl
noncomputable def kc (p c w bG:V) (vc gu gB:V):List (Str×V):=[("pieces",p),("classes",c),("widths",w),("passing",bG),("changes",vc),("places",gu),("features",gB)]
inductive ank(t:bW)(s p c w:V)(H:ao)(Q:bA)(xD:cN):Prop
 |mk (x dx ca) (cls:aK):s=.ref x->c=.ref ca->H x=some (.ins t.eu dx [])->H ca=some (.lst (cls.map nat))->(∀ z∈cls,z<4)->cls.length<=4096->(∀ H' bG vc gu gB,bf [x] H H'->H' x=some (.ins t.eu dx (kc p c w (.ref bG) vc gu gB))->H' bG=some (.lst (cls.map fun z=>nat (nF z)))->H bG=none->Q .non H')->ank t s p c w H Q xD
def aAT(t:bW):eY:=nq (ank t)
theorem aAU(T:Txt K av t):cJ P w K av base (cM P w) 1 t.K6 t.K7 ["self","pieces","classes","widths"] (aAT t):=by
 refine T.WQ.cZ afJ nq.cX ?_;rintro bK A outer s H _ Q E aA ⟨cn,p,a2,wv,rfl,x,dx,ca,cls,rfl,rfl,aq,hY,dz,jj,k1⟩;refine⟨_,(aW (eX (aj 0) (aj 1) Z) (aW (eX (aj 0) (aj 2) Z) (aW (eX (aj 0) (aj 3) Z) (aW (eX (aj 0) (iI (own:=[("sign_class",4)]) dJ (fun _ _ z=>z) Z afJ.nd (gH (aj 2)) (gY (by rfl)) (fun _ _ _ _ _=>dm (i:=4) afJ.nd Z (Or.inl Z)) (fun _ _ _ _ _=>hy) (fun _ _ _ _ _=>(eO (Cw (K':=K) Z) (gW (v:=V.ref t.Gk) Z T.k_PASSING Z) (aj 4) (fun _ _=>Z)))) Z) (aW (eX (aj 0) (hc aM) Z) (aW (eX (aj 0) (hc aM) Z) (bk (eX (aj 0) FN Z)))))))),?_⟩;apply u0;intros;have aAV:ca≠x:=hO hY aq (by intro z;cases z);refine⟨_,Z,_,Z,x,_,dx,_,Z,aq,T.gq,T.Ca,by show 0<1000;decide,?_⟩;refine⟨_,Z,_,Z,x,_,dx,_,Z,a8,T.gq,T.QD,by show 1<1000;decide,?_⟩;refine⟨_,Z,_,Z,x,_,dx,_,Z,a8,T.gq,T.WM,by show 2<1000;decide,?_⟩;rw[ih,ih];have mZ:(upd H x (.ins t.eu dx (cC "widths" wv (cC "classes" (.ref ca) (cC "pieces" p []))))) x=some (.ins t.eu dx [("pieces",p),("classes",.ref ca),("widths",wv)]):=a8;have cD:bf [x] H (upd H x (.ins t.eu dx (cC "widths" wv (cC "classes" (.ref ca) (cC "pieces" p []))))):=bf.pT (by simp);have wA:∀ b,b≠x->(upd H x (.ins t.eu dx (cC "widths" wv (cC "classes" (.ref ca) (cC "pieces" p []))))) b=H b:=fun b h=>a7 h;generalize upd H x (.ins t.eu dx (cC "widths" wv (cC "classes" (.ref ca) (cC "pieces" p []))))=H1 at *;have Zf:H1 ca=some (.lst (cls.map nat)):=by rw[wA _ aAV];exact hY
 refine⟨_,Z,ca,Z,⟨_,aT.of Zf⟩,fun D bw=>?_⟩;refine n5 (cls.map fun z=>nat (nF z)) (by simp) (aT.of Zf) (by simp;omega) bw (fun i v y H' er a0 aP aH q=>?_) ?_
 ·rw[ek]at a0 aP;cases e:cls[i]? with
  |none=>rw[e]at a0;cases a0
  |some z =>
   rw[e]at a0 aP;cases a0;cases aP;exact⟨_,Z,t.Gk,_,_,_,Z,Z,T.afB _,aAS (dz z (gb e)),q⟩
 have zP:D≠x:=(bR mZ bw).symm;have aAW:H D=none:=by rw[← wA D zP];exact bw
 have bZ:bf [x] H (upd H1 D (.lst (cls.map fun z=>nat (nF z)))):=cD.jm bw;have Er:(upd H1 D (.lst (cls.map fun z=>nat (nF z)))) x=some (.ins t.eu dx [("pieces",p),("classes",.ref ca),("widths",wv)]):=by rw[a7 zP.symm];exact mZ
 have jo:(upd H1 D (.lst (cls.map fun z=>nat (nF z)))) D=some (.lst (cls.map fun z=>nat (nF z))):=a8;generalize upd H1 D (.lst (cls.map fun z=>nat (nF z)))=aB at *;refine⟨_,Z,x,_,dx,_,Z,Er,T.gq,T.QF,by show 3<1000;decide,?_⟩;have dh:bf [x] H (upd aB x (.ins t.eu dx (cC "passing" (.ref D) [("pieces",p),("classes",.ref ca),("widths",wv)]))):=bZ.qN (by simp);have xP:(upd aB x (.ins t.eu dx (cC "passing" (.ref D) [("pieces",p),("classes",.ref ca),("widths",wv)]))) x=some (.ins t.eu dx [("pieces",p),("classes",.ref ca),("widths",wv),("passing",.ref D)]):=a8;have o2:(upd aB x (.ins t.eu dx (cC "passing" (.ref D) [("pieces",p),("classes",.ref ca),("widths",wv)]))) D=some (.lst (cls.map fun z=>nat (nF z))):=by rw[a7 zP];exact jo
 generalize upd aB x (.ins t.eu dx (cC "passing" (.ref D) [("pieces",p),("classes",.ref ca),("widths",wv)]))=aJ at *;refine⟨eZ _,fun o7 ag4=>?_⟩;have aAX:x≠o7:=bR xP ag4;refine⟨_,Z,x,_,dx,_,Z,by rw[a7 aAX];exact xP,T.gq,T.Cd,by show 4<1000;decide,?_⟩;have dG:bf [x] H (upd (upd aJ o7 (.lst [])) x (.ins t.eu dx (cC "changes" (.ref o7) [("pieces",p),("classes",.ref ca),("widths",wv),("passing",.ref D)]))):=(dh.jm ag4).qN (by simp);have zq:(upd (upd aJ o7 (.lst [])) x (.ins t.eu dx (cC "changes" (.ref o7) [("pieces",p),("classes",.ref ca),("widths",wv),("passing",.ref D)]))) x=some (.ins t.eu dx [("pieces",p),("classes",.ref ca),("widths",wv),("passing",.ref D),("changes",.ref o7)]):=a8;have anl:(upd (upd aJ o7 (.lst [])) x (.ins t.eu dx (cC "changes" (.ref o7) [("pieces",p),("classes",.ref ca),("widths",wv),("passing",.ref D)]))) D=some (.lst (cls.map fun z=>nat (nF z))):=by rw[a7 zP,a7 (bR o2 ag4)];exact o2
 generalize upd (upd aJ o7 (.lst [])) x (.ins t.eu dx (cC "changes" (.ref o7) [("pieces",p),("classes",.ref ca),("widths",wv),("passing",.ref D)]))=bC at *;refine⟨eZ _,fun uq ag5=>?_⟩;have agy:x≠uq:=bR zq ag5;refine⟨_,Z,x,_,dx,_,Z,by rw[a7 agy];exact zq,T.gq,T.Gq,by show 5<1000;decide,?_⟩;have fX:bf [x] H (upd (upd bC uq (.lst [])) x (.ins t.eu dx (cC "places" (.ref uq) [("pieces",p),("classes",.ref ca),("widths",wv),("passing",.ref D),("changes",.ref o7)]))):=(dG.jm ag5).qN (by simp);have zQ:(upd (upd bC uq (.lst [])) x (.ins t.eu dx (cC "places" (.ref uq) [("pieces",p),("classes",.ref ca),("widths",wv),("passing",.ref D),("changes",.ref o7)]))) x=some (.ins t.eu dx [("pieces",p),("classes",.ref ca),("widths",wv),("passing",.ref D),("changes",.ref o7),("places",.ref uq)]):=a8;have xK:(upd (upd bC uq (.lst [])) x (.ins t.eu dx (cC "places" (.ref uq) [("pieces",p),("classes",.ref ca),("widths",wv),("passing",.ref D),("changes",.ref o7)]))) D=some (.lst (cls.map fun z=>nat (nF z))):=by rw[a7 zP,a7 (bR anl ag5)];exact anl
 generalize upd (upd bC uq (.lst [])) x (.ins t.eu dx (cC "places" (.ref uq) [("pieces",p),("classes",.ref ca),("widths",wv),("passing",.ref D),("changes",.ref o7)]))=b2 at *;intro f0 yM;have aAY:x≠f0:=bR zQ yM;refine⟨_,Z,x,_,dx,_,Z,by rw[a7 aAY];exact zQ,T.gq,T.Ce,by show 6<1000;decide,?_⟩;refine k1 _ D (.ref o7) (.ref uq) (.ref f0) ((fX.jm yM).qN (by simp)) a8 ?_ aAW;rw[a7 zP,a7 (bR xK yM)];exact xK
inductive lQ(t:bW)(G:ao)(aZ:au)(f:Font) :Prop
 |mk (dx p c w bG vc gu gB):G aZ=some (.ins t.eu dx (kc p (.ref c) (.ref w) (.ref bG) vc gu gB))->hj HJ G p f.map->G c=some (.lst (f.cls.map nat))->G w=some (.lst (f.advance.map nat))->G bG=some (.lst (f.cls.map fun z=>nat (nF z)))->hj (ug t) G vc f.subs->hj (sG t) G gu f.poss->HN t G gB f.features->lQ t G aZ f
theorem mK{G zv:ao}{aZ:au}{f:Font}(s:aQ G zv)(h:lQ t G aZ f):lQ t zv aZ f:=by
 obtain⟨dx,p,c,w,bG,vc,gu,gB,h1,aC,bI,dz,js,tE,Dj,rN⟩:=h;exact⟨dx,p,c,w,bG,vc,gu,gB,s _ _ h1,fL uh _ _ _ _ s aC,s _ _ bI,s _ _ dz,s _ _ js,fL zF _ _ _ _ s tE,fL HF _ _ _ _ s Dj,Y_ _ _ _ _ s rN⟩
inductive anm(t:bW)(a:V)(H:ao)(Q:bA)(E:cN):Prop
 |mk (ca bs):a=.ref ca->H ca=some (.lst (bs.map nat))->(∀ b∈bs,b<256)->bs.length<=65536->(∀ f aZ H',qm bs=some f->aQ H H'->lQ t (bH H [] H') aZ f->Q (.ref aZ) H')->(qm bs=none->∀ H',aQ H H'->E (.ref t.jl) none H')->anm t a H Q E
def aAZ(t:bW):eY:=fc (anm t)
theorem aA0{g:Nat}{r:Sw28.B}{y:aK×Sw28.B}(h:times zN g r=some y):∀ z∈y.1,z<4:=CZ (iQ:=fun z=>z<4) (fun t x r h=>by
 unfold zN at h;rw[gZ]at h;cases h1:byte t with
 |none=>rw[h1]at h;cases h
 |some w =>
  rw[h1]at h;simp only[d7]at h;split at h
  ·rename_i hd;cases h;simpa using hd
  ·cases h) h
theorem aA1(g:Nat)(r:Sw28.B):Jd g r=(Ti g r).bind fun m=>(times zN g m.2).bind fun c=>(times u16 g c.2).bind fun w=>(Sw28.only Sw28.actsRight (many 0 64 (Sw28.sub g)) w.2).bind fun s=>(many 0 64 (Sw28.pos g) s.2).bind fun p =>
  (Ao s.1.length p.1.length p.2).map fun f=>(⟨g,m.1,c.1,w.1,s.1,p.1,f.1⟩,f.2):=rfl
theorem aA2{bs:Sw28.B}(h:bs.take 2≠[73,112]):qm bs=none:=by
 unfold qm Je;match bs,h with
 | [],_=>rfl
 | [a],_ =>
  simp only[byte,d7];split<;>rfl
 |a::b::bs,h =>
  simp only[byte,d7];by_cases aX:a=73
  ·rw[bM aX];by_cases ak:b=112
   ·subst aX ak;exact absurd rfl h
   ·rw[bx ak];rfl
  ·rw[bx aX];rfl
theorem aA3{bs:Sw28.B}(h:bs.take 2=[73,112]):qm bs=((eb 1 4096 (bs.drop 2)).bind fun g=>Jd g.1 g.2).bind fun x=>if x.2=[]then some x.1 else none:=by
 unfold qm Je;match bs,h with
 | [],h=>simp at h
 | [a],h=>simp at h
 |a::b::bs,h =>
  simp at h;obtain⟨rfl,rfl⟩:=h;simp[byte]
theorem aA4(T:Txt K av t):cJ P w K av base (cM P w) 14 t.P_ t.P' ["content"] (aAZ t):=by
 refine T.RB.cZ xA fc.cX ?_;rintro bK A outer s H _ Q E aA ⟨cn,rfl,ca,bs,rfl,hY,c0,jj,k1,k2⟩;try simp only at k1 k2
 refine⟨_,(aW (ct (i:=1) xA.nd Z (Or.inr Z) (qD T.aeB (ayq T) aA.bh Z T.aeA T.awM .nil bj (aD (aj 0) aM))) (aW (hp (gP dJ Z) Z (asq (gW (v:=V.ref t.Gl) Z T.k_FIRST_BYTES Z)) (dm (i:=2) xA.nd Z (Or.inl Z)) (bk (et (dI (qM T) aA.bh Z T.oW T.nk.aG T.qL .nil bj (aD (nR jO (gv (aj 1) T.dV T.Gu (Ym T) aA.bh T.X7 .nil bj) (aj 2) (fj _)) aM))))) (aW (eX (aj 1) (fl (aj 1) T.dV T.jz (j6 T) aA.bh T.j4 .nil bj (aD b3 (aD b3 aM))) Z) (aW (ct (i:=3) xA.nd Z (Or.inl Z) (dI (aAF T) aA.bh Z T.afn T.Rx.aG T.axr .nil bj (aD (aj 1) aM))) (aW (w4 (i:=4) (own:=[("k",7)]) dJ (fun _ _ z=>z) Z xA.nd Z Z (wW Z Z Z Z) (mj Z T.jA (aD (bQ (aj 1) Z) aM)) (gY (by rfl)) (fun _ _ _ _ _=>dm (i:=7) xA.nd Z (Or.inl Z)) (fun _ _ _ _ _=>hy) (fun _ _ _ _ _=>(dI (aAG T) aA.bh Z T.afo T.Ry.aG T.axt .nil bj (aD (aj 1) aM)))) (aW (w4 (i:=5) (own:=[("k",7)]) dJ (fun _ _ z=>z) Z xA.nd Z Z (wW Z Z Z Z) (mj Z T.jA (aD (bQ (aj 1) Z) aM)) (gY (by rfl)) (fun _ _ _ _ _=>dm (i:=7) xA.nd Z (Or.inl Z)) (fun _ _ _ _ _=>hy) (fun _ _ _ _ _=>(gv (aj 1) T.dV T.w5 (Cy T) aA.bh T.Cp .nil bj))) (aW (ct (i:=6) xA.nd Z (Or.inl Z) (qD T.aes (aAU T) aA.bh Z T.aer T.awH .nil bj (aD (aj 3) (aD (aj 4) (aD (aj 5) aM))))) (aW (eX (aj 6) (dI (az1 T) aA.bh Z T.ae8 T.Rf.aG T.axb .nil bj (aD (aj 1) aM)) Z) (aW (eX (aj 6) (dI (aAz T) aA.bh Z T.afl T.Rv.aG T.axp .nil bj (aD (aj 1) aM)) Z) (aW (eX (aj 6) (dI (aAL T) aA.bh Z T.afp T.Rz.aG T.axu .nil bj (aD (aj 1) (aD (aj 6) aM))) Z) (aW (et (gv (aj 1) T.dV T.aeC (ayt T) aA.bh T.awN .nil bj)) (bk (dM (aj 6)))))))))))))),?_⟩;apply aye;intros;refine⟨_,Z,?_⟩;intro x dx cU nd ne;refine⟨_,_,Z,x,dx,ca,Z,Z,a8,Z,?_⟩;rw[ih];have s1:aQ H (iK H x dx t.iJ (tW ca 0 0)):=n3 cU nd;have dr:ef t (iK H x dx t.iJ (tW ca 0 0)) x ca bs bs 0:=⟨⟨dx,0,rA,rfl,eZ _⟩,s1 _ _ hY,c0,jj⟩;show c4 _ _ _ _ (iK H x dx t.iJ (tW ca 0 0));generalize iK H x dx t.iJ (tW ca 0 0)=H1 at *;have fail:∀ {H'},bf [x] H1 H'->qm bs=none->E (.ref t.jl) none H':=fun{H'} k hz=>k2 hz H' fun b o e=>k b o (by simp only[g5];exact bR e cU) (s1 _ _ e);refine⟨t.Gl,Z,⟨_,T.X4 _⟩,?_⟩;refine asB (xs:=[V.int 73,V.int 112]) (fun i σ aB=>(∃ s2,σ=[some (.ref ca),some (.ref x),s2,none,none,none,none,none])/\ef t aB x ca bs (bs.drop i) 0/\bf [x] H1 aB/\bs.take i=[73,112].take i/\i<=bs.length) ⟨⟨_,rfl⟩,dr,bf.refl _ _,rfl,eZ _⟩ (fun i σ aB _ _=>T.X4 _) (fun i v σ aB a0 ⟨⟨s2,e⟩,cP,bZ,b_,hi⟩=>?_) fun σ aB ⟨⟨s2,e⟩,cP,bZ,b_,hi⟩=>?_
 ·subst e;obtain⟨q,a6,ag6⟩:∃ q:Nat,[73,112][i]?=some q/\v=nat q:=by
   match i,a0 with
   |0,a0=>exact⟨73,Z,(Option.some.inj a0).symm⟩
   |1,a0=>exact⟨112,Z,(Option.some.inj a0).symm⟩
  have ur:i<2:=by
   have:=(eF.mp a0).1;simpa using this
  subst ag6;have bad:bs[i]?≠some q->qm bs=none:=fun hz=>aA2 fun hw=>hz (by
   have:=congrArg (fun l:aK=>l[i]?) hw;rw[x5 ur]at this;rw[this];exact a6)
  refine hW cP rfl ⟨fun b d4 v aJ ak e2 dh rep=>?_,fun hz H' aG=>fail (bZ.trans aG) (bad fun hw=>?_)⟩
  ·subst rep;have vt:bs[i]?=some b/\d4=bs.drop (i+1):=by
    by_cases hlen:i<bs.length
    ·rw[af4 hlen]at ak;simp only[Option.some.injEq,Prod.mk.injEq]at ak;exact⟨by rw[dT hlen,ak.1],ak.2.symm⟩
    ·rw[alO (by omega)]at ak;cases ak
   refine⟨_,Z,Z,_,Z,fun HY=>?_,fun HY=>?_⟩
   ·have e:b=q:=by have:=j9 HY;omega
    subst e;refine⟨⟨_,Z⟩,vt.2▸e2,bZ.trans dh,?_,(eF.mp vt.1).1⟩;rw[take_snoc vt.1,take_snoc a6,b_]
   ·have e:b≠q:=fun e=>by
     have:=wa HY;exact this (by rw[e])
    exact fail (bZ.trans dh) (bad fun hw=>e (by rw[vt.1]at hw;exact Option.some.inj hw))
  ·have hlen:=(eF.mp hw).1
   rw[af4 hlen]at hz;cases hz
 subst e;have ps:=aA3 (bs:=bs) b_;have cP:ef t aB x ca bs (bs.drop 2) 0:=cP;refine iM cP rfl (j7 cP ⟨fun g d4 v aJ b5 e2 dh rep=>?_,fun hz H' aG=>fail (bZ.trans aG) (by rw[ps,hz];rfl)⟩);subst rep;have Zg:g<=4096:=pW (hi:=4096) b5;obtain⟨fY,zA,bB,aA5,ag7⟩:=id e2.cY;refine⟨_,Z,x,_,fY,_,Z,bB,T.dV,T.yR,by show 3<1000;decide,?_⟩;have gs:ef t (upd aJ x (.ins t.iJ fY (cC "sign_count" (nat g) (tW ca (zA:Nat) (0:Nat))))) x ca bs d4 g:=⟨⟨fY,zA,a8,aA5,ag7⟩,by rw[a7 e2.ne];exact e2.sz,c0,jj⟩;have dG:bf [x] H1 (upd aJ x (.ins t.iJ fY (cC "sign_count" (nat g) (tW ca (zA:Nat) (0:Nat))))):=(bZ.trans dh).qN (by simp);generalize upd aJ x (.ins t.iJ fY (cC "sign_count" (nat g) (tW ca (zA:Nat) (0:Nat))))=bC at *;have ps:qm bs=(Jd g d4).bind fun x=>if x.2=[]then some x.1 else none:=by rw[ps,b5];rfl
 rw[aA1]at ps;clear cP e2 bZ dh bB b5;have G':∀ {H'},bf [x] H1 H'->H' x≠none->∀ b,H b≠none->H' b≠none:=fun{H'} k aq b ak=>by
  cases z:H b with
  |none=>exact absurd z ak
  |some o=>exact j5 (k b o (by simp only[g5];exact bR z cU) (s1 _ _ z))
 have up:∀ {α:Type} {Rep:ao->V->α->Prop} {H' lO:ao} {v:V} {y:α},fD Rep->bf [x] H1 H'->H' x≠none->Rep (bH H' [] lO) v y->Rep (bH H [x] lO) v y:=fun m k aq rep=>m _ _ _ _ (tV (G' k aq) (fun b ak=>by simp at ak;rw[ak];exact aq)) rep;have on:∀ {α:Type} {Rep:ao->V->α->Prop} {H' lO:ao} {v:V} {y:α},fD Rep->bf [x] H' lO->Rep (bH H [x] H') v y->Rep (bH H [x] lO) v y:=fun m k rep=>m _ _ _ _ (jB k fun b ak=>.inr ak) rep;refine mH gs rfl ⟨fun m m5 gu b2 hm iy fX ft=>?_,fun hz H' aG=>fail (dG.trans aG) (by rw[ps,hz];rfl)⟩;have ano:=up (fL uh) dG gs.dom ft;have ag8:=dG.trans fX;obtain⟨fY,zA,bB,_⟩:=id iy.cY;refine⟨_,Z,x,_,fY,_,_,Z,bB,T.dV,T.yR,Z,_,Z,by omega,by omega,fun kf aA6=>?_⟩;refine xE (E:=E) (p:=zN) (Rep:=k9) (n:=g) vr iy (by omega) aA6 (fun i eN ag1 er o1 _ o=>mH o1 rfl o) (fun cs ag1 eN xQ o1 nx rc=>?_) fun hz eN nx=>fail (ag8.trans nx) (by rw[ps,hm];simp[hz]);have anp:=up hg ag8 iy.dom (Yl rc);have anq:=on (fL uh) nx ano;have ag9:=ag8.trans nx;clear ano bB;obtain⟨fY,zA,bB,_⟩:=id o1.cY;refine⟨_,Z,x,_,fY,_,_,Z,bB,T.dV,T.yR,Z,_,Z,by omega,by omega,fun kV aA7=>?_⟩;refine xE (E:=E) (p:=u16) (Rep:=k9) (n:=g) vr o1 (by omega) aA7 (fun i dD yt er nC _ o=>hW nC rfl o) (fun ws yt dD jF nC nD nU=>?_) fun hz dD nD=>fail (ag9.trans nD) (by rw[ps,hm];simp[xQ,hz]);have aA8:=up hg ag9 o1.dom (Yl nU);have aA9:=on hg nD anp;have anr:=on (fL uh) nD anq;have Zh:=ag9.trans nD;clear anq anp bB;have iV:cs.length=g:=mX _ xQ;refine⟨_,Z,_,Z,_,Z,?_⟩;intro aZ dO kp Zi Tn;obtain⟨c',e,ag'⟩:=aA9;cases e;obtain⟨w',e,ans⟩:=aA8;cases e;have bY:=n3 (C:=t.eu) (fs:=[]) kp Zi;refine⟨_,_,_,_,Z,aZ,dO,kf,cs,Z,Z,a8,bY _ _ (hC _ _ ag'),aA0 xQ,by omega,fun mF bG vc rO gB Hv Zj Zk Zm=>⟨rfl,?_⟩⟩;have rK:aQ dD mF:=fun b o e=>Hv b o (by simp only[g5];exact bR e kp) (bY _ _ e);have aha:H aZ=none:=by
  cases z:H aZ with
  |none=>rfl
  |some o=>exact absurd kp (G' Zh nC.dom aZ (by rw[z];simp))
 have zR:aZ≠x:=fun e=>nC.dom (e▸kp);have ahb:H1 aZ=none:=Zh.free (by simp[zR]) kp;have ahc:aZ≠ca:=fun e=>by rw[e]at aha;rw[aha]at hY;cases hY
 have Zn:∀ {b o},bH H [x] dD b=some o->bH H [x,aZ] mF b=some o:=fun{b o} h=>by
  obtain⟨gn,eH,ni⟩:=ew.mp h;refine ew.mpr ⟨gn,?_,rK _ _ ni⟩;simp at eH ⊢;exact⟨eH,bR ni kp⟩
 have ant:aQ (bH H [x] dD) (bH H [x,aZ] mF):=fun b o h=>Zn h;have anu:=fL uh _ _ _ _ ant anr;have anv:=Zn ag';have Ks:=Zn ans;have anw:bG≠aZ:=by
  rintro rfl;rw[Zj]at Zk;cases Zk
 have ahd:bG≠x:=fun e=>by
  rw[e]at Zm;exact(aQ.dom bY x nC.dom) Zm
 have aA_:H bG=none:=by
  cases z:H bG with
  |none=>rfl
  |some o=>exact absurd Zm (aQ.dom bY bG (G' Zh nC.dom bG (by rw[z];simp)))
 have anx:bH H [x,aZ] mF bG=some (.lst (cs.map fun z=>nat (nF z))):=ew.mpr ⟨aA_,by simp[anw,ahd],Zk⟩;have SM:=nC.oX rK;have Zo:bf [x] H1 mF:=Zh.trans (hq rK _);clear anr ag' ans Zn ant Zk Zm bY Hv rK kp Zi Tn;have ahe:∀ {α:Type} {Rep:ao->V->α->Prop} {H' lO:ao} {v:V} {y:α},fD Rep->bf [x] H1 H'->H' x≠none->H' aZ≠none->Rep (bH H' [] lO) v y->Rep (bH H [x,aZ] lO) v y:=fun m k aq hf rep=>m _ _ _ _ (tV (G' k aq) (fun b ak=>by simp at ak;rcases ak with z|z;exact z▸aq;exact z▸hf)) rep;have go:∀ {H' lO:ao},bf [x] H' lO->∀ o,aQ (bH H [x,aZ] H') (bH H [x,aZ] (upd lO aZ o)):=fun{H' lO} k o=>y1 fun b u gn eH ni=>⟨gn,eH,by simp at eH;rw[a7 eH.2];exact k _ _ (by simp[eH.1]) ni⟩;refine mH SM rfl ⟨fun fW YP jV iW xR zz n_ rs=>?_,fun hz H' aG=>fail (Zo.trans aG) (by rw[ps,hm];simp[xQ,jF,hz])⟩;have anz:=n_ _ _ (by simp[zR]) Zj;refine⟨_,Z,aZ,_,dO,_,Z,anz,T.gq,T.Cd,by show 7<1000;decide,?_⟩;have Tp:=go n_ (.ins t.eu dO (cC "changes" jV (kc gu (.ref kf) (.ref kV) (.ref bG) vc rO gB)));have ahf:(upd iW aZ (.ins t.eu dO (cC "changes" jV (kc gu (.ref kf) (.ref kV) (.ref bG) vc rO gB)))) aZ=some (.ins t.eu dO (kc gu (.ref kf) (.ref kV) (.ref bG) jV rO gB)):=a8;have RA:ef t (upd iW aZ (.ins t.eu dO (cC "changes" jV (kc gu (.ref kf) (.ref kV) (.ref bG) vc rO gB)))) x ca bs YP g:=zz.upd zR ahc;have jT:bf [x] H1 (upd iW aZ (.ins t.eu dO (cC "changes" jV (kc gu (.ref kf) (.ref kV) (.ref bG) vc rO gB)))):=(Zo.trans n_).xB ahb;have anA:hj (ug t) (bH H [x,aZ] iW) jV fW:=ahe (fL zF) Zo SM.dom (j5 Zj) rs;have anB:hj (ug t) (bH H [x,aZ] (upd iW aZ (.ins t.eu dO (cC "changes" jV (kc gu (.ref kf) (.ref kV) (.ref bG) vc rO gB))))) jV fW:=fL zF _ _ _ _ (go (bf.refl _ _) _) anA;have anC:=fL uh _ _ _ _ Tp anu;have anD:=Tp _ _ anv;have anE:=Tp _ _ Ks;have anF:=Tp _ _ anx;generalize upd iW aZ (.ins t.eu dO (cC "changes" jV (kc gu (.ref kf) (.ref kV) (.ref bG) vc rO gB)))=HA at *;clear anu anv Ks anx Tp anA rs anz Zj SM zz n_ Zo;refine mH RA rfl ⟨fun pb ahg oa H2 Dk zE vB rs=>?_,fun hz H' aG=>fail (jT.trans aG) (by rw[ps,hm];simp[xQ,jF,xR,hz])⟩;have anG:=vB _ _ (by simp[zR]) ahf;refine⟨_,Z,aZ,_,dO,_,Z,anG,T.gq,T.Gq,by show 7<1000;decide,?_⟩;have H3:=go vB (.ins t.eu dO (cC "places" oa (kc gu (.ref kf) (.ref kV) (.ref bG) jV rO gB)));have ahh:(upd H2 aZ (.ins t.eu dO (cC "places" oa (kc gu (.ref kf) (.ref kV) (.ref bG) jV rO gB)))) aZ=some (.ins t.eu dO (kc gu (.ref kf) (.ref kV) (.ref bG) jV oa gB)):=a8;have anH:ef t (upd H2 aZ (.ins t.eu dO (cC "places" oa (kc gu (.ref kf) (.ref kV) (.ref bG) jV rO gB)))) x ca bs ahg g:=zE.upd zR ahc;have ahi:bf [x] H1 (upd H2 aZ (.ins t.eu dO (cC "places" oa (kc gu (.ref kf) (.ref kV) (.ref bG) jV rO gB)))):=(jT.trans vB).xB ahb;have anI:hj (sG t) (bH H [x,aZ] H2) oa pb:=ahe (fL HF) jT RA.dom (j5 ahf) rs;have anJ:hj (sG t) (bH H [x,aZ] (upd H2 aZ (.ins t.eu dO (cC "places" oa (kc gu (.ref kf) (.ref kV) (.ref bG) jV rO gB))))) oa pb:=fL HF _ _ _ _ (go (bf.refl _ _) _) anI;have aA':=fL uh _ _ _ _ H3 anC;have aBa:=H3 _ _ anD;have aBb:=H3 _ _ anE;have aBd:=H3 _ _ anF;have anK:=fL zF _ _ _ _ H3 anB;generalize upd H2 aZ (.ins t.eu dO (cC "places" oa (kc gu (.ref kf) (.ref kV) (.ref bG) jV rO gB)))=HC at *;clear anC anD anE anF H3 anI rs anB anG ahf RA zE vB jT;obtain⟨cl,rM,aBe,aBf,ahj⟩:=id anK;obtain⟨pl,j_,Tq,aBg,aBh⟩:=id anJ;have Dl:rM.length=fW.length:=f9 ahj;have zT:j_.length=pb.length:=f9 aBh;refine⟨_,Z,_,Z,_,_,Z,x,aZ,dO,_,cl,pl,rM,j_,Z,Z,zR,ahh,by rw[← aBe];rfl,by rw[← Tq];rfl,hC _ _ aBf,hC _ _ aBg,ca,bs,ahg,g,anH,fun Tr Zq vL H4 aBi aBj ahk rf=>?_,fun hz H' aG=>fail (ahi.trans aG) (by rw[ps,hm];rw[Dl,zT]at hz;simp[xQ,jF,xR,Dk,hz])⟩;have aBk:Ao fW.length pb.length ahg=some (Tr,Zq):=by rw[← Dl,← zT];exact aBi
 have aBl:=ahk _ _ (by simp[zR]) ahh;refine⟨_,Z,aZ,_,dO,_,Z,aBl,T.gq,T.Ce,by show 7<1000;decide,?_⟩;have zp:=go ahk (.ins t.eu dO (cC "features" vL (kc gu (.ref kf) (.ref kV) (.ref bG) jV oa gB)));have aBm:(upd H4 aZ (.ins t.eu dO (cC "features" vL (kc gu (.ref kf) (.ref kV) (.ref bG) jV oa gB)))) aZ=some (.ins t.eu dO (kc gu (.ref kf) (.ref kV) (.ref bG) jV oa vL)):=a8;have RE:ef t (upd H4 aZ (.ins t.eu dO (cC "features" vL (kc gu (.ref kf) (.ref kV) (.ref bG) jV oa gB)))) x ca bs Zq g:=aBj.upd zR ahc;have anL:bf [x] H1 (upd H4 aZ (.ins t.eu dO (cC "features" vL (kc gu (.ref kf) (.ref kV) (.ref bG) jV oa gB)))):=(ahi.trans ahk).xB ahb;have aBn:HN t (bH H [x,aZ] H4) vL Tr:=ahe Y_ ahi anH.dom (j5 ahh) rf;have aBo:HN t (bH H [x,aZ] (upd H4 aZ (.ins t.eu dO (cC "features" vL (kc gu (.ref kf) (.ref kV) (.ref bG) jV oa gB))))) vL Tr:=Y_ _ _ _ _ (go (bf.refl _ _) _) aBn;have aBp:=fL uh _ _ _ _ zp aA';have aBq:=zp _ _ aBa;have aBr:=zp _ _ aBb;have aBs:=zp _ _ aBd;have aBt:=fL zF _ _ _ _ zp anK;have aBu:=fL HF _ _ _ _ zp anJ;generalize upd H4 aZ (.ins t.eu dO (cC "features" vL (kc gu (.ref kf) (.ref kV) (.ref bG) jV oa gB)))=HE at *;have anM:qm bs=if Zq=[]then some ⟨g,m,cs,ws,fW,pb,Tr⟩else none:=by rw[ps,hm];simp[xQ,jF,xR,Dk,aBk]
 refine iM RE rfl ⟨_,rfl,x,rfl,ca,bs,Zq,g,RE,fun hz=>?_,fun hz=>fail anL (by rw[anM,bx hz])⟩;refine⟨_,Z,?_⟩;have aBv:aQ H HE:=fun b o e=>anL b o (by simp only[g5];exact bR e cU) (s1 _ _ e);have Dm:aQ (bH H [x,aZ] HE) (bH H [] HE):=y2 (by simp);exact k1 ⟨g,m,cs,ws,fW,pb,Tr⟩ aZ HE (by rw[anM,bM hz]) aBv ⟨dO,gu,kf,kV,bG,jV,oa,vL,ew.mpr ⟨aha,by simp,aBm⟩,fL uh _ _ _ _ Dm aBp,Dm _ _ aBq,Dm _ _ aBr,Dm _ _ aBs,fL zF _ _ _ _ Dm aBt,fL HF _ _ _ _ Dm aBu,Y_ _ _ _ _ Dm aBo⟩
theorem ahl(a b:Nat):Builtin.bitAnd (a:Int) (b:Int)=((a &&& b:Nat):Int):=by
 unfold Builtin.bitAnd;rw[fw (show(0:Int)<=(a:Int) by omega),fw (show(0:Int)<=(b:Int) by omega)];simp only[I9]
theorem aBw{sk c:Nat}(aH:sk<8)(aV:c<4):decide ((sk &&& nF c)=0)=!(decide (c≠0) && sk.testBit (c-1)):=by
 have key:∀ s:Fin 8,∀ d:Fin 4,decide ((s.val &&& nF d.val)=0)=!(decide (d.val≠0) && s.val.testBit (d.val-1)):=by decide
 exact key ⟨sk,aH⟩ ⟨c,aV⟩
theorem anN(T:Txt K av t):cJ P w K av base (cM P w) 1 t.K8 t.K9 ["self","character"] (fT fun a b H Q _=>∃ aZ f c,a=.ref aZ/\b=nat c/\lQ t H aZ f/\Ax f.map/\Q (nat (mapped f c)) H):=by
 refine T.WR.cZ Cq fT.cX ?_;rintro bK A outer s H _ Q E aA ⟨cn,a1,rfl,aZ,f,c,rfl,rfl,⟨dx,p,Dn,ww,bG,vc,gu,gB,fe,⟨nc,j_,rfl,vM,pp⟩,_⟩,mo,k1⟩;refine⟨_,(aW (ct (i:=2) Cq.nd Z (Or.inl Z) b3) (aW (ct (i:=3) Cq.nd Z (Or.inl Z) (hx iH Z T.hB hN (aD (bQ (aj 0) Z) aM))) (aW (Vp (gP dJ Z) (gM q_ (aj 2) (aj 3) (fj _)) (aW (ct (i:=4) Cq.nd Z (Or.inl Z) (fa asJ (fa m8 (aj 2) (aj 3)) b3)) (bk (gj (gM q_ (eO Bv (eO gA (bQ (aj 0) Z) (aj 4) (fun _ _=>Z)) b3 (fun _ _=>Z)) (aj 1) (fj _)) (bk (ct (i:=2) Cq.nd Z (Or.inl Z) (fa m8 (aj 4) b3))) (bk (ct (i:=3) Cq.nd Z (Or.inl Z) (aj 4))))))) (aW (gj (gM jO (aj 2) (hx iH Z T.hB hN (aD (bQ (aj 0) Z) aM)) (fj _)) (bk (dM b3)) hu) (aW (ct (i:=5) Cq.nd Z (Or.inl Z) (eO gA (bQ (aj 0) Z) (aj 2) (fun _ _=>Z))) (bk (dM (Vj (gM yu (eO Bv (aj 5) b3 (fun _ _=>Z)) (aj 1) (fj _)) (fa ky (fa m8 (eO Bv (aj 5) b3 (fun _ _=>Z)) (aj 1)) (eO Bv (aj 5) b3 (fun _ _=>Z))) b3)))))))),?_⟩;apply wM;intros;have g8:j_.length=f.map.length:=f9 pp;refine⟨_,Z,aZ,_,dx,_,_,Z,fe,T.gq,T.Ca,Z,nc,j_,Z,.inl (aT.of vM),?_⟩;refine abr (fun σ H'=>H'=H/\∃ lo hi s4,σ=[some (.ref aZ),some (nat c),some (nat lo),some (nat hi),s4,none]/\lo<=hi/\hi<=f.map.length/\(∀ (j:Nat) (s:Sw28.Span),j<lo->f.map[j]?=some s->s.last<c)/\∀ s,f.map[hi]?=some s->c<=s.last)
  (fun σ _=>match σ with
   | [_,_,some (.int a),some (.int b),_,_]=>(b-a).toNat
   |_=>0) ⟨rfl,0,j_.length,_,rfl,eZ _,by omega,fun j s h=>absurd h (Ai _),fun s h=>?_⟩ (fun σ H' ⟨e,lo,hi,s4,a9,h1,aC,bI,dz⟩=>?_) (fun σ H Q er h ⟨v,e,w,a9,i,j,a,b,k,zU,q⟩=>⟨v,e,w,a9,i,j,a,b,k,zU,h _ _ q⟩)
 ·rw[g8,qZ (cH _)]at h;cases h
 subst e a9;refine⟨_,Z,_,Z,_,_,Z,Z,_,Z,dF (fun ak=>?_) fun ak=>?_⟩
 ·have c0:lo<hi:=by have:=h3 ak;omega
  have em:((lo:Int)+(hi:Int)) / 2=(((lo+hi) / 2:Nat):Int):=by omega
  refine⟨_,Z,_,Z,_,_,Z,Z,_,_,Z,Z,⟨by decide,by decide⟩,?_⟩;simp only[em];have Kg:(lo+hi) / 2<hi:=by omega
  have yJ:lo<=(lo+hi) / 2:=by omega
  generalize (lo+hi) / 2=mid at *;have zV:f.map[mid]?=some (f.map[mid]'(by omega)):=dT (by omega);obtain⟨u,cF,ez,rfl,cx⟩:=za pp zV;generalize f.map[mid]'(by omega)=sp at *;refine⟨_,Z,aZ,_,dx,_,_,Z,fe,T.gq,T.Ca,Z,_,Z,nc,j_,_,_,Z,Z,aT.of vM,gO cF,ez,_,1,nat sp.last,Z,Z,fO.of cx,Z,_,Z,_,_,Z,Z,_,Z,dF (fun jG=>?_) fun jG=>?_⟩
  ·have Dl:sp.last<c:=by have:=h3 jG;omega
   refine⟨_,Z,_,_,Z,Z,⟨Z,mid+1,hi,_,Z,Kg,aC,fun j s bN aH=>?_,dz⟩,?_⟩
   ·rcases Nat.lt_or_eq_of_le (Nat.le_of_lt_succ bN)with z|z
    ·exact rZ (mo.aq0 z aH zV) Dl
    ·subst z;rw[zV]at aH;cases aH;exact Dl
   ·show((hi:Int)-((mid:Int)+1)).toNat<((hi:Int)-(lo:Int)).toNat;omega
  ·have Dl:c<=sp.last:=by
    have:¬ (sp.last:Int)<(c:Int):=fun z=>jG (fw z);omega
   refine⟨_,Z,⟨Z,lo,mid,_,Z,yJ,by omega,bI,fun s aH=>?_⟩,?_⟩
   ·rw[zV]at aH;cases aH;exact Dl
   ·show((mid:Int)-(lo:Int)).toNat<((hi:Int)-(lo:Int)).toNat;omega
 ·have hle:lo=hi:=by
   have:¬ (lo:Int)<(hi:Int):=fun z=>ak (fw z);omega
  subst hle;refine⟨_,Z,_,Z,aZ,_,dx,_,_,Z,fe,T.gq,T.Ca,Z,nc,j_,Z,.inl (aT.of vM),Z,_,Z,dF (fun jG=>?_) fun jG=>?_⟩
  ·have e:lo=f.map.length:=by have:=j9 jG;omega
   have:mapped f c=0:=aq1 fun j s aH=>bI j s (by rw[e];exact(eF.mp aH).1) aH;rw[this]at k1;exact k1
  ·have e:lo<f.map.length:=by have:=C_ jG;omega
   have zV:f.map[lo]?=some f.map[lo]:=dT e;obtain⟨u,cF,ez,rfl,cx⟩:=za pp zV;have hb:=aq2 mo bI zV (dz _ zV);generalize f.map[lo]=sp at *;refine⟨_,Z,aZ,_,dx,_,_,Z,fe,T.gq,T.Ca,Z,_,Z,nc,j_,_,_,Z,Z,aT.of vM,gO cF,?_⟩;refine⟨_,Z,ez,_,0,nat sp.first,Z,Z,fO.of cx,Z,_,Z,_,_,Z,Z,_,Z,dF (fun xT=>?_) fun xT=>?_⟩
   ·have js:sp.first<=c:=by have:=h3 xT;omega
    refine⟨_,Z,ez,_,2,nat sp.sign,Z,Z,fO.of cx,Z,_,Z,_,_,Z,Z,_,Z,ez,_,0,nat sp.first,Z,Z,fO.of cx,Z,_,_,Z,Z,?_⟩;rw[hb,bM js]at k1;have a9:(sp.sign:Int)+(c:Int)-(sp.first:Int)=((sp.sign+(c-sp.first):Nat):Int):=by omega
    simp only[a9];exact k1
   ·have js:¬ sp.first<=c:=by
     intro z;exact xT (fw (by omega))
    rw[hb,bx js]at k1;exact k1
theorem anO(T:Txt K av t):cJ P w K av base (cM P w) 1 t.K_ t.La ["self","sign"] (fT fun a b H Q _=>∃ aZ f s,a=.ref aZ/\b=nat s/\lQ t H aZ f/\s<f.cls.length/\Q (.bl (decide (f.cls.getD s 0=3))) H):=by
 obtain⟨aHD,aBx,aBy⟩:=T.k_MARK;refine T.WW.cZ axK fT.cX ?_;rintro bK A outer s H _ Q E aA ⟨cn,a1,rfl,aZ,f,s,rfl,rfl,⟨dx,p,Dn,ww,bG,vc,gu,gB,fe,_,E',_⟩,aH,k1⟩;refine⟨_,(bk (dM (nR jO (eO gA (bQ (aj 0) Z) (aj 1) (fun _ _=>Z)) (gW Z aBx aBy) (fj _)))),?_⟩;have b5:(f.cls.map nat)[s]?=some (nat (f.cls.getD s 0)):=by simp[List.getD,dT aH]
 refine⟨_,Z,aZ,_,dx,_,_,Z,fe,T.gq,T.QD,Z,_,Z,Dn,_,_,_,Z,Z,aT.of E',gO b5,Z,?_⟩;have e:decide (V.int (f.cls.getD s 0:Nat)=V.int 3)=decide (f.cls.getD s 0=3):=wg.mpr ⟨fun h=>by injection h;omega,fun h=>by rw[h];rfl⟩;rw[e];exact k1
theorem anP{f:Font}{sk s:Nat}(aH:s<f.cls.length)(dz:∀ z∈f.cls,z<4)(aN:sk<8):decide (V.int (Builtin.bitAnd (sk:Int) ((nF (f.cls.getD s 0):Nat):Int))=V.int 0)=!h5 f sk s:=by
 have aV:f.cls.getD s 0<4:=by
  rw[List.getD,dT aH];exact dz _ (mW aH)
 rw[ahl];unfold h5;rw[← aBw aN aV];exact wg.mpr ⟨fun h=>by injection h;omega,fun h=>by rw[h];rfl⟩
inductive zW(t:bW)(H:ao)(v:V)(sk:Nat) :Prop
 |mk (p dx k b):v=.ref p->H p=some (.ins t.rr dx [("kind",k),("passes",nat sk),("body",b)])->zW t H v sk
theorem ug.at{H:ao}{v:V}{r:Rule Sw28.Sub}(h:ug t H v r):zW t H v r.skip:=by
 obtain⟨p,dx,eA,e,h,_⟩:=h;exact⟨p,dx,_,eA,e,h⟩
theorem sG.at{H:ao}{v:V}{r:Rule Sw28.Pos}(h:sG t H v r):zW t H v r.skip:=by
 obtain⟨p,dx,eA,e,h,_⟩:=h;exact⟨p,dx,_,eA,e,h⟩
theorem zW.mono{H H':ao}{v:V}{sk:Nat}(s:aQ H H')(h:zW t H v sk):zW t H' v sk:=by
 obtain⟨p,dx,k,b,e,h⟩:=h;exact⟨p,dx,k,b,e,s _ _ h⟩
theorem anQ{f:Font}{s:Nat}(aH:s<f.cls.length):(f.cls.map fun z=>nat (nF z))[s]?=some (nat (nF (f.cls.getD s 0))):=by
 simp[List.getD,dT aH]
inductive anR(t:bW)(a b c:V)(H:ao)(Q:bA)(pU:cN):Prop
 |mk (aZ f sk s):a=.ref aZ->c=nat s->lQ t H aZ f->zW t H b sk->sk<8->s<f.cls.length->(∀ z∈f.cls,z<4)->Q (.bl (h5 f sk s)) H->anR t a b c H Q pU
def anS(t:bW):eY:=gd (anR t)
theorem ahm(T:Txt K av t):cJ P w K av base (cM P w) 1 t.Lb t.Ld ["self","rule","sign"] (anS t):=by
 refine T.WY.cZ axL gd.cX ?_;rintro bK A outer s H _ Q E aA ⟨cn,a1,a2,rfl,aZ,f,sk,s,rfl,rfl,⟨dx,p,Dn,ww,bG,vc,gu,gB,fe,_,_,_,e3,_⟩,⟨ft,fY,agj,rb,rfl,hZ⟩,aN,aH,dz,k1⟩;refine⟨_,(bk (dM (nR asQ (fa aby (bQ (aj 1) Z) (eO gA (bQ (aj 0) Z) (aj 2) (fun _ _=>Z))) b3 (fj _)))),?_⟩;refine⟨_,Z,ft,_,fY,_,_,Z,hZ,T.jy,T.QC,Z,?_⟩;refine⟨_,Z,aZ,_,dx,_,_,Z,fe,T.gq,T.QF,Z,_,Z,bG,_,_,_,Z,Z,aT.of e3,gO (anQ aH),_,_,Z,Z,Z,?_⟩;rw[anP aH dz aN,Bool.not_not];exact k1
def g0(f:Font)(sk:Nat)(ss:aK):aK:=(List.range ss.length).filter fun i=>!h5 f sk (ss.getD i 0)
theorem aBz{K':cp}{a D:au}{xs:List V}{te:TE}{tt:TT}{σ:St}{i1 i2:Nat}{H:ao}{gw:ao->Prop}(sel:Nat->Bool)(aX:aT K' H a xs)(hz:xs.length<=65536)(bw:H D=none)
  (hw:∀ x y,wipe (((wipe σ [i1,i2]).set i1 (some x)).set i2 (some y)) [i1,i2]=wipe σ [i1,i2])
  (rB:∀ (i:Nat) x H' (er:bA) (N:ao->Prop),xs[i]?=some x->aQ H H'->(sel i=true->er (nat i) H')->(sel i=false->N H')->tt (((wipe σ [i1,i2]).set i1 (some (nat i))).set i2 (some x)) H' fun b aJ=>if b=true then te (((wipe σ [i1,i2]).set i1 (some (nat i))).set i2 (some x)) aJ er else N aJ)
  (k:∀ H',aQ H H'->H' D=some (.lst (((List.range xs.length).filter sel).map nat))->gw H') :
  ∃ W:Nat->Nat->ao->Prop,(∃ m,W 0 m (upd H D (.lst [])))/\∀ i m H,W i m H ->
   ((yK K' a).stop i H/\gw H)\/((yK K' a).go i H/\∃ fQ:ao->Prop,(∀ H',fQ H'->∃ dU,dU<m/\W (i+1) dU H')/\∀ x H',(yK K' a).mg i H x H'->g2 K' i1 i2 x (wipe σ [i1,i2]) H' fun dW aB=>wipe dW [i1,i2]=wipe σ [i1,i2]/\tt dW aB fun b aJ =>
    if b=true then te dW aJ fun y bC=>∃ acc,bC D=some (.lst acc)/\acc.length<sizeLine/\fQ (upd bC D (.lst (acc++[y])))else fQ aJ):=by
 refine⟨fun i m aB=>m=xs.length-i/\i<=xs.length/\aQ H aB/\aB D=some (.lst (((List.range i).filter sel).map nat)),⟨xs.length,by simp,eZ _,ei (aQ.refl _) bw,a8⟩,?_⟩;rintro i m aB ⟨rfl,hi,s2,hd⟩;have q:=s2.seq aX;by_cases c0:i<xs.length
 ·refine .inr ⟨⟨xs,xs[i],q,by simp[c0]⟩,fun aJ=>aQ H aJ/\aJ D=some (.lst (((List.range (i+1)).filter sel).map nat)),fun H' p'=>⟨xs.length-(i+1),by omega,rfl,c0,p'.1,p'.2⟩,fun v H' y=>?_⟩;obtain⟨T,x,rfl,cx,rfl,y⟩:=y;have sT:aQ aB (upd aB T (.tup [nat i,x])):=ei (aQ.refl _) cx;refine Ho a8 ⟨hw _ _,rB i x _ _ _ (y xs q) (s2.trans sT) (fun aH=>⟨_,sT _ _ hd,?_,ei (s2.trans sT) bw,?_⟩) fun aH=>⟨s2.trans sT,?_⟩⟩
  ·have:((List.range i).filter sel).length<=i:=jg (Ei _ _) (by simp)
   rw[ey];exact jR (by omega)
  ·rw[a8,p7,x4];simp[aH]
  ·rw[sT _ _ hd,p7,x4];simp[aH]
 ·have e:i=xs.length:=by omega
  subst e;exact .inl ⟨⟨xs,q,cH _⟩,k aB s2 hd⟩
inductive anT(t:bW)(a b c:V)(H:ao)(Q:bA)(pU:cN):Prop
 |mk (aZ f sk fM ss):a=.ref aZ->c=.ref fM->lQ t H aZ f->zW t H b sk->H fM=some (.lst (ss.map nat))->sk<8->ss.length<=4096->(∀ s∈ss,s<f.cls.length)->(∀ z∈f.cls,z<4)->(∀ D H',aQ H H'->H D=none->H' D=some (.lst ((g0 f sk ss).map nat))->Q (.ref D) H')->anT t a b c H Q pU
def aBA(t:bW):eY:=gd (anT t)
theorem H5(T:Txt K av t):cJ P w K av base (cM P w) 1 t.Le t.Lf ["self","rule","signs"] (aBA t):=by
 refine T.W0.cZ GP gd.cX ?_;rintro bK A outer s H _ Q E aA ⟨cn,a1,a2,rfl,aZ,f,sk,fM,ss,rfl,rfl,⟨dx,p,Dn,ww,bG,vc,gu,gB,fe,_,_,_,e3,_⟩,⟨ft,fY,agj,rb,rfl,hZ⟩,qI,aN,jj,jn,dz,k1⟩;refine⟨_,(aW (ct (i:=3) GP.nd Z (Or.inr Z) (bQ (aj 0) Z)) (aW (ct (i:=4) GP.nd Z (Or.inr Z) (bQ (aj 1) Z)) (bk (dM (iI (own:=[("at",5),("sign",6)]) dJ (fun _ _ z=>z) Z GP.nd (BL Z T.xd (aD (aj 2) aM)) (gY (by rfl)) (fun _ _ _ _ _=>alB (K':=K) (n:=2) Z Z (jM (dm (i:=5) GP.nd Z (Or.inl Z)) (jM (dm (i:=6) GP.nd Z (Or.inl Z)) r7))) (fun _ _ _ _ _=>(VL (gM jO (fa aby (aj 4) (eO (Cv (K':=K) Z) (aj 3) (aj 6) (fun _ _=>Z))) b3 (fj _)))) (fun _ _ _ _ _=>(aj 5))))))),?_⟩;apply dZ;intros;refine⟨_,Z,aZ,_,dx,_,_,Z,fe,T.gq,T.QF,Z,?_⟩;refine⟨_,Z,ft,_,fY,_,_,Z,hZ,T.jy,T.QC,Z,?_⟩;refine⟨_,Z,fM,_,Z,aT.of qI,fun D bw=>?_⟩;refine aBz (fun i=>!h5 f sk (ss.getD i 0)) (aT.of qI) (by simp;omega) bw (fun _ _=>rfl) (fun i x H' er N aq aH h1 aC=>?_) fun H' s' hd=>k1 D H' s' bw (by rw[hd,ey];rfl);have hi:i<ss.length:=by simpa using(eF.mp aq).1
 have ex:x=nat (ss.getD i 0):=by
  rw[ek,dT hi]at aq;simp[List.getD,dT hi];exact(Option.some.inj aq).symm
 subst ex;have Dp:ss.getD i 0<f.cls.length:=by
  rw[List.getD,dT hi];exact jn _ (mW hi)
 refine⟨_,Z,_,Z,_,Z,bG,_,_,_,Z,Z,aT.of (aH _ _ e3),gO (anQ Dp),_,_,Z,Z,Z,_,Z,?_⟩;rw[anP Dp dz aN];exact dF (fun ak=>⟨_,rfl,h1 ak⟩) fun ak=>aC (by simpa using ak)
noncomputable def mL (bG ca:au) (hD gx fP:V):List (Str×V):=[("signs",.ref bG),("characters",.ref ca),("widths",hD),("rights",gx),("ups",fP)]
inductive anU(t:bW)(s a b:V)(H:ao)(Q:bA)(E:cN):Prop
 |mk (row dx bG ca xU Dq hD gx fP vs):s=.ref row->a=.ref xU->b=.ref Dq->H row=some (.ins t.fC dx (mL bG ca hD gx fP))->H xU=some (.lst vs)->(vs.length<=4096->Q .non (upd H row (.ins t.fC dx (mL xU Dq hD gx fP))))->(4096<vs.length->E (.ref t.B_) none H)->anU t s a b H Q E
def aBB(t:bW):eY:=gd (anU t)
theorem Tt(T:Txt K av t):cJ P w K av base (cM P w) 1 t.Mv t.Mw ["self","signs","characters"] (aBB t):=by
 obtain⟨aBC,ahn,aho⟩:=T.k_MOST_SIGNS;refine T.Xu.cZ axV gd.cX ?_;rintro bK A outer s H _ Q E aA ⟨cn,a1,a2,rfl,row,dx,bG,ca,xU,Dq,hD,gx,fP,vs,rfl,rfl,rfl,dR,e3,k1,k2⟩;try simp only at k1 k2
 refine⟨_,(aW (gj (gM JV (hx iH Z T.hB hN (aD (aj 1) aM)) (gW Z ahn aho) (fj _)) (bk (akL Z (fun _ _ z=>z) Z T.Xp T.Xq)) hu) (aW (eX (aj 0) (aj 1) Z) (bk (eX (aj 0) (aj 2) Z)))),?_⟩;apply dZ;intros;refine⟨_,Z,xU,vs,Z,.inl (aT.of e3),_,_,Z,Z,_,Z,dF (fun ak=>?_) fun ak=>?_⟩
 ·exact k2 (by have:=h3 ak;omega)
 ·refine⟨_,Z,_,Z,row,_,dx,_,Z,dR,T.eE,T.iw,by show 5<1000;decide,?_⟩;refine⟨_,Z,_,Z,row,_,dx,_,Z,a8,T.eE,T.w6,by show 5<1000;decide,?_⟩;rw[ih];refine k1 ?_;have:¬ (4096:Int)<(vs.length:Int):=fun z=>ak (fw z);omega
inductive anV(t:bW)(s a b:V)(H:ao)(Q:bA)(pU:cN):Prop
 |mk (x dx bG ca vs):s=.ref x->a=.ref bG->b=.ref ca->H x=some (.ins t.fC dx [])->H bG=some (.lst vs)->vs.length<=4096->(∀ H' hD gx fP,bf [x] H H'->H' x=some (.ins t.fC dx (mL bG ca hD gx fP))->Q .non H')->anV t s a b H Q pU
def aBD(t:bW):eY:=gd (anV t)
theorem aBE(T:Txt K av t):cJ P w K av base (cM P w) 2 t.Mt t.Mu ["self","signs","characters"] (aBD t):=by
 refine T.Xr.cZ axU gd.cX ?_;rintro bK A outer s H _ Q E aA ⟨cn,a1,a2,rfl,x,dx,bG,ca,vs,rfl,rfl,rfl,aq,e3,jj,k1⟩;refine⟨_,(aW (eX (aj 0) (hc aM) Z) (aW (eX (aj 0) (hc aM) Z) (aW (eX (aj 0) (hc aM) Z) (aW (eX (aj 0) (hc aM) Z) (aW (eX (aj 0) (hc aM) Z) (bk (et (fl (aj 0) T.eE T.Cj (Tt T) aA.bh T.RQ .nil bj (aD (aj 1) (aD (aj 2) aM)))))))))),?_⟩;apply wM;intros;have key:∀ {H1:ao} {q:au} {o:HO},bf [x] H H1->H1 q=none->bf [x] H (upd (upd H1 q (.lst [])) x o):=fun k a6=>(k.jm a6).qN (by simp);refine⟨eZ _,fun bU Zr=>⟨_,rfl,x,_,dx,_,rfl,by rw[a7 (bR aq Zr)];exact aq,T.eE,T.iw,by show 0<1000;decide,?_⟩⟩;have cD:=key (o:=.ins t.fC dx (cC "signs" (.ref bU) [])) (bf.refl _ _) Zr;have mZ:(upd (upd H bU (.lst [])) x (.ins t.fC dx (cC "signs" (.ref bU) []))) x=some (.ins t.fC dx [("signs",.ref bU)]):=a8;generalize upd (upd H bU (.lst [])) x (.ins t.fC dx (cC "signs" (.ref bU) []))=H1 at *;refine⟨eZ _,fun cB HY=>⟨_,rfl,x,_,dx,_,rfl,by rw[a7 (bR mZ HY)];exact mZ,T.eE,T.w6,by show 1<1000;decide,?_⟩⟩;have bZ:=key (o:=.ins t.fC dx (cC "characters" (.ref cB) [("signs",.ref bU)])) cD HY;have Er:(upd (upd H1 cB (.lst [])) x (.ins t.fC dx (cC "characters" (.ref cB) [("signs",.ref bU)]))) x=some (.ins t.fC dx [("signs",.ref bU),("characters",.ref cB)]):=a8;generalize upd (upd H1 cB (.lst [])) x (.ins t.fC dx (cC "characters" (.ref cB) [("signs",.ref bU)]))=aB at *;refine⟨eZ _,fun dZ anW=>⟨_,rfl,x,_,dx,_,rfl,by rw[a7 (bR Er anW)];exact Er,T.eE,T.vq,by show 2<1000;decide,?_⟩⟩;have dh:=key (o:=.ins t.fC dx (cC "widths" (.ref dZ) [("signs",.ref bU),("characters",.ref cB)])) bZ anW;have xP:(upd (upd aB dZ (.lst [])) x (.ins t.fC dx (cC "widths" (.ref dZ) [("signs",.ref bU),("characters",.ref cB)]))) x=some (.ins t.fC dx [("signs",.ref bU),("characters",.ref cB),("widths",.ref dZ)]):=a8;generalize upd (upd aB dZ (.lst [])) x (.ins t.fC dx (cC "widths" (.ref dZ) [("signs",.ref bU),("characters",.ref cB)]))=aJ at *;refine⟨eZ _,fun hH CV=>⟨_,rfl,x,_,dx,_,rfl,by rw[a7 (bR xP CV)];exact xP,T.eE,T.yV,by show 3<1000;decide,?_⟩⟩;have dG:=key (o:=.ins t.fC dx (cC "rights" (.ref hH) [("signs",.ref bU),("characters",.ref cB),("widths",.ref dZ)])) dh CV;have zq:(upd (upd aJ hH (.lst [])) x (.ins t.fC dx (cC "rights" (.ref hH) [("signs",.ref bU),("characters",.ref cB),("widths",.ref dZ)]))) x=some (.ins t.fC dx [("signs",.ref bU),("characters",.ref cB),("widths",.ref dZ),("rights",.ref hH)]):=a8;generalize upd (upd aJ hH (.lst [])) x (.ins t.fC dx (cC "rights" (.ref hH) [("signs",.ref bU),("characters",.ref cB),("widths",.ref dZ)]))=bC at *;refine⟨eZ _,fun mc anY=>⟨_,rfl,x,_,dx,_,rfl,by rw[a7 (bR zq anY)];exact zq,T.eE,T.yW,by show 4<1000;decide,?_⟩⟩;have fX:=key (o:=.ins t.fC dx (cC "ups" (.ref mc) [("signs",.ref bU),("characters",.ref cB),("widths",.ref dZ),("rights",.ref hH)])) dG anY;have zQ:(upd (upd bC mc (.lst [])) x (.ins t.fC dx (cC "ups" (.ref mc) [("signs",.ref bU),("characters",.ref cB),("widths",.ref dZ),("rights",.ref hH)]))) x=some (.ins t.fC dx (mL bU cB (.ref dZ) (.ref hH) (.ref mc))):=a8;generalize upd (upd bC mc (.lst [])) x (.ins t.fC dx (cC "ups" (.ref mc) [("signs",.ref bU),("characters",.ref cB),("widths",.ref dZ),("rights",.ref hH)]))=b2 at *;have ahd:bG≠x:=hO e3 aq (by intro z;cases z);refine⟨_,Z,x,dx,_,Z,zQ,Z,_,Z,_,Z,_,_,_,Z,x,dx,bU,cB,bG,ca,.ref dZ,.ref hH,.ref mc,vs,Z,Z,Z,zQ,fX _ _ (by simp[ahd]) e3,fun _=>?_,fun h=>by omega⟩;exact k1 _ (.ref dZ) (.ref hH) (.ref mc) (fX.qN (by simp)) a8
inductive H6(t:bW)(H:ao)(row:au)(l:List Item) :Prop
 |mk (dx bG ca hD gx fP):H row=some (.ins t.fC dx (mL bG ca hD gx fP))->H bG=some (.lst ((l.map fun x=>x.sign).map nat))->H ca=some (.lst ((l.map fun x=>x.from_).map nat))->H6 t H row l
inductive anZ(t:bW)(pr:Sw28.Sub->Prop)(a b c:V)(H:ao)(Q:bA)(E:cN):Prop
 |mk (aZ f r row l):a=.ref aZ->c=.ref row->pr r.rule->lQ t H aZ f->pG f->r∈f.subs->ug t H b r->H6 t H row l->l.length<=4096->(∀ x∈l,x.sign<f.signs)->(∀ l' H',chg f r l=some l'->bf [row] H H'->H6 t H' row l'->Q .non H')->(chg f r l=none->∀ H',bf [row] H H'->E (.ref t.B_) none H')->anZ t pr a b c H Q E
def H7(t:bW)(pr:Sw28.Sub->Prop):eY:=gd (anZ t pr)
theorem vN{n j:Nat}(h:j<n):wO n (j:Int)=some j:=by
 unfold wO;rw[bM (by omega),bM (by omega)];simp
theorem Zt{β:Type}(s:Nat)(t:List (Nat×β)):(t.find? fun y=>decide (bJ y.1=bJ s))=t.find? fun y=>decide (y.1=s):=by
 congr 1
 funext y
 exact wg.mpr n7
theorem an0{H:ao}{v:V}{tb:List (Nat×Nat)}(h:Hi H v tb):∃ dN kvs,v=.ref dN/\H dN=some (.dX kvs)/\∀ s,(dY kvs (bJ s)).getD (nat s)=nat ((tb.lookup s).getD s):=by
 obtain⟨dN,kvs,e,ak,pp⟩:=h;refine⟨dN,kvs,e,ak,fun s=>?_⟩;have:=Hg (key:=fun y:Nat×Nat=>bJ y.1) (R:=fun H v y=>k9 H v y.2) (H:=H) (bJ s) pp;rw[Zt]at this;rw[U_];cases z:tb.find? fun y=>decide (y.1=s)with
 |none=>rw[this.1 z];rfl
 |some y =>
  obtain⟨u,cF,aA⟩:=this.2 y z;rw[cF];exact aA
theorem ahp{f:Font}{sk:Nat}{ss:aK}{i:Nat}(h:i∈g0 f sk ss):i<ss.length:=by
 unfold g0 at h;have:=(rT.mp h).1;simpa using this
theorem Zu{f:Font}{sk:Nat}{ss:aK}:(g0 f sk ss).length<=ss.length:=by
 unfold g0;exact jg (Ei _ _) (by simp)
theorem ahq(tb:List (Nat×Nat)):∀ (is ss:aK),(is.foldl (yh tb) ss).length=ss.length
 | [],_=>rfl
 |i::is,ss=>by
  rw[hs,ahq tb is];simp[yh]
theorem Zv(w:aK)(i s:Nat):(w.map nat).set i (nat s)=(w.set i s).map nat:=by rw[List.map_set]
theorem aBF(T:Txt K av t):cJ P w K av base (cM P w) 2 t.Ov t.Ow ["font","rule","row"] (H7 t fun s=>∃ tb,s=.one tb):=by
 refine T.Rg.cZ afP gd.cX ?_;rintro bK A outer s H _ Q E aA ⟨cn,b,c,rfl,aZ,f,r,row,l,rfl,rfl,jP,hf,ea,iz,iB,⟨dx,bG,ca,hD,gx,fP,dR,e3,hY⟩,aF,mO,k1,k2⟩;try simp only at k1 k2
 refine⟨_,(aW (ct (i:=3) afP.nd rfl (Or.inl rfl) (ra abT rfl T.GF Yj (aD (bQ (aj 2) rfl) aM))) (aW (hp (gP dJ rfl) rfl (gH (fl (aj 0) T.gq T.yQ (H5 T) aA.bh T.GJ .nil bj (aD (aj 1) (aD (bQ (aj 2) rfl) aM)))) (dm (i:=4) afP.nd rfl (Or.inl rfl)) (bk (Fl (FP (k6 aA) (bQ (aj 1) rfl) (eO gA (aj 3) (aj 4) (fun _ _=>rfl)) (eO gA (aj 3) (aj 4) (fun _ _=>rfl)) ⟨rfl,rfl,rfl,rfl⟩) (Fi (aj 3) (aj 4) set_list)))) (bk (et (fl (aj 2) T.eE T.Cj (Tt T) aA.bh T.RQ .nil bj (aD (aj 3) (aD (bQ (aj 2) rfl) aM))))))),?_⟩;apply dZ;intros;obtain⟨tb,hk⟩:=jP;have kW:=iB.at;obtain⟨ft,fY,rb,e,hZ,hL⟩:=iB;subst e;have hL:Hi H rb tb:=by
  have z:rI t H rb r.rule:=hL;rw[hk]at z;exact z
 obtain⟨dN,kvs,e,mQ,o8⟩:=an0 hL;subst e;have uv:chg f r l=some (l.map (oneOf f r.skip tb)):=by unfold chg;rw[hk]
 generalize jn:l.map (fun x=>x.sign)=ss at e3;have Zw:ss.length=l.length:=by rw[← jn,ey]
 refine⟨_,Z,row,_,dx,_,_,Z,dR,T.eE,T.iw,Z,bG,_,Z,.inl (aT.of e3),fun S d1=>?_⟩;have s1:aQ H (upd H S (.lst (ss.map nat))):=ei (aQ.refl _) d1;have j2:(upd H S (.lst (ss.map nat))) S=some (.lst (ss.map nat)):=a8;generalize upd H S (.lst (ss.map nat))=H1 at *;obtain⟨dO,_,_,_,_,_,_,_,fe,_⟩:=id hf;refine⟨_,Z,aZ,dO,_,Z,s1 _ _ fe,Z,_,Z,_,Z,row,_,dx,_,_,Z,s1 _ _ dR,T.eE,T.iw,Z,?_⟩;refine⟨_,_,_,Z,aZ,f,r.skip,bG,ss,Z,Z,mK s1 hf,kW.mono s1,s1 _ _ e3,ea.sk r iz,by omega,fun s aH=>?_,ea.r5,fun D aB s2 bw hd=>?_⟩
 ·rw[← jn]at aH;obtain⟨x,aq,rfl⟩:=g6.mp aH;rw[ea.cl];exact mO x aq
 have an1:=s1.trans s2;have aBG:D≠S:=(bR j2 bw).symm;have nb:∀ b o,H b=some o->b≠S:=fun b o e=>bR e d1;have hlen:(g0 f r.skip ss).length<=4096:=jg Zu (by omega);refine⟨D,Z,⟨_,aT.of hd⟩,?_⟩;refine qz (xs:=(g0 f r.skip ss).map nat) (fun j σ aJ=>(∃ s4,σ=[some (.ref aZ),some (.ref ft),some (.ref row),some (.ref S),s4])/\(∀ b o,b≠S->aB b=some o->aJ b=some o)/\aJ S=some (.lst ((((g0 f r.skip ss).take j).foldl (yh tb) ss).map nat))) ⟨⟨_,rfl⟩,fun _ _ _ e=>e,s2 _ _ j2⟩ (fun j σ aJ _ ⟨_,k,_⟩=>aT.of (k _ _ aBG hd)) (fun j v σ aJ a0 aU=>?_) fun σ aJ aU=>?_
 ·obtain⟨⟨s4,e⟩,k,mR⟩:=aU;subst e;have bN:j<(g0 f r.skip ss).length:=by simpa using(eF.mp a0).1
  have lF:(g0 f r.skip ss)[j]?=some (g0 f r.skip ss)[j]:=dT bN;have uQ:(g0 f r.skip ss)[j]<ss.length:=ahp (mW bN);rw[ek,lF]at a0;cases a0;rw[take_snoc lF,oo];generalize (g0 f r.skip ss)[j]=i at *;have lC:=ahq tb ((g0 f r.skip ss).take j) ss;generalize ((g0 f r.skip ss).take j).foldl (yh tb) ss=w at *;have u6:(w.map nat)[i]?=some (nat (w.getD i 0)):=by simp[List.getD,dT (show i<w.length by omega)]
  have k3:∀ b o,H b=some o->aJ b=some o:=fun b o e=>k b o (nb b o e) (an1 _ _ e);refine⟨_,Z,ft,_,fY,_,_,Z,k3 _ _ hZ,T.jy,T.ru,Z,dN,Z,.inl ⟨_,.inl (k3 _ _ mQ)⟩,?_⟩;refine⟨_,Z,_,Z,S,_,_,_,Z,Z,aT.of mR,gO u6,?_⟩;refine⟨_,Z,_,Z,S,_,_,_,Z,Z,aT.of mR,gO u6,_,hU.k (k:=bJ (w.getD i 0)) (k3 _ _ mQ),?_⟩;rw[o8];refine⟨_,Z,_,Z,S,_,_,i,Z,Z,mR,vN (by simp;omega),⟨_,Z⟩,fun b o n e=>?_,?_⟩
  ·rw[a7 n];exact k b o n e
  ·rw[a8,Zv];rfl
 ·obtain⟨⟨s4,e⟩,k,mR⟩:=aU;subst e;rw[ey,f3 (cH _)]at mR;have Zx:(g0 f r.skip ss).foldl (yh tb) ss=(l.map (oneOf f r.skip tb)).map fun x=>x.sign:=by
   rw[one_sign,jn];exact arf f r.skip tb ss
  have k3:∀ b o,H b=some o->aJ b=some o:=fun b o e=>k b o (nb b o e) (an1 _ _ e);refine⟨_,Z,row,dx,_,Z,k3 _ _ dR,Z,_,Z,_,Z,row,_,dx,_,_,Z,k3 _ _ dR,T.eE,T.w6,Z,?_⟩;refine⟨_,_,_,Z,row,dx,bG,ca,S,ca,hD,gx,fP,_,Z,Z,Z,k3 _ _ dR,mR,fun _=>?_,fun h=>?_⟩
  ·have Tv:S≠row:=(nb _ _ dR).symm
   have Tw:ca≠row:=hO hY dR (by intro z;cases z);refine k1 _ _ uv (fun b o n e=>by rw[a7 (by simpa using n)];exact k3 _ _ e) ⟨dx,S,ca,hD,gx,fP,a8,?_,?_⟩
   ·rw[a7 Tv,mR,Zx]
   ·rw[a7 Tw,arh];exact k3 _ _ hY
  ·rw[ey,ahq]at h;omega
theorem zX{a:au}:decide (V.ref a=V.non)=false:=ou (by intro h;cases h)
theorem aBH{K':cp}{σ:St}{H:ao}{S C hl:au}{w c:aK}{ps:aK}{ch:Nat}{D:Ends}(bI:σ[3]?=some (some (.ref S)))(dz:σ[4]?=some (some (.ref C)))(Dj:σ[7]?=some (some (.ref hl)))(tE:(wipe σ [8])[6]?=some (some (nat ch)))
  (d1:H S=some (.lst (w.map nat))) (vg:H C=some (.lst (c.map nat))) (gK:H hl=some (.lst (ps.map nat))) (H8:S≠C) (ahr:S≠hl) (aHE:ps.length<=8) (hw:w.length<=40000) (aV:c.length<=40000)
  (k:∀ H',(∀ b o,b≠S->b≠C->H b=some o->H' b=some o)->H' S=some (.lst ((w++ps).map nat))->H' C=some (.lst ((c++ps.map fun _=>ch).map nat))->D.cU σ H') :
  c4 (wL (yD K' "list" yE (gh 3) (nS (gh 7) m_))) (wL (yD K' "list" yE (gh 4) (nS (wV (Fq K' (gh 7)) (kY 8) se (gh 6) [8]) m_))) D σ H:=by
 refine⟨_,bI,.inl ⟨Z,_,aT.of d1⟩,_,Dj,S,hl,_,_,Z,Z,d1,gK,by simp;exact RX (by omega),?_⟩;have H9:(upd H S (.lst (w.map nat++ps.map nat))) hl=some (.lst (ps.map nat)):=by rw[a7 ahr.symm];exact gK
 have Tz:(upd H S (.lst (w.map nat++ps.map nat))) C=some (.lst (c.map nat)):=by rw[a7 H8.symm];exact vg
 have j2:(upd H S (.lst (w.map nat++ps.map nat))) S=some (.lst ((w++ps).map nat)):=by rw[a8,oh]
 have k1:∀ b o,b≠S->H b=some o->(upd H S (.lst (w.map nat++ps.map nat))) b=some o:=fun b o n e=>by rw[a7 n];exact e
 generalize upd H S (.lst (w.map nat++ps.map nat))=H1 at *;refine⟨_,dz,.inl ⟨Z,_,aT.of Tz⟩,_,Dj,hl,Z,⟨_,aT.of H9⟩,fun Y ix=>?_⟩;refine n5 ((ps.map fun _=>ch).map nat) (by simp) (aT.of H9) (by simp;omega) ix (fun i x y H' er aq aP aH q=>?_) ?_
 ·have gk:y=nat ch:=by
   rw[ek,ek]at aP;cases e:ps[i]? with
   |none=>rw[e]at aP;cases aP
   |some z=>rw[e]at aP;exact(Option.some.inj aP).symm
  subst gk;refine⟨_,?_,q⟩;rw[I6 (by decide)];exact tE
 ·have aBI:C≠Y:=bR Tz ix
  have aBJ:S≠Y:=bR j2 ix;refine⟨C,Y,_,_,Z,Z,by rw[a7 aBI];exact Tz,a8,by simp;exact RX (by omega),k _ (fun b o n1 n2 e=>?_) ?_ ?_⟩
  ·rw[a7 n2,a7 (bR (k1 _ _ n1 e) ix)];exact k1 _ _ n1 e
  ·rw[a7 H8,a7 aBJ];exact j2
  ·rw[a8,oh]
theorem an2{f:Font}{sk:Nat}{tb:List (Nat×aK)}{x:Item}{ps:aK}(h:gV f sk tb x=ps.map fun s=>{ x with sign:=s }):(gV f sk tb x).map (fun y=>y.sign)=ps/\(gV f sk tb x).map (fun y=>y.from_)=ps.map fun _=>x.from_:=by
 rw[h,kj,kj];exact⟨by simp[Function.comp_def],Z⟩
theorem aBK{H:ao}{v:V}{tb:List (Nat×aK)}(h:R8 H v tb):∃ dN kvs,v=.ref dN/\H dN=some (.dX kvs)/\∀ s,(tb.lookup s=none->dY kvs (bJ s)=none)/\∀ ps,tb.lookup s=some ps->∃ hl,dY kvs (bJ s)=some (.ref hl)/\H hl=some (.lst (ps.map nat)):=by
 obtain⟨dN,kvs,e,ak,pp⟩:=h;refine⟨dN,kvs,e,ak,fun s=>?_⟩;have:=Hg (key:=fun y:Nat×aK=>bJ y.1) (R:=fun H v y=>hr H v y.2) (H:=H) (bJ s) pp;rw[Zt]at this;rw[U_];refine⟨fun z=>this.1 (by simpa using z),fun ps hz=>?_⟩;cases z:tb.find? fun y=>decide (y.1=s)with
 |none=>rw[z]at hz;cases hz
 |some y =>
  rw[z]at hz;cases hz;obtain⟨u,cF,hl,e,gK⟩:=this.2 y z;exact⟨hl,by rw[cF,e],gK⟩
theorem an3{α β:Type}{l:List α}{i:Nat}{x:α}(h:l[i]?=some x)(g:α->List β):(l.take (i+1)).flatMap g=(l.take i).flatMap g++g x:=by
 rw[take_snoc h,List.flatMap_append];simp
theorem more_le{f:Font}{sk:Nat}{tb:List (Nat×aK)}(ak:∀ y∈tb,y.2.length<=8)(x:Item):(gV f sk tb x).length<=8:=by
 unfold gV;split
 ·simp
 ·split
  ·rename_i ss aH;rw[ey];exact ak _ (lookup_mem aH)
  ·simp
theorem an4{f:Font}{sk:Nat}{tb:List (Nat×aK)}(ak:∀ y∈tb,y.2.length<=8):∀ l:List Item,(l.flatMap (gV f sk tb)).length<=8 * l.length
 | []=>by simp
 |x::l=>by
  have h1:=more_le (f:=f) (sk:=sk) ak x;have aC:=an4 (f:=f) (sk:=sk) ak l;simp only[IV,gC,eo];omega
theorem aBL(T:Txt K av t):cJ P w K av base (cM P w) 2 t.Ox t.Oz ["font","rule","row"] (H7 t fun s=>∃ tb,s=.more tb):=by
 refine T.Rh.cZ xu gd.cX ?_;rintro bK A outer s H _ Q E aA ⟨cn,b,c,rfl,aZ,f,r,row,l,rfl,rfl,jP,hf,ea,iz,iB,⟨dx,bG,ca,hD,gx,fP,dR,e3,hY⟩,aF,mO,k1,k2⟩;try simp only at k1 k2
 refine⟨_,(aW (ct (i:=3) xu.nd rfl (Or.inl rfl) (hc aM)) (aW (ct (i:=4) xu.nd rfl (Or.inl rfl) (hc aM)) (aW (hp (gP dJ rfl) rfl (akD rfl T.X5 (aD (bQ (aj 2) rfl) (aD (bQ (aj 2) rfl) aM))) (s8 rfl (jM (dm (i:=5) xu.nd rfl (Or.inl rfl)) (jM (dm (i:=6) xu.nd rfl (Or.inr rfl)) r7))) (aW (ct (i:=7) xu.nd rfl (Or.inl rfl) (Vj (Bq (fl (aj 0) T.gq T.QG (ahm T) aA.bh T.afE .nil bj (aD (aj 1) (aD (aj 5) aM))) (fun _=>rfl)) Fd (Kc (k6 aA) (bQ (aj 1) rfl) (aj 5) ⟨rfl,rfl,rfl,rfl⟩))) (aW (gj (pN (yq (aj 7))) (bk (ct (i:=7) xu.nd rfl (Or.inl rfl) (hc (aD (aj 5) aM)))) hu) (aW (et (mA lW Uo Uq VH (aj 3) (aD (aj 7) aM))) (bk (et (mA lW Uo Uq VH (aj 4) (aD (iI (own:=[("part",8)]) dJ (fun _ _ z=>z) rfl xu.nd (gH (aj 7)) (gY (by rfl)) (fun _ _ _ _ _=>dm (i:=8) xu.nd rfl (Or.inl rfl)) (fun _ _ _ _ _=>hy) (fun _ _ _ _ _=>(aj 6))) aM)))))))) (bk (et (fl (aj 2) T.eE T.Cj (Tt T) aA.bh T.RQ .nil bj (aD (aj 3) (aD (aj 4) aM)))))))),?_⟩;apply hH;intros;obtain⟨tb,hk⟩:=jP;have kW:=iB.at;obtain⟨ft,fY,rb,e,hZ,hL⟩:=iB;subst e;have hL:R8 H rb tb:=by
  have z:rI t H rb r.rule:=hL;rw[hk]at z;exact z
 obtain⟨dN,kvs,e,mQ,o8⟩:=aBK hL;subst e;have rG:∀ y∈tb,y.2.length<=8:=by
  have z:=ea.fW r iz;rw[hk]at z;exact fun y aP=>(z y aP).1
 have uv:chg f r l=if 4096<(l.flatMap (gV f r.skip tb)).length then none else some (l.flatMap (gV f r.skip tb)):=by unfold chg;rw[hk]
 refine⟨eZ _,fun S d1=>?_⟩;refine⟨eZ _,fun C vg=>?_⟩;have H8:S≠C:=fun e=>by rw[← e,a8]at vg;cases vg
 have ahs:H C=none:=by rw[a7 H8.symm]at vg;exact vg
 have s1:aQ H (upd (upd H S (.lst [])) C (.lst [])):=ei (ei (aQ.refl _) d1) ahs;have j2:(upd (upd H S (.lst [])) C (.lst [])) S=some (.lst (([]:aK).map nat)):=by rw[a7 H8,a8];rfl
 have Tz:(upd (upd H S (.lst [])) C (.lst [])) C=some (.lst (([]:aK).map nat)):=a8;generalize upd (upd H S (.lst [])) C (.lst [])=H1 at *;refine⟨_,Z,row,_,dx,_,_,Z,s1 _ _ dR,T.eE,T.iw,Z,_,Z,row,_,dx,_,_,Z,s1 _ _ dR,T.eE,T.w6,Z,bG,ca,_,_,Z,aT.of (s1 _ _ e3),aT.of (s1 _ _ hY),?_⟩;refine al3 (by simp) (fun j σ aJ=>(∃ s5 cV fy,σ=[some (.ref aZ),some (.ref ft),some (.ref row),some (.ref S),some (.ref C),s5,cV,fy,none])/\aQ H aJ/\aJ S=some (.lst ((((l.take j).flatMap (gV f r.skip tb)).map fun y=>y.sign).map nat))/\aJ C=some (.lst ((((l.take j).flatMap (gV f r.skip tb)).map fun y=>y.from_).map nat))) ⟨⟨_,_,_,rfl⟩,s1,j2,Tz⟩ (fun j σ aJ _ ⟨_,s,_⟩=>⟨aT.of (s _ _ e3),aT.of (s _ _ hY)⟩) (fun j x y ez σ aJ aq aP ⟨⟨s5,cV,fy,e⟩,s3,mR,Zy⟩ cx=>?_) fun σ aJ aU=>?_
 ·subst e;have bN:j<l.length:=by simpa using(eF.mp aq).1
  have zY:l[j]?=some l[j]:=dT bN;have ex:x=nat l[j].sign:=by
   rw[ek,ek,zY]at aq;exact(Option.some.inj aq).symm
  have gk:y=nat l[j].from_:=by
   rw[ek,ek,zY]at aP;exact(Option.some.inj aP).symm
  subst ex gk;have aBM:l[j].sign<f.cls.length:=by rw[ea.cl];exact mO _ (mW bN)
  rw[an3 zY];have lC:((l.take j).flatMap (gV f r.skip tb)).length<=32768:=by
   have:=an4 (f:=f) (sk:=r.skip) rG (l.take j);rw[g4]at this;omega
  generalize (l.take j).flatMap (gV f r.skip tb)=acc at *;generalize l[j]=it at *;have s4:aQ aJ (upd aJ ez (.tup [nat it.sign,nat it.from_])):=ei (aQ.refl _) cx;generalize upd aJ ez (.tup [nat it.sign,nat it.from_])=bC at *;have sH:=s3.trans s4;have fin:∀ (D:Ends) (b2:ao) (hl:au) (ps:aK),(∀ σ aJ,((∃ s5 cV fy,σ=[some (.ref aZ),some (.ref ft),some (.ref row),some (.ref S),some (.ref C),s5,cV,fy,none])/\aQ H aJ/\aJ S=some (.lst (((acc++gV f r.skip tb it).map fun y=>y.sign).map nat))/\aJ C=some (.lst (((acc++gV f r.skip tb it).map fun y=>y.from_).map nat)))->D.cU σ aJ) ->
    aQ bC b2->b2 hl=some (.lst (ps.map nat))->S≠hl->ps.length<=8->gV f r.skip tb it=ps.map (fun s=>{ it with sign:=s }) ->
    c4 (wL (yD K "list" yE (gh 3) (nS (gh 7) m_))) (wL (yD K "list" yE (gh 4) (nS (wV (Fq K (gh 7)) (kY 8) se (gh 6) [8]) m_))) D
     [some (.ref aZ),some (.ref ft),some (.ref row),some (.ref S),some (.ref C),some (nat it.sign),some (nat it.from_),some (.ref hl),none] b2:=fun D b2 hl ps bw s5 gK ahr rN hm=>by
   have zu:=s4.trans s5;refine aBH rfl rfl rfl rfl (zu _ _ mR) (zu _ _ Zy) gK H8 ahr rN (by simp;omega) (by simp;omega) fun eN aBN aBO aBP=>bw _ _ ⟨⟨_,_,_,rfl⟩,fun b o e=>aBN b o (bR e d1) (bR e ahs) (s5 _ _ (sH _ _ e)),?_,?_⟩
   ·rw[oh,(an2 hm).1];exact aBO
   ·rw[oh,(an2 hm).2];exact aBP
  have alone:∀ (D:Ends),(∀ σ aJ,((∃ s5 cV fy,σ=[some (.ref aZ),some (.ref ft),some (.ref row),some (.ref S),some (.ref C),s5,cV,fy,none])/\aQ H aJ/\aJ S=some (.lst (((acc++gV f r.skip tb it).map fun y=>y.sign).map nat))/\aJ C=some (.lst (((acc++gV f r.skip tb it).map fun y=>y.from_).map nat)))->D.cU σ aJ) ->
    gV f r.skip tb it=[it]->∀ hl,bC hl=none ->
    c4 (wL (yD K "list" yE (gh 3) (nS (gh 7) m_))) (wL (yD K "list" yE (gh 4) (nS (wV (Fq K (gh 7)) (kY 8) se (gh 6) [8]) m_))) D
     [some (.ref aZ),some (.ref ft),some (.ref row),some (.ref S),some (.ref C),some (nat it.sign),some (nat it.from_),some (.ref hl),none] (upd bC hl (.lst [nat it.sign])):=fun D bw hm hl gK =>
   fin D _ hl [it.sign] bw (ei (aQ.refl _) gK) a8 (bR (s4 _ _ mR) gK) (by simp) (by rw[hm];rfl)
  obtain⟨dO,_,_,_,_,_,_,_,fe,_⟩:=id hf;refine⟨_,Z,aZ,dO,_,Z,sH _ _ fe,Z,_,Z,_,Z,_,_,_,Z,aZ,f,r.skip,it.sign,Z,Z,mK sH hf,kW.mono sH,ea.sk r iz,aBM,ea.r5,h5 f r.skip it.sign,Z,?_⟩;have H_:=Jm f r.skip it;refine dF (fun ak=>?_) fun ak=>?_
  ·have hm:gV f r.skip tb it=[it]:=by unfold gV;rw[H_,bM ak]
   refine⟨_,Z,_,Z,dF (fun _=>⟨_,rfl,nZ,fun hl gK=>alone _ (fun _ _ h=>h) hm hl gK⟩) fun h=>absurd (fw rfl) h⟩
  ·refine⟨_,Z,ft,_,fY,_,_,Z,sH _ _ hZ,T.jy,T.ru,Z,dN,Z,.inl ⟨_,.inl (sH _ _ mQ)⟩,_,Z,_,hU.k (k:=bJ it.sign) (sH _ _ mQ),?_⟩;cases pA:tb.lookup it.sign with
   |none =>
    have hm:gV f r.skip tb it=[it]:=by unfold gV;rw[H_,bx ak,pA]
    rw[(o8 it.sign).1 pA];refine⟨_,Z,_,Z,dF (fun _=>⟨_,rfl,nZ,fun hl gK=>alone _ (fun _ _ h=>h) hm hl gK⟩) fun h=>absurd (fw rfl) h⟩
   |some ps =>
    obtain⟨hl,a0,gK⟩:=(o8 it.sign).2 ps pA;have hm:gV f r.skip tb it=ps.map fun s=>{ it with sign:=s }:=by unfold gV;rw[H_,bx ak,pA]
    rw[a0];refine⟨_,Z,_,Z,dF (fun h=>?_) fun _=>?_⟩
    ·rw[show decide ((some (V.ref hl)).getD V.non=V.non)=false from zX]at h;cases h
    ·exact fin _ bC hl ps (fun _ _ h=>h) (aQ.refl _) (sH _ _ gK) (bR gK d1).symm (rG _ (lookup_mem pA)) hm
 ·obtain⟨⟨s5,cV,fy,e⟩,s3,mR,Zy⟩:=aU;subst e;rw[ey,ey,f3 (cH _)]at mR Zy;refine⟨_,Z,row,dx,_,Z,s3 _ _ dR,Z,_,Z,_,Z,?_⟩;refine⟨_,_,_,Z,row,dx,bG,ca,S,C,hD,gx,fP,_,Z,Z,Z,s3 _ _ dR,mR,fun h=>?_,fun h=>?_⟩
  ·have h':¬ 4096<(l.flatMap (gV f r.skip tb)).length:=by simpa using h
   rw[bx h']at uv;have Tv:S≠row:=(bR dR d1).symm;have aBQ:C≠row:=(bR dR ahs).symm;exact k1 _ _ uv (fun b o n e=>by rw[a7 (by simpa using n)];exact s3 _ _ e) ⟨dx,S,C,hD,gx,fP,a8,by rw[a7 Tv];exact mR,by rw[a7 aBQ];exact Zy⟩
  ·have h':4096<(l.flatMap (gV f r.skip tb)).length:=by simpa using h
   rw[bM h']at uv;exact k2 uv aJ (hq s3 _)
theorem an5(l:aK){k n:Nat}(aN:k<=l.length):tu (l.map nat) (some (k:Int)) (some ((k:Int)+(n:Int)))=((l.drop k).take n).map nat:=by
 unfold tu;rw[show((k:Int)+(n:Int))=((k+n:Nat):Int) by omega,HT.VB,HT.VB,ey,Ea aN,← Ab,← List.map_take];congr 1
 by_cases h:k+n<=l.length
 ·rw[Ea h,Nat.add_sub_cancel_left]
 ·rw[Nat.min_eq_right (by omega),f3 (by simp),f3 (by simp;omega)]
theorem an6(l:aK){a b:Nat}(aX:a<=l.length)(an7:a<=b):tu (l.map nat) (some (a:Int)) (some (b:Int))=((l.drop a).take (b-a)).map nat:=by
 have:=an5 l (k:=a) (n:=b-a) aX;rw[show((a:Int)+((b-a:Nat):Int))=(b:Int) by omega]at this;exact this
theorem an8{F:(List Key×V)->(aK×Nat)×Nat->Prop}(iR:∀ bD y,F bD y->bD.1=y.1.1.map bJ)(key:aK):∀ {kvs:List (List Key×V)} {ds:List (aK×Nat)} {k:Nat},Paired F kvs (ds.zipIdx k) ->
  dY kvs (key.map bJ)=(ds.findIdx? fun d=>d.1 == key).bind fun m=>(kvs[m]?).map fun bD=>bD.2
 |_,[],_,.nil=>rfl
 |_,d::ds,k,h=>by
  rw[x6]at h;cases h with
  |cons q tl =>
   have bV:=an8 iR key tl;have e:=iR _ _ q;rw[List.findIdx?_cons];by_cases hd:d.1=key
   ·rw[oR (by rw[e,hd])];simp[hd]
   ·rw[oT (fun z=>hd (agu (e.symm.trans z))),bV];have ak:(d.1 == key)=false:=by simp[hd]
    rw[ak];cases ds.findIdx? fun d=>d.1 == key<;>simp
inductive an9(t:bW)(s a b:V)(H:ao)(Q:bA)(pU:cN):Prop
 |mk (tt hF) (line:aK) (k x r):Sy t H s tt->a=.ref hF->b=nat k->H hF=some (.lst (line.map nat))->line.drop k=x::r->(nJ tt x r=none->∀ H',aQ H H'->Q .non H')->(∀ e,nJ tt x r=some e->∀ H' p dx o,aQ H H'->H' p=some (.ins t.nj dx [("order",o),("length",nat (e.2.1.length+1)),("joined",nat e.2.2)])->Q (.ref p) H')->an9 t s a b H Q pU
def aBR(t:bW):eY:=gd (an9 t)
theorem Zz{α:Type}{l:List α}{k:Nat}{x:α}{r:List α}(h:l.drop k=x::r):k<l.length/\l[k]?=some x:=by
 have h1:k<l.length:=by
  by_cases z:k<l.length
  ·exact z
  ·rw[Ef (by omega)]at h;cases h
 rw[z8 h1]at h;injection h with aC _
 exact⟨h1,by rw[dT h1,aC]⟩
theorem aBS(T:Txt K av t):cJ P w K av base (cM P w) 1 t.Lp t.Lq ["self","line","at"] (aBR t):=by
 refine T.W6.cZ RV gd.cX ?_;rintro bK A outer s H _ Q E aA ⟨cn,a1,a2,rfl,tt,hF,line,k,x,r,⟨j,L,rfl,⟨Hw,bi,li,kvs,lb,bN,vt,pH,rP,rF,zx⟩,Ss⟩,rfl,rfl,an_,oD,k1,k2⟩;try simp only at k1 k2
 refine⟨_,(aW (ct (i:=3) RV.nd rfl (Or.inl rfl) Fd) (aW (hp (gP dJ rfl) rfl (gH (FP (k6 aA) (bQ (aj 0) rfl) (eO gA (aj 1) (aj 2) (fun _ _=>rfl)) (hc aM) ⟨rfl,rfl,rfl,rfl⟩)) (dm (i:=4) RV.nd rfl (Or.inl rfl)) (aW (ct (i:=5) RV.nd rfl (Or.inl rfl) (Kc (k6 aA) (bQ (aj 0) rfl) (ra ake rfl T.X6 alz (aD (VD VG (aj 1) (yx (aj 2)) (yx (fa m8 (aj 2) (aj 4)))) aM)) ⟨rfl,rfl,rfl,rfl⟩)) (bk (gj (PW.pt (abf (pN (abb (aj 5))) (abd (PW.pt (abg (pN (yq (aj 3))) (abe (gM q_ (bQ (aj 5) rfl) (bQ (aj 3) rfl) (fj _)))))))) (bk (ct (i:=3) RV.nd rfl (Or.inl rfl) (aj 5))) hu)))) (bk (dM (aj 3))))),?_⟩;apply dZ;intros;obtain⟨mJ,acL⟩:=Zz oD;have aBT:(line.map nat)[k]?=some (nat x):=by simp[acL]
 have uw:=aqO Ss x r;refine⟨_,Z,j,_,Hw,_,_,Z,bN,T.sx,T.QK,Z,li,Z,.inl ⟨_,.inl rP⟩,?_⟩;refine⟨_,Z,_,Z,hF,_,_,_,Z,Z,aT.of an_,gO aBT,eZ _,fun gQ qR=>?_⟩;have s1:aQ H (upd H gQ (.lst [])):=ei (aQ.refl _) qR;have Zr:(upd H gQ (.lst [])) gQ=some (.lst []):=a8;generalize upd H gQ (.lst [])=H1 at *;refine⟨_,hU.k (k:=bJ x) (s1 _ _ rP),?_⟩;obtain⟨q,ag6,an'⟩:∃ q,(dY lb (bJ x)).getD (.ref gQ)=.ref q/\H1 q=some (.lst ((L x).map nat)):=by
  cases z:dY lb (bJ x)with
  |none=>exact⟨gQ,Z,by rw[rF.no x z];exact Zr⟩
  |some v =>
   obtain⟨q,e,a6⟩:=rF.yes x v z;exact⟨q,e,s1 _ _ a6⟩
 refine⟨q,ag6,⟨_,aT.of an'⟩,?_⟩;have val:∀ n,dY kvs (((x::r).take n).map bJ)=(uN (jH tt) (x::r) n).bind fun m=>(kvs[m]?).map fun bD=>bD.2:=fun n=>an8 (fun _ _ z=>z.1) _ pH;refine qz (xs:=(L x).map nat) (fun i σ aB=>aQ H1 aB/\∃ v s4 s5,σ=[some (.ref j),some (.ref hF),some (nat k),some v,s4,s5]/\(((L x).take i).foldl (Sr.gD (jH tt) (x::r)) none=none->v=.non) /\
   ∀ m,((L x).take i).foldl (Sr.gD (jH tt) (x::r)) none=some m->∃ bD,kvs[m]?=some bD/\v=bD.2)
  ⟨aQ.refl _,_,_,_,rfl,fun _=>rfl,fun m h=>by simp at h⟩ (fun i σ aB _ ⟨s,_⟩=>aT.of (s _ _ an')) (fun i u σ aB cF aU=>?_) fun σ aB aU=>?_
 ·obtain⟨s2,v,s4,s5,e,aR,k_⟩:=aU;subst e;have hi:i<(L x).length:=by simpa using(eF.mp cF).1
  have aoa:(L x)[i]?=some (L x)[i]:=dT hi;rw[ek,aoa]at cF;cases cF;rw[take_snoc aoa,oo];generalize (L x)[i]=n at *;generalize ((L x).take i).foldl (Sr.gD (jH tt) (x::r)) none=best at *;have j8:=s1.trans s2;refine⟨_,Z,j,_,Hw,_,_,Z,j8 _ _ bN,T.sx,T.Cg,Z,bi,Z,.inr ⟨_,.inl (j8 _ _ vt)⟩,?_⟩;refine⟨_,Z,_,Z,_,Z,_,Z,_,Z,_,_,Z,Z,_,Z,hF,_,Z,aT.of (j8 _ _ an_),fun hl gK=>?_⟩;rw[an5 line (Aa mJ),oD];have s3:aQ aB (upd aB hl (.lst (((x::r).take n).map nat))):=ei (aQ.refl _) gK;have aBU:(upd aB hl (.lst (((x::r).take n).map nat))) hl=some (.lst (((x::r).take n).map nat)):=a8;generalize upd aB hl (.lst (((x::r).take n).map nat))=aJ at *;refine⟨hl,_,Z,.inl ⟨aT.of aBU,fun U kO=>?_⟩⟩;have aBV:aQ aJ (upd aJ U (.tup (((x::r).take n).map nat))):=ei (aQ.refl _) kO;have aBW:(upd aJ U (.tup (((x::r).take n).map nat))) U=some (.tup ((((x::r).take n).map bJ).map c3)):=by rw[a8,amo]
  generalize upd aJ U (.tup (((x::r).take n).map nat))=bC at *;have TF:=(s2.trans s3).trans aBV;have sH:=s1.trans TF;refine⟨_,hU.t (k:=((x::r).take n).map bJ) (sH _ _ vt) aBW,?_⟩;rw[val n];cases xV:uN (jH tt) (x::r) n with
  |none =>
   refine⟨_,Z,_,Z,dF (fun h=>?_) fun _=>?_⟩
   ·have:(!decide (V.non=V.non))=true:=h
    simp at this
   ·refine FW ⟨TF,v,_,_,rfl,?_,?_⟩
    ·simpa [Sr.gD,xV]using aR
    ·simpa [Sr.gD,xV]using k_
  |some m =>
   have hm:=aaP xV;obtain⟨⟨d,hd,_⟩,_⟩:=hm;obtain⟨bD,TG,nf,p,eU,Dr,aL⟩:=za pH (zip_get hd);have ev:((some m).bind fun m=>(kvs[m]?).map fun bD=>bD.2).getD V.non=.ref p:=by simp[TG,Dr]
   rw[ev];refine⟨_,Z,_,Z,dF (fun _=>?_) fun h=>absurd (show(!decide (V.ref p=V.non))=true by rw[zX];rfl) h⟩;cases aob:best with
   |none =>
    have ev:=aR aob;subst ev;refine⟨_,Z,_,Z,dF (fun _=>FZ ⟨_,rfl,TF,_,_,_,rfl,?_,?_⟩) fun h=>absurd (fw rfl) h⟩
    ·intro z;simp[Sr.gD,xV]at z
    ·intro dU z;simp[Sr.gD,xV]at z;subst z;exact⟨bD,TG,Dr.symm⟩
   |some b =>
    obtain⟨kb,YT,aoc⟩:=k_ b aob;obtain⟨⟨db,aht⟩,m',SJ,pb,aBX,jG,Dk⟩:=mG pH YT;have aBY:aht=b:=by
     have:=(eF.mp m').2;simp at this;exact this.2.symm
    subst aBY;rw[jG]at aoc;subst aoc;refine⟨_,Z,_,Z,dF (fun h=>?_) fun _=>?_⟩
    ·rw[show decide (V.ref pb=V.non)=false from zX]at h;cases h
    refine⟨_,Z,p,_,eU,_,_,Z,sH _ _ aL,T.vp,T.QH,Z,_,Z,pb,_,aBX,_,_,Z,sH _ _ Dk,T.vp,T.QH,Z,_,_,Z,Z,_,Z,dF (fun h=>?_) fun h=>?_⟩
    ·have c0:m<aht:=by have:=h3 h;simp at this;omega
     refine⟨_,Z,TF,_,_,_,Z,?_,?_⟩
     ·intro z;simp[Sr.gD,xV,c0]at z
     ·intro dU z;simp[Sr.gD,xV,c0]at z;subst z;exact⟨bD,TG,Dr.symm⟩
    ·have c0:¬ m<aht:=fun z=>h (fw (by simp;omega))
     refine⟨TF,_,_,_,Z,?_,?_⟩
     ·intro z;simp[Sr.gD,xV,c0]at z
     ·intro dU z;simp[Sr.gD,xV,c0]at z;subst z;exact⟨kb,YT,jG.symm⟩
 ·obtain⟨s2,v,s4,s5,e,aR,k_⟩:=aU;subst e;rw[ey,f3 (cH _)]at aR k_;have j8:=s1.trans s2;refine⟨_,Z,?_⟩;unfold bestOf at uw;cases ak:(L x).foldl (Sr.gD (jH tt) (x::r)) none with
  |none =>
   rw[ak]at uw;have:nJ tt x r=none:=by
    cases z:nJ tt x r with
    |none=>rfl
    |some e=>rw[z]at uw;cases uw
   have ev:=aR ak;subst ev;exact k1 this aB j8
  |some m =>
   rw[ak]at uw;obtain⟨bD,TG,ev⟩:=k_ m ak;obtain⟨⟨d,im⟩,Aw,h1,p,eU,aC,aL⟩:=mG pH TG;have aBZ:(jH tt)[m]?=some d:=by
    have:=Aw;rw[Iz]at this;cases z:(jH tt)[m]? with
    |none=>rw[z]at this;cases this
    |some w =>
     rw[z]at this;simp at this;rw[this.1]
   simp only[d7,aBZ]at uw;cases z:nJ tt x r with
   |none=>rw[z]at uw;cases uw
   |some e =>
    rw[z]at uw;simp only[gf,Option.some.injEq]at uw;subst uw;subst ev;rw[aC];exact k2 e z aB p eU _ j8 (j8 _ _ aL)
theorem zZ(f:Font)(sk:Nat)(l:List Item):g0 f sk (l.map fun x=>x.sign)=dA (passed f sk) 0 l:=by
 unfold g0;have e:(List.range (l.map fun x=>x.sign).length).filter (fun i=>!h5 f sk ((l.map fun x=>x.sign).getD i 0))=(List.range l.length).filter fun j=>(l[j]?).any fun x=>!passed f sk x:=by
  rw[ey];apply List.filter_congr;intro j bN;have aB0:j<l.length:=by simpa using bN
  rw[List.getD,ek,dT aB0];rfl
 rw[e,List.range_eq_range'];exact Ux _ l 0 _ fun j=>by rw[p8]
theorem ahu(f:Font)(sk:Nat)(l:List Item):(g0 f sk (l.map fun x=>x.sign)).map (fun i=>(l.map fun x=>x.sign).getD i 0)=lineOf (passed f sk) l:=by
 rw[zZ];refine Uy _ l 0 _ fun j x aq=>?_;simp[List.getD,aq]
theorem aod(f:Font)(sk:Nat)(ss:aK):(g0 f sk ss).Nodup:=by
 unfold g0;exact List.Nodup.sublist List.filter_sublist List.nodup_range
def isKey(kvs:List (Key×V))(i:Nat):Bool:=(dY kvs (bJ i)).isSome
theorem aB1(kvs:List (Key×V))(i j:Nat)(v:V):isKey (putK kvs (bJ i) v) j=(decide (j=i) || isKey kvs j):=by
 unfold isKey;rw[VR];by_cases h:j=i
 ·subst h;simp
 ·rw[bx (fun e=>h (n7.mp e))];simp[h]
def o9(kvs:List (Key×V))(is:aK):List (Key×V):=is.foldl (fun kvs i=>putK kvs (bJ i) (.bl true)) kvs
theorem ZC:∀ (is:aK) (kvs:List (Key×V)) (j:Nat),isKey (o9 kvs is) j=(decide (j∈is) || isKey kvs j)
 | [],kvs,j=>by simp[o9]
 |i::is,kvs,j=>by
  show isKey (o9 (putK kvs (bJ i) (.bl true)) is) j=_;rw[ZC is,aB1];by_cases h1:j∈is<;>by_cases aC:j=i<;>simp[h1,aC]
theorem ZD:∀ (is:aK) (kvs:List (Key×V)),(o9 kvs is).length<=kvs.length+is.length
 | [],kvs=>by simp[o9]
 |i::is,kvs=>by
  have h1:=ZD is (putK kvs (bJ i) (.bl true));have aC:=Bx kvs (bJ i) (.bl true);show(o9 (putK kvs (bJ i) (.bl true)) is).length<=_;rw[eo];omega
structure ux(ss left line:aK)(st:List (Option Nat))(k:Nat)(w:aK)(kvs:List (Key×V)):Prop where
 wl:w.length=ss.length
 TJ:kvs.length<=k
 out:∀ i,i∉left->w.getD i 0=ss.getD i 0/\isKey kvs i=false
 done:∀ m q,left[m]?=some q->m<k->(∀ s,st[m]?=some (some s)->w.getD q 0=s/\isKey kvs q=false)/\(st[m]?=some none->isKey kvs q=true)
 todo:∀ m q,left[m]?=some q->k<=m->w.getD q 0=line.getD m 0/\isKey kvs q=false
theorem TP(w:aK)(i j s:Nat)(h:i<w.length):(w.set i s).getD j 0=if j=i then s else w.getD j 0:=by
 rw[List.getD,List.getD];by_cases e:j=i
 ·subst e;rw[bM rfl,IK h];rfl
 ·rw[bx e,I6 (fun z=>e z.symm)]
theorem ZF{l:aK}(h:l.Nodup){i j x:Nat}(a:l[i]?=some x)(b:l[j]?=some x):i=j:=avE h a b
theorem ux.next{ss left line:aK}{st:List (Option Nat)}{k:Nat}{w:aK}{kvs:List (Key×V)}(J:ux ss left line st k w kvs)(aH:st[k]?=some (some (line.getD k 0))):ux ss left line st (k+1) w kvs where
 wl:=J.wl
 TJ:=by have:=J.TJ;omega
 out:=J.out
 done:=fun m q a6 hm=>by
  by_cases h:m<k
  ·exact J.done m q a6 h
  ·have e:m=k:=by omega
   subst e;obtain⟨h1,aC⟩:=J.todo m q a6 (cH _);refine⟨fun s qU=>?_,fun qU=>?_⟩
   ·rw[aH]at qU;cases qU;exact⟨h1,aC⟩
   ·rw[aH]at qU;cases qU
 todo:=fun m q a6 hm=>J.todo m q a6 (by omega)
theorem ux.join{ss left line:aK}{st:List (Option Nat)}{k:Nat}{w:aK}{kvs:List (Key×V)}(J:ux ss left line st k w kvs)(nd:left.Nodup)(c0:∀ q∈left,q<ss.length){n s gQ:Nat}(qR:left[k]?=some gQ)(aH:st[k]?=some (some s))
  (aB2:∀ m,k<m->m<k+1+n->st[m]?=some none) (aR:k+1+n<=left.length):ux ss left line st (k+(n+1)) (w.set gQ s) (o9 kvs ((left.drop (k+1)).take n)):=by
 have ahv:gQ<w.length:=by rw[J.wl];exact c0 gQ (gb qR)
 have mem:∀ m q,left[m]?=some q->(q∈(left.drop (k+1)).take n↔k<m/\m<k+1+n):=fun m q a6=>by
  constructor
  ·intro h;obtain⟨i,hi⟩:=Ec.mp h;have rG:i<n:=by
    have:=(eF.mp hi).1;rw[g4]at this;omega
   rw[x5 rG,z']at hi;have:=ZF nd hi a6;omega
  ·rintro⟨h1,aC⟩;refine Ec.mpr ⟨m-(k+1),?_⟩;rw[x5 (by omega),z',show k+1+(m-(k+1))=m by omega];exact a6
 refine⟨by simp[J.wl],?_,fun i hi=>?_,fun m q a6 hm=>?_,fun m q a6 hm=>?_⟩
 ·have h1:=ZD ((left.drop (k+1)).take n) kvs
  have aC:=J.TJ;rw[g4]at h1;omega
 ·obtain⟨h1,aC⟩:=J.out i hi;have aaq:i≠gQ:=fun e=>hi (e▸gb qR);rw[TP _ _ _ _ ahv,bx aaq,ZC,aC];refine⟨h1,?_⟩;have:i∉(left.drop (k+1)).take n:=fun h=>hi (Ul (Eb h));simp[this]
 ·rw[TP _ _ _ _ ahv,ZC];by_cases h:m<k
  ·have ahw:q≠gQ:=fun e=>by
    rw[e]at a6;have:=ZF nd a6 qR;omega
   have nm:q∉(left.drop (k+1)).take n:=fun z=>by
    have:=(mem m q a6).mp z;omega
   rw[bx ahw];simpa [nm]using J.done m q a6 h
  ·by_cases aC:m=k
   ·subst aC;have e:q=gQ:=by
     rw[a6]at qR;exact Option.some.inj qR
    subst e;have nm:q∉(left.drop (m+1)).take n:=fun z=>by
     have:=(mem m q a6).mp z;omega
    refine⟨fun s' qU=>?_,fun qU=>?_⟩
    ·rw[aH]at qU;cases qU;rw[bM rfl];exact⟨Z,by simp[nm,(J.todo m q a6 (cH _)).2]⟩
    ·rw[aH]at qU;cases qU
   ·have b5:=aB2 m (by omega) (by omega)
    have aB3:q∈(left.drop (k+1)).take n:=(mem m q a6).mpr ⟨by omega,by omega⟩;refine⟨fun s' qU=>?_,fun _=>by simp[aB3]⟩;rw[b5]at qU;cases qU
 ·have ahw:q≠gQ:=fun e=>by
   rw[e]at a6;have:=ZF nd a6 qR;omega
  have nm:q∉(left.drop (k+1)).take n:=fun z=>by
   have:=(mem m q a6).mp z;omega
  rw[TP _ _ _ _ ahv,bx ahw,ZC];have:=J.todo m q a6 (by omega);simpa [nm]using this
theorem ux.end_{f:Font}{sk:Nat}{l:List Item}{tt:List ib}{w:aK}{kvs:List (Key×V)}(J:ux (l.map fun x=>x.sign) (g0 f sk (l.map fun x=>x.sign)) (lineOf (passed f sk) l) (gg tt 0 (lineOf (passed f sk) l)) (lineOf (passed f sk) l).length w kvs) :
  ((List.range l.length).filter fun q=>!isKey kvs q).map (fun q=>w.getD q 0)=(jX (passed f sk) l (gg tt 0 (lineOf (passed f sk) l))).map (fun x=>x.sign) /\
  ((List.range l.length).filter fun q=>!isKey kvs q).map (fun q=>(l.map fun x=>x.from_).getD q 0)=(jX (passed f sk) l (gg tt 0 (lineOf (passed f sk) l))).map (fun x=>x.from_):=by
 rw[List.range_eq_range'];refine aat (passed f sk) (fun q=>w.getD q 0) (fun q=>(l.map fun x=>x.from_).getD q 0) (isKey kvs) l 0 _ (aas _ _ _) (fun j x aq=>⟨by simp[List.getD,aq],fun aL=>?_⟩) fun m q a6=>?_
 ·rw[p8];have aR:j∉g0 f sk (l.map fun x=>x.sign):=by
   unfold g0;intro h;have:=(rT.mp h).2;rw[List.getD,ek,aq]at this;have uP:h5 f sk x.sign=true:=aL;simp[uP]at this
  obtain⟨h1,aC⟩:=J.out j aR;refine⟨?_,aC⟩;rw[h1];simp[List.getD,aq]
 ·rw[← zZ]at a6;have Ex:m<(lineOf (passed f sk) l).length:=by
   have:=(eF.mp a6).1;rw[zZ,Uw]at this;exact this
  exact J.done m q a6 Ex
theorem aB4(f:Font)(sk:Nat)(l:List Item)(st:List (Option Nat)):ux (l.map fun x=>x.sign) (g0 f sk (l.map fun x=>x.sign)) (lineOf (passed f sk) l) st 0 (l.map fun x=>x.sign) [] where
 wl:=rfl
 TJ:=cH _
 out:=fun i _=>⟨rfl,rfl⟩
 done:=fun m q _ h=>absurd h (Ai _)
 todo:=fun m q a6 _=>⟨by
  have e:∀ (g:Nat->Nat),((g0 f sk (l.map fun x=>x.sign)).map g).getD m 0=g q:=fun g=>by
   rw[List.getD,ek,a6];rfl
  rw[← ahu,e],rfl⟩
theorem aB5{tt:List ib}{line:aK}{k x:Nat}{r:aK}(aN:(gg tt 0 line).drop k=gg tt 0 (line.drop k))(hd:line.drop k=x::r)(hf:nJ tt x r=none):(gg tt 0 line)[k]?=some (some x)/\(gg tt 0 line).drop (k+1)=gg tt 0 (line.drop (k+1)):=by
 have e:gg tt 0 (x::r)=some x::gg tt 0 r:=by rw[gg,hf]
 rw[hd,e]at aN;have aA:line.drop (k+1)=r:=by rw[← Ej,hd];rfl
 refine⟨(Zz aN).2,?_⟩;rw[aA,← Ej,aN];rfl
theorem aB6{tt:List ib}{line:aK}{k x:Nat}{r:aK}{a:ib}(aN:(gg tt 0 line).drop k=gg tt 0 (line.drop k))(hd:line.drop k=x::r)(hf:nJ tt x r=some a) :
  (gg tt 0 line)[k]?=some (some a.2.2)/\(∀ m,k<m->m<k+1+a.2.1.length->(gg tt 0 line)[m]?=some none)/\(gg tt 0 line).drop (k+(a.2.1.length+1))=gg tt 0 (line.drop (k+(a.2.1.length+1)))/\k+1+a.2.1.length<=line.length:=by
 have q4:fits (a.2.1.map fun s=>[s]) r=true:=by
  have:=v5 hf;simp at this;exact this.2
 have yP:a.2.1.length<=r.length:=by
  have:=Ep q4;simpa using this
 have e:gg tt 0 (x::r)=some a.2.2::gg tt a.2.1.length r:=by rw[gg,hf]
 rw[aiM tt _ _ yP]at e;rw[hd,e]at aN;have hlen:(line.drop k).length=r.length+1:=by rw[hd];simp
 rw[od]at hlen;have aA:line.drop (k+1)=r:=by rw[← Ej,hd];rfl
 have nf:(gg tt 0 line).drop (k+1)=List.replicate a.2.1.length none++gg tt 0 (r.drop a.2.1.length):=by
  rw[← Ej,aN];rfl
 refine⟨(Zz aN).2,fun m h1 aC=>?_,?_,by omega⟩
 ·have:(gg tt 0 line)[k+1+(m-(k+1))]?=some none:=by
   rw[← z',nf,Uk (by simp;omega),List.getElem?_replicate,bM (by omega)]
  rwa [show k+1+(m-(k+1))=m by omega]at this
 ·rw[show k+(a.2.1.length+1)=k+1+a.2.1.length by omega,← Am,nf,← Am,aA];rw[List.drop_append,List.length_replicate,Nat.sub_self];simp
theorem aB7{te:TE}{tt:TT}{σ:St}{dB n:Nat}{H:ao}{D:au}{gw:ao->Prop}(sel:Nat->Bool)(hz:n<=65536)(bw:H D=none)
  (rB:∀ (i:Nat) H' (er:bA) (N:ao->Prop),i<n->aQ H H'->(sel i=true->er (nat i) H')->(sel i=false->N H')->tt ((wipe σ [dB]).set dB (some (.int (0+(i:Nat))))) H' fun b aJ=>if b=true then te ((wipe σ [dB]).set dB (some (.int (0+(i:Nat))))) aJ er else N aJ)
  (k:gw (upd H D (.lst (((List.range n).filter sel).map nat)))) :
  ∃ W:Nat->Nat->ao->Prop,(∃ m,W 0 m (upd H D (.lst [])))/\∀ i m H,W i m H ->
   ((oL 0 n).stop i H/\gw H)\/((oL 0 n).go i H/\∃ fQ:ao->Prop,(∀ H',fQ H'->∃ dU,dU<m/\W (i+1) dU H')/\∀ x H',(oL 0 n).mg i H x H'->kY dB x (wipe σ [dB]) H' fun dW aB=>wipe dW [dB]=wipe σ [dB]/\tt dW aB fun b aJ =>
    if b=true then te dW aJ fun y bC=>∃ acc,bC D=some (.lst acc)/\acc.length<sizeLine/\fQ (upd bC D (.lst (acc++[y])))else fQ aJ):=by
 have bY:∀ zs,aQ H (upd H D (.lst zs)):=fun zs=>ei (aQ.refl _) bw;refine ab5 (lo:=0) (gw:=gw) (fun i H1=>H1=upd H D (.lst (((List.range i).filter sel).map nat))) rfl (fun i H1 hi e=>?_) fun H1 e=>e▸k;subst e;refine⟨by simp[wipe],rB i _ _ _ hi (bY _) (fun aH=>⟨_,a8,?_,?_⟩) fun aH=>?_⟩
 ·have:((List.range i).filter sel).length<=i:=jg (Ei _ _) (by simp)
  rw[ey];exact jR (by omega)
 ·rw[ih,p7,x4];simp[aH]
 ·rw[p7,x4];simp[aH]
theorem xW(w:aK){i:Nat}(h:i<w.length):(w.map nat)[i]?=some (nat (w.getD i 0)):=by simp[List.getD,dT h]
theorem filter_lt{n:Nat}{sel:Nat->Bool}{i:Nat}(h:i∈(List.range n).filter sel):i<n:=by
 have:=(rT.mp h).1;simpa using this
theorem aB8(T:Txt K av t):cJ P w K av base (cM P w) 2 t.OD t.OJ ["font","rule","row"] (H7 t fun s=>∃ tb,s=.joined tb):=by
 refine T.Ri.cZ nY gd.cX ?_;rintro bK A outer s H _ Q E aA ⟨cn,b,c,rfl,aZ,f,r,row,l,rfl,rfl,jP,hf,ea,iz,iB,⟨dx,bG,ca,hD,gx,fP,dR,e3,hY⟩,aF,mO,k1,k2⟩;try simp only at k1 k2
 refine⟨_,(aW (ct (i:=3) nY.nd Z (Or.inl Z) (fl (aj 0) T.gq T.yQ (H5 T) aA.bh T.GJ .nil bj (aD (aj 1) (aD (bQ (aj 2) Z) aM)))) (aW (w4 (i:=4) (own:=[("at",9)]) dJ (fun _ _ z=>z) Z nY.nd Z Z (wW Z Z Z Z) (gH (aj 3)) (gY (by rfl)) (fun _ _ _ _ _=>dm (i:=9) nY.nd Z (Or.inl Z)) (fun _ _ _ _ _=>hy) (fun _ _ _ _ _=>(eO (Cv (K':=K) Z) (rz (K':=K) Z (aj 2) Z) (aj 9) (fun _ _=>Z)))) (aW (ct (i:=5) nY.nd Z (Or.inr Z) (ra abT Z T.GF Yj (aD (bQ (aj 2) Z) aM))) (aW (ct (i:=6) nY.nd Z (Or.inr Z) FN) (aW (ct (i:=7) nY.nd Z (Or.inl Z) b3) (aW (Vp (gP dJ Z) (gM q_ (aj 7) (hx iH Z T.hB hN (aD (aj 4) aM)) (fj _)) (aW (ct (i:=8) nY.nd Z (Or.inl Z) (fl (bQ (aj 1) Z) T.sx T.aez (aBS T) aA.bh T.awL .nil bj (aD (aj 4) (aD (aj 7) aM)))) (bk (gj (pN (yq (aj 8))) (bk (Fo (i:=7) nY.nd Z (Or.inl Z) b3 Bo)) (aW (Fl (bQ (aj 8) Z) (Fi (aj 5) (eO gA (aj 3) (aj 7) (fun _ _=>Z)) set_list)) (aW (hp (gP dJ Z) Z (gH (VD VG (aj 3) (yx (fa m8 (aj 7) b3)) (yx (fa m8 (aj 7) (bQ (aj 8) Z))))) (dm (i:=9) nY.nd Z (Or.inl Z)) (bk (Ka (k6 aA) (aj 6) (aj 9) ajw Z))) (bk (Fo (i:=7) nY.nd Z (Or.inl Z) (bQ (aj 8) Z) Bo)))))))) (aW (w4 (i:=10) (own:=[("at",9)]) dJ (fun _ _ z=>z) Z nY.nd Z Z (wW Z Z Z Z) (mj Z T.jA (aD (hx iH Z T.hB hN (aD (aj 5) aM)) aM)) (gY (by rfl)) (fun _ _ _ _ _=>dm (i:=9) nY.nd Z (Or.inl Z)) (fun _ _ _ _ _=>(VL (pN (au2 (k6 aA) (aj 9) (aj 6))))) (fun _ _ _ _ _=>(aj 9))) (bk (et (fl (aj 2) T.eE T.Cj (Tt T) aA.bh T.RQ .nil bj (aD (iI (own:=[("at",9)]) dJ (fun _ _ z=>z) Z nY.nd (gH (aj 10)) (gY (by rfl)) (fun _ _ _ _ _=>dm (i:=9) nY.nd Z (Or.inl Z)) (fun _ _ _ _ _=>hy) (fun _ _ _ _ _=>(eO (Cv (K':=K) Z) (aj 5) (aj 9) (fun _ _=>Z)))) (aD (iI (own:=[("at",9)]) dJ (fun _ _ z=>z) Z nY.nd (gH (aj 10)) (gY (by rfl)) (fun _ _ _ _ _=>dm (i:=9) nY.nd Z (Or.inl Z)) (fun _ _ _ _ _=>hy) (fun _ _ _ _ _=>(eO (Cv (K':=K) Z) (rz (K':=K) Z (aj 2) Z) (aj 9) (fun _ _=>Z)))) aM)))))))))))),?_⟩;apply Gh;intros;obtain⟨tt,hk⟩:=jP;have kW:=iB.at;obtain⟨ft,fY,rb,e,hZ,hL⟩:=iB;subst e;have hL:Sy t H rb tt:=by
  have z:rI t H rb r.rule:=hL;rw[hk]at z;exact z
 have uv:chg f r l=some (jX (passed f r.skip) l (gg tt 0 (lineOf (passed f r.skip) l))):=by unfold chg;rw[hk]
 have Ia:=ahu f r.skip l;have aB9:=aB4 f r.skip l (gg tt 0 (lineOf (passed f r.skip) l));have aB_:=fun w kvs=>ux.end_ (f:=f) (sk:=r.skip) (l:=l) (tt:=tt) (w:=w) (kvs:=kvs);have Wi:=aod f r.skip (l.map fun x=>x.sign);have Ds:∀ q∈g0 f r.skip (l.map fun x=>x.sign),q<(l.map fun x=>x.sign).length:=fun q a6=>ahp a6;have Zw:(l.map fun x=>x.sign).length=l.length:=by simp
 have jn:∀ s∈l.map (fun x=>x.sign),s<f.cls.length:=fun s aH=>by
  obtain⟨x,aq,rfl⟩:=g6.mp aH;rw[ea.cl];exact mO x aq
 have yg:(l.map fun x=>x.from_).length=l.length:=by simp
 generalize l.map (fun x=>x.from_)=Ib at *;generalize l.map (fun x=>x.sign)=ss at *;obtain⟨dO,_,_,_,_,_,_,_,fe,_⟩:=id hf;refine⟨_,Z,aZ,dO,_,Z,fe,Z,_,Z,_,Z,row,_,dx,_,_,Z,dR,T.eE,T.iw,Z,?_⟩;refine⟨_,_,_,Z,aZ,f,r.skip,bG,ss,Z,Z,hf,kW,e3,ea.sk r iz,by omega,jn,ea.r5,fun o_ H1 s1 aB' kE=>?_⟩;have hlen:(g0 f r.skip ss).length<=4096:=jg Zu (by omega);have hline:(lineOf (passed f r.skip) l).length=(g0 f r.skip ss).length:=by rw[← Ia,ey]
 generalize g0 f r.skip ss=left at *;generalize lineOf (passed f r.skip) l=line at *;refine⟨_,Z,o_,Z,⟨_,aT.of kE⟩,fun hM w2=>?_⟩;refine n5 (line.map nat) (by simp[hline]) (aT.of kE) (by simp;omega) w2 (fun i v y H' er a0 aP aH q=>?_) ?_
 ·rw[ek]at a0;cases e:left[i]? with
  |none=>rw[e]at a0;cases a0
  |some tD =>
   rw[e]at a0;cases a0;have a6:=Ds tD (gb e);have gk:y=nat (ss.getD tD 0):=by
    rw[← Ia,ek,ek,e]at aP;exact(Option.some.inj aP).symm
   subst gk;have s2:=s1.trans aH;exact⟨_,Z,row,_,dx,_,_,Z,s2 _ _ dR,T.eE,T.iw,Z,_,Z,bG,_,_,_,Z,Z,aT.of (s2 _ _ e3),gO (xW ss a6),q⟩
 have s2:aQ H1 (upd H1 hM (.lst (line.map nat))):=ei (aQ.refl _) w2;have m9:(upd H1 hM (.lst (line.map nat))) hM=some (.lst (line.map nat)):=a8;generalize upd H1 hM (.lst (line.map nat))=aB at *;have j8:=s1.trans s2;refine⟨_,Z,row,_,dx,_,_,Z,j8 _ _ dR,T.eE,T.iw,Z,bG,_,Z,.inl (aT.of (j8 _ _ e3)),fun S d1=>?_⟩;have s3:aQ aB (upd aB S (.lst (ss.map nat))):=ei (aQ.refl _) d1;have mR:(upd aB S (.lst (ss.map nat))) S=some (.lst (ss.map nat)):=a8;generalize upd aB S (.lst (ss.map nat))=aJ at *;intro lg ahx;have ahy:lg≠S:=(bR mR ahx).symm;have Dt:aB lg=none:=s3.free ahx;have sB:aQ aB (upd aJ lg (.dX [])):=s3.trans (ei (aQ.refl _) ahx);have ahz:(upd aJ lg (.dX [])) S=some (.lst (ss.map nat)):=by rw[a7 ahy.symm];exact mR
 have aCa:(upd aJ lg (.dX [])) lg=some (.dX []):=a8;generalize upd aJ lg (.dX [])=bC at *;refine abr (fun σ b2=>∃ k w kvs kG yO,σ=[some (.ref aZ),some (.ref ft),some (.ref row),some (.ref o_),some (.ref hM),some (.ref S),some (.ref lg),some (nat k),kG,yO,none]/\aQ aB b2/\b2 S=some (.lst (w.map nat))/\b2 lg=some (.dX kvs)/\k<=line.length/\(gg tt 0 line).drop k=gg tt 0 (line.drop k)/\ux ss left line (gg tt 0 line) k w kvs)
  (fun σ _=>match σ with
   | [_,_,_,_,_,_,_,some (.int a),_,_,_]=>5000-a.toNat
   |_=>0) ⟨0,ss,[],_,_,rfl,sB,ahz,aCa,eZ _,rfl,aB9⟩ (fun σ b2 aU=>?_) (fun σ H Q er h ⟨v,e,v2,a9,p,bO,dw,oA,i,j,a,b,dB,zU,q⟩=>⟨v,e,v2,a9,p,bO,dw,oA,i,j,a,b,dB,zU,h _ _ q⟩)
 obtain⟨k,w,kvs,kG,yO,e,s5,TQ,Ie,aN,m2,J⟩:=aU;subst e;have pY:=j8.trans s5;refine⟨_,Z,_,Z,hM,_,Z,.inl (aT.of (s5 _ _ m9)),_,_,Z,Z,_,Z,dF (fun ak=>?_) fun ak=>?_⟩
 ·have mJ:k<line.length:=by
   have:=h3 ak;simp at this;exact this
  have oD:line.drop k=line[k]::line.drop (k+1):=z8 mJ;have pA:line.getD k 0=line[k]:=by simp[List.getD,dT mJ]
  have ahA:left[k]?=some (left[k]'(by omega)):=dT (by omega);generalize left[k]'(by omega)=gQ at *;generalize line[k]=x at *;have aoe:=amA _ _ _ _ pY hL;obtain⟨aCb,aHF,aCc,⟨Hw,azz,azA,aHG,aHH,aCd,_⟩,_⟩:=id aoe;refine⟨_,Z,ft,_,fY,_,_,Z,pY _ _ hZ,T.jy,T.ru,Z,aCb,Hw,_,aCc,aCd,Z,_,Z,_,Z,?_⟩;refine⟨_,_,_,Z,tt,hM,line,k,x,line.drop (k+1),aoe,Z,Z,s5 _ _ m9,oD,fun ZG eN cV=>?_,fun a z0 eN p eU o cV aL=>?_⟩
  ·
   obtain⟨gn,eH⟩:=aB5 m2 oD ZG;refine⟨_,Z,_,Z,dF (fun _=>?_) fun h=>absurd (fw rfl) h⟩;refine⟨_,Z,_,_,Z,Z,⟨k+1,w,kvs,_,_,Z,s5.trans cV,cV _ _ TQ,cV _ _ Ie,mJ,eH,J.next (by rw[pA];exact gn)⟩,?_⟩;show 5000-((k:Int)+1).toNat<5000-(k:Int).toNat;omega
  ·
   obtain⟨gn,eH,ni,Gi⟩:=aB6 m2 oD z0;refine⟨_,Z,_,Z,dF (fun h=>?_) fun _=>?_⟩
   ·rw[show decide (V.ref p=V.non)=false from zX]at h;cases h
   have qR:gQ<w.length:=by rw[J.wl];exact Ds gQ (gb ahA)
   have aof:=s5.trans cV;have ZJ:eN o_=some (.lst (left.map nat)):=aof _ _ (s2 _ _ kE);have aCe:(left.map nat)[k]?=some (nat gQ):=by simp[ahA]
   refine⟨_,Z,p,_,eU,_,_,Z,aL,T.vp,T.W2,Z,_,Z,_,Z,_,Z,o_,_,_,_,Z,Z,aT.of ZJ,gO aCe,S,_,_,gQ,Z,Z,cV _ _ TQ,vN (by simp;exact qR),?_⟩;rw[Zv];have zJ:∀ b o,b≠S->eN b=some o->(upd eN S (.lst ((w.set gQ a.2.2).map nat))) b=some o:=fun b o n e=>by rw[a7 n];exact e
   have aog:(upd eN S (.lst ((w.set gQ a.2.2).map nat))) S=some (.lst ((w.set gQ a.2.2).map nat)):=a8;generalize upd eN S (.lst ((w.set gQ a.2.2).map nat))=dD at *;have aCf:p≠S:=hO aL (cV _ _ TQ) (by intro z;cases z);have aCg:o_≠S:=bR (s2 _ _ kE) d1;have aCh:aQ aB dD:=fun b o e=>zJ b o (bR e d1) (aof _ _ e);have ahB:=zJ _ _ ahy (cV _ _ Ie);have zO:=zJ _ _ aCf aL;refine⟨_,Z,_,Z,_,_,Z,Z,_,Z,_,Z,_,Z,p,_,eU,_,_,Z,zO,T.vp,T.QJ,Z,_,_,Z,Z,_,Z,o_,_,Z,aT.of (zJ _ _ aCg ZJ),fun Y ix=>?_⟩;have aCi:tu (left.map nat) (some ((k:Int)+1)) (some ((k:Int)+((a.2.1.length+1:Nat):Int)))=((left.drop (k+1)).take a.2.1.length).map nat:=by
    have:=an6 left (a:=k+1) (b:=k+(a.2.1.length+1)) (by omega) (by omega);rw[show k+(a.2.1.length+1)-(k+1)=a.2.1.length by omega]at this;rw[← this];congr 2
   rw[aCi];have aCj:lg≠Y:=bR ahB ix;have aHI:S≠Y:=bR aog ix;have aHJ:p≠Y:=bR zO ix;have aoh:(upd dD Y (.lst (((left.drop (k+1)).take a.2.1.length).map nat))) Y=some (.lst (((left.drop (k+1)).take a.2.1.length).map nat)):=a8;have rK:aQ dD (upd dD Y (.lst (((left.drop (k+1)).take a.2.1.length).map nat))):=ei (aQ.refl _) ix;generalize upd dD Y (.lst (((left.drop (k+1)).take a.2.1.length).map nat))=mF at *;have Km:((left.drop (k+1)).take a.2.1.length).length<=4096:=by rw[g4,od];omega
   refine⟨Y,Z,⟨_,aT.of aoh⟩,?_⟩;refine qz (xs:=((left.drop (k+1)).take a.2.1.length).map nat) (fun j σ iW=>(∃ yO,σ=[some (.ref aZ),some (.ref ft),some (.ref row),some (.ref o_),some (.ref hM),some (.ref S),some (.ref lg),some (nat k),some (.ref p),yO,none])/\(∀ b o,b≠lg->mF b=some o->iW b=some o)/\iW lg=some (.dX (o9 kvs (((left.drop (k+1)).take a.2.1.length).take j)))) ⟨⟨_,rfl⟩,fun _ _ _ e=>e,rK _ _ ahB⟩ (fun j σ iW _ ⟨_,Du,_⟩=>aT.of (Du _ _ aCj.symm aoh)) (fun j v σ iW a0 aU=>?_) fun σ iW aU=>?_
   ·obtain⟨⟨yO,e⟩,Du,ZK⟩:=aU;subst e;have bN:j<((left.drop (k+1)).take a.2.1.length).length:=by simpa using(eF.mp a0).1
    have lF:=dT bN;rw[ek,lF]at a0;cases a0;rw[take_snoc lF];generalize ((left.drop (k+1)).take a.2.1.length)[j]=aCk at *;refine⟨_,Z,_,Z,lg,_,Z,tB.k (k:=bJ aCk) ZK ?_,⟨_,Z⟩,fun b o n e=>by rw[a7 n];exact Du _ _ n e,?_⟩
    ·have h1:=ZD (((left.drop (k+1)).take a.2.1.length).take j) kvs
     have aC:=J.TJ;rw[g4 (i:=j)]at h1;exact jR (by omega)
    ·rw[a8];unfold o9;rw[oo];rfl
   ·obtain⟨⟨yO,e⟩,Du,ZK⟩:=aU;subst e;rw[ey,f3 (cH _)]at ZK;have aCl:p≠lg:=hO zO ahB (by intro z;cases z);refine⟨_,Z,_,Z,p,_,eU,_,_,Z,Du _ _ aCl (rK _ _ zO),T.vp,T.QJ,Z,_,_,Z,Z,⟨k+(a.2.1.length+1),_,_,_,_,Z,fun b o e=>Du b o (bR e Dt) (rK _ _ (aCh _ _ e)),Du _ _ ahy.symm (rK _ _ aog),ZK,by omega,ni,J.join Wi Ds ahA gn eH (by omega)⟩,?_⟩;show 5000-((k:Int)+((a.2.1.length+1:Nat):Int)).toNat<5000-(k:Int).toNat;omega
 ·have mJ:k=line.length:=by
   have:¬ (k:Int)<((line.map nat).length:Int):=fun z=>ak (fw z);simp at this;omega
  subst mJ;obtain⟨bF,a9⟩:=aB_ w kvs J;have Ex:=Ew (passed f r.skip) l (gg tt 0 line);have lC:=J.wl;refine⟨_,Z,S,_,Z,.inl (aT.of TQ),_,Z,by omega,by simp;omega,fun z1 ahC=>?_⟩;refine aB7 (n:=(w.map nat).length) (fun i=>!isKey kvs i) (by simp;omega) ahC (fun i H' er N hi aH h1 aC=>?_) ?_
  ·refine⟨_,Z,_,Z,lg,_,Z,hU.k (k:=Sum.inl (0+(i:Nat))) (aH _ _ Ie),_,Z,?_⟩;have u_:(Sum.inl (0+((i:Nat):Int)):Key)=bJ i:=by rw[Int.zero_add]
   rw[u_];refine dF (fun jG=>⟨_,rfl,?_⟩) fun jG=>aC (by show(!(dY kvs (bJ i)).isSome)=false;exact Bool.eq_false_iff.mpr jG);rw[Int.zero_add];exact h1 jG
  rw[ey,lC,Zw];have aoi:aQ b2 (upd b2 z1 (.lst (((List.range l.length).filter fun i=>!isKey kvs i).map nat))):=ei (aQ.refl _) ahC;have ZL:(upd b2 z1 (.lst (((List.range l.length).filter fun i=>!isKey kvs i).map nat))) z1=some (.lst (((List.range l.length).filter fun i=>!isKey kvs i).map nat)):=a8;generalize upd b2 z1 (.lst (((List.range l.length).filter fun i=>!isKey kvs i).map nat))=eN at *;have c0:∀ i∈(List.range l.length).filter fun i=>!isKey kvs i,i<l.length:=fun i hi=>filter_lt hi;have Wf:((List.range l.length).filter fun i=>!isKey kvs i).length<=4096:=jg (Ei _ _) (by simp;omega);generalize (List.range l.length).filter (fun i=>!isKey kvs i)=stay at *;have vO:=pY.trans aoi;refine⟨_,Z,row,dx,_,Z,vO _ _ dR,Z,?_⟩;refine⟨_,Z,z1,Z,⟨_,aT.of ZL⟩,fun Dv H9=>?_⟩;refine n5 ((stay.map fun q=>w.getD q 0).map nat) (by simp) (aT.of ZL) (by simp;omega) H9 (fun i v y H' er a0 aP aH q=>?_) ?_
  ·rw[ek]at a0;cases e:stay[i]? with
   |none=>rw[e]at a0;cases a0
   |some tD =>
    rw[e]at a0;cases a0;rw[ek,ek,e]at aP;cases aP;exact⟨_,Z,_,Z,S,_,_,_,Z,Z,aT.of (aH _ _ (aoi _ _ TQ)),gO (xW w (by rw[lC,Zw];exact c0 tD (gb e))),q⟩
  have fy:aQ eN (upd eN Dv (.lst ((stay.map fun q=>w.getD q 0).map nat))):=ei (aQ.refl _) H9;have aoj:(upd eN Dv (.lst ((stay.map fun q=>w.getD q 0).map nat))) Dv=some (.lst ((stay.map fun q=>w.getD q 0).map nat)):=a8;generalize upd eN Dv (.lst ((stay.map fun q=>w.getD q 0).map nat))=dD at *;refine⟨_,Z,z1,Z,⟨_,aT.of (fy _ _ ZL)⟩,fun P2 ahD=>?_⟩;have pZ:=vO.trans fy;refine n5 ((stay.map fun q=>Ib.getD q 0).map nat) (by simp) (aT.of (fy _ _ ZL)) (by simp;omega) ahD (fun i v y H' er a0 aP aH q=>?_) ?_
  ·rw[ek]at a0;cases e:stay[i]? with
   |none=>rw[e]at a0;cases a0
   |some tD =>
    rw[e]at a0;cases a0;rw[ek,ek,e]at aP;cases aP;have xX:=pZ.trans aH;exact⟨_,Z,row,_,dx,_,_,Z,xX _ _ dR,T.eE,T.w6,Z,_,Z,ca,_,_,_,Z,Z,aT.of (xX _ _ hY),gO (xW Ib (by rw[yg];exact c0 tD (gb e))),q⟩
  have ahE:aQ dD (upd dD P2 (.lst ((stay.map fun q=>Ib.getD q 0).map nat))):=ei (aQ.refl _) ahD;have aCm:(upd dD P2 (.lst ((stay.map fun q=>Ib.getD q 0).map nat))) P2=some (.lst ((stay.map fun q=>Ib.getD q 0).map nat)):=a8;generalize upd dD P2 (.lst ((stay.map fun q=>Ib.getD q 0).map nat))=mF at *;have xX:=pZ.trans ahE;refine⟨_,_,_,Z,row,dx,bG,ca,Dv,P2,hD,gx,fP,_,Z,Z,Z,xX _ _ dR,ahE _ _ aoj,fun _=>?_,fun h=>?_⟩
  ·have n1:Dv≠row:=(bR (vO _ _ dR) H9).symm
   have n2:P2≠row:=(bR (pZ _ _ dR) ahD).symm;refine k1 _ _ uv (fun b o n e=>by rw[a7 (by simpa using n)];exact xX _ _ e) ⟨dx,Dv,P2,hD,gx,fP,a8,?_,?_⟩
   ·rw[a7 n1,ahE _ _ aoj,bF]
   ·rw[a7 n2,aCm,a9]
  ·simp at h;omega
theorem aCn(A:List (Nat×Nat))(fr s:Nat):(dY (mapA A) (bJ s)).getD (nat fr)=nat (ji A fr s):=by
 rw[agk];unfold ji;cases pD A s<;>rfl
inductive aok(t:bW)(s a b:V)(H:ao)(Q:bA)(pU:cN):Prop
 |mk (rows d fM) (ss:aK) (z:Int):CK t rows d H s->a=.ref fM->H fM=some (.lst (ss.map nat))->b=.int z->Q (nat (Js rows d (if z<0 then none else ss[z.toNat]?))) H->aok t s a b H Q pU
def aCo(t:bW):eY:=gd (aok t)
theorem aol(T:Txt K av t):cJ P w K av base (cM P w) 1 t.KH t.KJ ["self","signs","at"] (aCo t):=by
 refine T.Wr.cZ axH gd.cX ?_;rintro bK A outer s H _ Q E aA ⟨cn,a1,a2,rfl,rows,d,fM,ss,z,⟨p,dx,m,rfl,aL,hm⟩,rfl,qI,rfl,k1⟩;refine⟨_,(aW (gj (PW.pt (abg (gM q_ (aj 2) b3 (fj _)) (abe (gM abA (aj 2) (hx iH rfl T.hB hN (aD (aj 1) aM)) (fj _))))) (bk (dM (bQ (aj 0) rfl))) hu) (bk (dM (FP (k6 aA) (bQ (aj 0) rfl) (eO gA (aj 1) (aj 2) (fun _ _=>rfl)) (bQ (aj 0) rfl) ⟨rfl,rfl,rfl,rfl⟩)))),?_⟩;apply cB;intros;refine⟨_,Z,_,_,Z,Z,_,Z,dF (fun h=>?_) fun h=>?_⟩
 ·have hz:z<0:=h3 h
  rw[bM hz]at k1;exact⟨_,Z,p,_,dx,_,_,Z,aL,T.vo,T.Gm,Z,k1⟩
 ·have hz:¬ z<0:=fun w=>h (fw w)
  rw[bx hz]at k1;refine⟨_,Z,_,Z,fM,_,Z,.inl (aT.of qI),_,_,Z,Z,_,Z,dF (fun aC=>?_) fun aC=>?_⟩
  ·have sI:ss.length<=z.toNat:=by
    have:=h3 aC;simp at this;omega
   rw[qZ sI]at k1;exact⟨_,Z,p,_,dx,_,_,Z,aL,T.vo,T.Gm,Z,k1⟩
  ·have sI:z.toNat<ss.length:=by
    have:¬ ((ss.map nat).length:Int)<=z:=fun w=>aC (fw w);simp at this;omega
   rw[dT sI]at k1;have b5:(ss.map nat)[z.toNat]?=some (nat ss[z.toNat]):=by simp[sI]
   refine⟨_,Z,p,_,dx,_,_,Z,aL,T.vo,T.Wo,Z,m,Z,.inl ⟨_,.inl hm⟩,_,Z,_,Z,fM,_,_,_,Z,Z,aT.of qI,at_of (j:=z.toNat) (by omega) b5,?_⟩;refine⟨_,Z,p,_,dx,_,_,Z,aL,T.vo,T.Gm,Z,_,hU.k (k:=bJ ss[z.toNat]) hm,?_⟩;rw[aCn];exact k1
theorem aCp(b:Nat)(ak:b≠0):Builtin.bitAnd (b:Int) (-(b:Int))=((b-(b &&& (b-1)):Nat):Int):=by
 have bF:decide ((0:Int)<=(b:Int))=true:=fw (by omega);have a9:decide ((0:Int)<=-(b:Int))=false:=ou (by omega);have dw:(Builtin.bitNot (-(b:Int))).toNat=b-1:=by
  unfold Builtin.bitNot;omega
 have hle:b &&& (b-1)<=b:=Nat.and_le_left;unfold Builtin.bitAnd;rw[bF,a9];simp only[dw,I9];omega
theorem aCq(m:Nat):Builtin.Int.intBits ((2 ^ m:Nat):Int)=m+1:=by
 unfold Builtin.Int.intBits;have h:((2 ^ m:Nat):Int)≠0:=by
  have:=Nat.two_pow_pos m;omega
 rw[bx (by simpa using h),Int.natAbs_natCast,Nat.log2_two_pow]
inductive aom(t:bW)(s a b c:V)(H:ao)(Q:bA)(xD:cN):Prop
 |mk (G l hF) (line:aK) (k pl) (past:aK):aQ G H->zB t G s l->a=.ref hF->b=nat k->c=.ref pl->H hF=some (.lst (line.map nat))->H pl=some (.lst (past.map nat))->l.length<=64->past.length<=65536->(pB l past.reverse (line.drop k)=none->∀ H',aQ H H'->Q .non H')->(∀ e,e∈l->pB l past.reverse (line.drop k)=some e->∀ H' v,aQ H H'->zf t G v e->Q v H')->aom t s a b c H Q xD
def aCr(t:bW):eY:=nq (aom t)
theorem aCs(T:Txt K av t):cJ P w K av base (cM P w) 2 t.KR t.KX ["self","line","at","past"] (aCr t):=by
 refine T.Ww.cZ xq nq.cX ?_;rintro bK A outer s H _ Q E aA ⟨cn,a1,a2,a3,rfl,G,l,hF,line,k,pl,past,nu,⟨x,dx,Hx,la,eA,rfl,YB,⟨hb,SQ,rfl,aCt,hA⟩,⟨aCu,Dw,rfl,aCv,aCw,abN,aCx⟩,⟨ba,vD,rfl,aCy,SJ,jG,aCz⟩⟩,rfl,rfl,rfl,zx,g8,aF,vM,k1,k2⟩;try simp only at k1 k2
 refine⟨_,(aW (ct (i:=4) xq.nd Z (Or.inl Z) (fa ky (fa abx b3 (hx iH Z T.hB hN (aD (bQ (aj 0) Z) aM))) b3)) (aW (hp (gP dJ Z) Z (BL Z T.xd (aD (bQ (aj 0) Z) aM)) (s8 Z (jM (dm (i:=5) xq.nd Z (Or.inl Z)) (jM (dm (i:=6) xq.nd Z (Or.inl Z)) r7))) (aW (Fo (i:=4) xq.nd Z (Or.inl Z) (fl (aj 6) T.vo T.Ws (aol T) aA.bh T.ak' .nil bj (aD (aj 1) (aD (fa m8 (aj 2) (aj 5)) aM))) ajM) (bk (gj (gM jO (aj 4) b3 (fj _)) (bk (dM Fd)) hu)))) (aW (hp (gP dJ Z) Z (BL Z T.xd (aD (bQ (aj 0) Z) aM)) (s8 Z (jM (dm (i:=5) xq.nd Z (Or.inl Z)) (jM (dm (i:=6) xq.nd Z (Or.inl Z)) r7))) (bk (Fo (i:=4) xq.nd Z (Or.inl Z) (fl (aj 6) T.vo T.Ws (aol T) aA.bh T.ak' .nil bj (aD (aj 3) (aD (fa ky (fa ky (hx iH Z T.hB hN (aD (aj 3) aM)) b3) (aj 5)) aM))) ajM))) (aW (gj (gM jO (aj 4) b3 (fj _)) (bk (dM Fd)) hu) (aW (ct (i:=7) xq.nd Z (Or.inl Z) (fa aby (aj 4) (abv abz (aj 4)))) (bk (dM (eO gA (bQ (aj 0) Z) (fa ky (auh PySem.F.plainAttrs_int PySem.F.slot_int_bit_length PySem.F.type_int_bit_length awr (aj 7)) b3) (fun _ _=>Z))))))))),?_⟩;apply wM;intros;have V5:SQ.length=l.length:=f9 hA;have aq:=nu _ _ YB;have uc:=nu _ _ aCt;have aon:=nu _ _ aCv;have CP:=nu _ _ aCy;have aCA:=fun d s h=>zj nu (aCx d s h);have xT:=fun d s h=>zj nu (aCz d s h);refine⟨_,Z,x,_,dx,_,_,Z,aq,T.tK,T.Gn,Z,hb,_,Z,.inl (aT.of uc),_,_,Z,Z,agn (by omega),_,_,Z,Z,?_⟩;have fB:(1:Int) * 2 ^ ((SQ.length:Nat):Int).toNat-1=((2 ^ l.length-1:Nat):Int):=by
  have aC:=Nat.two_pow_pos l.length;have bF:(1:Int) * 2 ^ ((SQ.length:Nat):Int).toNat=((2 ^ l.length:Nat):Int):=by rw[V5];simp
  rw[bF];generalize 2 ^ l.length=N at *;omega
 simp only[fB];have ZM:=aqV (t:=l) (line:=line.drop k) (past:=past.reverse) (n1:=Dw.length) (n2:=vD.length) (fun a aX=>aCw _ (I' aX)) (fun a aX=>SJ _ (I' aX));refine⟨_,Z,x,_,dx,_,_,Z,aq,T.tK,T.Wt,Z,aCu,_,Z,aT.of aon,?_⟩;refine Hp (xs:=Dw) (fun i σ H1=>aQ H H1/\∃ s5 cV fy,σ=[some (.ref x),some (.ref hF),some (nat k),some (.ref pl),some (nat (lY (oZ l) (line.drop k) i (2 ^ l.length-1))),s5,cV,fy]) ⟨aQ.refl _,_,_,_,rfl⟩ (fun i σ H1 _ ⟨s,_⟩=>aT.of (s _ _ aon)) (fun i v ez σ H1 a0 ⟨s1,s5,cV,fy,e⟩ cx=>?_) fun σ H1 ⟨s1,s5,cV,fy,e⟩=>?_
 ·subst e;have s2:aQ H1 (upd H1 ez (.tup [nat i,v])):=ei (aQ.refl _) cx;generalize upd H1 ez (.tup [nat i,v])=aB at *;have j8:=s1.trans s2;have rs:=zj j8 (aCA i v a0);obtain⟨p,eU,m,e,aL,_⟩:=id rs;subst e;refine⟨_,Z,_,Z,p,eU,_,Z,aL,Z,_,Z,_,Z,_,Z,_,_,Z,Z,?_⟩;refine⟨_,_,_,Z,oZ l,i,hF,line,(k:Int)+(i:Int),rs,Z,j8 _ _ zx,Z,?_⟩;rw[bx (by omega),show((k:Int)+(i:Int)).toNat=k+i by omega,← z'];refine⟨_,_,Z,Z,?_⟩;simp only[ahl];rw[← Jt];refine⟨_,Z,Z,_,Z,dF (fun ak=>?_) fun _=>⟨j8,_,_,_,rfl⟩⟩;have hz:lY (oZ l) (line.drop k) (i+1) (2 ^ l.length-1)=0:=by have:=j9 ak;omega
  have hi:i<Dw.length:=(eF.mp a0).1;have sI:=aqT (oZ l) (line.drop k) (n:=Dw.length) hi hz;refine k1 (ai' ZM ?_) aB j8;have aCB:lY (l.map fun a=>a.here++a.behind) (line.drop k) Dw.length (2 ^ l.length-1)=0:=sI;rw[aCB,ai7]
 subst e;refine⟨_,Z,x,_,dx,_,_,Z,s1 _ _ aq,T.tK,T.Wu,Z,ba,_,Z,aT.of (s1 _ _ CP),?_⟩;generalize aCC:lY (oZ l) (line.drop k) Dw.length (2 ^ l.length-1)=B0 at *;refine Hp (xs:=vD) (fun i σ aB=>aQ H aB/\∃ s5 cV fy,σ=[some (.ref x),some (.ref hF),some (nat k),some (.ref pl),some (nat (lY (sD l) past.reverse i B0)),s5,cV,fy]) ⟨s1,_,_,_,rfl⟩ (fun i σ aB _ ⟨s,_⟩=>aT.of (s _ _ CP)) (fun i v ez σ aB a0 ⟨s2,s5,cV,fy,e⟩ cx=>?_) fun σ aB ⟨s2,s5,cV,fy,e⟩=>?_
 ·subst e;have s3:aQ aB (upd aB ez (.tup [nat i,v])):=ei (aQ.refl _) cx;generalize upd aB ez (.tup [nat i,v])=aJ at *;have ob:=s2.trans s3;have rs:=zj ob (xT i v a0);obtain⟨p,eU,m,e,aL,_⟩:=id rs;subst e;refine⟨_,Z,_,Z,p,eU,_,Z,aL,Z,_,Z,_,Z,pl,_,Z,.inl (aT.of (ob _ _ g8)),_,_,Z,Z,_,Z,_,_,Z,Z,?_⟩;refine⟨_,_,_,Z,sD l,i,pl,past,_,rs,Z,ob _ _ g8,Z,?_⟩;have ex:(if(((past.map nat).length:Nat):Int)-1-((i:Nat):Int)<0 then none else past[((((past.map nat).length:Nat):Int)-1-((i:Nat):Int)).toNat]?)=past.reverse[i]?:=by
   rw[ey];by_cases hi:i<past.length
   ·rw[bx (by omega),List.getElem?_reverse hi];congr 1
    omega
   ·rw[bM (by omega),qZ (by simp;omega)]
  rw[ex];refine⟨_,_,Z,Z,?_⟩;simp only[ahl];rw[← Jt];exact⟨ob,_,_,_,Z⟩
 subst e;have dN:lY (l.map fun a=>a.before) past.reverse vD.length (lY (l.map fun a=>a.here++a.behind) (line.drop k) Dw.length (2 ^ l.length-1))=lY (sD l) past.reverse vD.length B0:=by
  rw[← aCC];rfl
 rw[dN]at ZM;generalize lY (sD l) past.reverse vD.length B0=b at *;refine⟨_,Z,Z,_,Z,dF (fun ak=>k1 (ai' ZM (by have:=j9 ak;omega)) aB s2) fun ak=>?_⟩;have aoo:b≠0:=by have:=C_ ak;omega
 obtain⟨m,a,hm,aaD,aCD⟩:=aqX ZM aoo;refine⟨_,Z,_,Z,_,Z,_,_,Z,Z,?_⟩;simp only[aCp b aoo,aCD];obtain⟨v,a0,rc⟩:=za hA hm;refine⟨_,Z,x,_,dx,_,_,Z,s2 _ _ aq,T.tK,T.Gn,Z,_,Z,Z,_,Z,Z,_,_,Z,Z,hb,_,_,v,Z,Z,aT.of (s2 _ _ uc),at_of (j:=m) ?_ a0,?_⟩
 ·rw[aCq];omega
 ·exact k2 a (gb hm) aaD aB v s2 rc
inductive aop(t:bW)(a b c d:V)(H:ao)(Q:bA)(xD:cN):Prop
 |mk (aZ f G hF) (w:aK) (k acts):a=.ref aZ->lQ t G aZ f->hj Hl G b acts->aQ G H->G hF=none->c=.ref hF->d=nat k->H hF=some (.lst (w.map nat))->(∀ y∈acts,k+y.1<w.length/\aaW f.subs y.2)->(∀ H',bf [hF] H H'->H' hF=some (.lst ((acts.foldl (oH f k) w).map nat))->Q .non H')->aop t a b c d H Q xD
def aCE(t:bW):eY:=nq (aop t)
theorem aCF(T:Txt K av t):cJ P w K av base (cM P w) 1 t.O1 t.O2 ["font","acts","line","k"] (aCE t):=by
 refine T.Rj.cZ Yc nq.cX ?_;rintro bK A outer s H _ Q E aA ⟨cn,b,a2,a3,rfl,aZ,f,G,hF,w,k,acts,rfl,hf,⟨ac,agL,e,TV,nc⟩,nu,aCG,rfl,rfl,zx,bL,k1⟩;refine⟨_,(bk (hp (gP dJ rfl) rfl (gH (aj 1)) (s8 rfl (jM (dm (i:=4) Yc.nd rfl (Or.inl rfl)) (jM (dm (i:=5) Yc.nd rfl (Or.inl rfl)) r7))) (aW (ct (i:=6) Yc.nd rfl (Or.inl rfl) (eO gA (aj 2) (fa m8 (aj 3) (aj 4)) (fun _ _=>rfl))) (bk (Fl (FP (k6 aA) (bQ (eO gA (bQ (aj 0) rfl) (aj 5) (fun _ _=>rfl)) rfl) (aj 6) (aj 6) ⟨rfl,rfl,rfl,rfl⟩) (Fi (aj 2) (fa m8 (aj 3) (aj 4)) set_list)))))),?_⟩;subst e;obtain⟨dO,p,Dn,ww,bG,vc,gu,gB,fe,_,_,_,_,⟨cl,rM,rfl,iV,ahj⟩,_⟩:=id hf;refine⟨_,Z,ac,Z,⟨_,aT.of (nu _ _ TV)⟩,?_⟩;have aoq:∀ b o,G b=some o->b∉[hF]:=fun b o e=>by simp only[g5];exact bR e aCG
 refine qz (xs:=agL) (fun j σ H1=>(∃ s4 s5 cV,σ=[some (.ref aZ),some (.ref ac),some (.ref hF),some (nat k),s4,s5,cV])/\bf [hF] H H1/\H1 hF=some (.lst (((acts.take j).foldl (oH f k) w).map nat))) ⟨⟨_,_,_,rfl⟩,bf.refl _ _,zx⟩ (fun j σ H1 _ ⟨_,aG,_⟩=>aT.of (aG _ _ (aoq _ _ TV) (nu _ _ TV))) (fun j v σ H1 a0 aU=>?_) fun σ H1 aU=>?_
 ·obtain⟨⟨s4,s5,cV,e⟩,aG,h1⟩:=aU;subst e;have g1:∀ b o,G b=some o->H1 b=some o:=fun b o e=>aG _ _ (aoq _ _ e) (nu _ _ e);obtain⟨y,aP,ez,rfl,cx⟩:=mG nc a0;refine Ho (g1 _ _ cx) ?_;obtain⟨Wf,q,u,a6,cF⟩:=bL y (gb aP);rw[take_snoc aP,oo];have lC:=aaX f k (acts.take j) w;generalize (acts.take j).foldl (oH f k) w=yc at *;have mJ:k+y.1<yc.length:=by omega
  have zU:(k:Int)+(y.1:Int)=((k+y.1:Nat):Int):=by omega
  refine⟨_,Z,_,Z,_,Z,_,_,Z,Z,hF,_,_,_,Z,Z,aT.of h1,at_of (j:=k+y.1) zU (xW yc mJ),?_⟩;obtain⟨aHK,aCH,aCI,aCJ,aor,rfl,aCK,ahF⟩:=za ahj a6;have ahF:Hi G aor u:=by
   have z:rI t G aor q.rule:=ahF;rw[cF]at z;exact z
  obtain⟨dN,kvs,rfl,mQ,o8⟩:=an0 ahF;refine⟨_,Z,aZ,_,dO,_,_,Z,g1 _ _ fe,T.gq,T.Cd,Z,_,Z,cl,rM,_,_,Z,Z,aT.of (g1 _ _ iV),gO aCH,aCI,_,aCJ,_,_,Z,g1 _ _ aCK,T.jy,T.ru,Z,dN,Z,.inl ⟨_,.inl (g1 _ _ mQ)⟩,?_⟩;refine⟨_,Z,_,Z,_,hU.k (k:=bJ (yc.getD (k+y.1) 0)) (g1 _ _ mQ),?_⟩;rw[o8];refine⟨_,Z,_,Z,_,Z,_,_,Z,Z,hF,_,_,k+y.1,Z,Z,h1,by rw[zU];exact vN (by simp;exact mJ),⟨_,_,_,Z⟩,aG.qN (by simp),?_⟩;rw[a8,Zv,hs,rW,ari a6 cF]
 ·obtain⟨_,aG,h1⟩:=aU;rw[f9 nc,f3 (cH _)]at h1;exact k1 H1 aG h1
theorem aos{f:Font}(ea:pG f){k:Nat}:∀ (acts:List (Nat×Nat)) (w:aK),(∀ s∈w,s<f.cls.length)->∀ s∈acts.foldl (oH f k) w,s<f.cls.length
 | [],w,h=>h
 |y::acts,w,h=>by
  refine aos ea acts _ ?_;unfold oH;cases a6:f.subs[y.2]? with
  |none=>exact h
  |some q =>
   dsimp only;cases aA:q.rule with
   |one u =>
    dsimp only;intro s aH;by_cases aF:k+y.1<w.length
    ·rcases List.mem_or_eq_of_mem_set aH with z|z
     ·exact h s z
     ·have hw:w.getD (k+y.1) 0<f.cls.length:=by
       rw[List.getD,dT aF];exact h _ (mW aF)
      rw[z];cases pA:u.lookup (w.getD (k+y.1) 0)with
      |none=>exact hw
      |some v =>
       have rG:=ea.fW q (gb a6);rw[aA]at rG;rw[ea.cl];exact rG _ (lookup_mem pA)
    ·rw[List.set_eq_of_length_le (by omega)]at aH;exact h s aH
   |_=>exact h
theorem aot(f:Font)(sk:Nat)(seg:aK):∀ n,n<=seg.length->(List.range n).filterMap (fun i=>if h5 f sk (seg.getD i 0)=true then none else some (nat (seg.getD i 0)))=((seg.take n).filter fun s=>!h5 f sk s).map nat
 |0,_=>by simp
 |n+1,h=>by
  have bV:=aot f sk seg n (by omega);have e:seg[n]?=some seg[n]:=dT (by omega);have eg:seg.getD n 0=seg[n]:=by simp[List.getD,e]
  rw[p7,Eh,bV,take_snoc e,x4,oh];congr 1
  by_cases aL:h5 f sk seg[n]=true
  ·simp[aL,e]
  ·simp[aL,e]
def aou(f:Font)(sk:Nat)(tt:List Sw28.Around)(aZ ft row o_ hM kN:au)(line:aK)(H1:ao)(σ:St)(b2:ao):Prop :=
 ∃ (k:Nat) (w past:aK) (fy kG:Option V),σ=[some (.ref aZ),some (.ref ft),some (.ref row),some (.ref o_),some (.ref hM),some (.ref kN),some (nat k),fy,kG,none,none,none]/\aQ H1 b2/\b2 hM=some (.lst (w.map nat))/\b2 kN=some (.lst (past.map nat))/\k<=line.length/\w.length=line.length/\w.drop k=line.drop k/\past.length<=k /\
  w.take k++ig f sk tt past.reverse [] (line.drop k)=ig f sk tt [] [] line/\∀ s∈w,s<f.cls.length
noncomputable def aov:St->ao->Nat:=fun σ _=>match σ with
 | [_,_,_,_,_,_,some (.int a),_,_,_,_,_]=>5000-a.toNat
 |_=>0
theorem aCL(T:Txt K av t):cJ P w K av base (cM P w) 3 t.O3 t.O4 ["font","rule","row"] (H7 t fun s=>∃ tb,s=.around tb):=by
 refine T.Rk.cZ pR gd.cX ?_;rintro bK A outer s H _ Q E aA ⟨cn,b,c,rfl,aZ,f,r,row,l,rfl,rfl,jP,hf,ea,iz,iB,⟨dx,bG,ca,hD,gx,fP,dR,e3,hY⟩,aF,mO,k1,k2⟩;try simp only at k1 k2
 refine⟨_,(aW (ct (i:=3) pR.nd Z (Or.inl Z) (fl (aj 0) T.gq T.yQ (H5 T) aA.bh T.GJ .nil bj (aD (aj 1) (aD (bQ (aj 2) Z) aM)))) (aW (w4 (i:=4) (own:=[("at",10)]) dJ (fun _ _ z=>z) Z pR.nd Z Z (wW Z Z Z Z) (gH (aj 3)) (gY (by rfl)) (fun _ _ _ _ _=>dm (i:=10) pR.nd Z (Or.inl Z)) (fun _ _ _ _ _=>hy) (fun _ _ _ _ _=>(eO (Cv (K':=K) Z) (rz (K':=K) Z (aj 2) Z) (aj 10) (fun _ _=>Z)))) (aW (ct (i:=5) pR.nd Z (Or.inl Z) (hc aM)) (aW (ct (i:=6) pR.nd Z (Or.inl Z) b3) (aW (Vp (gP dJ Z) (gM q_ (aj 6) (hx iH Z T.hB hN (aD (aj 4) aM)) (fj _)) (aW (ct (i:=7) pR.nd Z (Or.inl Z) (fl (bQ (aj 1) Z) T.tK T.aen (aCs T) aA.bh T.awF .nil bj (aD (aj 4) (aD (aj 6) (aD (aj 5) aM))))) (aW (ct (i:=8) pR.nd Z (Or.inl Z) (fa m8 (aj 6) b3)) (aW (gj (pN (abb (aj 7))) (aW (et (dI (aCF T) aA.bh Z T.afa T.Rj.aG T.axf .nil bj (aD (aj 0) (aD (bQ (aj 7) Z) (aD (aj 4) (aD (aj 6) aM)))))) (bk (ct (i:=8) pR.nd Z (Or.inl Z) (fa m8 (aj 6) (hx iH Z T.hB hN (aD (bQ (aj 7) Z) aM)))))) hu) (aW (et (mA lW Uo Uq VH (aj 5) (aD (iI (own:=[("sign",11)]) dJ (fun _ _ z=>z) Z pR.nd (gH (VD VG (aj 4) (yx (aj 6)) (yx (aj 8)))) (gY (by rfl)) (fun _ _ _ _ _=>dm (i:=11) pR.nd Z (Or.inl Z)) (fun _ _ _ _ _=>(VL (abh (ayd (K':=K) Z (fl (aj 0) T.gq T.QG (ahm T) aA.bh T.afE .nil bj (aD (aj 1) (aD (aj 11) aM))) (fun _=>Z))))) (fun _ _ _ _ _=>(aj 11))) aM))) (bk (ct (i:=6) pR.nd Z (Or.inl Z) (aj 8)))))))) (aW (ct (i:=9) pR.nd Z (Or.inl Z) (ra abT Z T.GF Yj (aD (bQ (aj 2) Z) aM))) (aW (hp (gP dJ Z) Z (akD Z T.X5 (aD (aj 3) (aD (aj 4) aM))) (s8 Z (jM (dm (i:=10) pR.nd Z (Or.inl Z)) (jM (dm (i:=11) pR.nd Z (Or.inl Z)) r7))) (bk (Fl (aj 11) (Fi (aj 9) (aj 10) set_list)))) (bk (et (fl (aj 2) T.eE T.Cj (Tt T) aA.bh T.RQ .nil bj (aD (aj 9) (aD (bQ (aj 2) Z) aM)))))))))))),?_⟩;apply Gh;intros;obtain⟨tt,hk⟩:=jP;have kW:=iB.at;obtain⟨ft,fY,rb,e,hZ,hL⟩:=iB;subst e;have hL:zB t H rb tt:=by
  have z:rI t H rb r.rule:=hL;rw[hk]at z;exact z
 have uv:chg f r l=some (fJ (passed f r.skip) (ig f r.skip tt [] [] (lineOf (passed f r.skip) l)) l):=by unfold chg;rw[hk]
 have ZP:∀ a∈tt,yd a:=by
  have z:=ea.so r iz;rw[hk]at z;exact z
 obtain⟨aCM,TV⟩:=ea.ac r iz tt hk;have aow:=ea.sk r iz;have Ia:=ahu f r.skip l;have zT:=zZ f r.skip l;have Wi:=aod f r.skip (l.map fun x=>x.sign);have Ds:∀ q∈g0 f r.skip (l.map fun x=>x.sign),q<(l.map fun x=>x.sign).length:=fun q a6=>ahp a6;have aox:∀ q∈g0 f r.skip (l.map fun x=>x.sign),h5 f r.skip ((l.map fun x=>x.sign).getD q 0)=false:=fun q a6=>by
  have:=(rT.mp a6).2;simpa using this
 have aCN:∀ (i:Nat) (x:Item),l[i]?=some x->¬ passed f r.skip x=true->i∈g0 f r.skip (l.map fun x=>x.sign):=fun i x aq aL=>by
  refine rT.mpr ⟨by simp;exact(eF.mp aq).1,?_⟩;have uP:¬ h5 f r.skip x.sign=true:=aL;simp[List.getD,aq,uP]
 have Zw:(l.map fun x=>x.sign).length=l.length:=by simp
 have aoy:∀ (i:Nat) (x:Item),l[i]?=some x->(l.map fun x=>x.sign).getD i 0=x.sign:=fun i x aq=>by simp[List.getD,aq]
 have aCO:∀ (i:Nat) (x:Item),l[i]?=some x->passed f r.skip x=true->i∉g0 f r.skip (l.map fun x=>x.sign):=fun i x aq aL hm=>by
  have z:=aox i hm;rw[aoy i x aq]at z;have uP:h5 f r.skip x.sign=true:=aL;rw[uP]at z;cases z
 have jn:∀ s∈l.map (fun x=>x.sign),s<f.cls.length:=fun s aH=>by
  obtain⟨x,aq,rfl⟩:=g6.mp aH;rw[ea.cl];exact mO x aq
 generalize l.map (fun x=>x.sign)=ss at *;obtain⟨dO,_,_,_,_,_,_,_,fe,_⟩:=id hf;refine⟨_,Z,aZ,dO,_,Z,fe,Z,_,Z,_,Z,row,_,dx,_,_,Z,dR,T.eE,T.iw,Z,?_⟩;refine⟨_,_,_,Z,aZ,f,r.skip,bG,ss,Z,Z,hf,kW,e3,aow,by omega,jn,ea.r5,fun o_ H1 s1 aB' kE=>?_⟩;have hlen:(g0 f r.skip ss).length<=4096:=jg Zu (by omega);generalize g0 f r.skip ss=left at *;have hline:(lineOf (passed f r.skip) l).length=left.length:=by rw[← Ia,ey]
 have aoz:∀ s∈lineOf (passed f r.skip) l,h5 f r.skip s=false/\s<f.cls.length:=fun s aH=>by
  rw[← Ia]at aH;obtain⟨q,a6,rfl⟩:=g6.mp aH;have ahG:=Ds q a6;refine⟨aox q a6,?_⟩;rw[List.getD,dT ahG];exact jn _ (mW ahG)
 generalize lineOf (passed f r.skip) l=line at *;refine⟨_,Z,o_,Z,⟨_,aT.of kE⟩,fun hM w2=>?_⟩;refine n5 (line.map nat) (by simp[hline]) (aT.of kE) (by simp;omega) w2 (fun i v y H' er a0 aP aH q=>?_) ?_
 ·rw[ek]at a0;cases e:left[i]? with
  |none=>rw[e]at a0;cases a0
  |some tD =>
   rw[e]at a0;cases a0;have a6:=Ds tD (gb e);have gk:y=nat (ss.getD tD 0):=by
    rw[← Ia,ek,ek,e]at aP;exact(Option.some.inj aP).symm
   subst gk;have s2:=s1.trans aH;exact⟨_,Z,row,_,dx,_,_,Z,s2 _ _ dR,T.eE,T.iw,Z,_,Z,bG,_,_,_,Z,Z,aT.of (s2 _ _ e3),gO (xW ss a6),q⟩
 have s2:aQ H1 (upd H1 hM (.lst (line.map nat))):=ei (aQ.refl _) w2;have m9:(upd H1 hM (.lst (line.map nat))) hM=some (.lst (line.map nat)):=a8;generalize upd H1 hM (.lst (line.map nat))=aB at *;refine⟨eZ _,fun kN ahH=>?_⟩;have aCP:H1 kN=none:=s2.free ahH;have ahI:kN≠hM:=(bR m9 ahH).symm;have s3:aQ H1 (upd aB kN (.lst [])):=s2.trans (ei (aQ.refl _) ahH);have ZQ:(upd aB kN (.lst [])) hM=some (.lst (line.map nat)):=by rw[a7 ahI.symm];exact m9
 have ZR:(upd aB kN (.lst [])) kN=some (.lst (([]:aK).map nat)):=a8;generalize upd aB kN (.lst [])=aJ at *;have aHL:=Jp f r.skip tt line [] [];refine abr (aou f r.skip tt aZ ft row o_ hM kN line H1) aov ⟨0,line,[],_,_,rfl,s3,ZQ,ZR,eZ _,rfl,rfl,cH _,rfl,fun s aH=>(aoz s aH).2⟩ (fun σ b2 aU=>?_) (fun σ H Q er h ⟨v,e,v2,a9,p,bO,dw,oA,i,j,a,b,dB,zU,q⟩=>⟨v,e,v2,a9,p,bO,dw,oA,i,j,a,b,dB,zU,h _ _ q⟩);obtain⟨k,w,past,fy,kG,e,s5,Dx,ahJ,aN,lC,Ig,g8,TX,aoA⟩:=aU;subst e;have pY:=s1.trans s5;refine⟨_,Z,_,Z,hM,_,Z,.inl (aT.of Dx),_,_,Z,Z,_,Z,dF (fun ak=>?_) fun ak=>?_⟩
 ·have mJ:k<line.length:=by
   have:=h3 ak;simp at this;omega
  have fin:∀ (D:Ends) (eN:ao) (w':aK) (n:Nat) (fy:Option V),(∀ σ dD,aou f r.skip tt aZ ft row o_ hM kN line H1 σ dD/\aov σ dD<5000-k->D.cU σ dD)->1<=n->k+n<=line.length->aQ H1 eN->eN hM=some (.lst (w'.map nat))->eN kN=some (.lst (past.map nat))->w'.length=line.length->w'.drop (k+n)=line.drop (k+n) ->
    w'.take (k+n)++ig f r.skip tt (((w'.drop k).take n).foldl (push f r.skip) past.reverse) [] (line.drop (k+n))=ig f r.skip tt [] [] line->(∀ s∈w',s<f.cls.length) ->
    c4 (wL (yD K "list" yE (gh 5) (nS (wV (Fq K (aj' (akc K) (gh 4) (abO (gh 6)) (abO (gh 8)))) (kY 11) (ajz (afZ K (Fx t.eu "passes_over" (anS t) [] E (gh 0) (nS (gh 1) (nS (gh 11) m_))))) (gh 11) [11]) m_))) (Fj (gh 8) (kY 6)) D
     [some (.ref aZ),some (.ref ft),some (.ref row),some (.ref o_),some (.ref hM),some (.ref kN),some (nat k),fy,some (nat (k+n)),none,none,none] eN:=fun D eN w' n fy bw YQ aCQ cV ZS ZV aCR aCS aCT aoB=>by
   refine⟨_,Z,.inl ⟨Z,_,aT.of ZV⟩,?_⟩;refine⟨_,Z,_,Z,_,Z,_,Z,_,Z,hM,_,Z,aT.of ZS,fun Y ix=>?_⟩;rw[an6 w' (by omega) (by omega),show k+n-k=n by omega];have qI:((w'.drop k).take n).length=n:=by rw[g4,od];omega
   have xR:∀ s∈(w'.drop k).take n,s<f.cls.length:=fun s aH=>aoB s (Ul (Eb aH));generalize (w'.drop k).take n=seg at *;have aHM:kN≠Y:=bR ZV ix;have aHN:hM≠Y:=bR ZS ix;have Dy:aQ eN (upd eN Y (.lst (seg.map nat))):=ei (aQ.refl _) ix;have aoC:(upd eN Y (.lst (seg.map nat))) Y=some (.lst (seg.map nat)):=a8;generalize upd eN Y (.lst (seg.map nat))=dD at *;refine⟨Y,Z,⟨_,aT.of aoC⟩,fun ahK ZW=>?_⟩;have pZ:=s1.trans (cV.trans Dy);refine af_ (fun i=>if h5 f r.skip (seg.getD i 0)=true then none else some (nat (seg.getD i 0))) (aT.of aoC) (by simp;omega) ZW (fun i v H' er N a0 aH h1 aC=>?_) ?_
   ·have hi:i<seg.length:=by simpa using(eF.mp a0).1
    rw[xW seg hi]at a0;cases a0;have Dp:seg.getD i 0<f.cls.length:=by rw[List.getD,dT hi];exact xR _ (mW hi)
    have xX:=pZ.trans aH;refine⟨_,Z,aZ,dO,_,Z,xX _ _ fe,Z,_,Z,_,Z,_,_,_,Z,aZ,f,r.skip,seg.getD i 0,Z,Z,mK xX hf,kW.mono xX,aow,Dp,ea.r5,_,Z,?_⟩;refine dF (fun ak=>⟨_,rfl,h1 _ ?_⟩) fun ak=>aC ?_
    ·rw[bx (by simpa using ak)]
    ·rw[bM (by simpa using ak)]
   ·rw[ey,aot f r.skip seg seg.length (cH _),f3 (cH _)];have aCU:kN≠ahK:=bR (Dy _ _ ZV) ZW;have aCV:hM≠ahK:=bR (Dy _ _ ZS) ZW;have yg:(seg.filter fun s=>!h5 f r.skip s).length<=n:=by rw[← qI];exact Ei _ _
    refine⟨kN,ahK,_,_,Z,Z,by rw[a7 aCU];exact Dy _ _ ZV,a8,by simp;exact RX (by omega),?_⟩;refine⟨_,Z,bw _ _ ⟨⟨k+n,w',past++seg.filter (fun s=>!h5 f r.skip s),_,_,rfl,fun b o e=>?_,?_,?_,aCQ,aCR,aCS,?_,?_,aoB⟩,?_⟩⟩
    ·rw[a7 (bR e aCP),a7 (bR (Dy _ _ (cV _ _ e)) ZW)];exact Dy _ _ (cV _ _ e)
    ·rw[a7 ahI.symm,a7 aCV];exact Dy _ _ ZS
    ·rw[a8,oh]
    ·rw[gC];omega
    ·rw[List.reverse_append,← ajj];exact aCT
    ·show 5000-((k+n:Nat):Int).toNat<5000-k;omega
  have oD:line.drop k=line[k]::line.drop (k+1):=z8 mJ;have aCW:=aoz line[k] (mW mJ);generalize line[k]=x at *;obtain⟨aCX,aCY,aHO,aHP,aHQ,aCZ,aC0,_⟩:=id hL;refine⟨_,Z,ft,_,fY,_,_,Z,pY _ _ hZ,T.jy,T.ru,Z,aCX,aCY,_,aCZ,pY _ _ aC0,Z,_,Z,_,Z,_,Z,?_⟩;refine⟨_,_,_,_,Z,H,tt,hM,w,k,kN,past,pY,hL,Z,Z,Z,Dx,ahJ,aCM,by omega,fun ZG eN cV=>?_,fun a ham z0 eN aHR cV aC1=>?_⟩
  ·rw[Ig,oD]at ZG;have ag7:=aqx f r.skip tt ZG;refine⟨_,Z,_,_,Z,Z,?_⟩;refine⟨_,Z,_,Z,dF (fun h=>?_) fun _=>?_⟩
   ·have:(!decide (V.non=V.non))=true:=h
    simp at this
   refine fin _ eN w 1 _ (fun σ dD h=>h) (cH _) (by omega) (s5.trans cV) (cV _ _ Dx) (cV _ _ ahJ) lC ?_ ?_ aoA
   ·rw[← Ej,Ig,Ej]
   ·have aaH:(w.drop k).take 1=[x]:=by rw[Ig,oD];rfl
    have aam:w.take (k+1)=w.take k++[x]:=take_snoc (Zz (Ig.trans oD)).2;rw[aaH,aam];rw[oD,ag7]at TX;have aC2:[x].foldl (push f r.skip) past.reverse=x::past.reverse:=by
     show push f r.skip past.reverse x=_;unfold push;rw[aCW.1];rfl
    rw[aC2,uI];exact TX
  ·rw[Ig,oD]at z0;have Y0:=aqy f r.skip tt ZP z0;have ahL:=ZP a ham;have q4:fits a.here (x::line.drop (k+1))=true:=by
    have z:=v5 z0;unfold q3 at z;simp at z;exact z.1
   have aC3:a.here.length<=(line.drop k).length:=by rw[oD];exact Ep q4
   rw[od]at aC3;obtain⟨Gg,aoD,azY,aHS,aHT,aHU,rfl,aoE,_,⟨aC4,aoF,rfl,aC5,aC6⟩,_,amd⟩:=id aC1;have s16:=s5.trans cV;have vO:=s1.trans s16;refine⟨_,Z,_,_,Z,Z,?_⟩;refine⟨_,Z,_,Z,dF (fun _=>?_) fun h=>absurd (show(!decide (V.ref Gg=V.non))=true by rw[zX];rfl) h⟩;refine⟨_,Z,_,Z,Gg,_,aoD,_,_,Z,vO _ _ aoE,T.sv,T.QB,Z,_,Z,_,Z,?_⟩;have aC7:H hM=none:=s1.free w2;refine⟨_,_,_,_,Z,aZ,f,H,hM,w,k,a.acts,Z,hf,amd,vO,aC7,Z,Z,cV _ _ Dx,fun y aP=>⟨by have:=ahL.acts y aP;omega,TV a ham y aP⟩,fun dD nD aC8=>?_⟩;have Hr:∀ b o,H1 b=some o->b∉[hM]:=fun b o e=>by simp only[g5];exact bR e w2
   have aoG:aQ H1 dD:=fun b o e=>nD _ _ (Hr _ _ e) (s16 _ _ e);have pZ:=s1.trans aoG;have zO:=nD _ _ (by simp[ahI]) (cV _ _ ahJ);refine⟨_,Z,_,Z,Gg,_,aoD,_,_,Z,pZ _ _ aoE,T.sv,T.Qz,Z,aC4,aoF,Z,.inl (aT.of (pZ _ _ aC5)),_,_,Z,Z,?_⟩;have aC9:(k:Int)+((aoF.length:Nat):Int)=((k+a.here.length:Nat):Int):=by rw[f9 aC6];omega
   simp only[aC9];have CN:w=w.take k++((line.drop k).take a.here.length++line.drop (k+a.here.length)):=by
    have:=I2 k w;rw[Ig]at this;rw[← Am,I2];exact this.symm
   have vl:(w.take k).length=k:=by rw[g4];omega
   have Y5:((line.drop k).take a.here.length).length=a.here.length:=by rw[g4,od];omega
   have ahM:a.acts.foldl (oH f k) w=w.take k++(jh f a.acts ((line.drop k).take a.here.length)++line.drop (k+a.here.length)):=by
    conv=>lhs;rw[CN]
    exact aji f (w.take k) (line.drop (k+a.here.length)) vl a.acts _ fun y aP=>by rw[Y5];exact ahL.acts y aP
   have yP:(jh f a.acts ((line.drop k).take a.here.length)).length=a.here.length:=by rw[UW,Y5]
   have aHV:=aaX f k a.acts w;have aC_:∀ s∈a.acts.foldl (oH f k) w,s<f.cls.length:=aos ea a.acts w aoA;generalize a.acts.foldl (oH f k) w=Fv at *;rw[← oD]at Y0;generalize jh f a.acts ((line.drop k).take a.here.length)=seg at *;have h1:Fv.take (k+a.here.length)=w.take k++seg:=by
    rw[ahM,← uI,List.take_append_of_le_length (by simp;omega),f3 (by simp;omega)]
   have aC:Fv.drop (k+a.here.length)=line.drop (k+a.here.length):=by
    rw[ahM,← uI];rw[Uj (by simp;omega),Ef (by simp;omega),I3]
   have bI:(Fv.drop k).take a.here.length=seg:=by
    rw[ahM,Uj (by omega),Ef (by omega),I3,List.take_append_of_le_length (by omega),f3 (by omega)]
   refine fin _ dD Fv a.here.length _ (fun σ mF h=>h) ahL.here (by omega) aoG aC8 zO (by omega) aC ?_ aC_;rw[h1,bI,uI];rw[Y0,Am]at TX;exact TX
 ·have mJ:k=line.length:=by
   have:¬ (k:Int)<((w.map nat).length:Int):=fun z=>ak (fw z);simp at this;omega
  subst mJ;have aC':w=ig f r.skip tt [] [] line:=by
   rw[← TX,Ef (cH _),f3 (by omega)];simp[ig]
  rw[← aC']at uv;refine⟨_,Z,row,_,dx,_,_,Z,pY _ _ dR,T.eE,T.iw,Z,bG,_,Z,.inl (aT.of (pY _ _ e3)),fun S d1=>?_⟩;have cV:aQ b2 (upd b2 S (.lst (ss.map nat))):=ei (aQ.refl _) d1;have aDa:(upd b2 S (.lst (ss.map nat))) S=some (.lst (ss.map nat)):=a8;generalize upd b2 S (.lst (ss.map nat))=eN at *;refine⟨_,Z,_,Z,o_,hM,_,_,Z,aT.of (cV _ _ (s5 _ _ kE)),aT.of (cV _ _ Dx),?_⟩;refine al3 (by simp;omega) (fun j σ dD=>(∃ tG BW,σ=[some (.ref aZ),some (.ref ft),some (.ref row),some (.ref o_),some (.ref hM),some (.ref kN),some (nat line.length),fy,kG,some (.ref S),tG,BW])/\aQ b2 dD/\∃ F:aK,dD S=some (.lst (F.map nat))/\F.length=ss.length/\(∀ m q,m<j->left[m]?=some q->F.getD q 0=w.getD m 0)/\∀ i,i∉left->F.getD i 0=ss.getD i 0) ⟨⟨_,_,rfl⟩,cV,ss,aDa,rfl,fun m q h=>absurd h (Ai _),fun i _=>rfl⟩ (fun j σ dD _ ⟨_,s,_⟩=>⟨aT.of (s _ _ (s5 _ _ kE)),aT.of (s _ _ Dx)⟩) (fun j u v ez σ dD cF a0 ⟨⟨tG,BW,e⟩,Ih,F,iR,aoH,uo,vH⟩ cx=>?_) fun σ dD aU=>?_
  ·subst e;have bN:j<left.length:=by simpa using(eF.mp cF).1
   have zY:left[j]?=some left[j]:=dT bN;rw[ek,zY]at cF;cases cF;rw[xW w (by omega)]at a0;cases a0;have ahG:=Ds left[j] (mW bN);generalize left[j]=q at *;have aDb:S≠ez:=bR iR cx;have aDc:(upd dD ez (.tup [nat q,nat (w.getD j 0)])) S=some (.lst (F.map nat)):=by rw[a7 aDb];exact iR
   refine⟨_,Z,_,Z,_,Z,S,_,_,q,Z,Z,aDc,vN (by simp;omega),⟨_,_,Z⟩,?_,F.set q (w.getD j 0),?_,by simp[aoH],fun m d9 hm kl=>?_,fun i hi=>?_⟩
   ·exact ei (Ih.trans (ei (aQ.refl _) cx)) d1
   ·rw[a8,Zv]
   ·rw[TP _ _ _ _ (by omega)];by_cases e:d9=q
    ·subst e;rw[bM rfl,ZF Wi kl zY]
    ·rw[bx e];refine uo m d9 ?_ kl;rcases Nat.lt_or_eq_of_le (Nat.le_of_lt_succ hm)with z|z
     ·exact z
     ·subst z;rw[zY]at kl;exact absurd (Option.some.inj kl).symm e
   ·rw[TP _ _ _ _ (by omega),bx (fun e:i=q=>hi (e.symm▸gb zY))];exact vH i hi
  ·obtain⟨⟨tG,BW,e⟩,Ih,F,iR,aoH,uo,vH⟩:=aU;subst e;rw[ey]at uo;have aDd:F=(fJ (passed f r.skip) w l).map fun x=>x.sign:=by
    refine arl _ l w F (by omega) (by rw[← zT];omega) (fun m q a6=>?_) (fun i x aq aL=>?_) fun i x aq aL=>?_
    ·rw[← zT]at a6;exact uo m q (eF.mp a6).1 a6
    ·rw[vH i (aCO i x aq aL),aoy i x aq]
    ·rw[← zT];exact Ec.mp (aCN i x aq aL)
   have pZ:=pY.trans Ih;refine⟨_,Z,row,dx,_,Z,pZ _ _ dR,Z,_,Z,_,Z,row,_,dx,_,_,Z,pZ _ _ dR,T.eE,T.w6,Z,?_⟩;refine⟨_,_,_,Z,row,dx,bG,ca,S,ca,hD,gx,fP,_,Z,Z,Z,pZ _ _ dR,iR,fun _=>?_,fun h=>?_⟩
   ·have Tv:S≠row:=(bR (pY _ _ dR) d1).symm
    have Tw:ca≠row:=hO hY dR (by intro z;cases z);refine k1 _ _ uv (fun b o n e=>by rw[a7 (by simpa using n)];exact pZ _ _ e) ⟨dx,S,ca,hD,gx,fP,a8,?_,?_⟩
    ·rw[a7 Tv,iR,aDd]
    ·rw[a7 Tw,aaZ];exact pZ _ _ hY
   ·rw[ey]at h;omega
theorem aDe(T:Txt K av t):cJ P w K av base (cM P w) 4 t.O5 t.O6 ["font","rule","row"] (H7 t fun _=>True):=by
 obtain⟨agE,Dc,Dd⟩:=T.k_EXCHANGE;obtain⟨azS,agF,agG⟩:=T.k_JOIN;obtain⟨azT,agH,agI⟩:=T.k_SPREAD;refine T.Rm.cZ ax5 gd.cX ?_;rintro bK A outer s H _ Q E aA ⟨cn,b,c,rfl,aZ,f,r,row,l,rfl,rfl,jP,hf,ea,iz,iB,dR,aF,mO,k1,k2⟩;try simp only at k1 k2
 refine⟨_,(bk (gj (gM jO (bQ (aj 1) Z) (gW Z Dc Dd) (fj _)) (bk (et (dI (aBF T) aA.bh Z T.ae9 T.Rg.aG T.axc .nil bj (aD (aj 0) (aD (aj 1) (aD (aj 2) aM)))))) (bk (gj (gM jO (bQ (aj 1) Z) (gW Z agH agI) (fj _)) (bk (et (dI (aBL T) aA.bh Z T.ae_ T.Rh.aG T.axd .nil bj (aD (aj 0) (aD (aj 1) (aD (aj 2) aM)))))) (bk (gj (gM jO (bQ (aj 1) Z) (gW Z agF agG) (fj _)) (bk (et (dI (aB8 T) aA.bh Z T.ae' T.Ri.aG T.axe .nil bj (aD (aj 0) (aD (aj 1) (aD (aj 2) aM)))))) (bk (et (dI (aCL T) aA.bh Z T.afb T.Rk.aG T.axg .nil bj (aD (aj 0) (aD (aj 1) (aD (aj 2) aM)))))))))))),?_⟩;obtain⟨ft,fY,rb,e,hZ,_⟩:=id iB;subst e;have d9:∀ {pr:Sw28.Sub->Prop},pr r.rule->H7 t pr ([V.ref aZ,V.ref ft,V.ref row]++[]) H (fun _ H'=>Q .non H') E:=fun{pr} h=>⟨_,_,_,rfl,aZ,f,r,row,l,rfl,rfl,h,hf,ea,iz,iB,dR,aF,mO,k1,k2⟩;have aN:∀ n:Nat,decide (V.int (lu r.rule:Nat)=V.int (n:Nat))=true->lu r.rule=n:=fun n h=>by have:=j9 h;omega
 refine⟨_,Z,ft,_,fY,_,_,Z,hZ,T.jy,T.tL,Z,Z,_,Z,dF (fun ak=>?_) fun ak=>?_⟩
 ·have h1:=aN 1 ak
  refine⟨_,Z,_,Z,_,Z,d9 (pr:=fun s=>∃ tb,s=.one tb) ?_⟩;cases e:r.rule<;>rw[e]at h1<;>first|exact⟨_,Z⟩|cases h1
 have n1:lu r.rule≠1:=fun z=>ak (fw (by rw[z];rfl));refine⟨_,Z,ft,_,fY,_,_,Z,hZ,T.jy,T.tL,Z,Z,_,Z,dF (fun ak=>?_) fun ak=>?_⟩
 ·have h1:=aN 2 ak
  refine⟨_,Z,_,Z,_,Z,d9 (pr:=fun s=>∃ tb,s=.more tb) ?_⟩;cases e:r.rule<;>rw[e]at h1<;>first|exact⟨_,Z⟩|cases h1
 have n2:lu r.rule≠2:=fun z=>ak (fw (by rw[z];rfl));refine⟨_,Z,ft,_,fY,_,_,Z,hZ,T.jy,T.tL,Z,Z,_,Z,dF (fun ak=>?_) fun ak=>?_⟩
 ·have h1:=aN 3 ak
  refine⟨_,Z,_,Z,_,Z,d9 (pr:=fun s=>∃ tb,s=.joined tb) ?_⟩;cases e:r.rule<;>rw[e]at h1<;>first|exact⟨_,Z⟩|cases h1
 have qy:lu r.rule≠3:=fun z=>ak (fw (by rw[z];rfl));refine⟨_,Z,_,Z,_,Z,d9 (pr:=fun s=>∃ tb,s=.around tb) ?_⟩;cases e:r.rule<;>rw[e]at n1 n2 qy<;>first|exact⟨_,Z⟩|exact absurd rfl n1|exact absurd rfl n2|exact absurd rfl qy
def mU(l:List Item):List V:=l.map fun x=>V.int x.advance
def jd(l:List Item):List V:=l.map fun x=>V.int x.dx
def ll(l:List Item):List V:=l.map fun x=>V.int x.dy
structure PR(t:bW)(G H:ao)(row cR cv dj:au)(l:List Item):Prop where
 bY:aQ G H
 Ii:G cR=none
 gr:G cv=none
 TY:G dj=none
 wr:cR≠cv
 T3:cR≠dj
 ho:cv≠dj
 cY:∃ dx bG ca,G row=some (.ins t.fC dx (mL bG ca (.ref cR) (.ref cv) (.ref dj)))/\G bG=some (.lst ((l.map fun x=>x.sign).map nat))/\G ca=some (.lst ((l.map fun x=>x.from_).map nat))
 w:H cR=some (.lst (mU l))
 r:H cv=some (.lst (jd l))
 u:H dj=some (.lst (ll l))
section
variable{G H H':ao}{row cR cv dj:au}{l l':List Item}
theorem PR.to(P:PR t G H row cR cv dj l)(aH:l'.map (fun x=>x.sign)=l.map fun x=>x.sign)(hf:l'.map (fun x=>x.from_)=l.map fun x=>x.from_)(bY:aQ G H')(w:H' cR=some (.lst (mU l')))(r:H' cv=some (.lst (jd l')))(u:H' dj=some (.lst (ll l'))):PR t G H' row cR cv dj l' :=
 ⟨bY,P.Ii,P.gr,P.TY,P.wr,P.T3,P.ho,by rw[aH,hf];exact P.cY,w,r,u⟩
theorem PR.on(P:PR t G H row cR cv dj l)(s:aQ H H'):PR t G H' row cR cv dj l:=P.to rfl rfl (P.bY.trans s) (s _ _ P.w) (s _ _ P.r) (s _ _ P.u)
theorem PR.new(P:PR t G H row cR cv dj l){b:au}{o:HO}(h:H b=none):PR t G (upd H b o) row cR cv dj l:=P.on (ei (aQ.refl _) h)
end
theorem Ij{β:Type}(g:Item->β){l:List Item}{i:Nat}{x:Item}(h:Item->Item)(e:l[i]?=some x):(Sw28.at_ l i h).map g=(l.map g).set i (g (h x)):=by
 rw[Ut h e,List.map_set]
theorem vP{β:Type}(g:Item->β)(l:List Item)(i:Nat)(h:Item->Item)(hh:∀ x,g (h x)=g x):(Sw28.at_ l i h).map g=l.map g:=by
 apply vW;intro j;rw[ek,Jf,ek];cases l[j]? with
 |none=>rfl
 |some x =>
  simp only[gf];split
  ·rw[hh]
  ·rfl
inductive aoI(t:bW)(pr:Sw28.Pos->Prop)(a b c:V)(H:ao)(Q:bA)(pU:cN):Prop
 |mk (aZ f r row G cR cv dj l):a=.ref aZ->c=.ref row->pr r.rule->lQ t G aZ f->pG f->r∈f.poss->sG t G b r->PR t G H row cR cv dj l->l.length<=4096->(∀ x∈l,x.sign<f.signs)->(∀ H',PR t G H' row cR cv dj ((dA (passed f r.skip) 0 l).foldl (placeAt f r) l)->Q .non H')->aoI t pr a b c H Q pU
def Ik(t:bW)(pr:Sw28.Pos->Prop):eY:=gd (aoI t pr)
theorem aDf(f:Font)(r:Rule Sw28.Pos)(l:List Item)(i:Nat):(placeAt f r l i).map (fun x=>x.from_)=l.map fun x=>x.from_:=by
 have so:∀ m b p,(setOn m b l i p).map (fun x=>x.from_)=l.map fun x=>x.from_:=fun m b p=>by
  unfold setOn;split
  ·rfl
  ·split
   ·exact vP _ _ _ _ fun _=>rfl
   ·rfl
 unfold placeAt Sw28.placed;cases r.rule with
 |one t =>
  dsimp only;split
  ·exact vP _ _ _ _ fun _=>rfl
  ·rfl
 |pair t =>
  dsimp only;split
  ·rfl
  ·split
   ·dsimp only;exact vP (fun x=>x.from_) l i _ fun _=>rfl
   ·rfl
 |onBase m b =>
  dsimp only;split
  ·exact so _ _ _
  ·rfl
 |onMark m b =>
  dsimp only;split
  ·exact so _ _ _
  ·rfl
theorem aDg(f:Font)(r:Rule Sw28.Pos)(l:List Item)(i:Nat):(placeAt f r l i).map (fun x=>x.sign)=l.map fun x=>x.sign:=(aaL f r).same l i
theorem aoJ(f:Font)(r:Rule Sw28.Pos):∀ (oF:aK) (l:List Item),(oF.foldl (placeAt f r) l).map (fun x=>x.from_)=l.map fun x=>x.from_
 | [],_=>rfl
 |j::oF,l=>by rw[hs,aoJ f r oF,aDf]
theorem aDh{H:ao}{v:V}{tb:List (Nat×Int×Int×Int)}(h:R_ t H v tb):∃ dN kvs,v=.ref dN/\H dN=some (.dX kvs)/\∀ s,(tb.lookup s=none->dY kvs (bJ s)=none)/\∀ d,tb.lookup s=some d->∃ u,dY kvs (bJ s)=some u/\vA t H u d:=by
 obtain⟨dN,kvs,e,ak,pp⟩:=h;refine⟨dN,kvs,e,ak,fun s=>?_⟩;have:=Hg (key:=fun y:Nat×Int×Int×Int=>bJ y.1) (R:=fun H v y=>vA t H v y.2) (H:=H) (bJ s) pp;rw[Zt]at this;rw[U_];refine⟨fun z=>this.1 (by simpa using z),fun d hz=>?_⟩;cases z:tb.find? fun y=>decide (y.1=s)with
 |none=>rw[z]at hz;cases hz
 |some y =>
  rw[z]at hz;cases hz;exact this.2 y z
theorem Il{l:List Item}{i:Nat}(h:i<l.length):((l.map fun x=>x.sign).map nat)[i]?=some (nat (signAt l i)):=by
 simp[signAt,dT h]
theorem aDi(T:Txt K av t):cJ P w K av base (cM P w) 2 t.Qa t.Qc ["font","rule","row"] (Ik t fun s=>∃ tb,s=.one tb):=by
 refine T.RC.cZ afV gd.cX ?_;rintro bK A outer s H _ Q E aA ⟨cn,b,c,rfl,aZ,f,r,row,G,cR,cv,dj,l,rfl,rfl,jP,hf,ea,iz,iB,P,aF,mO,k1⟩;refine⟨_,(bk (hp (gP dJ rfl) rfl (gH (fl (aj 0) T.gq T.yQ (H5 T) aA.bh T.GJ .nil bj (aD (aj 1) (aD (bQ (aj 2) rfl) aM)))) (dm (i:=3) afV.nd rfl (Or.inl rfl)) (aW (ct (i:=4) afV.nd rfl (Or.inl rfl) (Kc (k6 aA) (bQ (aj 1) rfl) (eO gA (bQ (aj 2) rfl) (aj 3) (fun _ _=>rfl)) ⟨rfl,rfl,rfl,rfl⟩)) (bk (gj (pN (abb (aj 4))) (aW (Vo (bQ (aj 2) rfl) (aj 3) Wj (bQ (aj 4) rfl) Bo set_list) (aW (Vo (bQ (aj 2) rfl) (aj 3) Wj (bQ (aj 4) rfl) Bo set_list) (bk (Vo (bQ (aj 2) rfl) (aj 3) Wj (bQ (aj 4) rfl) Bo set_list)))) hu))))),?_⟩;obtain⟨tb,hk⟩:=jP;have kW:=sG.at iB;obtain⟨ft,fY,rb,e,hZ,hL⟩:=iB;subst e;have hL:R_ t G rb tb:=by
  have z:vK t G rb r.rule:=hL;rw[hk]at z;exact z
 obtain⟨dN,kvs,e,mQ,o8⟩:=aDh hL;subst e;obtain⟨dx,bG,ca,dR,e3,hY⟩:=P.cY;obtain⟨dO,_,_,_,_,_,_,_,fe,_⟩:=id hf;have jn:∀ s∈l.map (fun x=>x.sign),s<f.cls.length:=fun s aH=>by
  obtain⟨x,aq,rfl⟩:=g6.mp aH;rw[ea.cl];exact mO x aq
 refine⟨_,Z,aZ,dO,_,Z,P.bY _ _ fe,Z,_,Z,_,Z,row,_,dx,_,_,Z,P.bY _ _ dR,T.eE,T.iw,Z,?_⟩;refine⟨_,_,_,Z,aZ,f,r.skip,bG,_,Z,Z,mK P.bY hf,kW.mono P.bY,P.bY _ _ e3,ea.pH r iz,by simp;omega,jn,ea.r5,fun D H1 s1 bw hd=>?_⟩;rw[zZ]at hd;have uQ:∀ i∈dA (passed f r.skip) 0 l,i<l.length:=fun i hi=>by have:=(oE _ hi).2;omega
 generalize dA (passed f r.skip) 0 l=left at *;refine⟨D,Z,⟨_,aT.of hd⟩,?_⟩;have ahN:D≠cR:=(bR P.w bw).symm;have ahO:D≠cv:=(bR P.r bw).symm;have ahP:D≠dj:=(bR P.u bw).symm;refine qz (xs:=left.map nat) (fun j σ aB=>(∃ s3 s4,σ=[some (.ref aZ),some (.ref ft),some (.ref row),s3,s4])/\aB D=some (.lst (left.map nat))/\PR t G aB row cR cv dj ((left.take j).foldl (placeAt f r) l)) ⟨⟨_,_,rfl⟩,hd,P.on s1⟩ (fun j σ aB _ ⟨_,h,_⟩=>aT.of h) (fun j v σ aB a0 aU=>?_) fun σ aB aU=>?_
 ·obtain⟨⟨s3,s4,e⟩,hd2,P2⟩:=aU;subst e;have bN:j<left.length:=by simpa using(eF.mp a0).1
  have lF:left[j]?=some left[j]:=dT bN;have Km:=uQ left[j] (mW bN);rw[ek,lF]at a0;cases a0;rw[take_snoc lF,oo,hs,rW];generalize left[j]=i at *;have k_:=Et f r (left.take j) l;have aHW:=aoJ f r (left.take j) l;generalize (left.take j).foldl (placeAt f r) l=l2 at *;have oO:l2.length=l.length:=by have:=congrArg List.length k_;simpa using this
  have ur:i<l2.length:=by omega
  have rQ:l2[i]?=some l2[i]:=dT ur;have aHX:signAt l2 i=l2[i].sign:=uL rQ;generalize l2[i]=x at *;have sJ:aB bG=some (.lst ((l2.map fun x=>x.sign).map nat)):=by rw[k_];exact P2.bY _ _ e3
  refine⟨_,Z,ft,_,fY,_,_,Z,P2.bY _ _ hZ,T.jy,T.ru,Z,dN,Z,.inl ⟨_,.inl (P2.bY _ _ mQ)⟩,?_⟩;refine⟨_,Z,row,_,dx,_,_,Z,P2.bY _ _ dR,T.eE,T.iw,Z,_,Z,bG,_,_,_,Z,Z,aT.of sJ,gO (Il ur),_,hU.k (k:=bJ (signAt l2 i)) (P2.bY _ _ mQ),?_⟩;have Tq:placeAt f r l2 i=match tb.lookup (signAt l2 i)with
    |some d=>Sw28.at_ l2 i fun x=>{ x with dx:=x.dx+d.1,dy:=x.dy+d.2.1,advance:=x.advance+d.2.2 }
    |none=>l2:=by
   unfold placeAt Sw28.placed;rw[hk];rfl
  rw[Tq];cases pA:tb.lookup (signAt l2 i)with
  |none =>
   rw[(o8 _).1 pA];refine⟨_,Z,_,Z,dF (fun h=>?_) fun _=>⟨⟨_,_,rfl⟩,hd2,P2⟩⟩;have:(!decide (V.non=V.non))=true:=h;simp at this
  |some d =>
   obtain⟨u,cF,mp,Dz,rfl,DG⟩:=(o8 _).2 d pA;rw[cF];have aDj:=P2.bY _ _ DG;refine⟨_,Z,_,Z,dF (fun _=>?_) fun h=>absurd (show(!decide (V.ref mp=V.non))=true by rw[zX];rfl) h⟩;have Im:∀ b o,G b=some o->b≠cR/\b≠cv/\b≠dj:=fun b o e=>⟨bR e P2.Ii,bR e P2.gr,bR e P2.TY⟩;refine⟨_,Z,row,_,dx,_,_,Z,P2.bY _ _ dR,T.eE,T.yV,Z,_,Z,cv,_,_,V.int x.dx,Z,Z,aT.of P2.r,gO (by simp[jd,rQ]),_,Z,mp,_,Dz,_,_,Z,aDj,T.yU,T.Xl,Z,_,_,Z,Z,cv,_,_,i,Z,Z,P2.r,vN (by simp[jd];exact ur),?_⟩;have sm3:aQ G (upd aB cv (.lst ((jd l2).set i (.int (x.dx+d.1))))):=fun b o e=>by rw[a7 (Im b o e).2.1];exact P2.bY _ _ e
   have CN:(upd aB cv (.lst ((jd l2).set i (.int (x.dx+d.1))))) cR=some (.lst (mU l2)):=by rw[a7 P2.wr];exact P2.w
   have ahQ:(upd aB cv (.lst ((jd l2).set i (.int (x.dx+d.1))))) cv=some (.lst ((jd l2).set i (.int (x.dx+d.1)))):=a8;have T4:(upd aB cv (.lst ((jd l2).set i (.int (x.dx+d.1))))) dj=some (.lst (ll l2)):=by rw[a7 P2.ho.symm];exact P2.u
   have rk:(upd aB cv (.lst ((jd l2).set i (.int (x.dx+d.1))))) D=some (.lst (left.map nat)):=by rw[a7 ahO];exact hd2
   generalize upd aB cv (.lst ((jd l2).set i (.int (x.dx+d.1))))=aJ at *;refine⟨_,Z,row,_,dx,_,_,Z,sm3 _ _ dR,T.eE,T.yW,Z,_,Z,dj,_,_,V.int x.dy,Z,Z,aT.of T4,gO (by simp[ll,rQ]),_,Z,mp,_,Dz,_,_,Z,sm3 _ _ DG,T.yU,T.Xm,Z,_,_,Z,Z,dj,_,_,i,Z,Z,T4,vN (by simp[ll];exact ur),?_⟩;have ahR:aQ G (upd aJ dj (.lst ((ll l2).set i (.int (x.dy+d.2.1))))):=fun b o e=>by rw[a7 (Im b o e).2.2];exact sm3 _ _ e
   have aoK:(upd aJ dj (.lst ((ll l2).set i (.int (x.dy+d.2.1))))) cR=some (.lst (mU l2)):=by rw[a7 P2.T3];exact CN
   have aDk:(upd aJ dj (.lst ((ll l2).set i (.int (x.dy+d.2.1))))) cv=some (.lst ((jd l2).set i (.int (x.dx+d.1)))):=by rw[a7 P2.ho];exact ahQ
   have aDl:(upd aJ dj (.lst ((ll l2).set i (.int (x.dy+d.2.1))))) dj=some (.lst ((ll l2).set i (.int (x.dy+d.2.1)))):=a8;have aDm:(upd aJ dj (.lst ((ll l2).set i (.int (x.dy+d.2.1))))) D=some (.lst (left.map nat)):=by rw[a7 ahP];exact rk
   generalize upd aJ dj (.lst ((ll l2).set i (.int (x.dy+d.2.1))))=bC at *;refine⟨_,Z,row,_,dx,_,_,Z,ahR _ _ dR,T.eE,T.vq,Z,_,Z,cR,_,_,V.int x.advance,Z,Z,aT.of aoK,gO (by simp[mU,rQ]),_,Z,mp,_,Dz,_,_,Z,ahR _ _ DG,T.yU,T.Xn,Z,_,_,Z,Z,cR,_,_,i,Z,Z,aoK,vN (by simp[mU];exact ur),?_⟩;refine⟨⟨_,_,Z⟩,by rw[a7 ahN];exact aDm,P2.to (vP _ _ _ _ fun _=>rfl) (vP _ _ _ _ fun _=>rfl) (fun b o e=>by rw[a7 (Im b o e).1];exact ahR _ _ e) ?_ ?_ ?_⟩
   ·rw[a8];unfold mU;rw[Ij _ _ rQ]
   ·rw[a7 P2.wr.symm,aDk];unfold jd;rw[Ij _ _ rQ]
   ·rw[a7 P2.T3.symm,aDl];unfold ll;rw[Ij _ _ rQ]
 ·obtain⟨_,_,P2⟩:=aU;rw[ey,f3 (cH _)]at P2;exact k1 aB P2
theorem some_at{g:Item->V}{l:List Item}{i:Nat}{h:Item->Item}(hh:∀ x,g (h x)=g x):some (HO.lst (l.map g))=some (HO.lst ((Sw28.at_ l i h).map g)):=by
 rw[vP _ _ _ _ hh]
theorem aDn{H:ao}{v:V}{tb:List (Nat×Nat×Int)}(h:S8 H v tb):∃ dN kvs,v=.ref dN/\H dN=some (.gF kvs)/\∀ a b,(dY kvs (Sg.k2 a b)).getD (.int 0)=.int (U9 tb a b):=by
 obtain⟨dN,kvs,e,ak,pp⟩:=h;refine⟨dN,kvs,e,ak,fun a b=>?_⟩;have:=agS (ka:=fun y:Nat×Nat×Int=>y.1) (kb:=fun y=>y.2.1) (R:=fun H v y=>y5 H v y.2.2) (H:=H) a b pp;have ahS:(tb.find? fun x=>x.1 == a && x.2.1 == b)=tb.find? fun x=>decide (x.1=a) && decide (x.2.1=b):=by
  congr 1
 unfold U9;rw[ahS];cases z:tb.find? fun x=>decide (x.1=a) && decide (x.2.1=b)with
 |none=>rw[this.1 z];rfl
 |some y =>
  obtain⟨u,cF,aA⟩:=this.2 y z;rw[cF];exact aA
theorem aDo{α β:Type}{l:List α}{g:β->α->β}{b:β}{m:Nat}{x:α}(hm:l.length=m+1)(aq:l[m]?=some x)(h:g ((l.take m).foldl g b) x=(l.take m).foldl g b):l.foldl g b=(l.take m).foldl g b:=by
 have e:l=l.take m++[x]:=by
  rw[← take_snoc aq,← hm,f3 (cH _)]
 conv=>lhs;rw[e]
 rw[oo];exact h
theorem aDp(T:Txt K av t):cJ P w K av base (cM P w) 2 t.Qd t.Qe ["font","rule","row"] (Ik t fun s=>∃ tb,s=.pair tb):=by
 refine T.RD.cZ Yg gd.cX ?_;rintro bK A outer s H _ Q E aA ⟨cn,b,c,rfl,aZ,f,r,row,G,cR,cv,dj,l,rfl,rfl,jP,hf,ea,iz,iB,P,aF,mO,k1⟩;refine⟨_,(aW (ct (i:=3) Yg.nd rfl (Or.inl rfl) (fl (aj 0) T.gq T.yQ (H5 T) aA.bh T.GJ .nil bj (aD (aj 1) (aD (bQ (aj 2) rfl) aM)))) (bk (hp (gP dJ rfl) rfl (abp rfl T.jA (aD b3 (aD (hx iH rfl T.hB hN (aD (aj 3) aM)) aM))) (dm (i:=4) Yg.nd rfl (Or.inl rfl)) (aW (ct (i:=5) Yg.nd rfl (Or.inl rfl) (sa (aD (eO gA (bQ (aj 2) rfl) (eO gA (aj 3) (fa ky (aj 4) b3) (fun _ _=>rfl)) (fun _ _=>rfl)) (aD (eO gA (bQ (aj 2) rfl) (eO gA (aj 3) (aj 4) (fun _ _=>rfl)) (fun _ _=>rfl)) aM)))) (bk (Vo (bQ (aj 2) rfl) (eO gA (aj 3) (fa ky (aj 4) b3) (fun _ _=>rfl)) Wj (FP (k6 aA) (bQ (aj 1) rfl) (aj 5) b3 ⟨rfl,rfl,rfl,rfl⟩) Bo set_list)))))),?_⟩;apply cB;intros;obtain⟨tb,hk⟩:=jP;have kW:=sG.at iB;obtain⟨ft,fY,rb,e,hZ,hL⟩:=iB;subst e;have hL:S8 G rb tb:=by
  have z:vK t G rb r.rule:=hL;rw[hk]at z;exact z
 obtain⟨dN,kvs,e,mQ,o8⟩:=aDn hL;subst e;have Ji:r=⟨r.skip,.pair tb⟩:=by cases r;subst hk;rfl
 obtain⟨dx,bG,ca,dR,e3,hY⟩:=P.cY;obtain⟨dO,_,_,_,_,_,_,_,fe,_⟩:=id hf;have jn:∀ s∈l.map (fun x=>x.sign),s<f.cls.length:=fun s aH=>by
  obtain⟨x,aq,rfl⟩:=g6.mp aH;rw[ea.cl];exact mO x aq
 refine⟨_,Z,aZ,dO,_,Z,P.bY _ _ fe,Z,_,Z,_,Z,row,_,dx,_,_,Z,P.bY _ _ dR,T.eE,T.iw,Z,?_⟩;refine⟨_,_,_,Z,aZ,f,r.skip,bG,_,Z,Z,mK P.bY hf,kW.mono P.bY,P.bY _ _ e3,ea.pH r iz,by simp;omega,jn,ea.r5,fun D H1 s1 bw hd=>?_⟩;rw[zZ]at hd;have uQ:∀ i∈dA (passed f r.skip) 0 l,i<l.length:=fun i hi=>by have:=(oE _ hi).2;omega
 have aoL:=fun(l':List Item) (aH:l'.map (fun x=>x.sign)=l.map fun x=>x.sign) (m i j:Nat) hi bN=>aq6 f r.skip tb (l:=l) (l':=l') aH (m:=m) (i:=i) (j:=j) hi bN;have aoM:=fun(l':List Item) (aH:l'.map (fun x=>x.sign)=l.map fun x=>x.sign) (m i:Nat) hi hm=>aq7 f r.skip tb (l:=l) (l':=l') aH (m:=m) (i:=i) hi hm;rw[← Ji]at aoL aoM;have zx:(dA (passed f r.skip) 0 l).length<=4096:=by rw[← zZ];exact jg Zu (by simp;omega)
 generalize dA (passed f r.skip) 0 l=left at *;have ahN:D≠cR:=(bR P.w bw).symm;refine⟨_,Z,D,_,Z,.inl (aT.of hd),_,_,Z,⟨by omega,by omega,by omega,by simp;omega⟩,?_⟩;refine tg (fun j σ aB=>(∃ s4 s5,σ=[some (.ref aZ),some (.ref ft),some (.ref row),some (.ref D),s4,s5])/\aB D=some (.lst (left.map nat))/\PR t G aB row cR cv dj ((left.take j).foldl (placeAt f r) l)) ⟨⟨_,_,rfl⟩,hd,P.on s1⟩ (fun j σ aB bN aU=>?_) fun σ aB aU=>?_
 ·obtain⟨⟨s4,s5,e⟩,hd2,P2⟩:=aU;subst e;have aoN:j+1<left.length:=by simp at bN;omega
  have lF:left[j]?=some (left[j]'(by omega)):=dT (by omega);have aoO:left[j+1]?=some left[j+1]:=dT aoN;have Km:=uQ _ (mW (l:=left) (n:=j) (by omega));have aHY:=uQ _ (mW aoN);have bF:(1:Int)+(j:Int)-1=(j:Int):=by omega
  have a9:(1:Int)+(j:Int)=((j+1:Nat):Int):=by omega
  have aoP:(left.map nat)[j]?=some (nat (left[j]'(by omega))):=by simp[lF]
  have Dt:(left.map nat)[j+1]?=some (nat left[j+1]):=by simp[aoO]
  rw[take_snoc lF,oo,hs,rW];generalize left[j]'(by omega)=i at *;generalize left[j+1]=i2 at *;have k_:=Et f r (left.take j) l;generalize (left.take j).foldl (placeAt f r) l=l2 at *;have oO:l2.length=l.length:=by have:=congrArg List.length k_;simpa using this
  have ur:i<l2.length:=by omega
  have ahT:i2<l2.length:=by omega
  have rQ:l2[i]?=some l2[i]:=dT ur;rw[aoL l2 k_ j i i2 lF aoO];generalize l2[i]=x at *;have sJ:aB bG=some (.lst ((l2.map fun x=>x.sign).map nat)):=by rw[k_];exact P2.bY _ _ e3
  refine⟨_,Z,row,_,dx,_,_,Z,P2.bY _ _ dR,T.eE,T.iw,Z,?_⟩;refine⟨_,Z,_,Z,_,_,Z,Z,D,_,_,_,Z,Z,aT.of hd2,at_of (j:=j) bF aoP,bG,_,_,_,Z,Z,aT.of sJ,gO (Il ur),?_⟩;refine⟨_,Z,row,_,dx,_,_,Z,P2.bY _ _ dR,T.eE,T.iw,Z,?_⟩;refine⟨_,Z,_,Z,D,_,_,_,Z,Z,aT.of hd2,at_of (j:=j+1) a9 Dt,bG,_,_,_,Z,Z,aT.of sJ,gO (Il ahT),tX,fun U kO=>?_⟩;have aDq:(upd aB U (.tup [nat (signAt l2 i),nat (signAt l2 i2)])) U=some (.tup ((Sg.k2 (signAt l2 i) (signAt l2 i2)).map c3)):=a8;have P3:=P2.new (o:=.tup [nat (signAt l2 i),nat (signAt l2 i2)]) kO;have rk:(upd aB U (.tup [nat (signAt l2 i),nat (signAt l2 i2)])) D=some (.lst (left.map nat)):=by rw[a7 (bR hd2 kO)];exact hd2
  generalize upd aB U (.tup [nat (signAt l2 i),nat (signAt l2 i2)])=aJ at *;refine⟨_,Z,row,_,dx,_,_,Z,P3.bY _ _ dR,T.eE,T.vq,Z,?_⟩;refine⟨_,Z,_,Z,_,_,Z,Z,D,_,_,_,Z,Z,aT.of rk,at_of (j:=j) bF aoP,cR,_,_,V.int x.advance,Z,Z,aT.of P3.w,gO (by simp[mU,rQ]),?_⟩;refine⟨_,Z,ft,_,fY,_,_,Z,P3.bY _ _ hZ,T.jy,T.ru,Z,dN,Z,.inr ⟨_,.inl (P3.bY _ _ mQ)⟩,_,Z,_,hU.t (k:=Sg.k2 (signAt l2 i) (signAt l2 i2)) (P3.bY _ _ mQ) aDq,?_⟩;rw[o8];refine⟨_,_,Z,Z,cR,_,_,i,Z,Z,P3.w,vN (by simp[mU];exact ur),⟨_,_,Z⟩,by rw[a7 ahN];exact rk,P3.to (vP _ _ _ _ fun _=>rfl) (vP _ _ _ _ fun _=>rfl) (fun b o e=>by rw[a7 (bR e P3.Ii)];exact P3.bY _ _ e) ?_ ?_ ?_⟩
  ·rw[a8];unfold mU;rw[Ij _ _ rQ]
  ·rw[a7 P3.wr.symm,P3.r];exact some_at fun _=>rfl
  ·rw[a7 P3.T3.symm,P3.u];exact some_at fun _=>rfl
 ·obtain⟨_,_,P2⟩:=aU;refine k1 aB ?_;have en:(((left.map nat).length:Nat):Int)-1=((left.length:Nat):Int)-1:=by simp
  by_cases h0:left.length=0
  ·have:left=[]:=List.length_eq_zero_iff.mp h0
   subst this;simpa using P2
  ·have dw:((((left.map nat).length:Nat):Int)-1).toNat=left.length-1:=by rw[en];omega
   rw[dw]at P2;have Gj:left[left.length-1]?=some (left[left.length-1]'(by omega)):=dT (by omega);rw[aDo (m:=left.length-1) (by omega) Gj]
   ·exact P2
   ·exact aoM _ (Et f r _ l) _ _ Gj (by omega)
theorem aDr{H:ao}{v:V}{ms:List Anchor}(h:xH (fun a=>bJ a.sign) (xO t) H v ms):∃ dN kvs,v=.ref dN/\H dN=some (.dX kvs)/\∀ s,(Sw28.anchorOf ms s=none->dY kvs (bJ s)=none)/\∀ a,Sw28.anchorOf ms s=some a->∃ u,dY kvs (bJ s)=some u/\xO t H u a:=by
 obtain⟨dN,kvs,e,ak,pp⟩:=h;refine⟨dN,kvs,e,ak,fun s=>?_⟩;have:=Hg (key:=fun a:Anchor=>bJ a.sign) (R:=xO t) (H:=H) (bJ s) pp;have ahS:(ms.find? fun x=>decide (bJ x.sign=bJ s))=Sw28.anchorOf ms s:=by
  unfold Sw28.anchorOf;congr 1
  funext x
  rw[show(x.sign == s)=decide (x.sign=s) from rfl];exact wg.mpr n7
 rw[ahS]at this;exact this
theorem aDs{H:ao}{v:V}{ms:List Anchor}(h:S7 (fun a=>a.sign) (fun a=>a.cls) (xO t) H v ms):∃ dN kvs,v=.ref dN/\H dN=some (.gF kvs)/\∀ s c,(Sw28.baseOf ms s c=none->dY kvs (Sg.k2 s c)=none)/\∀ a,Sw28.baseOf ms s c=some a->∃ u,dY kvs (Sg.k2 s c)=some u/\xO t H u a:=by
 obtain⟨dN,kvs,e,ak,pp⟩:=h;refine⟨dN,kvs,e,ak,fun s c=>?_⟩;exact agS (ka:=fun a:Anchor=>a.sign) (kb:=fun a=>a.cls) (R:=xO t) (H:=H) s c pp
inductive aoQ(t:bW)(a b c d e:V)(H:ao)(Q:bA)(af2:cN):Prop
 |mk (row G cR cv dj l ms bs i p) (sp:Int):zK t G a (ms,bs)->b=.ref row->c=nat i->d=nat p->e=.int sp->PR t G H row cR cv dj l->i<l.length->p<l.length->sp=Sw28.carried l p i->(∀ H',(∀ b o,b≠cv->b≠dj->H b=some o->H' b=some o)->PR t G H' row cR cv dj (setOn ms bs l i p)->Q .non H')->aoQ t a b c d e H Q af2
def aDt(t:bW):eY:=xC (aoQ t)
theorem aoR(T:Txt K av t):cJ P w K av base (cM P w) 1 t.Qf t.Qg ["anchors","row","at","base","span"] (aDt t):=by
 refine T.GC.cZ afW xC.cX ?_;rintro bK A outer s H _ Q E aA ⟨cn,a1,a2,a3,a4,rfl,row,G,cR,cv,dj,l,ms,bs,i,p,sp,⟨ap,aoS,S_,eA,rfl,aoT,Yy,aDu⟩,rfl,rfl,rfl,rfl,P,hi,aL,yw,k1⟩;refine⟨_,(aW (ct (i:=5) afW.nd rfl (Or.inl rfl) (Kc (k6 aA) (bQ (aj 0) rfl) (eO gA (bQ (aj 1) rfl) (aj 2) (fun _ _=>rfl)) ⟨rfl,rfl,rfl,rfl⟩)) (aW (gj (pN (yq (aj 5))) (bk abj) hu) (aW (ct (i:=6) afW.nd rfl (Or.inl rfl) (Kc (k6 aA) (bQ (aj 0) rfl) (sa (aD (eO gA (bQ (aj 1) rfl) (aj 3) (fun _ _=>rfl)) (aD (bQ (aj 5) rfl) aM))) ⟨rfl,rfl,rfl,rfl⟩)) (aW (gj (pN (yq (aj 6))) (bk abj) hu) (aW (Fl (fa ky (fa ky (fa m8 (eO gA (bQ (aj 1) rfl) (aj 3) (fun _ _=>rfl)) (bQ (aj 6) rfl)) (bQ (aj 5) rfl)) (aj 4)) (Fi (bQ (aj 1) rfl) (aj 2) set_list)) (bk (Fl (fa ky (fa m8 (eO gA (bQ (aj 1) rfl) (aj 3) (fun _ _=>rfl)) (bQ (aj 6) rfl)) (bQ (aj 5) rfl)) (Fi (bQ (aj 1) rfl) (aj 2) set_list)))))))),?_⟩;apply wM;intros;obtain⟨pJ,mk,e,aoU,T5⟩:=aDr Yy;subst e;obtain⟨bb,jJ,e,sE,aoV⟩:=aDs aDu;subst e;obtain⟨dx,bG,ca,dR,e3,hY⟩:=P.cY;have rQ:l[i]?=some l[i]:=dT hi;have ahU:l[p]?=some l[p]:=dT aL;refine⟨_,Z,ap,_,aoS,_,_,Z,P.bY _ _ aoT,T.Gv,T.Xi,Z,pJ,Z,.inl ⟨_,.inl (P.bY _ _ aoU)⟩,?_⟩;refine⟨_,Z,row,_,dx,_,_,Z,P.bY _ _ dR,T.eE,T.iw,Z,_,Z,bG,_,_,_,Z,Z,aT.of (P.bY _ _ e3),gO (Il hi),_,hU.k (k:=bJ (signAt l i)) (P.bY _ _ aoU),?_⟩;cases hm:Sw28.anchorOf ms (signAt l i)with
 |none =>
  have es:setOn ms bs l i p=l:=by unfold setOn;rw[hm]
  rw[(T5 _).1 hm];refine⟨_,Z,_,Z,dF (fun _=>?_) fun h=>absurd (fw rfl) h⟩;exact k1 H (fun _ _ _ _ e=>e) (by rw[es];exact P)
 |some m =>
  obtain⟨u,cF,mp,Dz,rfl,DG⟩:=(T5 _).2 m hm;rw[cF];refine⟨_,Z,_,Z,dF (fun h=>?_) fun _=>?_⟩
  ·rw[show decide ((some (V.ref mp)).getD V.non=V.non)=false from zX]at h;cases h
  refine⟨_,Z,ap,_,aoS,_,_,Z,P.bY _ _ aoT,T.Gv,T.Xj,Z,bb,Z,.inr ⟨_,.inl (P.bY _ _ sE)⟩,?_⟩;refine⟨_,Z,row,_,dx,_,_,Z,P.bY _ _ dR,T.eE,T.iw,Z,_,Z,bG,_,_,_,Z,Z,aT.of (P.bY _ _ e3),gO (Il aL),?_⟩;refine⟨_,Z,mp,_,Dz,_,_,Z,P.bY _ _ DG,T.tM,T.QS,Z,tX,fun U kO=>?_⟩;have P2:=P.new (o:=.tup [nat (signAt l p),nat m.cls]) kO;have aDv:(upd H U (.tup [nat (signAt l p),nat m.cls])) U=some (.tup ((Sg.k2 (signAt l p) m.cls).map c3)):=a8;have s2:aQ H (upd H U (.tup [nat (signAt l p),nat m.cls])):=ei (aQ.refl _) kO;generalize upd H U (.tup [nat (signAt l p),nat m.cls])=aB at *;refine⟨_,hU.t (k:=Sg.k2 (signAt l p) m.cls) (P2.bY _ _ sE) aDv,?_⟩;cases ak:Sw28.baseOf bs (signAt l p) m.cls with
  |none =>
   have es:setOn ms bs l i p=l:=by unfold setOn;rw[hm];dsimp only;rw[ak]
   rw[(aoV _ _).1 ak];refine⟨_,Z,_,Z,dF (fun _=>?_) fun h=>absurd (fw rfl) h⟩;exact k1 aB (fun _ _ _ _ e=>s2 _ _ e) (by rw[es];exact P2)
  |some b =>
   obtain⟨w,hw,ahV,aoW,rfl,aoX⟩:=(aoV _ _).2 b ak;rw[hw];refine⟨_,Z,_,Z,dF (fun h=>?_) fun _=>?_⟩
   ·rw[show decide ((some (V.ref ahV)).getD V.non=V.non)=false from zX]at h;cases h
   have es:setOn ms bs l i p=Sw28.at_ l i fun x=>{ x with dx:=l[p].dx+b.x-m.x-Sw28.carried l p i,dy:=l[p].dy+b.y-m.y }:=by
    unfold setOn;rw[hm];dsimp only;rw[ak,ahU]
   have Im:∀ b o,G b=some o->b≠cR/\b≠cv/\b≠dj:=fun b o e=>⟨bR e P2.Ii,bR e P2.gr,bR e P2.TY⟩;generalize l[p]=y at *;generalize l[i]=x at *;refine⟨_,Z,row,_,dx,_,_,Z,P2.bY _ _ dR,T.eE,T.yV,Z,_,Z,cv,_,_,V.int y.dx,Z,Z,aT.of P2.r,gO (by simp[jd,ahU]),?_⟩;refine⟨_,Z,ahV,_,aoW,_,_,Z,P2.bY _ _ aoX,T.tM,T.QT,Z,_,_,Z,Z,_,Z,mp,_,Dz,_,_,Z,P2.bY _ _ DG,T.tM,T.QT,Z,_,_,Z,Z,_,Z,_,_,Z,Z,?_⟩;refine⟨_,Z,row,_,dx,_,_,Z,P2.bY _ _ dR,T.eE,T.yV,Z,_,Z,cv,_,_,i,Z,Z,P2.r,vN (by simp[jd];exact hi),?_⟩;have sm3:aQ G (upd aB cv (.lst ((jd l).set i (.int (y.dx+b.x-m.x-sp))))):=fun b o e=>by rw[a7 (Im b o e).2.1];exact P2.bY _ _ e
   have CN:(upd aB cv (.lst ((jd l).set i (.int (y.dx+b.x-m.x-sp))))) cR=some (.lst (mU l)):=by rw[a7 P2.wr];exact P2.w
   have ahQ:(upd aB cv (.lst ((jd l).set i (.int (y.dx+b.x-m.x-sp))))) cv=some (.lst ((jd l).set i (.int (y.dx+b.x-m.x-sp)))):=a8;have T4:(upd aB cv (.lst ((jd l).set i (.int (y.dx+b.x-m.x-sp))))) dj=some (.lst (ll l)):=by rw[a7 P2.ho.symm];exact P2.u
   have k3:∀ c o,c≠cv->aB c=some o->(upd aB cv (.lst ((jd l).set i (.int (y.dx+b.x-m.x-sp))))) c=some o:=fun c o n e=>by rw[a7 n];exact e
   dsimp only;generalize upd aB cv (.lst ((jd l).set i (.int (y.dx+b.x-m.x-sp))))=aJ at *;refine⟨_,Z,row,_,dx,_,_,Z,sm3 _ _ dR,T.eE,T.yW,Z,_,Z,dj,_,_,V.int y.dy,Z,Z,aT.of T4,gO (by simp[ll,ahU]),?_⟩;refine⟨_,Z,ahV,_,aoW,_,_,Z,sm3 _ _ aoX,T.tM,T.QV,Z,_,_,Z,Z,_,Z,mp,_,Dz,_,_,Z,sm3 _ _ DG,T.tM,T.QV,Z,_,_,Z,Z,?_⟩;refine⟨_,Z,row,_,dx,_,_,Z,sm3 _ _ dR,T.eE,T.yW,Z,_,Z,dj,_,_,i,Z,Z,T4,vN (by simp[ll];exact hi),?_⟩;refine k1 _ (fun c o n1 n2 e=>by rw[a7 n2];exact k3 _ _ n1 (s2 _ _ e)) ?_;rw[es];refine P2.to (vP _ _ _ _ fun _=>rfl) (vP _ _ _ _ fun _=>rfl) (fun b o e=>by rw[a7 (Im b o e).2.2];exact sm3 _ _ e) ?_ ?_ ?_
   ·rw[a7 P2.T3,CN];exact some_at fun _=>rfl
   ·rw[a7 P2.ho,ahQ];unfold jd;rw[Ij _ _ rQ,yw]
   ·rw[a8];unfold ll;rw[Ij _ _ rQ]
def gD(f:Font)(r:Rule Sw28.Pos)(b:List Item)(y:Item×Nat):List Item:=if passed f r.skip y.1=true then b else placeAt f r b y.2
theorem aDw(f:Font)(r:Rule Sw28.Pos)(b:List Item)(y:Item×Nat):(gD f r b y).map (fun x=>x.sign)=b.map fun x=>x.sign:=by
 unfold gD;split
 ·rfl
 ·exact aDg f r b y.2
theorem aoY(f:Font)(r:Rule Sw28.Pos):∀ (bO:List (Item×Nat)) (b:List Item),(bO.foldl (gD f r) b).map (fun x=>x.sign)=b.map fun x=>x.sign
 | [],_=>rfl
 |y::bO,b=>by rw[hs,aoY f r bO,aDw]
def DK(f:Font)(l l2:List Item)(i:Nat)(bv qW:Int):Prop:=match pF f l i with
 |none=>bv=-1
 |some p=>bv=(p:Int)/\qW=Sw28.carried l2 p i
theorem aDx{f:Font}{l:List Item}{i:Nat}{x:Item}(h:l[i]?=some x):((l[i]?).any fun x=>Sw28.clsOf f x != 3)=!decide (f.cls.getD x.sign 0=3):=by
 rw[h];rfl
theorem aDy(T:Txt K av t):cJ P w K av base (cM P w) 2 t.Qh t.Qi ["font","rule","row"] (Ik t fun s=>∃ m b,s=.onBase m b):=by
 refine T.RG.cZ y0 gd.cX ?_;rintro bK A outer s H _ Q E aA ⟨cn,b,c,rfl,aZ,f,r,row,G,cR,cv,dj,l,rfl,rfl,jP,hf,ea,iz,iB,P,aF,mO,k1⟩;refine⟨_,(aW (ct (i:=3) y0.nd Z (Or.inl Z) (abv abz b3)) (aW (ct (i:=4) y0.nd Z (Or.inl Z) b3) (bk (hp (gP dJ Z) Z (BL Z T.xd (aD (bQ (aj 2) Z) aM)) (s8 Z (jM (dm (i:=5) y0.nd Z (Or.inl Z)) (jM (dm (i:=6) y0.nd Z (Or.inl Z)) r7))) (aW (gj (PW.pt (abf (gM abA (aj 3) b3 (fj _)) (abd (abh (Bq (fl (aj 0) T.gq T.QG (ahm T) aA.bh T.afE .nil bj (aD (aj 1) (aD (aj 6) aM))) (fun _=>Z)))))) (bk (et (dI (aoR T) aA.bh Z T.XR T.GC.aG T.alg .nil bj (aD (bQ (aj 1) Z) (aD (aj 2) (aD (aj 5) (aD (aj 3) (aD (aj 4) aM)))))))) hu) (bk (gj (Bq (fl (aj 0) T.gq T.WX (anO T) aA.bh T.alc .nil bj (aD (aj 6) aM)) (fun _=>Z)) (bk (Fo (i:=4) y0.nd Z (Or.inl Z) (eO gA (bQ (aj 2) Z) (aj 5) (fun _ _=>Z)) Bo)) (aW (ct (i:=3) y0.nd Z (Or.inl Z) (aj 5)) (bk (ct (i:=4) y0.nd Z (Or.inl Z) (eO gA (bQ (aj 2) Z) (aj 5) (fun _ _=>Z)))))))))))),?_⟩;apply dZ;intros;obtain⟨ms,bs,hk⟩:=jP;have kW:=sG.at iB;obtain⟨ft,fY,rb,e,hZ,hL⟩:=iB;subst e;have hL:zK t G rb (ms,bs):=by
  have z:vK t G rb r.rule:=hL;rw[hk]at z;exact z
 have Ji:r=⟨r.skip,.onBase ms bs⟩:=by cases r;subst hk;rfl
 have Dk:=fun l' i=>arb f r.skip ms bs l' i;rw[← Ji]at Dk;obtain⟨dx,bG,ca,dR,e3,hY⟩:=P.cY;obtain⟨dO,_,_,_,_,_,_,_,fe,_⟩:=id hf;have aDz:(dA (passed f r.skip) 0 l).foldl (placeAt f r) l=(l.zipIdx).foldl (gD f r) l:=aaU (passed f r.skip) (placeAt f r) l 0 l;rw[aDz]at k1;refine⟨_,Z,_,Z,row,_,dx,_,_,Z,P.bY _ _ dR,T.eE,T.iw,Z,bG,_,Z,aT.of (P.bY _ _ e3),?_⟩;refine Hp (xs:=(l.map fun x=>x.sign).map nat) (fun i σ aB=>∃ (bv qW:Int) (s5 cV:Option V),σ=[some (.ref aZ),some (.ref ft),some (.ref row),some (.int bv),some (.int qW),s5,cV]/\PR t G aB row cR cv dj ((l.zipIdx.take i).foldl (gD f r) l)/\DK f l ((l.zipIdx.take i).foldl (gD f r) l) i bv qW) ⟨_,_,_,_,rfl,P,rfl⟩ (fun i σ aB _ ⟨_,_,_,_,_,P2,_⟩=>aT.of (P2.bY _ _ e3)) (fun i v ez σ aB a0 ⟨bv,qW,s5,cV,e,P2,lK⟩ cx=>?_) fun σ aB aU=>?_
 ·subst e;have hi:i<l.length:=by simpa using(eF.mp a0).1
  have rP:l[i]?=some l[i]:=dT hi;have ev:v=nat l[i].sign:=by
   rw[ek,ek,rP]at a0;exact(Option.some.inj a0).symm
  subst ev;have Dp:l[i].sign<f.cls.length:=by rw[ea.cl];exact mO _ (mW hi)
  rw[take_snoc (zip_get rP),oo,hs,rW];have k_:=aoY f r (l.zipIdx.take i) l;generalize (l.zipIdx.take i).foldl (gD f r) l=l2 at *;have Dg:=aDx (f:=f) rP;have H_:=Jm f r.skip l[i];generalize l[i]=x at *;have oO:l2.length=l.length:=by have:=congrArg List.length k_;simpa using this
  have P3:=P2.new (o:=.tup [nat i,nat x.sign]) cx;generalize upd aB ez (.tup [nat i,nat x.sign])=aJ at *;clear P2 cx;have jG:∀ j,pF f l2 j=pF f l j:=fun j=>aq9 f k_ j;have fin:∀ (D:Ends) (bC:ao) (l3:List Item),(∀ σ b2,(∃ (bv qW:Int) (s5 cV:Option V),σ=[some (.ref aZ),some (.ref ft),some (.ref row),some (.int bv),some (.int qW),s5,cV]/\PR t G b2 row cR cv dj l3/\DK f l l3 (i+1) bv qW)->D.cU σ b2) ->
    PR t G bC row cR cv dj l3->l3.map (fun x=>x.advance)=l2.map (fun x=>x.advance)->l3.length=l.length ->
    ajB (afZ K (Fx t.eu "is_mark" (fT fun a b H Q _=>∃ aZ f s,a=.ref aZ/\b=nat s/\lQ t H aZ f/\s<f.cls.length/\Q (.bl (decide (f.cls.getD s 0=3))) H) [] E (gh 0) (nS (gh 6) m_))) (ajE 4 (wN (J0 K) (Vw K (gh 2) "widths") (gh 5)) (qC fun i j=>.int (i+j))) (c4 (Fj (gh 5) (kY 3)) (Fj (wN (J0 K) (Vw K (gh 2) "widths") (gh 5)) (kY 4))) D
     [some (.ref aZ),some (.ref ft),some (.ref row),some (.int bv),some (.int qW),some (nat i),some (nat x.sign)] bC:=fun D bC l3 bw vQ aDA ZX=>by
   have ahT:i<l3.length:=by omega
   have xP:l3[i]?=some l3[i]:=dT ahT;have u6:(mU l3)[i]?=some (.int l3[i].advance):=by simp[mU,xP]
   have E':∀ p,Sw28.carried l3 p i=Sw28.carried l2 p i:=fun p=>aq_ aDA p i;generalize l3[i]=kv at *;refine⟨_,Z,aZ,dO,_,Z,vQ.bY _ _ fe,Z,_,Z,_,_,Z,aZ,f,x.sign,Z,Z,mK vQ.bY hf,Dp,_,Z,dF (fun DN=>?_) fun DN=>?_⟩
   ·refine⟨_,Z,_,Z,row,_,dx,_,_,Z,vQ.bY _ _ dR,T.eE,T.vq,Z,_,Z,cR,_,_,_,Z,Z,aT.of vQ.w,gO u6,_,_,Z,Z,bw _ _ ⟨_,_,_,_,rfl,vQ,?_⟩⟩;unfold DK at lK ⊢;rw[ajd,Dg,DN];simp only[Bool.not_true,kg,if_false];cases h9:pF f l i with
    |none=>rw[h9]at lK;exact lK
    |some p =>
     rw[h9]at lK;have aoZ:=aje h9;exact⟨lK.1,by rw[ajf (Aa aoZ) xP,E',← lK.2]⟩
   ·refine⟨_,Z,_,Z,row,_,dx,_,_,Z,vQ.bY _ _ dR,T.eE,T.vq,Z,_,Z,cR,_,_,_,Z,Z,aT.of vQ.w,gO u6,bw _ _ ⟨_,_,_,_,rfl,vQ,?_⟩⟩;have aDB:decide (f.cls.getD x.sign 0=3)=false:=by simpa using DN
    unfold DK;rw[ajd,Dg,aDB];simp only[x7,if_true];exact⟨trivial,(ajg xP).symm⟩
  have keep:gD f r l2 (x,i)=l2->∀ (D:Ends),(∀ σ b2,(∃ (bv qW:Int) (s5 cV:Option V),σ=[some (.ref aZ),some (.ref ft),some (.ref row),some (.int bv),some (.int qW),s5,cV]/\PR t G b2 row cR cv dj (gD f r l2 (x,i))/\DK f l (gD f r l2 (x,i)) (i+1) bv qW)->D.cU σ b2)->_:=fun aN D bw=>fin D aJ l2 (by rw[aN]at bw;exact bw) P3 rfl oO;have T6:=Dk l2 i;rw[jG]at T6;cases h9:pF f l i with
  |none =>
   rw[h9]at T6;have aN:gD f r l2 (x,i)=l2:=by
    unfold gD;split
    ·rfl
    ·exact T6
   unfold DK at lK;rw[h9]at lK;refine⟨_,Z,_,_,Z,Z,_,Z,dF (fun h=>?_) fun h=>?_⟩
   ·have:=h3 h
    omega
   ·exact FW (keep aN _ fun _ _ h=>h)
  |some p =>
   rw[h9]at T6;have aHZ:=lK;unfold DK at lK;rw[h9]at lK;obtain⟨aDC,aDD⟩:=lK;have aoZ:=aje h9;refine⟨_,Z,_,_,Z,Z,_,Z,dF (fun h=>?_) fun h=>absurd (fw (by omega)) h⟩;refine⟨_,Z,aZ,dO,_,Z,P3.bY _ _ fe,Z,_,Z,_,Z,_,_,_,Z,aZ,f,r.skip,x.sign,Z,Z,mK P3.bY hf,kW.mono P3.bY,ea.pH r iz,Dp,ea.r5,_,Z,?_⟩;by_cases vM:h5 f r.skip x.sign=true
   ·rw[vM];have aN:gD f r l2 (x,i)=l2:=by
     unfold gD;rw[H_,bM vM]
    exact FW (keep aN _ fun _ _ h=>h)
   ·have aDE:h5 f r.skip x.sign=false:=by simpa using vM
    rw[aDE];have aN:gD f r l2 (x,i)=setOn ms bs l2 i p:=by
     unfold gD;rw[H_,bx vM];exact T6
    refine FZ ⟨_,rfl,ft,_,fY,_,_,rfl,P3.bY _ _ hZ,T.jy,T.ru,rfl,_,rfl,_,rfl,_,rfl,_,rfl,?_⟩;refine⟨_,_,_,_,_,Z,row,G,cR,cv,dj,l2,ms,bs,i,p,qW,hL,Z,Z,by rw[aDC],Z,P3,by omega,by omega,aDD,fun bC _ vQ=>?_⟩;rw[aN];exact fin _ bC _ (fun _ _ h=>h) vQ (ara ms bs l2 i p) (by have:=congrArg List.length (aaK ms bs l2 i p);simp at this;omega)
 ·obtain⟨_,_,_,_,_,P2,_⟩:=aU;rw[ey,ey,f3 (by simp)]at P2;exact k1 aB P2
theorem aDF(T:Txt K av t):cJ P w K av base (cM P w) 2 t.Qj t.Qk ["font","rule","row"] (Ik t fun s=>∃ m b,s=.onMark m b):=by
 refine T.RJ.cZ alx gd.cX ?_;rintro bK A outer s H _ Q E aA ⟨cn,b,c,rfl,aZ,f,r,row,G,cR,cv,dj,l,rfl,rfl,jP,hf,ea,iz,iB,P,aF,mO,k1⟩;refine⟨_,(bk (hp (gP dJ Z) Z (gH (fl (aj 0) T.gq T.yQ (H5 T) aA.bh T.GJ .nil bj (aD (aj 1) (aD (bQ (aj 2) Z) aM)))) (dm (i:=3) alx.nd Z (Or.inl Z)) (bk (gj (PW.pt (abf (gM JV (aj 3) b3 (fj _)) (abd (Bq (fl (aj 0) T.gq T.WX (anO T) aA.bh T.alc .nil bj (aD (eO gA (bQ (aj 2) Z) (fa ky (aj 3) b3) (fun _ _=>Z)) aM)) (fun _=>Z))))) (bk (et (dI (aoR T) aA.bh Z T.XR T.GC.aG T.alg .nil bj (aD (bQ (aj 1) Z) (aD (aj 2) (aD (aj 3) (aD (fa ky (aj 3) b3) (aD (eO gA (bQ (aj 2) Z) (fa ky (aj 3) b3) (fun _ _=>Z)) aM)))))))) hu)))),?_⟩;obtain⟨ms,bs,hk⟩:=jP;have kW:=sG.at iB;obtain⟨ft,fY,rb,e,hZ,hL⟩:=iB;subst e;have hL:zK t G rb (ms,bs):=by
  have z:vK t G rb r.rule:=hL;rw[hk]at z;exact z
 obtain⟨dx,bG,ca,dR,e3,hY⟩:=P.cY;obtain⟨dO,_,_,_,_,_,_,_,fe,_⟩:=id hf;have jn:∀ s∈l.map (fun x=>x.sign),s<f.cls.length:=fun s aH=>by
  obtain⟨x,aq,rfl⟩:=g6.mp aH;rw[ea.cl];exact mO x aq
 refine⟨_,Z,aZ,dO,_,Z,P.bY _ _ fe,Z,_,Z,_,Z,row,_,dx,_,_,Z,P.bY _ _ dR,T.eE,T.iw,Z,?_⟩;refine⟨_,_,_,Z,aZ,f,r.skip,bG,_,Z,Z,mK P.bY hf,kW.mono P.bY,P.bY _ _ e3,ea.pH r iz,by simp;omega,jn,ea.r5,fun D H1 s1 bw hd=>?_⟩;rw[zZ]at hd;have uQ:∀ i∈dA (passed f r.skip) 0 l,i<l.length:=fun i hi=>by have:=(oE _ hi).2;omega
 generalize dA (passed f r.skip) 0 l=left at *;refine⟨D,Z,⟨_,aT.of hd⟩,?_⟩;have ahO:D≠cv:=(bR P.r bw).symm;have ahP:D≠dj:=(bR P.u bw).symm;refine qz (xs:=left.map nat) (fun j σ aB=>(∃ s3,σ=[some (.ref aZ),some (.ref ft),some (.ref row),s3])/\aB D=some (.lst (left.map nat))/\PR t G aB row cR cv dj ((left.take j).foldl (placeAt f r) l)) ⟨⟨_,rfl⟩,hd,P.on s1⟩ (fun j σ aB _ ⟨_,h,_⟩=>aT.of h) (fun j v σ aB a0 aU=>?_) fun σ aB aU=>?_
 ·obtain⟨⟨s3,e⟩,hd2,P2⟩:=aU;subst e;have bN:j<left.length:=by simpa using(eF.mp a0).1
  have lF:left[j]?=some left[j]:=dT bN;have Km:=uQ left[j] (mW bN);rw[ek,lF]at a0;cases a0;rw[take_snoc lF,oo,hs,rW];generalize left[j]=i at *;have k_:=Et f r (left.take j) l;generalize (left.take j).foldl (placeAt f r) l=l2 at *;have oO:l2.length=l.length:=by have:=congrArg List.length k_;simpa using this
  have sJ:aB bG=some (.lst ((l2.map fun x=>x.sign).map nat)):=by rw[k_];exact P2.bY _ _ e3
  have Tq:placeAt f r l2 i=if 0<i/\((l2[i-1]?).any fun x=>Sw28.clsOf f x == 3)=true then setOn ms bs l2 i (i-1)else l2:=by
   unfold placeAt Sw28.placed;rw[hk];dsimp only;split<;>rfl
  rw[Tq];refine⟨_,Z,_,_,Z,Z,_,Z,dF (fun h0=>?_) fun h0=>?_⟩
  ·have ahW:0<i:=by have:=h3 h0;omega
   have bF:(i:Int)-1=((i-1:Nat):Int):=by omega
   have Z0:i-1<l2.length:=by omega
   have mZ:l2[i-1]?=some l2[i-1]:=dT Z0;have pC:signAt l2 (i-1)=l2[i-1].sign:=uL mZ;have xR:signAt l2 (i-1)<f.cls.length:=by
    rw[pC];refine jn _ ?_;rw[← k_];exact I' (mW Z0)
   have Z1:(mU l2)[i-1]?=some (.int l2[i-1].advance):=by simp[mU,mZ]
   have Zf:Sw28.carried l2 (i-1) i=l2[i-1].advance:=by
    have:=ajg mZ
    rwa [show i-1+1=i by omega]at this
   have DP:((l2[i-1]?).any fun x=>Sw28.clsOf f x == 3)=decide (f.cls.getD (signAt l2 (i-1)) 0=3):=by
    rw[mZ,pC];rfl
   generalize l2[i-1]=x at *;refine⟨_,Z,aZ,dO,_,Z,P2.bY _ _ fe,Z,_,Z,row,_,dx,_,_,Z,P2.bY _ _ dR,T.eE,T.iw,Z,_,Z,_,_,Z,Z,bG,_,_,_,Z,Z,aT.of sJ,at_of (j:=i-1) bF (Il Z0),?_⟩;refine⟨_,_,Z,aZ,f,signAt l2 (i-1),Z,Z,mK P2.bY hf,xR,_,Z,dF (fun DN=>?_) fun DN=>?_⟩
   ·rw[bM ⟨ahW,by rw[DP];exact DN⟩];refine⟨_,Z,ft,_,fY,_,_,Z,P2.bY _ _ hZ,T.jy,T.ru,Z,_,Z,_,Z,_,Z,_,_,Z,Z,?_⟩;refine⟨_,Z,row,_,dx,_,_,Z,P2.bY _ _ dR,T.eE,T.vq,Z,_,Z,_,_,Z,Z,cR,_,_,_,Z,Z,aT.of P2.w,at_of (j:=i-1) bF Z1,?_⟩;refine⟨_,_,_,_,_,Z,row,G,cR,cv,dj,l2,ms,bs,i,i-1,_,hL,Z,Z,congrArg V.int bF,Z,P2,by omega,Z0,Zf.symm,fun aJ k3 P3=>⟨⟨_,rfl⟩,k3 _ _ ahO ahP hd2,P3⟩⟩
   ·rw[bx (fun z=>DN (by rw[← DP];exact z.2))];exact⟨⟨_,Z⟩,hd2,P2⟩
  ·have ahW:¬ 0<i:=fun z=>h0 (fw (by omega))
   rw[bx (fun z=>ahW z.1)];exact FW ⟨⟨_,rfl⟩,hd2,P2⟩
 ·obtain⟨_,_,P2⟩:=aU;rw[ey,f3 (cH _)]at P2;exact k1 aB P2
theorem aDG(T:Txt K av t):cJ P w K av base (cM P w) 3 t.Ql t.Qm ["font","rule","row"] (Ik t fun _=>True):=by
 obtain⟨aH0,aDH,aDI⟩:=T.k_MARK_TO_BASE;obtain⟨am_,Te,Tf⟩:=T.k_MOVE;obtain⟨aAu,agW,agX⟩:=T.k_PAIR;refine T.RK.cZ ax7 gd.cX ?_;rintro bK A outer s H _ Q E aA ⟨cn,b,c,rfl,aZ,f,r,row,G,cR,cv,dj,l,rfl,rfl,jP,hf,ea,iz,iB,P,aF,mO,k1⟩;refine⟨_,(bk (gj (gM jO (bQ (aj 1) Z) (gW Z Te Tf) (fj _)) (bk (et (dI (aDi T) aA.bh Z T.afr T.RC.aG T.axw .nil bj (aD (aj 0) (aD (aj 1) (aD (aj 2) aM)))))) (bk (gj (gM jO (bQ (aj 1) Z) (gW Z agW agX) (fj _)) (bk (et (dI (aDp T) aA.bh Z T.afs T.RD.aG T.axx .nil bj (aD (aj 0) (aD (aj 1) (aD (aj 2) aM)))))) (bk (gj (gM jO (bQ (aj 1) Z) (gW Z aDH aDI) (fj _)) (bk (et (dI (aDy T) aA.bh Z T.aft T.RG.aG T.axy .nil bj (aD (aj 0) (aD (aj 1) (aD (aj 2) aM)))))) (bk (et (dI (aDF T) aA.bh Z T.afu T.RJ.aG T.axz .nil bj (aD (aj 0) (aD (aj 1) (aD (aj 2) aM)))))))))))),?_⟩;obtain⟨ft,fY,rb,e,hZ,_⟩:=id iB;subst e;have d9:∀ {pr:Sw28.Pos->Prop},pr r.rule->Ik t pr ([V.ref aZ,V.ref ft,V.ref row]++[]) H (fun _ H'=>Q .non H') E:=fun{pr} h=>⟨_,_,_,rfl,aZ,f,r,row,G,cR,cv,dj,l,rfl,rfl,h,hf,ea,iz,iB,P,aF,mO,k1⟩;have hZ:=P.bY _ _ hZ;have aN:∀ n:Nat,decide (V.int (qg r.rule:Nat)=V.int (n:Nat))=true->qg r.rule=n:=fun n h=>by have:=j9 h;omega
 refine⟨_,Z,ft,_,fY,_,_,Z,hZ,T.jy,T.tL,Z,Z,_,Z,dF (fun ak=>?_) fun ak=>?_⟩
 ·have h1:=aN 1 ak
  refine⟨_,Z,_,Z,_,Z,d9 (pr:=fun s=>∃ tb,s=.one tb) ?_⟩;cases e:r.rule<;>rw[e]at h1<;>first|exact⟨_,Z⟩|cases h1
 have n1:qg r.rule≠1:=fun z=>ak (fw (by rw[z];rfl));refine⟨_,Z,ft,_,fY,_,_,Z,hZ,T.jy,T.tL,Z,Z,_,Z,dF (fun ak=>?_) fun ak=>?_⟩
 ·have h1:=aN 2 ak
  refine⟨_,Z,_,Z,_,Z,d9 (pr:=fun s=>∃ tb,s=.pair tb) ?_⟩;cases e:r.rule<;>rw[e]at h1<;>first|exact⟨_,Z⟩|cases h1
 have n2:qg r.rule≠2:=fun z=>ak (fw (by rw[z];rfl));refine⟨_,Z,ft,_,fY,_,_,Z,hZ,T.jy,T.tL,Z,Z,_,Z,dF (fun ak=>?_) fun ak=>?_⟩
 ·have h1:=aN 3 ak
  refine⟨_,Z,_,Z,_,Z,d9 (pr:=fun s=>∃ m b,s=.onBase m b) ?_⟩;cases e:r.rule<;>rw[e]at h1<;>first|exact⟨_,_,Z⟩|cases h1
 have qy:qg r.rule≠3:=fun z=>ak (fw (by rw[z];rfl));refine⟨_,Z,_,Z,_,Z,d9 (pr:=fun s=>∃ m b,s=.onMark m b) ?_⟩;cases e:r.rule<;>rw[e]at n1 n2 qy<;>first|exact⟨_,_,Z⟩|exact absurd rfl n1|exact absurd rfl n2|exact absurd rfl qy
inductive ao0(t:bW)(s a:V)(H:ao)(Q:bA)(rR:cN):Prop
 |mk (row dx bG ca hD gx fP) (ss:aK) (aZ f G):s=.ref row->a=.ref aZ->lQ t G aZ f->aQ G H->G row=none->H row=some (.ins t.fC dx (mL bG ca hD gx fP))->H bG=some (.lst (ss.map nat))->(∀ s∈ss,s<f.advance.length)->ss.length<=4096->(∀ H' cR cv dj,bf [row] H H'->H' row=some (.ins t.fC dx (mL bG ca (.ref cR) (.ref cv) (.ref dj)))->H' cR=some (.lst (ss.map fun s=>nat (f.advance.getD s 0)))->H' cv=some (.lst (ss.map fun _=>V.int 0))->H' dj=some (.lst (ss.map fun _=>V.int 0))->H cR=none->H cv=none->H dj=none->cR≠cv->cR≠dj->cv≠dj->Q .non H')->ao0 t s a H Q rR
def aDJ(t:bW):eY:=fT (ao0 t)
theorem aDK(T:Txt K av t):cJ P w K av base (cM P w) 1 t.Mx t.Mz ["self","font"] (aDJ t):=by
 refine T.Xv.cZ Cr fT.cX ?_;rintro bK A outer s H _ Q E aA ⟨cn,a1,rfl,row,dx,bG,ca,hD,gx,fP,ss,aZ,f,G,rfl,rfl,hf,nu,gr,dR,e3,xR,jj,k1⟩;refine⟨_,(aW (eX (aj 0) (iI (own:=[("sign",2)]) dJ (fun _ _ z=>z) Z Cr.nd (gH (bQ (aj 0) Z)) (gY (by rfl)) (fun _ _ _ _ _=>dm (i:=2) Cr.nd Z (Or.inl Z)) (fun _ _ _ _ _=>hy) (fun _ _ _ _ _=>(eO (Cv (K':=K) Z) (rz (K':=K) Z (aj 1) Z) (aj 2) (fun _ _=>Z)))) Z) (aW (eX (aj 0) (iI (own:=[("sign",2)]) dJ (fun _ _ z=>z) Z Cr.nd (gH (bQ (aj 0) Z)) (gY (by rfl)) (fun _ _ _ _ _=>dm (i:=2) Cr.nd Z (Or.inl Z)) (fun _ _ _ _ _=>hy) (fun _ _ _ _ _=>b3)) Z) (bk (eX (aj 0) (iI (own:=[("sign",2)]) dJ (fun _ _ z=>z) Z Cr.nd (gH (bQ (aj 0) Z)) (gY (by rfl)) (fun _ _ _ _ _=>dm (i:=2) Cr.nd Z (Or.inl Z)) (fun _ _ _ _ _=>hy) (fun _ _ _ _ _=>b3)) Z)))),?_⟩;apply dZ;intros;obtain⟨dO,p,c,w,ao1,vc,gu,gB,fe,_,_,hw,_⟩:=id hf;have Z2:bG≠row:=hO e3 dR (by intro z;cases z);refine⟨_,Z,row,_,dx,_,_,Z,dR,T.eE,T.iw,Z,bG,Z,⟨_,aT.of e3⟩,fun cR Z4=>?_⟩;refine n5 (ss.map fun s=>nat (f.advance.getD s 0)) (by simp) (aT.of e3) (by simp;omega) Z4 (fun i v y H' er a0 aP aH q=>?_) ?_
 ·rw[ek]at a0 aP;cases e:ss[i]? with
  |none=>rw[e]at a0;cases a0
  |some s0 =>
   rw[e]at a0 aP;cases a0;cases aP;have s':=nu.trans aH;exact⟨_,Z,aZ,_,dO,_,_,Z,s' _ _ fe,T.gq,T.WM,Z,_,Z,w,_,_,_,Z,Z,aT.of (s' _ _ hw),gO (xW f.advance (xR s0 (gb e))),q⟩
 have Z5:cR≠row:=(bR dR Z4).symm;refine⟨_,Z,row,_,dx,_,Z,by rw[a7 Z5.symm];exact dR,T.eE,T.vq,by show 5<1000;decide,?_⟩;have cD:bf [row] H (upd (upd H cR (.lst (ss.map fun s=>nat (f.advance.getD s 0)))) row (.ins t.fC dx (cC "widths" (.ref cR) (mL bG ca hD gx fP)))):=(bf.iZ Z4).qN (by simp);have hk:(upd (upd H cR (.lst (ss.map fun s=>nat (f.advance.getD s 0)))) row (.ins t.fC dx (cC "widths" (.ref cR) (mL bG ca hD gx fP)))) row=some (.ins t.fC dx (mL bG ca (.ref cR) gx fP)):=a8;have Z1:(upd (upd H cR (.lst (ss.map fun s=>nat (f.advance.getD s 0)))) row (.ins t.fC dx (cC "widths" (.ref cR) (mL bG ca hD gx fP)))) cR=some (.lst (ss.map fun s=>nat (f.advance.getD s 0))):=by rw[a7 Z5,a8]
 generalize upd (upd H cR (.lst (ss.map fun s=>nat (f.advance.getD s 0)))) row (.ins t.fC dx (cC "widths" (.ref cR) (mL bG ca hD gx fP)))=H1 at *;have ao2:=cD _ _ (by simp[Z2]) e3;refine⟨_,Z,row,_,dx,_,_,Z,hk,T.eE,T.iw,Z,bG,Z,⟨_,aT.of ao2⟩,fun cv T7=>?_⟩;refine n5 (ss.map fun _=>V.int 0) (by simp) (aT.of ao2) (by simp;omega) T7 (fun i v y H' er a0 aP aH q=>?_) ?_
 ·rw[ek]at aP;cases e:ss[i]? with
  |none=>rw[e]at aP;cases aP
  |some s0 =>
   rw[e]at aP;cases aP;exact q
 have Z6:cv≠row:=(bR hk T7).symm;have ao3:cR≠cv:=bR Z1 T7;refine⟨_,Z,row,_,dx,_,Z,by rw[a7 Z6.symm];exact hk,T.eE,T.yV,by show 5<1000;decide,?_⟩;have aDL:H cv=none:=cD.free (by simp[Z6]) T7;have bZ:bf [row] H (upd (upd H1 cv (.lst (ss.map fun _=>V.int 0))) row (.ins t.fC dx (cC "rights" (.ref cv) (mL bG ca (.ref cR) gx fP)))):=(cD.jm T7).qN (by simp);have zM:(upd (upd H1 cv (.lst (ss.map fun _=>V.int 0))) row (.ins t.fC dx (cC "rights" (.ref cv) (mL bG ca (.ref cR) gx fP)))) row=some (.ins t.fC dx (mL bG ca (.ref cR) (.ref cv) fP)):=a8;have ao4:(upd (upd H1 cv (.lst (ss.map fun _=>V.int 0))) row (.ins t.fC dx (cC "rights" (.ref cv) (mL bG ca (.ref cR) gx fP)))) cR=some (.lst (ss.map fun s=>nat (f.advance.getD s 0))):=by rw[a7 Z5,a7 ao3];exact Z1
 have ao5:(upd (upd H1 cv (.lst (ss.map fun _=>V.int 0))) row (.ins t.fC dx (cC "rights" (.ref cv) (mL bG ca (.ref cR) gx fP)))) cv=some (.lst (ss.map fun _=>V.int 0)):=by rw[a7 Z6,a8]
 generalize upd (upd H1 cv (.lst (ss.map fun _=>V.int 0))) row (.ins t.fC dx (cC "rights" (.ref cv) (mL bG ca (.ref cR) gx fP)))=aB at *;have sJ:=bZ _ _ (by simp[Z2]) e3;refine⟨_,Z,row,_,dx,_,_,Z,zM,T.eE,T.iw,Z,bG,Z,⟨_,aT.of sJ⟩,fun dj Io=>?_⟩;refine n5 (ss.map fun _=>V.int 0) (by simp) (aT.of sJ) (by simp;omega) Io (fun i v y H' er a0 aP aH q=>?_) ?_
 ·rw[ek]at aP;cases e:ss[i]? with
  |none=>rw[e]at aP;cases aP
  |some s0 =>
   rw[e]at aP;cases aP;exact q
 have ahX:dj≠row:=(bR zM Io).symm;have ao6:cR≠dj:=bR ao4 Io;have ao7:cv≠dj:=bR ao5 Io;have aDM:H dj=none:=bZ.free (by simp[ahX]) Io;refine⟨_,Z,row,_,dx,_,Z,by rw[a7 ahX.symm];exact zM,T.eE,T.yW,by show 5<1000;decide,?_⟩;refine k1 _ cR cv dj ((bZ.jm Io).qN (by simp)) a8 ?_ ?_ ?_ Z4 aDL aDM ao3 ao6 ao7
 ·rw[a7 Z5,a7 ao6];exact ao4
 ·rw[a7 Z6,a7 ao7];exact ao5
 ·rw[a7 ahX,a8]
def uy(f:Font)(e1:Nat):Option (Nat×aK×aK):=f.features.find? fun x=>decide (x.1=e1)
theorem ao8{H:ao}{v:V}{fs:List (Nat×aK×aK)}(h:HN t H v fs):∃ dN kvs,v=.ref dN/\H dN=some (.dX kvs)/\∀ s,((fs.find? fun x=>decide (x.1=s))=none->dY kvs (bJ s)=none)/\∀ x,(fs.find? fun x=>decide (x.1=s))=some x->∃ u,dY kvs (bJ s)=some u/\um t H u x:=by
 obtain⟨dN,kvs,e,ak,pp⟩:=h;refine⟨dN,kvs,e,ak,fun s=>?_⟩;have:=Hg (key:=fun y:Nat×aK×aK=>bJ y.1) (R:=um t) (H:=H) (bJ s) pp;rw[Zt]at this;exact this
inductive ao9(t:bW)(a b:V)(H:ao)(Q:bA)(rR:cN):Prop
 |mk (aZ f tl) (tags:aK):a=.ref aZ->b=.ref tl->lQ t H aZ f->H tl=some (.lst (tags.map nat))->tags.length<=64->(∀ D vs,H D=none->Paired (um t H) vs (tags.filterMap (uy f))->Q (.ref D) (upd H D (.lst vs)))->ao9 t a b H Q rR
def aDN(t:bW):eY:=fT (ao9 t)
theorem ao_{H:ao}{f:Font}{kvs:List (Key×V)}(b5:∀ s,(uy f s=none->dY kvs (bJ s)=none)/\∀ x,uy f s=some x->∃ u,dY kvs (bJ s)=some u/\um t H u x)(tags:aK):∀ n,n<=tags.length->Paired (um t H) ((List.range n).filterMap fun i=>dY kvs (bJ (tags.getD i 0))) ((tags.take n).filterMap (uy f))
 |0,_=>by simp;exact .nil
 |n+1,h=>by
  have bV:=ao_ b5 tags n (by omega);have e:tags[n]?=some tags[n]:=dT (by omega);have eg:tags.getD n 0=tags[n]:=by simp[List.getD,e]
  rw[p7,Eh,take_snoc e,Eh];refine Sh bV ?_;simp only[Ad,List.filterMap_nil,eg];cases z:uy f tags[n]with
  |none =>
   rw[(b5 _).1 z];exact .nil
  |some x =>
   obtain⟨u,cF,aA⟩:=(b5 _).2 x z;rw[cF];exact .cons aA .nil
theorem aDO(T:Txt K av t):cJ P w K av base (cM P w) 1 t.Qn t.Qo ["font","tags"] (aDN t):=by
 refine T.RL.cZ afX fT.cX ?_;rintro bK A outer s H _ Q E aA ⟨cn,a1,rfl,aZ,f,tl,tags,rfl,rfl,hf,vl,jj,k1⟩;refine⟨_,(bk (dM (iI (own:=[("tag",2)]) dJ (fun _ _ z=>z) Z afX.nd (gH (aj 1)) (gY (by rfl)) (fun _ _ _ _ _=>dm (i:=2) afX.nd Z (Or.inl Z)) (fun _ _ _ _ _=>(VL (pN (ab_ (k6 aA) (aj 2) (rz (K':=K) Z (aj 0) Z))))) (fun _ _ _ _ _=>(au1 (k6 aA) (rz (K':=K) Z (aj 0) Z) (aj 2) (fun _ _=>Z)))))),?_⟩;obtain⟨dO,p,c,w,ao1,vc,gu,gB,fe,_,_,_,_,_,_,ju⟩:=id hf;obtain⟨dN,kvs,rfl,mQ,o8⟩:=ao8 ju;refine⟨_,Z,tl,Z,⟨_,aT.of vl⟩,fun D bw=>?_⟩;refine af_ (fun i=>dY kvs (bJ (tags.getD i 0))) (aT.of vl) (by simp;omega) bw (fun i v H' er N a0 aH h1 aC=>?_) ?_
 ·have hi:i<tags.length:=by simpa using(eF.mp a0).1
  rw[xW tags hi]at a0;cases a0;refine⟨_,Z,_,Z,aZ,_,dO,_,_,Z,aH _ _ fe,T.gq,T.Ce,Z,dN,_,Z,hU.k (k:=bJ (tags.getD i 0)) (aH _ _ mQ),_,Z,?_⟩;cases z:dY kvs (bJ (tags.getD i 0))with
  |none=>exact FW (aC z)
  |some u=>exact FZ ⟨_,rfl,aZ,_,dO,_,_,rfl,aH _ _ fe,T.gq,T.Ce,rfl,_,rfl,dN,u,rfl,by rw[← z];exact hU.k (k:=bJ (tags.getD i 0)) (aH _ _ mQ),h1 u z⟩
 ·have:=ao_ (f:=f) o8 tags tags.length (cH _)
  rw[f3 (cH _)]at this;rw[ey];exact k1 D _ bw this
theorem ahY:∀ (ns:aK) (kvs:List (Key×V)) (ks:aK),kvs.map (·.1)=ks.map bJ->ks.Nodup->∃ DQ:aK,(o9 kvs ns).map (·.1)=DQ.map bJ/\DQ.Nodup/\∀ z,z∈DQ↔z∈ks\/z∈ns
 | [],kvs,ks,h,nd=>⟨ks,h,nd,fun z=>by simp⟩
 |n::ns,kvs,ks,h,nd=>by
  by_cases hm:n∈ks
  ·have DP:(kvs.any fun bD=>decide (bD.1=bJ n))=true:=by
    have:bJ n∈kvs.map (·.1):=by rw[h];exact I' hm
    obtain⟨bD,aN,he⟩:=g6.mp this;exact sU.mpr ⟨bD,aN,fw he⟩
   have Dr:(putK kvs (bJ n) (.bl true)).map (·.1)=ks.map bJ:=by
    unfold putK;rw[bM DP,kj,← h];apply Ah;intro bD _;show(if bD.1=bJ n then(bD.1,V.bl true)else bD).1=bD.1;split<;>rfl
   obtain⟨DQ,bF,a9,dw⟩:=ahY ns _ ks Dr nd;refine⟨DQ,bF,a9,fun z=>?_⟩;rw[dw];constructor
   ·rintro(h|h)
    ·exact .inl h
    ·exact .inr (h2 _ h)
   ·rintro(h|h)
    ·exact .inl h
    ·rcases gR.mp h with rfl|h
     ·exact .inl hm
     ·exact .inr h
  ·have agN:dY kvs (bJ n)=none:=by
    cases z:dY kvs (bJ n)with
    |none=>rfl
    |some v =>
     have:=acr z;rw[h]at this;obtain⟨m,rn,he⟩:=g6.mp this;rw[n7.mp he]at rn;exact absurd rn hm
   have Dr:(putK kvs (bJ n) (.bl true)).map (·.1)=(ks++[n]).map bJ:=by
    rw[V0 _ agN,oh,h,oh];rfl
   obtain⟨DQ,bF,a9,dw⟩:=ahY ns _ (ks++[n]) Dr (akF nd hm);refine⟨DQ,bF,a9,fun z=>?_⟩;rw[dw];simp only[pe,gR,Ek,or_false];constructor
   ·rintro((h|h)|h)
    ·exact .inl h
    ·exact .inr (.inl h)
    ·exact .inr (.inr h)
   ·rintro(h|h|h)
    ·exact .inl (.inl h)
    ·exact .inl (.inr h)
    ·exact .inr h
theorem aDP{ks:aK}(h:ks.Nodup):(ks.map fun n:Nat=>(n:Int)).Nodup:=by
 rw[List.Nodup,I4];exact h.imp fun mY he=>mY (by omega)
inductive ao'(t:bW)(a b:V)(H:ao)(Q:bA)(rR:cN):Prop
 |mk (rl nl) (nG T8:List V) (nums:List (aK)):a=.ref rl->b=.ref nl->H rl=some (.lst nG)->H nl=some (.lst T8)->Paired (hr H) T8 nums->nG.length<=64->nums.length<=64->(∀ x∈nums,x.length<=64/\∀ n∈x,n<nG.length)->(∀ D H',aQ H H'->H D=none->H' D=some (.lst ((asked nG.length nums).map fun n=>nG.getD n .non))->Q (.ref D) H')->ao' t a b H Q rR
def aDQ(t:bW):eY:=fT (ao' t)
theorem apa:∀ (nums:List (aK)),(∀ x∈nums,x.length<=64)->nums.flatten.length<=64 * nums.length
 | [],_=>by simp
 |x::r,h=>by
  have h1:=h x h_;have aC:=apa r fun y aP=>h y (h2 _ aP);rw[List.flatten_cons,gC,eo];omega
theorem apb(T:Txt K av t):cJ P w K av base (cM P w) 1 t.Qp t.Qq ["rules","number_lists"] (aDQ t):=by
 refine T.GD.cZ G7 fT.cX ?_;rintro bK A outer s H _ Q E aA ⟨cn,a1,rfl,rl,nl,nG,T8,nums,rfl,rfl,rJ,q5,ha,aDR,aH1,hnb,k1⟩;refine⟨_,(aW (ct (i:=2) G7.nd Z (Or.inl Z) FN) (aW (hp (gP dJ Z) Z (gH (aj 1)) (dm (i:=3) G7.nd Z (Or.inl Z)) (bk (hp (gP dJ Z) Z (gH (aj 3)) (dm (i:=4) G7.nd Z (Or.inl Z)) (bk (Ka (k6 aA) (aj 2) (aj 4) ajw Z))))) (bk (dM (iI (own:=[("number",4)]) dJ (fun _ _ z=>z) Z G7.nd (gH (hx (awu Z) Z T.afD ax9 (aD (aj 2) aM))) (gY (by rfl)) (fun _ _ _ _ _=>dm (i:=4) G7.nd Z (Or.inl Z)) (fun _ _ _ _ _=>hy) (fun _ _ _ _ _=>(eO (Cv (K':=K) Z) (aj 0) (aj 4) (fun _ _=>Z)))))))),?_⟩;apply dZ;intros;intro vR Hh;have aDS:T8.length=nums.length:=f9 ha;have s1:aQ H (upd H vR (.dX [])):=ei (aQ.refl _) Hh;have aDT:(upd H vR (.dX [])) vR=some (.dX (o9 [] ((nums.take 0).flatten))):=a8;generalize upd H vR (.dX [])=H1 at *;have ahZ:∀ i,(nums.take i).flatten.length<=4096:=fun i=>by
  have:=apa (nums.take i) fun x aq=>(hnb x (Eb aq)).1;rw[g4]at this;omega
 refine⟨_,Z,nl,Z,⟨_,aT.of (s1 _ _ q5)⟩,?_⟩;refine qz (xs:=T8) (fun i σ aB=>(∃ s3 s4,σ=[some (.ref rl),some (.ref nl),some (.ref vR),s3,s4])/\aQ H aB/\aB vR=some (.dX (o9 [] ((nums.take i).flatten)))) ⟨⟨_,_,rfl⟩,s1,aDT⟩ (fun i σ aB _ ⟨_,s,_⟩=>aT.of (s _ _ q5)) (fun i v σ aB a0 aU=>?_) fun σ aB aU=>?_
 ·obtain⟨⟨s3,s4,e⟩,s2,Z7⟩:=aU;subst e;obtain⟨x,aq,q,rfl,a6⟩:=mG ha a0;have Gj:=(hnb x (gb aq)).1;refine⟨_,Z,q,Z,⟨_,aT.of (s2 _ _ a6)⟩,?_⟩;refine qz (xs:=x.map nat) (fun j σ aJ=>(∃ s4,σ=[some (.ref rl),some (.ref nl),some (.ref vR),some (.ref q),s4])/\aQ H aJ/\aJ vR=some (.dX (o9 [] ((nums.take i).flatten++x.take j)))) ⟨⟨_,rfl⟩,s2,by simpa using Z7⟩ (fun j σ aJ _ ⟨_,s,_⟩=>aT.of (s _ _ a6)) (fun j u σ aJ cF aU=>?_) fun σ aJ aU=>?_
  ·obtain⟨⟨s4,e⟩,DR,Z8⟩:=aU;subst e;have bN:j<x.length:=by simpa using(eF.mp cF).1
   have apc:x[j]?=some x[j]:=dT bN;rw[ek,apc]at cF;cases cF;refine⟨_,Z,_,Z,vR,_,Z,tB.k (k:=bJ x[j]) Z8 ?_,⟨_,Z⟩,ei DR Hh,?_⟩
   ·have h1:=ZD ((nums.take i).flatten++x.take j) []
    have aC:=ahZ i;rw[gC,g4,rY]at h1;exact jR (by omega)
   ·rw[a8,take_snoc apc,← uI];show some (HO.dX (putK (o9 [] _) _ _))=some (HO.dX (o9 [] _));unfold o9;rw[oo (l':=[x[j]])];rfl
  ·obtain⟨⟨s4,e⟩,DR,Z8⟩:=aU;rw[ey,f3 (cH _)]at Z8;subst e;refine⟨⟨_,_,Z⟩,DR,?_⟩;rw[Z8,take_snoc aq,List.flatten_append];simp
 ·obtain⟨⟨s3,s4,e⟩,s2,Z7⟩:=aU;subst e;rw[aDS,f3 (cH _)]at Z7;obtain⟨ks,bF,a9,dw⟩:=ahY nums.flatten [] [] rfl List.nodup_nil;refine⟨_,Z,vR,_,ks.map fun n:Nat=>(n:Int),Z,Z7,by rw[bF,kj];rfl,fun oM p aDU ZP aL=>?_⟩;have Z9:oM=(asked nG.length nums).map fun n:Nat=>(n:Int):=by
   refine aqZ (fun x aq n aR=>(hnb x aq).2 n aR) (fun z=>?_) (aDP a9) aDU ZP;rw[g6];constructor
   ·rintro⟨n,aR,rfl⟩;have:=(dw n).mp aR;simp only[Ek,false_or]at this;obtain⟨x,aq,wA⟩:=List.mem_flatten.mp this;exact⟨x,aq,n,wA,Z⟩
   ·rintro⟨x,aq,n,aR,rfl⟩;exact⟨n,(dw n).mpr (.inr (List.mem_flatten.mpr ⟨x,aq,aR⟩)),Z⟩
  subst Z9;have yP:(asked nG.length nums).length<=64:=by
   unfold asked;exact jg (Ei _ _) (by simp;exact aDR)
  have an7:∀ n∈asked nG.length nums,n<nG.length:=fun n aR=>(Ju.mp aR).1;generalize asked nG.length nums=Ip at *;have ZR:(upd aB p (.lst ((Ip.map fun n:Nat=>(n:Int)).map V.int))) p=some (.lst (Ip.map nat)):=by rw[a8,kj];rfl
  have DR:aQ aB (upd aB p (.lst ((Ip.map fun n:Nat=>(n:Int)).map V.int))):=ei (aQ.refl _) aL;generalize upd aB p (.lst ((Ip.map fun n:Nat=>(n:Int)).map V.int))=aJ at *;have ob:=s2.trans DR;refine⟨p,Z,⟨_,aT.of ZR⟩,fun D bw=>?_⟩;refine n5 (Ip.map fun n=>nG.getD n .non) (by simp) (aT.of ZR) (by simp;omega) bw (fun i v y H' er a0 aP aH q=>?_) ?_
  ·rw[ek]at a0 aP;cases e:Ip[i]? with
   |none=>rw[e]at a0;cases a0
   |some n =>
    rw[e]at a0 aP;cases a0;cases aP;have aDV:=an7 n (gb e);refine⟨_,Z,_,Z,rl,_,_,_,Z,Z,aT.of (aH _ _ (ob _ _ rJ)),gO (v:=nG.getD n .non) (by simp[List.getD,dT aDV]),q⟩
  ·exact k1 D _ (ob.trans (ei (aQ.refl _) bw)) (ob.free bw) a8
inductive apd(t:bW)(a:V)(H:ao)(Q:bA)(uz:cN):Prop
 |mk (row G cR cv dj l):a=.ref row->PR t G H row cR cv dj l->l.length<=4096->(∀ D H',aQ H H'->H D=none->H' D=some (.lst ((nat l.length)::(l.flatMap Sw28.told).map nat))->Q (.ref D) H')->apd t a H Q uz
def aDW(t:bW):eY:=fc (apd t)
theorem ah0(z:Int):V.int (z % 4294967296)=nat (word z):=by
 unfold word;have:=Int.emod_nonneg z (show(4294967296:Int)≠0 by decide);show V.int (z % 4294967296)=V.int ((z % 4294967296).toNat:Int);rw[I5 this]
theorem ape:∀ l:List Item,(l.flatMap Sw28.told).length=5 * l.length
 | []=>rfl
 |x::l=>by
  rw[IV,gC,ape l,eo];show 5+_=_;omega
theorem aDX(T:Txt K av t):cJ P w K av base (cM P w) 1 t.Qu t.Qv ["row"] (aDW t):=by
 obtain⟨aH2,ah1,ah2⟩:=T.k_MODULUS;refine T.RN.cZ Yh fc.cX ?_;rintro bK A outer s H _ Q E aA ⟨cn,rfl,row,G,cR,cv,dj,l,rfl,P,aF,k1⟩;refine⟨_,(aW (ct (i:=1) Yh.nd Z (Or.inl Z) (hc (aD (hx iH Z T.hB hN (aD (bQ (aj 0) Z) aM)) aM))) (aW (hp (gP dJ Z) Z (BL Z T.xd (aD (bQ (aj 0) Z) aM)) (s8 Z (jM (dm (i:=2) Yh.nd Z (Or.inl Z)) (jM (dm (i:=3) Yh.nd Z (Or.inl Z)) r7))) (aW (et (mA lW pn pq pQ (aj 1) (aD (aj 3) aM))) (aW (et (mA lW pn pq pQ (aj 1) (aD (eO gA (bQ (aj 0) Z) (aj 2) (fun _ _=>Z)) aM))) (aW (et (mA lW pn pq pQ (aj 1) (aD (fa abw (eO gA (bQ (aj 0) Z) (aj 2) (fun _ _=>Z)) (gW Z ah1 ah2)) aM))) (aW (et (mA lW pn pq pQ (aj 1) (aD (fa abw (eO gA (bQ (aj 0) Z) (aj 2) (fun _ _=>Z)) (gW Z ah1 ah2)) aM))) (bk (et (mA lW pn pq pQ (aj 1) (aD (fa abw (eO gA (bQ (aj 0) Z) (aj 2) (fun _ _=>Z)) (gW Z ah1 ah2)) aM))))))))) (bk (dM (aj 1))))),?_⟩;apply dZ;intros;obtain⟨dx,bG,ca,dR,e3,hY⟩:=P.cY;refine⟨_,Z,row,_,dx,_,_,Z,P.bY _ _ dR,T.eE,T.iw,Z,bG,_,Z,.inl (aT.of (P.bY _ _ e3)),nZ,fun D bw=>?_⟩;have s1:aQ H (upd H D (.lst [V.int (((l.map fun x=>x.sign).map nat).length:Nat)])):=ei (aQ.refl _) bw;have agp:(upd H D (.lst [V.int (((l.map fun x=>x.sign).map nat).length:Nat)])) D=some (.lst (nat l.length::((l.take 0).flatMap Sw28.told).map nat)):=by rw[a8];simp
 generalize upd H D (.lst [V.int (((l.map fun x=>x.sign).map nat).length:Nat)])=H1 at *;refine⟨_,Z,row,_,dx,_,_,Z,s1 _ _ (P.bY _ _ dR),T.eE,T.iw,Z,bG,_,Z,aT.of (s1 _ _ (P.bY _ _ e3)),?_⟩;refine Hp (xs:=(l.map fun x=>x.sign).map nat) (fun i σ aB=>(∃ s2 s3,σ=[some (.ref row),some (.ref D),s2,s3])/\aQ H aB/\aB D=some (.lst (nat l.length::((l.take i).flatMap Sw28.told).map nat))) ⟨⟨_,_,rfl⟩,s1,agp⟩ (fun i σ aB _ ⟨_,s,_⟩=>aT.of (s _ _ (P.bY _ _ e3))) (fun i v ez σ aB a0 ⟨⟨aDY,DR,e⟩,s2,jo⟩ cx=>?_) fun σ aB aU=>?_
 ·subst e;have hi:i<l.length:=by simpa using(eF.mp a0).1
  have rP:l[i]?=some l[i]:=dT hi;have ev:v=nat l[i].sign:=by
   rw[ek,ek,rP]at a0;exact(Option.some.inj a0).symm
  subst ev;have hlen:=ape (l.take i);rw[g4]at hlen;rw[an3 rP];generalize (l.take i).flatMap Sw28.told=acc at *;have hw:=P.w;have DW:=P.r;have aDZ:=P.u;have Ii:(mU l)[i]?=some (.int l[i].advance):=by simp[mU,rP]
  have gr:(jd l)[i]?=some (.int l[i].dx):=by simp[jd,rP]
  have TY:(ll l)[i]?=some (.int l[i].dy):=by simp[ll,rP]
  have aD0:((l.map fun x=>x.from_).map nat)[i]?=some (nat l[i].from_):=by simp[rP]
  generalize l[i]=x at *;have s3:aQ aB (upd aB ez (.tup [nat i,nat x.sign])):=ei (aQ.refl _) cx;generalize upd aB ez (.tup [nat i,nat x.sign])=aJ at *;have o2:=s3 _ _ jo;have ob:=s2.trans s3;have nd:∀ b o,H b=some o->b≠D:=fun b o e=>bR e bw;have app:∀ {bC:ao} {w:List V} (y:V),aQ H bC->bC D=some (.lst w)->aQ H (upd bC D (.lst (w++[y])))/\(upd bC D (.lst (w++[y]))) D=some (.lst (w++[y])):=fun y s h=>⟨ei s bw,a8⟩;have fit:∀ k,k<=5->(nat l.length::acc.map nat).length+k<sizeLine:=fun k aN=>by
   simp only[eo,ey];exact jR (by omega)
  refine⟨_,Z,.inl ⟨Z,_,aT.of o2⟩,_,Z,D,_,_,Z,Z,o2,fit 0 (by omega),?_⟩;obtain⟨s4,dz⟩:=app (nat x.sign) ob o2;generalize upd aJ D (.lst (nat l.length::acc.map nat++[nat x.sign]))=bC at *;refine⟨_,Z,.inl ⟨Z,_,aT.of dz⟩,_,Z,row,_,dx,_,_,Z,s4 _ _ (P.bY _ _ dR),T.eE,T.w6,Z,_,Z,ca,_,_,_,Z,Z,aT.of (s4 _ _ (P.bY _ _ hY)),gO aD0,D,_,_,Z,Z,dz,by rw[gC];exact fit 1 (by omega),?_⟩;obtain⟨s5,js⟩:=app (nat x.from_) s4 dz;generalize upd bC D (.lst (nat l.length::acc.map nat++[nat x.sign]++[nat x.from_]))=b2 at *;refine⟨_,Z,.inl ⟨Z,_,aT.of js⟩,_,Z,row,_,dx,_,_,Z,s5 _ _ (P.bY _ _ dR),T.eE,T.vq,Z,_,Z,cR,_,_,_,Z,Z,aT.of (s5 _ _ hw),gO Ii,_,_,Z,Z,(by show(0:Int)<4294967296;decide),D,_,_,Z,Z,js,by rw[gC,gC];exact fit 2 (by omega),?_⟩;dsimp only;rw[ah0];obtain⟨cV,tE⟩:=app (nat (word x.advance)) s5 js;generalize upd b2 D (.lst (nat l.length::acc.map nat++[nat x.sign]++[nat x.from_]++[nat (word x.advance)]))=eN at *;refine⟨_,Z,.inl ⟨Z,_,aT.of tE⟩,_,Z,row,_,dx,_,_,Z,cV _ _ (P.bY _ _ dR),T.eE,T.yV,Z,_,Z,cv,_,_,_,Z,Z,aT.of (cV _ _ DW),gO gr,_,_,Z,Z,(by show(0:Int)<4294967296;decide),D,_,_,Z,Z,tE,by rw[gC,gC,gC];exact fit 3 (by omega),?_⟩;dsimp only;rw[ah0];obtain⟨fy,Dj⟩:=app (nat (word x.dx)) cV tE;generalize upd eN D (.lst (nat l.length::acc.map nat++[nat x.sign]++[nat x.from_]++[nat (word x.advance)]++[nat (word x.dx)]))=dD at *;refine⟨_,Z,.inl ⟨Z,_,aT.of Dj⟩,_,Z,row,_,dx,_,_,Z,fy _ _ (P.bY _ _ dR),T.eE,T.yW,Z,_,Z,dj,_,_,_,Z,Z,aT.of (fy _ _ aDZ),gO TY,_,_,Z,Z,(by show(0:Int)<4294967296;decide),D,_,_,Z,Z,Dj,by rw[gC,gC,gC,gC];exact fit 4 (by omega),⟨_,_,Z⟩,ei fy bw,?_⟩;rw[a8];simp[Sw28.told,ah0]
 ·obtain⟨⟨aDY,DR,e⟩,s2,jo⟩:=aU;subst e;rw[ey,ey,f3 (cH _)]at jo;exact⟨_,Z,k1 D aB s2 bw jo⟩
inductive apf(t:bW)(a b c:V)(H:ao)(Q:bA)(E:cN):Prop
 |mk (aZ f cl tl) (cs tags:aK):a=.ref aZ->b=.ref cl->c=.ref tl->lQ t H aZ f->pG f->H cl=some (.lst (cs.map nat))->H tl=some (.lst (tags.map nat))->cs.length<=4096->tags.length<=64->(∀ l H' row G cR cv dj,Sw28.set_ f tags cs=some l->aQ H H'->PR t G H' row cR cv dj l->l.length<=4096->Q (.ref row) H')->(Sw28.set_ f tags cs=none->∀ H',aQ H H'->E (.ref t.B_) none H')->apf t a b c H Q E
def aD1(t:bW):eY:=gd (apf t)
theorem aD2{H:ao}{vs:List V}{fs:List (Nat×aK×aK)}(h:Paired (um t H) vs fs):∃ ya sL,ya.length=vs.length/\sL.length=vs.length/\Paired (hr H) ya (fs.map fun x=>x.2.1)/\Paired (hr H) sL (fs.map fun x=>x.2.2)/\∀ (i:Nat) v a b,vs[i]?=some v->ya[i]?=some a->sL[i]?=some b->∃ p dx,v=.ref p/\H p=some (.ins t.qJ dx [("change_numbers",a),("place_numbers",b)]):=by
 induction h with
 |nil=>exact⟨[],[],Z,Z,.nil,.nil,fun i v a b h=>by cases h⟩
 |cons h _ bV =>
  obtain⟨ya,sL,h1,aC,bI,dz,js⟩:=bV;obtain⟨p,dx,jE,eA,rfl,aL,aX,ak⟩:=h;refine⟨jE::ya,eA::sL,by simp[h1],by simp[aC],.cons aX bI,.cons ak dz,fun i v a b bF a9 dw=>?_⟩;cases i with
  |zero =>
   cases bF;cases a9;cases dw;exact⟨p,dx,Z,aL⟩
  |succ i=>exact js i v a b bF a9 dw
theorem ah3{f:Font}(ok:pG f)(tags:aK)(x:Nat×aK×aK):x∈tags.filterMap (uy f)↔x∈f.features.filter fun x=>tags.contains x.1:=by
 rw[I8,rT];constructor
 ·rintro⟨e1,aD3,h⟩;unfold uy at h;have h1:=vZ h;have aC:=v5 h;simp only[pg]at aC;refine⟨h1,?_⟩;rw[List.contains_iff_mem,aC];exact aD3
 ·rintro⟨h1,aC⟩;exact⟨x.1,by rw[List.contains_iff_mem]at aC;exact aC,ajo ok.fr h1⟩
theorem apg{f:Font}(ok:pG f)(tags:aK)(k:Nat)(g:Nat×aK×aK->aK):asked k ((tags.filterMap (uy f)).map g)=asked k ((f.features.filter fun x=>tags.contains x.1).map g):=arv fun x=>by
 rw[g6,g6];exact⟨fun⟨y,aP,e⟩=>⟨y,(ah3 ok tags y).mp aP,e⟩,fun⟨y,aP,e⟩=>⟨y,(ah3 ok tags y).mpr aP,e⟩⟩
theorem ah4{f:Font}:∀ {rs:List (Rule Sw28.Sub)} {r:Rule Sw28.Sub} {l:List Item},nM f (rs++[r]) l=(nM f rs l).bind (chg f r)
 | [],r,l=>by
  show(chg f r l).bind (fun m=>some m)=chg f r l;cases chg f r l<;>rfl
 |q::rs,r,l=>by
  show(chg f q l).bind (fun m=>nM f (rs++[r]) m)=((chg f q l).bind fun m=>nM f rs m).bind (chg f r);cases chg f q l with
  |none=>rfl
  |some m=>exact ah4
theorem aph{f:Font}:∀ {rs oU:List (Rule Sw28.Sub)} {l:List Item},nM f rs l=none->nM f (rs++oU) l=none
 | [],oU,l,h=>by cases h
 |q::rs,oU,l,h=>by
  show(chg f q l).bind (fun m=>nM f (rs++oU) m)=none;have h:(chg f q l).bind (fun m=>nM f rs m)=none:=h;cases e:chg f q l with
  |none=>rfl
  |some m=>rw[e]at h;exact aph (rs:=rs) h
theorem apj{f:Font}:∀ {rs:List (Rule Sw28.Pos)} {r:Rule Sw28.Pos} {l:List Item},wz f (rs++[r]) l=(dA (passed f r.skip) 0 (wz f rs l)).foldl (placeAt f r) (wz f rs l)
 | [],_,_=>rfl
 |q::rs,r,l=>apj (rs:=rs)
theorem ah5{f:Font}:∀ (rs:List (Rule Sw28.Pos)) (l:List Item),(wz f rs l).map (fun x=>x.sign)=l.map fun x=>x.sign
 | [],_=>rfl
 |q::rs,l=>by
  show(wz f rs _).map _=_;rw[ah5 rs,Et]
theorem ah6{α:Type}{H:ao}{R:ao->V->α->Prop}{vs:List V}{xs:List α}(p:Paired (R H) vs xs):∀ (ks:aK),(∀ k∈ks,k<vs.length)->Paired (R H) (ks.map fun n=>vs.getD n .non) (ks.filterMap fun k=>xs[k]?)
 | [],_=>.nil
 |k::ks,h=>by
  have bV:=ah6 p ks fun j bN=>h j (h2 _ bN);have aN:=h k h_;have a0:vs[k]?=some vs[k]:=dT aN;obtain⟨x,aq,aA⟩:=mG p a0;rw[fU,Ad,aq];refine .cons ?_ bV;rw[List.getD,a0];exact aA
theorem aD4{H H':ao}{L:d2}(s:aQ H H')(h:∀ b∈L,H b=none):aQ H (bH fB L H'):=fun b o e=>n8.mpr ⟨fun z=>(by rw[h b z]at e;cases e),s _ _ e⟩
theorem aD5(f:Font)(cs:aK):(begun f cs).map (fun x=>x.sign)=cs.map (mapped f):=by
 apply vW;intro i;simp only[begun,ek,Iz,uG];cases cs[i]?<;>rfl
theorem aD6(f:Font)(cs:aK):(begun f cs).map (fun x=>x.from_)=List.range cs.length:=by
 apply vW;intro i;simp only[begun,ek,Iz,uG];by_cases h:i<cs.length
 ·rw[dT h,List.getElem?_range h];simp
 ·rw[qZ (by omega),qZ (by simp;omega)];rfl
theorem aD7(T:Txt K av t):cJ P w K av base (cM P w) 5 t.Qs t.Qt ["font","characters","tags"] (aD1 t):=by
 refine T.RM.cZ tU gd.cX ?_;rintro bK A outer s H _ Q E aA ⟨cn,a1,a2,rfl,aZ,f,cl,tl,cs,tags,rfl,rfl,rfl,hf,ea,iV,vl,Di,Kr,k1,k2⟩;try simp only at k1 k2
 refine⟨_,(aW (ct (i:=3) tU.nd Z (Or.inl Z) (dI (aDO T) aA.bh Z T.afw T.RL.aG T.axB .nil bj (aD (aj 0) (aD (aj 2) aM)))) (aW (ct (i:=4) tU.nd Z (Or.inl Z) (qD T.aeK (aBE T) aA.bh Z T.aeJ T.awR .nil bj (aD (iI (own:=[("character",6)]) dJ (fun _ _ z=>z) Z tU.nd (gH (aj 1)) (gY (by rfl)) (fun _ _ _ _ _=>dm (i:=6) tU.nd Z (Or.inl Z)) (fun _ _ _ _ _=>hy) (fun _ _ _ _ _=>(fl (aj 0) T.gq T.WT (anN T) aA.bh T.alb .nil bj (aD (aj 6) aM)))) (aD (ra (awp Z) Z T.GF Yj (aD (ra awn Z T.jA ax_ (aD (hx iH Z T.hB hN (aD (aj 1) aM)) aM)) aM)) aM)))) (aW (hp (gP dJ Z) Z (gH (dI (apb T) aA.bh Z T.XS T.GD.aG T.alh .nil bj (aD (bQ (aj 0) Z) (aD (iI (own:=[("feature",7)]) dJ (fun _ _ z=>z) Z tU.nd (gH (aj 3)) (gY (by rfl)) (fun _ _ _ _ _=>dm (i:=7) tU.nd Z (Or.inl Z)) (fun _ _ _ _ _=>hy) (fun _ _ _ _ _=>(rz (K':=K) Z (aj 7) Z))) aM)))) (dm (i:=5) tU.nd Z (Or.inl Z)) (bk (et (dI (aDe T) aA.bh Z T.afc T.Rm.aG T.axh .nil bj (aD (aj 0) (aD (aj 5) (aD (aj 4) aM))))))) (aW (et (fl (aj 4) T.eE T.aeL (aDK T) aA.bh T.awS .nil bj (aD (aj 0) aM))) (aW (hp (gP dJ Z) Z (gH (dI (apb T) aA.bh Z T.XS T.GD.aG T.alh .nil bj (aD (bQ (aj 0) Z) (aD (iI (own:=[("feature",7)]) dJ (fun _ _ z=>z) Z tU.nd (gH (aj 3)) (gY (by rfl)) (fun _ _ _ _ _=>dm (i:=7) tU.nd Z (Or.inl Z)) (fun _ _ _ _ _=>hy) (fun _ _ _ _ _=>(rz (K':=K) Z (aj 7) Z))) aM)))) (dm (i:=5) tU.nd Z (Or.inl Z)) (bk (et (dI (aDG T) aA.bh Z T.afv T.RK.aG T.axA .nil bj (aD (aj 0) (aD (aj 5) (aD (aj 4) aM))))))) (bk (dM (aj 4)))))))),?_⟩;apply wM;intros;have Av:=aqF f ea.so tags cs Di;rw[← apg ea,← apg ea]at Av;refine⟨_,Z,_,Z,_,_,Z,aZ,f,tl,tags,Z,Z,hf,vl,Kr,fun uD z2 aD8 pf=>?_⟩;have yg:(tags.filterMap (uy f)).length<=64:=jg (List.length_filterMap_le _ _) Kr;have Zx:∀ x∈tags.filterMap (uy f),x∈f.features:=fun x aq=>(rT.mp ((ah3 ea tags x).mp aq)).1;generalize tags.filterMap (uy f)=fs at *;have s1:aQ H (upd H uD (.lst z2)):=ei (aQ.refl _) aD8;have apk:(upd H uD (.lst z2)) uD=some (.lst z2):=a8;generalize upd H uD (.lst z2)=H1 at *;obtain⟨ya,sL,aD9,aD_,nc,pb,V8⟩:=aD2 pf;have aH3:z2.length=fs.length:=f9 pf;obtain⟨dO,fp,aH4,aH5,ao1,vc,gu,gB,fe,_,_,_,_,⟨rc,nG,ec,aD',apl⟩,⟨ft,j_,ep,hZ,apm⟩,_⟩:=id hf;subst ec ep;have rJ:nG.length=f.subs.length:=f9 apl;have g8:j_.length=f.poss.length:=f9 apm;refine⟨_,Z,cl,Z,⟨_,aT.of (s1 _ _ iV)⟩,fun bG e3=>?_⟩;refine n5 ((cs.map (mapped f)).map nat) (by simp) (aT.of (s1 _ _ iV)) (by simp;omega) e3 (fun i v y H' er a0 aP aH q=>?_) ?_
 ·rw[ek]at a0 aP;rw[ek]at aP;cases e:cs[i]? with
  |none=>rw[e]at a0;cases a0
  |some c =>
   rw[e]at a0 aP;cases a0;cases aP;exact⟨_,Z,aZ,dO,_,Z,aH _ _ (s1 _ _ fe),Z,_,Z,_,_,Z,aZ,f,c,Z,Z,mK (s1.trans aH) hf,ea.mo,q⟩
 have s2:aQ H1 (upd H1 bG (.lst ((cs.map (mapped f)).map nat))):=ei (aQ.refl _) e3;have sJ:(upd H1 bG (.lst ((cs.map (mapped f)).map nat))) bG=some (.lst ((cs.map (mapped f)).map nat)):=a8;generalize upd H1 bG (.lst ((cs.map (mapped f)).map nat))=aB at *;refine⟨_,Z,cl,_,Z,.inl (aT.of (s2 _ _ (s1 _ _ iV))),_,Z,fun pr jP=>⟨pr,cs.length,rfl,by rw[a8,ey],by omega,fun ca hY=>?_⟩⟩;have s3:aQ aB (upd (upd aB pr (.uU 0 ((cs.map nat).length:Nat))) ca (.lst ((List.range cs.length).map fun i=>V.int (i:Nat)))):=ei (ei (aQ.refl _) jP) ((ei (aQ.refl _) jP).free hY);have aEa:(upd (upd aB pr (.uU 0 ((cs.map nat).length:Nat))) ca (.lst ((List.range cs.length).map fun i=>V.int (i:Nat)))) ca=some (.lst ((List.range cs.length).map nat)):=a8;generalize upd (upd aB pr (.uU 0 ((cs.map nat).length:Nat))) ca (.lst ((List.range cs.length).map fun i=>V.int (i:Nat)))=aJ at *;have ob:=s1.trans (s2.trans s3);intro row fY cU nd ne;have s4:aQ aJ (iK aJ row fY t.fC []):=n3 cU nd;refine⟨_,_,_,Z,row,fY,bG,ca,_,Z,Z,Z,rA,s4 _ _ (s3 _ _ sJ),by simp;exact Di,fun b2 hD gx fP fX zQ=>?_⟩;have T9:aQ aJ b2:=fun b o e=>fX b o (by simp only[g5];exact bR e cU) (s4 _ _ e);have RA:H6 t b2 row (begun f cs):=⟨fY,bG,ca,hD,gx,fP,zQ,by rw[aD5];exact T9 _ _ (s3 _ _ sJ),by rw[aD6];exact T9 _ _ aEa⟩;have pY:=ob.trans T9;have aEb:H row=none:=ob.free cU;have apn:b2 uD=some (.lst z2):=T9 _ _ (s3 _ _ (s2 _ _ apk));have aEc:aJ uD=some (.lst z2):=s3 _ _ (s2 _ _ apk);have bl:(begun f cs).length<=4096:=by simpa [begun]using Di
 have bi:=aru ea cs;clear fX s4 zQ nd ne;refine⟨Z,_,Z,aZ,_,dO,_,_,Z,pY _ _ fe,T.gq,T.Cd,Z,_,Z,uD,Z,⟨_,aT.of apn⟩,fun D bw=>?_⟩;refine n5 ya aD9 (aT.of apn) (by omega) bw (fun i v y H' er a0 aP aH q=>?_) ?_
 ·obtain⟨p,eU,rfl,aL⟩:=V8 i v y _ a0 aP (dT (by have:=(eF.mp a0).1;omega));exact⟨_,Z,p,_,eU,_,_,Z,aH _ _ (pY _ _ aL),T.Gp,T.WD,Z,q⟩
 have cV:aQ b2 (upd b2 D (.lst ya)):=ei (aQ.refl _) bw;have ah7:(upd b2 D (.lst ya)) D=some (.lst ya):=a8;generalize upd b2 D (.lst ya)=eN at *;have vO:=pY.trans cV;refine⟨_,_,Z,rc,D,nG,ya,_,Z,Z,vO _ _ aD',ah7,Paired.d8 nc fun _ _ r=>hg _ _ _ _ vO r,by rw[rJ];exact ea.fM,by simp;exact yg,fun x aq=>?_,fun L dD fy dc S9=>?_⟩
 ·obtain⟨y,aP,rfl⟩:=g6.mp aq;have:=ea.b0 y (Zx y aP);exact⟨this.2.2.1,fun n aR=>by rw[rJ];exact this.1 n aR⟩
 rw[rJ]at S9;have mJ:∀ k∈asked f.subs.length (fs.map fun x=>x.2.1),k<nG.length:=fun k aN=>by rw[rJ];exact(Ju.mp aN).1
 have prs:=ah6 apl _ mJ;have aEd:∀ r∈(asked f.subs.length (fs.map fun x=>x.2.1)).filterMap (fun k=>f.subs[k]?),r∈f.subs:=fun r aA=>by
  obtain⟨k,_,e⟩:=I8.mp aA;exact gb e
 generalize (asked f.subs.length (fs.map fun x=>x.2.1)).filterMap (fun k=>f.subs[k]?)=rs at *;generalize (asked f.subs.length (fs.map fun x=>x.2.1)).map (fun n=>nG.getD n .non)=lv at *;have pZ:=vO.trans fy;have aEe:H6 t dD row (begun f cs):=by
  obtain⟨dx,bG,ca,hD,gx,fP,h1,aC,bI⟩:=RA;exact⟨dx,bG,ca,hD,gx,fP,fy _ _ (cV _ _ h1),fy _ _ (cV _ _ aC),fy _ _ (cV _ _ bI)⟩
 have apo:aQ aJ (bH fB [row] dD):=aD4 (T9.trans (cV.trans fy)) (by simpa using cU);have z3:aQ H (bH fB [row] dD):=ob.trans apo;have aEf:L≠row:=fun e=>by
  obtain⟨dx,bG,ca,hD,gx,fP,h1,_⟩:=RA;rw[e,cV _ _ h1]at dc;cases dc
 have aEg:(bH fB [row] dD) L=some (.lst lv):=n8.mpr ⟨by simpa using aEf,S9⟩;have ah8:(bH fB [row] dD) row=none:=by
  cases e:(bH fB [row] dD) row with
  |none=>rfl
  |some o=>exact absurd (n8.mp e).1 (by simp)
 have aEh:lv.length=rs.length:=f9 prs;have aEi:aQ (bH fB [row] dD) dD:=hC;generalize bH fB [row] dD=B at *;refine⟨L,Z,⟨_,aT.of S9⟩,?_⟩;refine qz (xs:=lv) (fun i σ mF=>(∃ s5,σ=[some (.ref aZ),some (.ref cl),some (.ref tl),some (.ref uD),some (.ref row),s5,none,none])/\aQ B mF/\∃ l,nM f (rs.take i) (begun f cs)=some l/\H6 t mF row l/\l.length<=4096/\In f.signs l) ⟨⟨_,rfl⟩,aEi,_,rfl,aEe,bl,bi⟩ (fun i σ mF _ ⟨_,s,_⟩=>aT.of (s _ _ aEg)) (fun i v σ mF a0 ⟨⟨s5,e⟩,kG,l,aF,ah9,hF,li⟩=>?_) fun σ mF ⟨⟨s5,e⟩,kG,l,aF,ah9,hF,li⟩=>?_
 ·subst e;obtain⟨r,DW,l0⟩:=mG prs a0;have iz:=aEd r (gb DW);have st:=take_snoc DW;refine⟨_,Z,_,Z,_,Z,_,_,_,Z,aZ,f,r,row,l,Z,Z,trivial,mK (z3.trans kG) hf,ea,iz,zF _ _ _ _ (z3.trans kG) l0,ah9,hF,fun x aq=>(li x aq).1,fun l' iW aV n_ aEj=>⟨⟨_,rfl⟩,?_,l',?_,aEj,aaM hF aV,arq ea iz hF li aV⟩,fun aV iW n_=>k2 ?_ iW ?_⟩
  ·exact fun b o e=>n_ b o (by simp only[g5];exact bR e ah8) (kG _ _ e)
  ·rw[st,ah4,aF];exact aV
  ·have:nM f rs (begun f cs)=none:=by
    rw[← I2 (i+1) rs];refine aph ?_;rw[st,ah4,aF];exact aV
   rw[Av,this];rfl
  ·exact fun b o e=>n_ b o (by simp only[g5];exact bR e aEb) (kG _ _ (z3 _ _ e))
 subst e;rw[aEh,f3 (cH _)]at aF;rw[aF]at Av;simp only[gf]at Av;obtain⟨ah_,xU,Dq,aEk,aEm,aEn,Ir,T_,Z_⟩:=ah9;refine⟨_,Z,row,ah_,_,Z,Ir,Z,_,Z,_,_,Z,row,ah_,xU,Dq,aEk,aEm,aEn,l.map fun x=>x.sign,aZ,f,B,Z,Z,mK z3 hf,kG,ah8,Ir,T_,fun s aH=>?_,by simpa using hF,fun iW cR cv dj n_ apq ah' aia aib nw i_ aEo n1 n2 qy=>?_⟩
 ·obtain⟨x,aq,rfl⟩:=g6.mp aH;rw[ea.ad];exact(li x aq).1
 have Z2:xU≠row:=hO T_ Ir (by intro z;cases z);have Tw:Dq≠row:=hO Z_ Ir (by intro z;cases z);have apr:=n_ _ _ (by simpa using Z2) T_;have aps:=n_ _ _ (by simpa using Tw) Z_;have Iu:aQ B iW:=fun b o e=>n_ b o (by simp only[g5];exact bR e ah8) (kG _ _ e);have apt:B uD=some (.lst z2):=apo _ _ aEc;have Y4:mU (wide f l)=(l.map fun x=>x.sign).map fun s=>nat (f.advance.getD s 0):=by simp[mU,wide]
 have mz:jd (wide f l)=(l.map fun x=>x.sign).map fun _=>V.int 0:=by
  simp only[jd,wide,kj];exact Ah fun x aq=>by simp[(li x aq).2.1]
 have kO:ll (wide f l)=(l.map fun x=>x.sign).map fun _=>V.int 0:=by
  simp only[ll,wide,kj];exact Ah fun x aq=>by simp[(li x aq).2.2]
 have d1:(wide f l).map (fun x=>x.sign)=l.map fun x=>x.sign:=by simp[wide]
 have apu:(wide f l).map (fun x=>x.from_)=l.map fun x=>x.from_:=by simp[wide]
 have s7:∀ b o,mF b=some o->b∉[cR,cv,dj]:=fun b o e z=>by
  simp only[gR,Ek,or_false]at z;rcases z with z|z|z<;>subst z
  ·rw[nw]at e;cases e
  ·rw[i_]at e;cases e
  ·rw[aEo]at e;cases e
 have aH6:(wide f l).length<=4096:=by simpa [wide]using hF
 have aEp:∀ s∈(wide f l).map (fun x=>x.sign),s<f.signs:=fun s aH=>by
  rw[d1]at aH;obtain⟨x,aq,rfl⟩:=g6.mp aH;exact(li x aq).1
 have aEq:∀ H',aQ iW H'->PR t (bH fB [cR,cv,dj] H') H' row cR cv dj (wide f l):=fun H' s=>by
  have no:∀ b,b∈[cR,cv,dj]->(bH fB [cR,cv,dj] H') b=none:=fun b ak=>by
   cases e:(bH fB [cR,cv,dj] H') b with
   |none=>rfl
   |some o=>exact absurd ak (n8.mp e).1
  exact⟨hC,no _ (by simp),no _ (by simp),no _ (by simp),n1,n2,qy,⟨ah_,xU,Dq,n8.mpr ⟨s7 _ _ Ir,s _ _ apq⟩,n8.mpr ⟨s7 _ _ T_,by rw[d1];exact s _ _ apr⟩,n8.mpr ⟨s7 _ _ Z_,by rw[apu];exact s _ _ aps⟩⟩,by rw[Y4];exact s _ _ ah',by rw[mz];exact s _ _ aia,by rw[kO];exact s _ _ aib⟩
 have aEr:∀ H',aQ iW H'->aQ B (bH fB [cR,cv,dj] H'):=fun H' s b o e=>n8.mpr ⟨s7 _ _ (kG _ _ e),s _ _ (Iu _ _ e)⟩;have aEs:=j5 ah';have aEt:=j5 aia;have aEu:=j5 aib;generalize wide f l=wl at *;clear Y4 mz kO d1 apu ah' aia aib T_ Z_ apr aps Ir apq;refine⟨_,Z,aZ,_,dO,_,_,Z,Iu _ _ (z3 _ _ fe),T.gq,T.Gq,Z,_,Z,uD,Z,⟨_,aT.of (Iu _ _ apt)⟩,fun D2 jo=>?_⟩;refine n5 sL aD_ (aT.of (Iu _ _ apt)) (by omega) jo (fun i v y H' er a0 aP aH q=>?_) ?_
 ·obtain⟨p,eU,rfl,aL⟩:=V8 i v _ y a0 (dT (by have:=(eF.mp a0).1;omega)) aP;exact⟨_,Z,p,_,eU,_,_,Z,aH _ _ (Iu _ _ (z3 _ _ aL)),T.Gp,T.WK,Z,q⟩
 have tG:aQ iW (upd iW D2 (.lst sL)):=ei (aQ.refl _) jo;have acK:(upd iW D2 (.lst sL)) D2=some (.lst sL):=a8;generalize upd iW D2 (.lst sL)=Ku at *;have apv:=z3.trans (Iu.trans tG);refine⟨_,_,Z,ft,D2,j_,sL,_,Z,Z,apv _ _ hZ,acK,Paired.d8 pb fun _ _ r=>hg _ _ _ _ apv r,by rw[g8];exact ea.pl,by simp;exact yg,fun x aq=>?_,fun L2 Z' BW nr aic=>?_⟩
 ·obtain⟨y,aP,rfl⟩:=g6.mp aq;have:=ea.b0 y (Zx y aP);exact⟨this.2.2.2,fun n aR=>by rw[g8];exact this.2.1 n aR⟩
 rw[g8]at aic;have aEv:∀ k∈asked f.poss.length (fs.map fun x=>x.2.2),k<j_.length:=fun k aN=>by rw[g8];exact(Ju.mp aN).1
 have apw:=ah6 apm _ aEv;have acw:∀ r∈(asked f.poss.length (fs.map fun x=>x.2.2)).filterMap (fun k=>f.poss[k]?),r∈f.poss:=fun r aA=>by
  obtain⟨k,_,e⟩:=I8.mp aA;exact gb e
 generalize (asked f.poss.length (fs.map fun x=>x.2.2)).filterMap (fun k=>f.poss[k]?)=ps at *;generalize (asked f.poss.length (fs.map fun x=>x.2.2)).map (fun n=>j_.getD n .non)=aie at *;have aEw:=aEq Z' (tG.trans BW);have nu:=z3.trans (aEr Z' (tG.trans BW));have aEx:(bH fB [cR,cv,dj] Z') L2=some (.lst aie):=by
  refine n8.mpr ⟨fun z=>?_,aic⟩;simp only[gR,Ek,or_false]at z;rcases z with z|z|z<;>rw[z]at nr
  ·exact aEs (tG.free nr)
  ·exact aEt (tG.free nr)
  ·exact aEu (tG.free nr)
 have zT:aie.length=ps.length:=f9 apw;generalize bH fB [cR,cv,dj] Z'=G at *;refine⟨L2,Z,⟨_,aT.of aic⟩,?_⟩;refine qz (xs:=aie) (fun i σ T'=>(∃ s5,σ=[some (.ref aZ),some (.ref cl),some (.ref tl),some (.ref uD),some (.ref row),s5,none,none])/\PR t G T' row cR cv dj (wz f (ps.take i) wl)) ⟨⟨_,rfl⟩,aEw⟩ (fun i σ T' _ ⟨_,P⟩=>aT.of (P.bY _ _ aEx)) (fun i v σ T' a0 aU=>?_) fun σ T' aU=>?_
 ·obtain⟨⟨s5,e⟩,Ua⟩:=aU;subst e;obtain⟨r,DW,l0⟩:=mG apw a0;have iz:=acw r (gb DW);have st:=take_snoc DW;have bY:=ah5 (f:=f) (ps.take i) wl;refine⟨_,Z,_,Z,_,Z,_,_,_,Z,aZ,f,r,row,G,cR,cv,dj,_,Z,Z,trivial,mK nu hf,ea,iz,HF _ _ _ _ nu l0,Ua,?_,fun x aq=>?_,fun aH7 aEy=>⟨⟨_,rfl⟩,?_⟩⟩
  ·have:=congrArg List.length bY
   rw[ey,ey]at this;omega
  ·exact aEp _ (by rw[← bY];exact g6.mpr ⟨x,aq,rfl⟩)
  ·rw[st,apj];exact aEy
 ·obtain⟨⟨s5,e⟩,Ua⟩:=aU;subst e;rw[zT,f3 (cH _)]at Ua;refine⟨_,Z,k1 _ T' row G cR cv dj Av (nu.trans Ua.bY) Ua ?_⟩;have:=congrArg List.length (ah5 (f:=f) ps wl);rw[ey,ey]at this;omega
def aac(y:Sw28.St×(Int×aK)):List Int:=y.2.1::y.2.2.map fun n:Nat=>(n:Int)
def nH(t:bW)(M:d2)(H:ao)(cT:au)(s:Sw28.St):Prop:=∃ dx v,H cT=some (.ins t.jx dx [("font",v)])/\match s with
 |none=>v=.non
 |some f=>∃ aZ,v=.ref aZ/\lQ t (bH fB M H) aZ f/\pG f
theorem nH.keep{M L:d2}{H H':ao}{cT:au}{s:Sw28.St}(h:nH t M H cT s)(k:bf L H H')(aF:∀ b∈L,b∈M)(aH:cT∉L):nH t M H' cT s:=by
 obtain⟨dx,v,h1,aC⟩:=h;refine⟨dx,v,k _ _ aH h1,?_⟩;cases s with
 |none=>exact aC
 |some f =>
  obtain⟨aZ,e,hf,ok⟩:=aC;exact⟨aZ,e,mK (jB k fun b ak=>.inr (aF b ak)) hf,ok⟩
def Tells(t:bW)(M:d2)(H:ao)(cT:au)(s:Sw28.St)(c:Sw28.Call)(Q:bA):Prop :=
 ∀ D H',bf [cT] H H'->H D=none->H' D=some (.lst ((aac (Sw28.step s c)).map V.int))->nH t M H' cT (Sw28.step s c).1->Q (.ref D) H'
inductive apx(t:bW)(a:V)(H:ao)(Q:bA)(uz:cN):Prop
 |mk (cT M s):a=.ref cT->nH t M H cT s->Tells t M H cT s .start Q->apx t a H Q uz
def aEz(t:bW):eY:=fc (apx t)
inductive apy(t:bW)(a b:V)(H:ao)(Q:bA)(rR:cN):Prop
 |mk (cT M s ca) (bs:aK):a=.ref cT->b=.ref ca->nH t M H cT s->cT∈M->(∀ b∈M,H b≠none)->H ca=some (.lst (bs.map nat))->(∀ b∈bs,b<256)->bs.length<=65536->(∀ f,qm bs=some f->pG f)->Tells t M H cT s (.open_ bs (bs.length:Nat)) Q->apy t a b H Q rR
def aEA(t:bW):eY:=fT (apy t)
inductive apz(t:bW)(a b:V)(H:ao)(Q:bA)(rR:cN):Prop
 |mk (cT M s c):a=.ref cT->b=nat c->nH t M H cT s->Tells t M H cT s (.sign c) Q->apz t a b H Q rR
def aEB(t:bW):eY:=fT (apz t)
inductive apA(t:bW)(a b:V)(H:ao)(Q:bA)(rR:cN):Prop
 |mk (cT M s c):a=.ref cT->b=nat c->nH t M H cT s->Tells t M H cT s (.has c) Q->apA t a b H Q rR
def aEC(t:bW):eY:=fT (apA t)
inductive apB(t:bW)(a b c d:V)(H:ao)(Q:bA)(xD:cN):Prop
 |mk (cT M s cl tl) (z:Int) (cs tags:aK):a=.ref cT->b=.int z->c=.ref cl->d=.ref tl->nH t M H cT s->cT∈M->H cl=some (.lst (cs.map nat))->H tl=some (.lst (tags.map nat))->cs.length<=1024->tags.length<=64->Tells t M H cT s (.set_ cs (cs.length:Nat) tags (tags.length:Nat) z) Q->apB t a b c d H Q xD
def aED(t:bW):eY:=nq (apB t)
theorem aEE(T:Txt K av t):cJ P w K av base (cM P w) 1 t.MF t.MJ ["self"] (fc fun s H Q _=>∃ x dx,s=.ref x/\H x=some (.ins t.jx dx [])/\Q .non (upd H x (.ins t.jx dx [("font",.non)]))):=by
 refine T.Xw.cZ axW fc.cX ?_;rintro bK A outer s H _ Q E aA ⟨cn,rfl,x,dx,rfl,aq,k1⟩;refine⟨_,(bk (eX (aj 0) Fd Z)),?_⟩;exact⟨_,Z,x,_,dx,_,Z,aq,T.oV,T.tO,by show 0<1000;decide,k1⟩
theorem aEF(T:Txt K av t):cJ P w K av base (cM P w) 1 t.MK t.MN ["self"] (aEz t):=by
 refine T.Xx.cZ axX fc.cX ?_;rintro bK A outer s H _ Q E aA ⟨cn,rfl,cT,M,s0,rfl,⟨dx,v,lR,lU⟩,k1⟩;refine⟨_,(aW (eX (aj 0) Fd Z) (bk (dM (hc (aD b3 aM))))),?_⟩;apply cB;intros;refine⟨_,Z,cT,_,dx,_,Z,lR,T.oV,T.tO,by show 1<1000;decide,?_⟩;refine⟨nZ,fun D bw=>k1 D _ ((bf.pT (by simp)).jm bw) ((bf.pT (L:=[cT]) (by simp)).free ?_ bw) a8 ⟨dx,.non,?_,rfl⟩⟩
 ·intro z;simp only[g5]at z;subst z;rw[a8]at bw;cases bw
 ·rw[a7 (bR (o:=.ins t.jx dx [("font",.non)]) a8 bw)];exact a8
theorem aEG(T:Txt K av t):cJ P w K av base (cM P w) 15 t.MP t.M4 ["self","content"] (aEA t):=by
 obtain⟨aH8,aEH,aEI⟩:=T.k_WRONG_FILE;refine T.Xy.cZ alo fT.cX ?_;rintro bK A outer s H _ Q E aA ⟨cn,a1,rfl,cT,M,s0,ca,bs,rfl,rfl,⟨dx,v,lR,lU⟩,zL,aif,hY,c0,jj,bL,k1⟩;refine⟨_,(aW (akV dJ Z T.W7 T.W8 (fun _ _=>(bk (ct (i:=2) alo.nd Z (Or.inl Z) (dI (aA4 T) aA.bh Z T.afq T.RB.aG T.axv .nil bj (aD (aj 1) aM))))) (fun _ _=>(bk (dM (hc (aD (gW Z aEH aEI) aM)))))) (aW (eX (aj 0) (aj 2) Z) (bk (dM (hc (aD (hx iH Z T.hB hN (aD (bQ (aj 2) Z) aM)) aM)))))),?_⟩;apply dZ;intros;have hw:within ((bs.length:Nat):Int) 0 65536=true:=by
  unfold within;rw[fw (by omega),fw (by omega)];rfl
 refine⟨_,Z,_,Z,ca,bs,Z,hY,c0,jj,fun f aZ H1 aL s1 hf=>?_,fun aL H1 s1=>⟨rfl,fun dg=>?_⟩⟩
 ·have mV:Sw28.step s0 (.open_ bs (bs.length:Nat))=(some f,((f.signs:Int),[])):=by
   show(if _=false then _ else _)=_;rw[hw,bx (by decide),aal,aL]
  have ea:=bL f aL;unfold Tells at k1;rw[mV]at k1;refine⟨_,Z,_,Z,cT,_,dx,_,Z,s1 _ _ lR,T.oV,T.tO,by show 1<1000;decide,?_⟩;have apC:lQ t (bH fB M (upd H1 cT (.ins t.jx dx (cC "font" (.ref aZ) [("font",v)])))) aZ f:=mK (fun b o e=>by
   obtain⟨h1,_,aC⟩:=ew.mp e;have nb:b∉M:=fun z=>aif b z h1;refine n8.mpr ⟨nb,?_⟩;rw[a7 (fun z:b=cT=>nb (z.symm▸zL))];exact aC) hf
  have cD:bf [cT] H (upd H1 cT (.ins t.jx dx (cC "font" (.ref aZ) [("font",v)]))):=(hq s1 _).qN (by simp);have aii:(upd H1 cT (.ins t.jx dx (cC "font" (.ref aZ) [("font",v)]))) cT=some (.ins t.jx dx [("font",.ref aZ)]):=a8;generalize upd H1 cT (.ins t.jx dx (cC "font" (.ref aZ) [("font",v)]))=aB at *;obtain⟨dO,p,c,w',bG,vc,gu,gB,fe,_,aV,_⟩:=id apC;have aEJ:=(n8.mp fe).2;have Vz:=(n8.mp aV).2;refine⟨_,Z,aZ,_,dO,_,_,Z,aEJ,T.gq,T.QD,Z,c,_,Z,.inl (aT.of Vz),nZ,fun D bw=>?_⟩;refine k1 D _ (cD.jm bw) (cD.free (fun z=>?_) bw) ?_ ⟨dx,_,by rw[a7 (bR aii bw)];exact aii,aZ,rfl,mK (jB (M:=[]) (bf.iZ bw) (by simp)) apC,ea⟩
  ·simp only[g5]at z;rw[z,aii]at bw;cases bw
  ·rw[a8,ey,ea.cl];rfl
 ·have mV:Sw28.step s0 (.open_ bs (bs.length:Nat))=(s0,(-2,[])):=by
   show(if _=false then _ else _)=_;rw[hw,bx (by decide),aal,aL]
  unfold Tells at k1;rw[mV]at k1;refine⟨nZ,fun D bw=>k1 D _ ((hq s1 _).jm bw) (s1.free bw) a8 ?_⟩;exact nH.keep ⟨dx,v,lR,lU⟩ (L:=[]) ((hq s1 _).jm bw) (by simp) (by simp)
theorem aEK(T:Txt K av t):cJ P w K av base (cM P w) 2 t.M5 t.M6 ["self","character"] (aEB t):=by
 obtain⟨apD,Ub,Uc⟩:=T.k_NO_FILE;refine T.Xz.cZ axY fT.cX ?_;rintro bK A outer s H _ Q E aA ⟨cn,a1,rfl,cT,M,s0,c,rfl,rfl,⟨dx,v,lR,lU⟩,k1⟩;refine⟨_,(aW (gj (pN (yq (bQ (aj 0) Z))) (bk (dM (hc (aD (gW Z Ub Uc) aM)))) hu) (bk (dM (hc (aD (fl (bQ (aj 0) Z) T.gq T.WT (anN T) aA.bh T.alb .nil bj (aD (aj 1) aM)) aM))))),?_⟩;apply cB;intros;have done:∀ D (z:Int),H D=none->Sw28.step s0 (.sign c)=(s0,(z,[]))->Q (.ref D) (upd H D (.lst [.int z])):=fun D z bw mV=>by
  unfold Tells at k1;rw[mV]at k1;exact k1 D _ (bf.iZ bw) bw a8 (nH.keep ⟨dx,v,lR,lU⟩ (L:=[]) (bf.iZ bw) (by simp) (by simp))
 refine⟨_,Z,cT,_,dx,_,_,Z,lR,T.oV,T.tO,Z,?_⟩;cases s0 with
 |none =>
  have lU:v=.non:=lU;subst lU;exact⟨_,Z,dF (fun _=>⟨nZ,fun D bw=>done D _ bw rfl⟩) fun ak=>absurd (fw rfl) ak⟩
 |some f =>
  obtain⟨aZ,e,hf,ea⟩:=lU;subst e;have Iv:lQ t H aZ f:=mK hC hf;obtain⟨dO,p,Dn,w',bG,vc,gu,gB,fe,_⟩:=id Iv;refine⟨_,Z,dF (fun ak=>nomatch h3 ak) fun _=>?_⟩;refine⟨_,Z,cT,_,dx,_,_,Z,lR,T.oV,T.tO,Z,aZ,dO,_,Z,fe,Z,_,Z,_,_,Z,aZ,f,c,Z,Z,Iv,ea.mo,nZ,fun D bw=>done D _ bw rfl⟩
theorem aEL(T:Txt K av t):cJ P w K av base (cM P w) 1 t.M7 t.M8 ["self","tag"] (aEC t):=by
 obtain⟨apD,Ub,Uc⟩:=T.k_NO_FILE;refine T.XC.cZ axZ fT.cX ?_;rintro bK A outer s H _ Q E aA ⟨cn,a1,rfl,cT,M,s0,c,rfl,rfl,⟨dx,v,lR,lU⟩,k1⟩;refine⟨_,(aW (gj (pN (yq (bQ (aj 0) Z))) (bk (dM (hc (aD (gW Z Ub Uc) aM)))) hu) (bk (dM (hc (aD (Vj (pN (ab_ (k6 aA) (aj 1) (bQ (bQ (aj 0) Z) Z))) b3 b3) aM))))),?_⟩;apply cB;intros;have done:∀ D (z:Int),H D=none->Sw28.step s0 (.has c)=(s0,(z,[]))->Q (.ref D) (upd H D (.lst [.int z])):=fun D z bw mV=>by
  unfold Tells at k1;rw[mV]at k1;exact k1 D _ (bf.iZ bw) bw a8 (nH.keep ⟨dx,v,lR,lU⟩ (L:=[]) (bf.iZ bw) (by simp) (by simp))
 refine⟨_,Z,cT,_,dx,_,_,Z,lR,T.oV,T.tO,Z,?_⟩;cases s0 with
 |none =>
  have lU:v=.non:=lU;subst lU;exact⟨_,Z,dF (fun _=>⟨nZ,fun D bw=>done D _ bw rfl⟩) fun ak=>absurd (fw rfl) ak⟩
 |some f =>
  obtain⟨aZ,e,hf,ea⟩:=lU;subst e;have Iv:lQ t H aZ f:=mK hC hf;obtain⟨dO,p,Dn,w',bG,vc,gu,gB,fe,_,_,_,_,_,_,ju⟩:=id Iv;obtain⟨dN,kvs,e,mQ,o8⟩:=ao8 ju;subst e;refine⟨_,Z,dF (fun ak=>nomatch h3 ak) fun _=>?_⟩;refine⟨_,Z,_,Z,cT,_,dx,_,_,Z,lR,T.oV,T.tO,Z,aZ,_,dO,_,_,Z,fe,T.gq,T.Ce,Z,?_⟩;refine⟨dN,_,Z,hU.k (k:=bJ c) mQ,_,Z,?_⟩;have DP:(f.features.any fun x=>x.1 == c)=(dY kvs (bJ c)).isSome:=by
   cases z:f.features.find? fun x=>decide (x.1=c)with
   |none =>
    rw[(o8 c).1 z];show _=false;rw[Af]at z;rw[Bool.eq_false_iff];intro q;obtain⟨x,aq,e⟩:=sU.mp q;exact z x aq (fw (v'.mp e))
   |some x =>
    obtain⟨u,cF,_⟩:=(o8 c).2 x z;rw[cF];refine sU.mpr ⟨x,vZ z,v'.mpr ?_⟩;exact h3 (v5 (p:=fun x:Nat×aK×aK=>decide (x.1=c)) z)
  cases z:dY kvs (bJ c)with
  |none=>exact FW ⟨nZ,fun D bw=>done D 0 bw (by
    show(some f,((if(f.features.any fun x=>x.1 == c)=true then(1:Int)else 0),([]:aK)))=_;rw[DP,z];rfl)⟩
  |some u=>exact FZ ⟨nZ,fun D bw=>done D 1 bw (by
    show(some f,((if(f.features.any fun x=>x.1 == c)=true then(1:Int)else 0),([]:aK)))=_;rw[DP,z];rfl)⟩
theorem aEM(T:Txt K av t):cJ P w K av base (cM P w) 6 t.M9 t.M_ ["self","room","characters","tags"] (aED t):=by
 obtain⟨aBC,ahn,aho⟩:=T.k_MOST_SIGNS;obtain⟨apD,Ub,Uc⟩:=T.k_NO_FILE;obtain⟨aH9,aEN,aEO⟩:=T.k_NO_ROOM;obtain⟨aH_,aEP,aEQ⟩:=T.k_TOO_LONG;obtain⟨aH',aER,aES⟩:=T.k_WRONG_NUMBER;refine T.XD.cZ alp nq.cX ?_;rintro bK A outer s H _ Q E aA ⟨cn,a1,a2,a3,rfl,cT,M,s0,cl,tl,z,cs,tags,rfl,rfl,rfl,rfl,⟨dx,v,lR,lU⟩,zL,iV,vl,Di,Kr,k1⟩;refine⟨_,(aW (gj (pN (yq (bQ (aj 0) Z))) (bk (dM (hc (aD (gW Z Ub Uc) aM)))) hu) (aW (gj (PW.pt (abg (gM q_ (aj 1) b3 (fj _)) (abe (gM JV (aj 1) (gW Z ahn aho) (fj _))))) (bk (dM (hc (aD (gW Z aER aES) aM)))) hu) (aW (akV dJ Z T.Xp T.Xq (fun _ _=>(bk (ct (i:=4) alp.nd Z (Or.inl Z) (dI (aD7 T) aA.bh Z T.afx T.RM.aG T.axC .nil bj (aD (rz (K':=K) Z (aj 0) Z) (aD (aj 2) (aD (aj 3) aM))))))) (fun _ _=>(bk (dM (hc (aD (gW Z aEP aEQ) aM)))))) (aW (gj (gM JV (hx iH Z T.hB hN (aD (bQ (aj 4) Z) aM)) (aj 1) (fj _)) (bk (dM (hc (aD (gW Z aEN aEO) aM)))) hu) (bk (dM (dI (aDX T) aA.bh Z T.afy T.RN.aG T.axD .nil bj (aD (aj 4) aM)))))))),?_⟩;apply mc;intros;have done:∀ D H' (lG:Int),aQ H H'->H' D=none->Sw28.step s0 (.set_ cs (cs.length:Nat) tags (tags.length:Nat) z)=(s0,(lG,[]))->Q (.ref D) (upd H' D (.lst [.int lG])):=fun D H' lG s1 bw mV=>by
  unfold Tells at k1;rw[mV]at k1;exact k1 D _ ((hq s1 _).jm bw) (s1.free bw) a8 (nH.keep ⟨dx,v,lR,lU⟩ (L:=[]) ((hq s1 _).jm bw) (by simp) (by simp))
 refine⟨_,Z,cT,_,dx,_,_,Z,lR,T.oV,T.tO,Z,?_⟩;cases s0 with
 |none =>
  have lU:v=.non:=lU;subst lU;exact⟨_,Z,dF (fun _=>⟨nZ,fun D bw=>done D _ _ (aQ.refl _) bw rfl⟩) fun ak=>absurd (fw rfl) ak⟩
 |some f =>
  obtain⟨aZ,e,hf,ea⟩:=lU;subst e;have Iv:lQ t H aZ f:=mK hC hf;refine⟨_,Z,dF (fun ak=>nomatch h3 ak) fun _=>?_⟩;have hw:(within ((cs.length:Nat):Int) 0 1024 && (within ((tags.length:Nat):Int) 0 64 && within z 0 4096))=within z 0 4096:=by
   unfold within;rw[fw (show((0:Nat):Int)<=(cs.length:Nat) by omega),fw (show((cs.length:Nat):Int)<=(1024:Nat) by omega),fw (show((0:Nat):Int)<=(tags.length:Nat) by omega),fw (show((tags.length:Nat):Int)<=(64:Nat) by omega)];simp
  have mV:Sw28.step (some f) (.set_ cs (cs.length:Nat) tags (tags.length:Nat) z)=if within z 0 4096=false then(some f,(-1,[]))else match Sw28.set_ f tags cs with
   |none=>(some f,(-5,[]))
   |some l=>if z<(l.length:Int)then(some f,(-6,[]))else(some f,((l.length:Int),l.flatMap Sw28.told)):=by
   show(if(within ((cs.length:Nat):Int) 0 1024 && (within ((tags.length:Nat):Int) 0 64 && within z 0 4096))=false then _ else _)=_;rw[hw];rfl
  refine⟨_,Z,_,_,Z,Z,_,Z,dF (fun ak=>FZ ⟨nZ,fun D bw=>done D _ _ (aQ.refl _) bw ?_⟩) fun ak=>⟨_,rfl,_,_,rfl,rfl,_,rfl,dF (fun jG=>⟨nZ,fun D bw=>done D _ _ (aQ.refl _) bw ?_⟩) fun jG=>?_⟩⟩
  ·have:within z 0 4096=false:=by
    have:=h3 ak;unfold within;rw[ou (by omega)];rfl
   rw[mV,this];rfl
  ·have:within z 0 4096=false:=by
    have:=h3 jG;unfold within;rw[ou (show ¬ z<=((4096:Nat):Int) by omega),Bool.and_false]
   rw[mV,this];rfl
  have rG:within z 0 4096=true:=by
   have h1:¬ z<0:=fun q=>ak (fw q);have aC:¬ 4096<z:=fun q=>jG (fw q);unfold within;rw[fw (by omega),fw (by omega)];rfl
  rw[rG,bx (by decide)]at mV;refine⟨_,Z,cT,_,dx,_,_,Z,lR,T.oV,T.tO,Z,_,Z,_,Z,_,_,_,Z,aZ,f,cl,tl,cs,tags,Z,Z,Z,Iv,ea,iV,vl,by omega,Kr,fun l H1 row G cR cv dj aH s1 P zx=>?_,fun aH H1 s1=>⟨rfl,fun dg=>⟨nZ,fun D bw=>done D _ _ s1 bw (by rw[mV,aH])⟩⟩⟩;rw[aH]at mV;obtain⟨fY,bG,ca,dR,e3,hY⟩:=P.cY;refine⟨_,Z,row,_,fY,_,_,Z,P.bY _ _ dR,T.eE,T.iw,Z,bG,_,Z,.inl (aT.of (P.bY _ _ e3)),_,Z,_,_,Z,Z,_,Z,dF (fun xT=>⟨nZ,fun D bw=>done D _ _ s1 bw ?_⟩) fun xT=>?_⟩
  ·have:=h3 xT
   simp only[ey]at this;rw[mV];exact bM this
  ·have bI:¬ z<(l.length:Int):=fun q=>xT (fw (by simpa using q))
   simp only[]at mV;rw[bx bI]at mV;refine⟨_,Z,_,Z,row,G,cR,cv,dj,l,Z,P,zx,fun D aB s2 bw jo=>?_⟩;unfold Tells at k1;rw[mV]at k1;refine k1 D aB (hq (s1.trans s2) _) (s1.free bw) ?_ (nH.keep ⟨dx,.ref aZ,lR,aZ,rfl,hf,ea⟩ (L:=[]) (hq (s1.trans s2) _) (by simp) (by simp));rw[jo];simp[aac]
def p0(t:bW)(K:cp)(H:ao)(b0 p:au)(ns:List Int)(n:Nat):Prop:=(∃ dx,H b0=some (.ins t.iY dx [("calls",.ref p),("at",nat n)]))/\aT K H p (ns.map V.int)
theorem aET{H H':ao}{L:d2}{p:au}{xs:List V}(k:bf L H H')(h:aT K H p xs)(aL:p∈L->H p=none):aT K H' p xs:=by
 rcases h with(h|⟨o,h⟩)|h
 ·refine .inl (.inl (k _ _ (fun z=>?_) h));rw[aL z]at h;cases h
 ·refine .inl (.inr ⟨o,k _ _ (fun z=>?_) h⟩);rw[aL z]at h;cases h
 ·exact .inr h
theorem aij{H H':ao}{x p C dx:au}{fs:List (Str×V)}{xs:List V}(k:bf [x] H H')(aq:H x=some (.ins C dx fs))(h:aT K H p xs):aT K H' p xs:=by
 rcases h with(h|⟨o,h⟩)|h
 ·refine .inl (.inl (k _ _ (fun z=>?_) h));simp only[g5]at z;subst z;rw[aq]at h;cases h
 ·refine .inl (.inr ⟨o,k _ _ (fun z=>?_) h⟩);simp only[g5]at z;subst z;rw[aq]at h;cases h
 ·exact .inr h
inductive apE(t:bW)(K:cp)(a:V)(H:ao)(Q:bA)(uz:cN):Prop
 |mk (b0 p ns n):a=.ref b0->p0 t K H b0 p ns n->Q (.bl (decide (n<ns.length))) H->apE t K a H Q uz
def aEU(t:bW)(K:cp):eY:=fc (apE t K)
inductive apF(t:bW)(K:cp)(a:V)(H:ao)(Q:bA)(uz:cN):Prop
 |mk (b0 p ns n z):a=.ref b0->p0 t K H b0 p ns n->ns[n]?=some z->(∀ H',bf [b0] H H'->p0 t K H' b0 p ns (n+1)->Q (.int z) H')->apF t K a H Q uz
def aEV(t:bW)(K:cp):eY:=fc (apF t K)
inductive apG(t:bW)(K:cp)(a:V)(H:ao)(Q:bA)(uz:cN):Prop
 |mk (b0 p ns n) (x r:List Int):a=.ref b0->p0 t K H b0 p ns n->ns.drop n=(x.length:Int)::(x++r)->(∀ D H',bf [b0] H H'->H D=none->H' D=some (.lst (x.map V.int))->p0 t K H' b0 p ns (n+1+x.length)->Q (.ref D) H')->apG t K a H Q uz
def aEW(t:bW)(K:cp):eY:=fc (apG t K)
theorem apH{ns:List Int}{n:Nat}{z:Int}(h:ns[n]?=some z):wQ (ns.map V.int) (n:Int)=some (V.int z):=gO (by rw[ek,h];rfl)
theorem aEX(l:List Int){k n:Nat}(aN:k+n<=l.length):tu (l.map V.int) (some (k:Int)) (some ((k:Int)+(n:Int)))=((l.drop k).take n).map V.int:=by
 unfold tu;rw[show((k:Int)+(n:Int))=((k+n:Nat):Int) by omega,HT.VB,HT.VB,ey,Ea (show k<=l.length by omega),Ea aN,← Ab,← List.map_take,Nat.add_sub_cancel_left]
theorem aEY(T:Txt K av t):cJ P w K av base (cM P w) 1 t.Nb t.Nf ["self","calls"] (fT fun s a H Q _=>∃ x dx,s=.ref x/\H x=some (.ins t.iY dx [])/\Q .non (upd H x (.ins t.iY dx [("calls",a),("at",nat 0)]))):=by
 refine T.XF.cZ ax0 fT.cX ?_;rintro bK A outer s H _ Q E aA ⟨cn,a1,rfl,x,dx,rfl,aq,k1⟩;refine⟨_,(aW (eX (aj 0) (aj 1) Z) (bk (eX (aj 0) b3 Z))),?_⟩;apply cB;intros;refine⟨_,Z,_,Z,x,_,dx,_,Z,aq,T.kI,T.Ck,by show 0<1000;decide,?_⟩;refine⟨_,Z,x,_,dx,_,Z,a8,T.kI,T.w7,by show 1<1000;decide,?_⟩;rw[ih];exact k1
theorem aEZ(T:Txt K av t):cJ P w K av base (cM P w) 1 t.Ng t.Nh ["self"] (aEU t K):=by
 refine T.XH.cZ ax1 fc.cX ?_;rintro bK A outer s H _ Q E aA ⟨cn,rfl,b0,p,ns,n,rfl,⟨⟨dx,ju⟩,aL⟩,k1⟩;refine⟨_,(bk (dM (nR q_ (bQ (aj 0) Z) (hx iH Z T.hB hN (aD (bQ (aj 0) Z) aM)) (fj _)))),?_⟩;refine⟨_,Z,b0,_,dx,_,_,Z,ju,T.kI,T.w7,Z,_,Z,b0,_,dx,_,_,Z,ju,T.kI,T.Ck,Z,p,_,Z,.inl aL,_,_,Z,Z,?_⟩;have e:decide ((n:Int)<(((ns.map V.int).length:Nat):Int))=decide (n<ns.length):=by
  rw[ey];exact wg.mpr (by omega)
 show Q (.bl (decide ((n:Int)<(((ns.map V.int).length:Nat):Int)))) H;rw[e];exact k1
theorem aad(T:Txt K av t):cJ P w K av base (cM P w) 1 t.Ni t.Nj ["self"] (aEV t K):=by
 refine T.XJ.cZ ax2 fc.cX ?_;rintro bK A outer s H _ Q E aA ⟨cn,rfl,b0,p,ns,n,z,rfl,⟨⟨dx,ju⟩,aL⟩,hz,k1⟩;refine⟨_,(aW (ajY (aj 0) b3 ajZ) (bk (dM (eO gA (bQ (aj 0) Z) (fa ky (bQ (aj 0) Z) b3) (fun _ _=>Z))))),?_⟩;apply cB;intros;refine⟨_,Z,b0,_,dx,_,_,Z,ju,T.kI,T.w7,Z,_,_,Z,Z,dx,_,ju,by show 2<1000;decide,?_⟩;have aG:bf [b0] H (upd H b0 (.ins t.iY dx (cC "at" (.int ((n:Int)+1)) [("calls",.ref p),("at",nat n)]))):=bf.pT (by simp);have xY:(upd H b0 (.ins t.iY dx (cC "at" (.int ((n:Int)+1)) [("calls",.ref p),("at",nat n)]))) b0=some (.ins t.iY dx [("calls",.ref p),("at",nat (n+1))]):=a8;show c4 _ _ _ _ _;generalize upd H b0 (.ins t.iY dx (cC "at" (.int ((n:Int)+1)) [("calls",.ref p),("at",nat n)]))=H1 at *;have Ud:=aij aG ju aL;exact⟨_,Z,b0,_,dx,_,_,Z,xY,T.kI,T.Ck,Z,_,Z,b0,_,dx,_,_,Z,xY,T.kI,T.w7,Z,_,_,Z,Z,p,_,_,_,Z,Z,Ud,by
  have:=apH hz;rw[show((n+1:Nat):Int)-1=(n:Int) by omega];exact this,k1 H1 aG ⟨⟨dx,xY⟩,Ud⟩⟩
theorem aik(T:Txt K av t):cJ P w K av base (cM P w) 1 t.Nk t.Nm ["self"] (aEW t K):=by
 refine T.XK.cZ alq fc.cX ?_;rintro bK A outer s H _ Q E aA ⟨cn,rfl,b0,p,ns,n,x,r,rfl,⟨⟨dx,ju⟩,aL⟩,hd,k1⟩;refine⟨_,(aW (ct (i:=1) alq.nd Z (Or.inl Z) (fa m8 (bQ (aj 0) Z) b3)) (aW (eX (aj 0) (fa m8 (aj 1) (eO gA (bQ (aj 0) Z) (fa ky (aj 1) b3) (fun _ _=>Z))) Z) (bk (dM (VD VG (bQ (aj 0) Z) (yx (aj 1)) (yx (bQ (aj 0) Z))))))),?_⟩;apply dZ;intros;have aR:ns[n]?=some (x.length:Int):=by
  have:=congrArg (fun l:List Int=>l[0]?) hd;simpa using this
 have aF:n+1+x.length<=ns.length:=by
  have:=congrArg List.length hd;rw[od,eo,gC]at this;omega
 have aq:(ns.drop (n+1)).take x.length=x:=by
  rw[show n+1=n+1 from rfl,← Am,hd];simp
 refine⟨_,Z,b0,_,dx,_,_,Z,ju,T.kI,T.w7,Z,_,_,Z,Z,?_⟩;refine⟨_,Z,_,Z,b0,_,dx,_,_,Z,ju,T.kI,T.Ck,Z,_,Z,_,_,Z,Z,p,_,_,_,Z,Z,aL,by
  rw[show(n:Int)+1-1=(n:Int) by omega];exact apH aR,_,_,Z,Z,_,Z,b0,_,dx,_,Z,ju,T.kI,T.w7,by show 2<1000;decide,?_⟩
 have aG:bf [b0] H (upd H b0 (.ins t.iY dx (cC "at" (.int ((n:Int)+1+(x.length:Int))) [("calls",.ref p),("at",nat n)]))):=bf.pT (by simp);have xY:(upd H b0 (.ins t.iY dx (cC "at" (.int ((n:Int)+1+(x.length:Int))) [("calls",.ref p),("at",nat n)]))) b0=some (.ins t.iY dx [("calls",.ref p),("at",nat (n+1+x.length))]):=by
  rw[a8];show some (HO.ins t.iY dx [("calls",.ref p),("at",.int ((n:Int)+1+(x.length:Int)))])=_;rw[show(n:Int)+1+(x.length:Int)=((n+1+x.length:Nat):Int) by omega]
 dsimp only;generalize upd H b0 (.ins t.iY dx (cC "at" (.int ((n:Int)+1+(x.length:Int))) [("calls",.ref p),("at",nat n)]))=H1 at *;have Ud:=aij aG ju aL;have ec:tu (ns.map V.int) (some ((n:Int)+1)) (some ((n+1+x.length:Nat):Int))=x.map V.int:=by
  have:=aEX ns (k:=n+1) (n:=x.length) aF;rw[aq]at this;rw[← this];congr 2
 refine⟨_,Z,b0,_,dx,_,_,Z,xY,T.kI,T.Ck,Z,_,Z,_,Z,_,Z,b0,_,dx,_,_,Z,xY,T.kI,T.w7,Z,_,Z,p,_,Z,Ud,fun D bw=>?_⟩;refine k1 D _ (aG.jm bw) (aG.free (fun z=>?_) bw) (by rw[a8,ec]) ⟨⟨dx,by rw[a7 (bR xY bw)];exact xY⟩,aET (L:=[]) (bf.iZ bw) Ud (by simp)⟩;simp only[g5]at z;rw[z,xY]at bw;cases bw
def ail:Prop:=∀ (bs:aK) (f:Font),(∀ b∈bs,b<256)->qm bs=some f->pG f
inductive apI(t:bW)(K:cp)(a b:V)(H:ao)(Q:bA)(rR:cN):Prop
 |mk (cT b0 M s p ns n c r):a=.ref cT->b=.ref b0->nH t M H cT s->p0 t K H b0 p ns n->cT∈M->b0∈M->(∀ b∈M,H b≠none)->Shaped (ns.drop n) c r->Sw28Neutral.asked1 (PySw28.whole c)=true->ail->(∀ D H' n',bf [cT,b0] H H'->H D=none->H' D=some (.lst ((Sw28Neutral.step s (PySw28.whole c)).2.map V.int))->nH t M H' cT (Sw28Neutral.step s (PySw28.whole c)).1->p0 t K H' b0 p ns n'->ns.drop n'=r->n<n'->n'<=ns.length->Q (.ref D) H')->apI t K a b H Q rR
def aE0(t:bW)(K:cp):eY:=fT (apI t K)
theorem p0.keep{H H':ao}{b0 p cT C dx:au}{fs:List (Str×V)}{ns:List Int}{n:Nat}(F:p0 t K H b0 p ns n)(k:bf [cT] H H')(aH:H cT=some (.ins C dx fs))(aR:b0≠cT):p0 t K H' b0 p ns n:=by
 obtain⟨⟨dx,h⟩,aL⟩:=F;exact⟨⟨dx,k _ _ (by simpa using aR) h⟩,aij k aH aL⟩
theorem DX{ns:List Int}{n:Nat}{z:Int}{r:List Int}(h:ns.drop n=z::r):ns[n]?=some z/\ns.drop (n+1)=r/\n+1<=ns.length:=by
 refine⟨?_,?_,?_⟩
 ·have:=congrArg (fun l:List Int=>l[0]?) h
  simpa using this
 ·rw[← Am,h];rfl
 ·have:=congrArg List.length h
  rw[od,eo]at this;omega
theorem ain{ns x r:List Int}{n:Nat}(h:ns.drop n=x++r):ns.drop (n+x.length)=r:=by
 rw[← Am,h];simp
theorem Ue{cT b0:au}{H H':ao}(k:bf [cT] H H'):bf [cT,b0] H H':=k.mono (by simp)
theorem uE{cT b0:au}{H H':ao}(k:bf [b0] H H'):bf [cT,b0] H H':=k.mono (by simp)
theorem ints_map(l:aK):(l.map fun n:Nat=>(n:Int)).map V.int=l.map nat:=by rw[kj];rfl
theorem aE1{s:Sw28.St}{c:List (List Int)}{x:Sw28.Call}(h:Sw28Neutral.callOf c=some x):(Sw28Neutral.step s c).2=aac (Sw28.step s x)/\(Sw28Neutral.step s c).1=(Sw28.step s x).1:=by
 unfold Sw28Neutral.step;rw[h];exact⟨Z,Z⟩
theorem aE2(T:Txt K av t):cJ P w K av base (cM P w) 16 t.Qw t.Qx ["session","feed"] (aE0 t K):=by
 obtain⟨aIa,aE3,aE4⟩:=T.k_SG_HAS;obtain⟨aIb,aE5,aE6⟩:=T.k_SG_OPEN;obtain⟨aIc,aE7,aE8⟩:=T.k_SG_SIGN;obtain⟨aIe,aE9,aE_⟩:=T.k_SG_START;refine T.RP.cZ Yi fT.cX ?_;rintro bK A outer s H _ Q E aA ⟨cn,a1,rfl,cT,b0,M,s0,p,ns,n,c,r,rfl,rfl,RS,FE,lR,ju,aif,DY,z4,aio,k1⟩;refine⟨_,(aW (ct (i:=2) Yi.nd Z (Or.inl Z) (gv (aj 1) T.kI T.Gw (aad T) aA.bh T.X8 .nil bj)) (aW (gj (gM jO (aj 2) (gW Z aE9 aE_) (fj _)) (bk (dM (gv (aj 0) T.oV T.aeO (aEF T) aA.bh T.awU .nil bj))) hu) (aW (gj (gM jO (aj 2) (gW Z aE5 aE6) (fj _)) (bk (dM (fl (aj 0) T.oV T.aeP (aEG T) aA.bh T.awV .nil bj (aD (gv (aj 1) T.kI T.QW (aik T) aA.bh T.afH .nil bj) aM)))) hu) (aW (gj (gM jO (aj 2) (gW Z aE7 aE8) (fj _)) (bk (dM (fl (aj 0) T.oV T.aeQ (aEK T) aA.bh T.awW .nil bj (aD (gv (aj 1) T.kI T.Gw (aad T) aA.bh T.X8 .nil bj) aM)))) hu) (aW (gj (gM jO (aj 2) (gW Z aE3 aE4) (fj _)) (bk (dM (fl (aj 0) T.oV T.aeR (aEL T) aA.bh T.awX .nil bj (aD (gv (aj 1) T.kI T.Gw (aad T) aA.bh T.X8 .nil bj) aM)))) hu) (aW (ct (i:=3) Yi.nd Z (Or.inl Z) (gv (aj 1) T.kI T.Gw (aad T) aA.bh T.X8 .nil bj)) (aW (ct (i:=4) Yi.nd Z (Or.inl Z) (gv (aj 1) T.kI T.QW (aik T) aA.bh T.afH .nil bj)) (bk (dM (fl (aj 0) T.oV T.aeS (aEM T) aA.bh T.awY .nil bj (aD (aj 3) (aD (aj 4) (aD (gv (aj 1) T.kI T.QW (aik T) aA.bh T.afH .nil bj) aM))))))))))))),?_⟩;apply Gh;intros;have sO:b0≠cT:=by
  obtain⟨dx,v,h1,_⟩:=RS;obtain⟨⟨aIf,aC⟩,_⟩:=FE;exact hO aC h1 (by
   intro z;injection z with _ _ eH
   have:=congrArg List.length eH;simp at this)
 have hd:∃ z l,ns.drop n=z::l/\((z=1/\c=[[1]]/\l=r)\/(∃ x:List Int,z=2/\c=[[2],x]/\l=(x.length:Int)::(x++r))\/(∃ u,z=3/\c=[[3,u]]/\l=u::r)\/(∃ u,z=4/\c=[[4,u]]/\l=u::r)\/∃ u,∃ x y:List Int,z=5/\c=[[5,u],x,y]/\l=u::(x.length:Int)::(x++(y.length:Int)::(y++r))):=by
  generalize ns.drop n=Ay at DY;cases DY with
  |start=>exact⟨_,_,Z,.inl ⟨Z,Z,Z⟩⟩
  |open_ x=>exact⟨_,_,Z,.inr (.inl ⟨x,rfl,rfl,rfl⟩)⟩
  |sign u=>exact⟨_,_,Z,.inr (.inr (.inl ⟨u,rfl,rfl,rfl⟩))⟩
  |has u=>exact⟨_,_,Z,.inr (.inr (.inr (.inl ⟨u,rfl,rfl,rfl⟩)))⟩
  |set_ u x y=>exact⟨_,_,Z,.inr (.inr (.inr (.inr ⟨u,x,y,rfl,rfl,rfl⟩)))⟩
 obtain⟨z,l,V7,hd⟩:=hd;obtain⟨hz,aF,aR⟩:=DX V7;obtain⟨⟨dO,iR⟩,_⟩:=id FE;refine⟨_,Z,b0,dO,_,Z,iR,Z,_,Z,b0,p,ns,n,z,Z,FE,hz,fun H1 cD FE1=>?_⟩;have Iw:=RS.keep cD (by simpa using ju) (by simpa using sO.symm);have aE':∀ b∈M,H1 b≠none:=fun b ak=>bf.dom cD (by obtain⟨⟨dx,h⟩,_⟩:=FE1;simp only[g5];rintro b rfl;rw[h];simp) b (aif b ak);have fresh:∀ {D:au},H1 D=none->H D=none:=fun{D} h=>cD.free (fun z=>(by
  obtain⟨⟨dx,h'⟩,_⟩:=FE1;simp only[g5]at z;rw[z,h']at h;cases h)) h
 have fin:∀ x D aB n',Sw28Neutral.callOf (PySw28.whole c)=some x->bf [cT,b0] H aB->H D=none->aB D=some (.lst ((aac (Sw28.step s0 x)).map V.int))->nH t M aB cT (Sw28.step s0 x).1->p0 t K aB b0 p ns n'->ns.drop n'=r->n<n'->n'<=ns.length->Q (.ref D) aB:=fun x D aB n' aV aG bw jo qX FE2 aA YQ m9=>by
  obtain⟨bF,a9⟩:=aE1 (s:=s0) aV;exact k1 D aB n' aG bw (by rw[bF];exact jo) (by rw[a9];exact qX) FE2 aA YQ m9
 obtain⟨sS,qW,d1,_⟩:=id Iw;obtain⟨⟨aae,uo⟩,_⟩:=id FE1;have dom:∀ {H1 aB:ao} {m:Nat},(∀ b∈M,H1 b≠none)->bf [b0] H1 aB->p0 t K aB b0 p ns m->∀ b∈M,aB b≠none:=fun{H1 aB m} h k F b ak=>bf.dom k (by
  obtain⟨⟨dx,h⟩,_⟩:=F;simp only[g5];rintro b rfl;rw[h];simp) b (h b ak)
 have free:∀ {H1 aB:ao} {D:au} {m:Nat},bf [b0] H1 aB->p0 t K aB b0 p ns m->aB D=none->H1 D=none:=fun{H1 aB D m} k F h=>k.free (fun z=>(by
  obtain⟨⟨dx,h'⟩,_⟩:=F;simp only[g5]at z;rw[z,h']at h;cases h)) h
 have aIg:∀ {aB:ao} {m:Nat},p0 t K aB b0 p ns m->m<=ns.length->True:=fun _ _=>trivial;rcases hd with⟨rfl,rfl,rfl⟩|⟨x,rfl,rfl,rfl⟩|⟨u,rfl,rfl,rfl⟩|⟨u,rfl,rfl,rfl⟩|⟨u,x,y,rfl,rfl,rfl⟩
 ·refine⟨_,Z,Z,_,Z,dF (fun _=>?_) fun ak=>absurd (fw rfl) ak⟩;exact⟨_,Z,cT,sS,_,Z,d1,Z,_,Z,cT,M,s0,Z,Iw,fun D aB bZ bw jo qX=>fin .start D aB (n+1) rfl ((uE cD).trans (Ue bZ)) (fresh bw) jo qX (FE1.keep bZ d1 sO) aF (by omega) aR⟩
 ·refine⟨_,Z,Z,_,Z,dF (fun ak=>absurd (j9 ak) (by decide)) fun _=>?_⟩;refine⟨_,Z,Z,_,Z,dF (fun _=>?_) fun ak=>absurd (fw rfl) ak⟩;obtain⟨h1,aC⟩:=arx z4;have ex:=aa1 fun z hz=>(h1 z hz).1;obtain⟨_,oO,m9⟩:=DX aF;have ZX:=ain oO;have ZQ:n+1+1+x.length<=ns.length:=by
   have:=congrArg List.length oO;rw[od,gC]at this;omega
  refine⟨_,Z,cT,sS,_,Z,d1,Z,_,Z,b0,aae,_,Z,uo,Z,_,Z,b0,p,ns,n+1,x,r,Z,FE1,aF,fun D aB bZ bw jo FE2=>?_⟩;have qX:=Iw.keep bZ (by simpa using ju) (by simpa using sO.symm);obtain⟨apJ,apK,Ug,_⟩:=id qX;rw[ex,ints_map]at jo;have hlen:(Sw28Neutral.nats x).length=x.length:=by simp[Sw28Neutral.nats]
  refine⟨_,_,Z,cT,M,s0,D,Sw28Neutral.nats x,Z,Z,qX,lR,dom aE' bZ FE2,jo,fun b ak=>?_,by rw[hlen];exact aC,fun f hf=>aio _ f (fun b ak=>?_) hf,fun D3 aJ dh o2 Uh z5=>?_⟩
  ·obtain⟨z,hz,rfl⟩:=g6.mp ak;have:=h1 z hz;omega
  ·obtain⟨z,hz,rfl⟩:=g6.mp ak;have:=h1 z hz;omega
  ·refine fin (.open_ (Sw28Neutral.nats x) ((Sw28Neutral.nats x).length:Nat)) D3 aJ (n+1+1+x.length) (by rw[hlen];rfl) ((uE cD).trans ((uE bZ).trans (Ue dh))) (fresh (free bZ FE2 o2)) Uh z5 (FE2.keep dh Ug sO) ZX (by omega) ZQ
 ·refine⟨_,Z,Z,_,Z,dF (fun ak=>absurd (j9 ak) (by decide)) fun _=>?_⟩;refine⟨_,Z,Z,_,Z,dF (fun ak=>absurd (j9 ak) (by decide)) fun _=>?_⟩;refine⟨_,Z,Z,_,Z,dF (fun _=>?_) fun ak=>absurd (fw rfl) ak⟩;have cF:=(Jx (show Sw28Neutral.natural u 32=true from z4)).1;obtain⟨sI,oO,m9⟩:=DX aF;refine⟨_,Z,cT,sS,_,Z,d1,Z,_,Z,b0,aae,_,Z,uo,Z,_,Z,b0,p,ns,n+1,u,Z,FE1,sI,fun aB bZ FE2=>?_⟩;have qX:=Iw.keep bZ (by simpa using ju) (by simpa using sO.symm);obtain⟨apJ,apK,Ug,_⟩:=id qX;exact⟨_,_,Z,cT,M,s0,u.toNat,Z,by show V.int u=V.int (u.toNat:Int);rw[I5 cF],qX,fun D3 aJ dh o2 Uh z5=>fin (.sign u.toNat) D3 aJ (n+1+1) rfl ((uE cD).trans ((uE bZ).trans (Ue dh))) (fresh (free bZ FE2 o2)) Uh z5 (FE2.keep dh Ug sO) oO (by omega) m9⟩
 ·refine⟨_,Z,Z,_,Z,dF (fun ak=>absurd (j9 ak) (by decide)) fun _=>?_⟩;refine⟨_,Z,Z,_,Z,dF (fun ak=>absurd (j9 ak) (by decide)) fun _=>?_⟩;refine⟨_,Z,Z,_,Z,dF (fun ak=>absurd (j9 ak) (by decide)) fun _=>?_⟩;refine⟨_,Z,Z,_,Z,dF (fun _=>?_) fun ak=>absurd (fw rfl) ak⟩;have cF:=(Jx (show Sw28Neutral.natural u 32=true from z4)).1;obtain⟨sI,oO,m9⟩:=DX aF;refine⟨_,Z,cT,sS,_,Z,d1,Z,_,Z,b0,aae,_,Z,uo,Z,_,Z,b0,p,ns,n+1,u,Z,FE1,sI,fun aB bZ FE2=>?_⟩;have qX:=Iw.keep bZ (by simpa using ju) (by simpa using sO.symm);obtain⟨apJ,apK,Ug,_⟩:=id qX;exact⟨_,_,Z,cT,M,s0,u.toNat,Z,by show V.int u=V.int (u.toNat:Int);rw[I5 cF],qX,fun D3 aJ dh o2 Uh z5=>fin (.has u.toNat) D3 aJ (n+1+1) rfl ((uE cD).trans ((uE bZ).trans (Ue dh))) (fresh (free bZ FE2 o2)) Uh z5 (FE2.keep dh Ug sO) oO (by omega) m9⟩
 ·refine⟨_,Z,Z,_,Z,dF (fun ak=>absurd (j9 ak) (by decide)) fun _=>?_⟩;refine⟨_,Z,Z,_,Z,dF (fun ak=>absurd (j9 ak) (by decide)) fun _=>?_⟩;refine⟨_,Z,Z,_,Z,dF (fun ak=>absurd (j9 ak) (by decide)) fun _=>?_⟩;refine⟨_,Z,Z,_,Z,dF (fun ak=>absurd (j9 ak) (by decide)) fun _=>?_⟩;obtain⟨h1,aC,bI,dz⟩:=arz z4;have ex:=aa1 h1;have gk:=aa1 aC;have aFa:(Sw28Neutral.nats x).length=x.length:=by simp[Sw28Neutral.nats]
  have aFb:(Sw28Neutral.nats y).length=y.length:=by simp[Sw28Neutral.nats]
  obtain⟨sI,oO,m9⟩:=DX aF;obtain⟨_,ZX,ZQ⟩:=DX oO;have apL:=ain ZX;obtain⟨_,apM,Dx⟩:=DX apL;have ZJ:=ain apM;have aFc:n+1+1+1+x.length+1+y.length<=ns.length:=by
   have:=congrArg List.length apM;rw[od,gC]at this;omega
  refine⟨_,Z,b0,aae,_,Z,uo,Z,_,Z,b0,p,ns,n+1,u,Z,FE1,sI,fun aB bZ FE2=>?_⟩;obtain⟨⟨aFd,vH⟩,_⟩:=id FE2;refine⟨_,Z,b0,aFd,_,Z,vH,Z,_,Z,b0,p,ns,n+1+1,x,_,Z,FE2,oO,fun apO aJ dh aIh apP FE3=>?_⟩;obtain⟨⟨aFe,HX⟩,_⟩:=id FE3;have qX:=Iw.keep bZ (by simpa using ju) (by simpa using sO.symm);have z5:=qX.keep dh (by simpa using ju) (by simpa using sO.symm);obtain⟨aFf,aIi,mR,_⟩:=id z5;refine⟨_,Z,cT,aFf,_,Z,mR,Z,_,Z,_,Z,_,Z,b0,aFe,_,Z,HX,Z,_,Z,b0,p,ns,n+1+1+1+x.length,y,r,Z,FE3,apL,fun z1 bC dG ahC apQ FE4=>?_⟩;have apR:=z5.keep dG (by simpa using ju) (by simpa using sO.symm);obtain⟨aIj,aIk,ahz,_⟩:=id apR;have zP:apO≠b0:=fun z=>by
   obtain⟨⟨dx,h⟩,_⟩:=FE3;rw[← z,apP]at h;cases h
  have apS:=dG _ _ (by simpa using zP) apP;rw[ex,ints_map]at apS;rw[gk,ints_map]at apQ;refine⟨_,_,_,_,Z,cT,M,s0,apO,z1,u,Sw28Neutral.nats x,Sw28Neutral.nats y,Z,Z,Z,Z,apR,lR,apS,apQ,by omega,by omega,fun D5 b2 fX xK aFg aip=>?_⟩;refine fin (.set_ (Sw28Neutral.nats x) ((Sw28Neutral.nats x).length:Nat) (Sw28Neutral.nats y) ((Sw28Neutral.nats y).length:Nat) u) D5 b2 (n+1+1+1+x.length+1+y.length) (by rw[aFa,aFb];rfl) ((uE cD).trans ((uE bZ).trans ((uE dh).trans ((uE dG).trans (Ue fX))))) (fresh (free bZ FE2 (free dh FE3 (free dG FE4 xK)))) aFg aip (FE4.keep fX ahz sO) ZJ (by omega) aFc
theorem aFh{ns:List Int}(h:PySw28.answers_asked ns=true):∃ cs,PyFlat.calls PySw28.shape ns.length ns=some cs/\cs.length<=300/\(∀ c∈cs,Sw28Neutral.asked1 (PySw28.whole c)=true)/\PySw28.answers ns=PyFlat.told (PyFlat.played Sw28Neutral.step Sw28Neutral.start (cs.map PySw28.whole)):=by
 unfold PySw28.answers_asked at h;cases e:PyFlat.calls PySw28.shape ns.length ns with
 |none =>
  have:PySw28.calls ns=none:=by unfold PySw28.calls;rw[e]
  rw[this]at h;cases h
 |some cs =>
  have ec:PySw28.calls ns=some (cs.map PySw28.whole):=by unfold PySw28.calls;rw[e]
  rw[ec]at h;simp only[jf]at h;have h1:=h3 h.1;have aC:=h.2;unfold Sw28Neutral.asked at aC;simp only[jf,rU]at aC;refine⟨cs,Z,by simpa using h1,fun c aV=>aC.1 _ (g6.mpr ⟨c,aV,rfl⟩),?_⟩;unfold PySw28.answers;rw[ec]
theorem aFi{fuel:Nat}{q:Int}{l:List Int}{cs:List (List (List Int))}(h:PyFlat.calls PySw28.shape fuel (q::l)=some cs):∃ c r z6 aiq,cs=c::z6/\Shaped (q::l) c r/\PyFlat.calls PySw28.shape aiq r=some z6:=by
 match fuel,h with
 |0,h=>cases h
 |f+1,h =>
  rw[PyFlat.calls]at h;cases e:PyFlat.call PySw28.shape (q::l)with
  |none=>rw[e]at h;cases h
  |some y =>
   obtain⟨c,r⟩:=y;rw[e]at h;simp only[]at h;cases a9:PyFlat.calls PySw28.shape f r with
   |none=>rw[a9]at h;cases h
   |some z6 =>
    rw[a9]at h;cases h;exact⟨c,r,z6,f,Z,arw e,a9⟩
def apT(t:bW)(K:cp)(H:ao)(p cT b0 jW:au)(ns:List Int)(m:Nat)(σ:St)(aB:ao):Prop :=
 ∃ s n cs acc fuel s4,σ=[some (.ref p),some (.ref cT),some (.ref b0),some (.ref jW),s4]/\m=ns.length-n/\nH t [cT,b0,jW] aB cT s/\p0 t K aB b0 p ns n/\aB jW=some (.lst ((acc:List Int).map V.int))/\PyFlat.calls PySw28.shape fuel (ns.drop n)=some cs/\(∀ c∈cs,Sw28Neutral.asked1 (PySw28.whole c)=true) /\
  acc++PyFlat.told (PyFlat.played Sw28Neutral.step s (cs.map PySw28.whole))=PySw28.answers ns/\acc.length+20500 * cs.length<=6150000/\n<=ns.length/\aQ H aB
inductive apU(t:bW)(K:cp)(a:V)(H:ao)(Q:bA)(uz:cN):Prop
 |mk (p ns):a=.ref p->aT K H p (ns.map V.int)->PySw28.answers_asked ns=true->ail->(∀ D H',H' D=some (.lst ((PySw28.answers ns).map V.int))->aQ H H'->Q (.ref D) H')->apU t K a H Q uz
def apV(t:bW)(K:cp):eY:=fc (apU t K)
theorem aFj(T:Txt K av t):cJ P w K av base (cM P w) 17 t.Qy t.Wk ["calls"] (apV t K):=by
 refine T.X3.cZ RW fc.cX ?_;rintro bK A outer s H _ Q E aA ⟨cn,rfl,p,ns,rfl,aL,z4,aio,k1⟩;refine⟨_,(aW (ct (i:=1) RW.nd Z (Or.inl Z) (aj2 T.aeN (aEE T) aA.bh Z T.aeM T.awT .nil bj)) (aW (ct (i:=2) RW.nd Z (Or.inl Z) (qD T.aeU (aEY T) aA.bh Z T.aeT T.awZ .nil bj (aD (aj 0) aM))) (aW (ct (i:=3) RW.nd Z (Or.inl Z) (hc aM)) (aW (Vp (gP dJ Z) (Bq (gv (aj 2) T.kI T.aeV (aEZ T) aA.bh T.aw0 .nil bj) (fun _=>Z)) (aW (ct (i:=4) RW.nd Z (Or.inl Z) (dI (aE2 T) aA.bh Z T.afz T.RP.aG T.axE .nil bj (aD (aj 1) (aD (aj 2) aM)))) (aW (et (mA lW pn pq pQ (aj 3) (aD (hx iH Z T.hB hN (aD (aj 4) aM)) aM))) (bk (et (mA lW Uo Uq VH (aj 3) (aD (aj 4) aM))))))) (bk (dM (aj 3))))))),?_⟩;apply mc;intros;obtain⟨aFk,xQ,aIl,hY,aFl⟩:=aFh z4;intro cT sS apW aFm aIm;refine⟨_,Z,cT,sS,Z,a8,Z,?_⟩;rw[ih];have s1:aQ H (iK H cT sS t.jx [("font",.non)]):=n3 apW aFm;have j2:(iK H cT sS t.jx [("font",.non)]) cT=some (.ins t.jx sS [("font",.non)]):=rA;show c4 _ _ _ _ (iK H cT sS t.jx [("font",.non)]);generalize iK H cT sS t.jx [("font",.non)]=H1 at *;refine⟨_,Z,?_⟩;intro b0 dO Tn Zi aIn;refine⟨_,_,Z,b0,dO,Z,a8,Z,?_⟩;rw[ih];have s2:aQ H1 (iK H1 b0 dO t.iY [("calls",.ref p),("at",nat 0)]):=n3 Tn Zi;have vH:(iK H1 b0 dO t.iY [("calls",.ref p),("at",nat 0)]) b0=some (.ins t.iY dO [("calls",.ref p),("at",nat 0)]):=rA;show c4 _ _ _ _ (iK H1 b0 dO t.iY [("calls",.ref p),("at",nat 0)]);generalize iK H1 b0 dO t.iY [("calls",.ref p),("at",nat 0)]=aB at *;refine⟨eZ _,fun jW aaf=>?_⟩;have s3:aQ aB (upd aB jW (.lst [])):=ei (aQ.refl _) aaf;have aFo:(upd aB jW (.lst [])) jW=some (.lst []):=a8;generalize upd aB jW (.lst [])=aJ at *;have ob:=s1.trans (s2.trans s3);have aFp:H cT=none:=apW;have aFq:H b0=none:=s1.free Tn;have aFr:H jW=none:=(s1.trans s2).free aaf;have anw:cT≠b0:=bR j2 Tn;have apY:cT≠jW:=bR (s2 _ _ j2) aaf;have apZ:b0≠jW:=bR vH aaf;have hsz:sizeLine=16777216:=sizeLine_eq;refine⟨apT t K H p cT b0 jW ns,⟨_,⟨none,0,aFk,[],ns.length,_,Z,Z,⟨sS,_,s3 _ _ (s2 _ _ j2),Z⟩,⟨⟨dO,s3 _ _ vH⟩,ob.seq aL⟩,aFo,xQ,hY,by rw[aFl];rfl,by simp only[rY];omega,eZ _,ob⟩⟩,?_⟩;rintro m σ bC ⟨s0,n,cs,acc,fuel,s4,rfl,rfl,RS,FE,b5,iV,ap0,rp,hlen,aR,Ih⟩;obtain⟨⟨aFs,Hu⟩,_⟩:=id FE;refine⟨_,Z,b0,aFs,_,Z,Hu,Z,_,Z,b0,p,ns,n,Z,FE,_,Z,dF (fun ak=>?_) fun ak=>?_⟩
 ·have c0:n<ns.length:=h3 ak
  have ap1:ns.drop n=ns[n]::ns.drop (n+1):=z8 c0;rw[ap1]at iV;obtain⟨c,r,z6,aiq,rfl,DY,aFt⟩:=aFi iV;rw[← ap1]at DY;refine⟨fun dg H'=>∃ dU,dU<ns.length-n/\apT t K H p cT b0 jW ns dU dg H',fun _ _ h=>h,?_⟩;refine⟨_,Z,_,Z,_,_,Z,cT,b0,[cT,b0,jW],s0,p,ns,n,c,r,Z,Z,RS,FE,by simp,by simp,fun b ak=>?_,DY,ap0 c h_,aio,fun D b2 n' aG bw xK aip FE5 aFu YQ m9=>?_⟩
  ·obtain⟨dx,v,d1,_⟩:=RS;simp only[gR,Ek,or_false]at ak;rcases ak with rfl|rfl|rfl
   ·rw[d1];simp
   ·rw[Hu];simp
   ·rw[b5];simp
  have Ie:=aG _ _ (by simp[apY.symm,apZ.symm]) b5;have aFv:D≠jW:=fun z=>by rw[z,b5]at bw;cases bw
  have aFw:aQ H b2:=fun b o e=>aG b o (by
   simp only[gR,Ek,or_false];rintro(rfl|rfl)
   ·rw[aFp]at e;cases e
   ·rw[aFq]at e;cases e) (Ih _ _ e)
  have yP:=arB s0 (PySw28.whole c);have aFx:PyFlat.told (PyFlat.played Sw28Neutral.step s0 ((c::z6).map PySw28.whole))=((Sw28Neutral.step s0 (PySw28.whole c)).2.length:Int)::(Sw28Neutral.step s0 (PySw28.whole c)).2++PyFlat.told (PyFlat.played Sw28Neutral.step (Sw28Neutral.step s0 (PySw28.whole c)).1 (z6.map PySw28.whole)):=by
   simp[PyFlat.told,PyFlat.played]
  rw[aFx]at rp;generalize (Sw28Neutral.step s0 (PySw28.whole c)).2=vU at *;generalize (Sw28Neutral.step s0 (PySw28.whole c)).1=aFy at *;rw[eo]at hlen;refine⟨_,Z,.inl ⟨Z,_,aT.of Ie⟩,_,Z,D,_,Z,.inl (aT.of xK),jW,_,_,Z,Z,Ie,by rw[ey];omega,?_⟩;have ap2:(upd b2 jW (.lst (acc.map V.int++[V.int ((vU.map V.int).length:Nat)]))) jW=some (.lst (acc.map V.int++[V.int ((vU.map V.int).length:Nat)])):=a8;have ah7:(upd b2 jW (.lst (acc.map V.int++[V.int ((vU.map V.int).length:Nat)]))) D=some (.lst (vU.map V.int)):=by rw[a7 aFv];exact xK
  refine⟨_,Z,.inl ⟨Z,_,aT.of ap2⟩,_,Z,jW,D,_,_,Z,Z,ap2,ah7,by simp only[gC,ey,eo,rY];omega,?_⟩;rw[ih];have air:bf [jW] b2 (upd b2 jW (.lst (acc.map V.int++[V.int ((vU.map V.int).length:Nat)]++vU.map V.int))):=bf.pT (by simp);have ap3:aQ H (upd b2 jW (.lst (acc.map V.int++[V.int ((vU.map V.int).length:Nat)]++vU.map V.int))):=fun b o e=>air b o (by
   simp only[g5];rintro rfl;rw[aFr]at e;cases e) (aFw _ _ e)
  obtain⟨⟨aFz,aFA⟩,_⟩:=FE5;refine⟨ns.length-n',by omega,aFy,n',z6,acc++(vU.length:Int)::vU,aiq,_,Z,Z,aip.keep air (by simp) (by simpa using apY),⟨⟨aFz,air _ _ (by simpa using apZ) aFA⟩,ap3.seq aL⟩,?_,by rw[aFu];exact aFt,fun c aV=>ap0 c (h2 _ aV),?_,?_,m9,ap3⟩
  ·rw[a8];simp
  ·rw[← rp];simp
  ·rw[gC,eo];omega
 ·have aFB:n=ns.length:=by
   have:¬ n<ns.length:=fun q=>ak (fw q);omega
  subst aFB;rw[List.drop_length]at iV;have aFC:cs=[]:=by
   cases fuel<;>cases iV<;>rfl
  subst aFC;have e:acc=PySw28.answers ns:=by
   rw[← rp];simp[PyFlat.played,PyFlat.told]
  exact⟨_,Z,k1 jW bC (by rw[b5,e]) Ih⟩
end
end Sg
namespace Sr
open Sw28
theorem uF{α:Type}{good:α->Bool}{p:P α}{t:B}{y:α×B}(h:only good p t=some y):p t=some y/\good y.1=true:=by
 obtain⟨x,aq,h⟩:=pv.mp h;split at h
 ·cases h;exact⟨aq,by assumption⟩
 ·cases h
theorem vV{α β:Type}{p:P α}{q:P β}{t:B}{y:(α×β)×B}(h:pair p q t=some y):∃ z,p t=some (y.1.1,z)/\q z=some (y.1.2,y.2):=by
 obtain⟨x,aq,h⟩:=pv.mp h;obtain⟨z,hz,rfl⟩:=qY.mp h;exact⟨x.2,aq,hz⟩
theorem aag{α:Type}{p:P α}:∀ {n:Nat} {t:B} {y:List α×B},times p n t=some y->y.1.length=n
 |0,t,y,h=>by cases h;rfl
 |n+1,t,y,h=>by
  obtain⟨x,aq,h⟩:=pv.mp h;obtain⟨z,hz,rfl⟩:=qY.mp h;rw[eo,aag hz]
theorem D_{α:Type}{p:P α}{lo hi:Nat}{t:B}{y:List α×B}(h:many lo hi p t=some y):lo<=y.1.length/\y.1.length<=hi:=by
 obtain⟨x,aq,h⟩:=pv.mp h;split at h
 ·cases h
 ·rename_i aR;rw[aag h];omega
theorem ais{g:Nat}{t:B}{x:Nat}{r:B}(h:sign g t=some (x,r)):x<g:=by
 have:=(uF h).2;simpa using this
theorem ap4{t:B}{x:Nat}{r:B}(h:skip t=some (x,r)):x<8:=by
 have:=(uF h).2;simpa using this
theorem aFD{g:Nat}{t:B}{a:Around}{r:B}(h:around g t=some (a,r)):yd a:=by
 obtain⟨x,aq,h⟩:=pv.mp h;obtain⟨gn,_,h1⟩:=vV aq;obtain⟨eH,aC,_⟩:=vV h1;have m:=(D_ aC).1;simp only[]at h;split at h
 ·rename_i aX;cases h;refine⟨m,fun y aP=>?_⟩;have:=rU.mp aX y aP;simpa using this
 ·cases h
theorem z7{α β:Type}{x:(Nat×Nat)×B}{p:P α}{f:α->β}{y:Rule β×B}(h:body x p f=some y):∃ z,p x.2=some z/\y.1=⟨x.1.2,f z.1⟩:=by
 obtain⟨z,hz,rfl⟩:=qY.mp h;exact⟨z,hz,Z⟩
theorem aFE{g:Nat}{t:B}{y:Rule Sub}{r:B}(h:sub g t=some (y,r)):y.skip<8/\Eu y.rule/\aaV g y.rule/\∀ l,y.rule=.around l->l.length<=64:=by
 obtain⟨x,aq,h⟩:=pv.mp h;obtain⟨ait,_,aH⟩:=vV aq;have rN:=ap4 aH;split at h
 ·obtain⟨z,hz,e⟩:=z7 h;have e:y=_:=e;subst e;refine⟨rN,trivial,fun y aP=>?_,fun l e=>by cases e⟩;exact Sg.rH (iQ:=fun y:Nat×Nat=>y.2<g) (fun t x r h=>by
   obtain⟨_,_,h⟩:=vV h;exact ais h) (uF hz).1 y aP
 split at h
 ·obtain⟨z,hz,e⟩:=z7 h;have e:y=_:=e;subst e;have q:=Sg.rH (iQ:=fun y:Nat×aK=>y.2≠[]/\y.2.length<=8/\∀ s∈y.2,s<g) (fun t x r h=>by
   obtain⟨_,_,h⟩:=vV h;have:=D_ h;refine⟨fun e=>?_,this.2,fun s aH=>Sg.rH (iQ:=fun s:Nat=>s<g) (fun t x r h=>ais h) h s aH⟩;simp only[]at this;rw[e]at this;exact absurd this.1 (by simp)) (uF hz).1
  exact⟨rN,fun y aP=>(q y aP).1,fun y aP=>(q y aP).2,fun l e=>by cases e⟩
 split at h
 ·obtain⟨z,hz,e⟩:=z7 h;have e:y=_:=e;subst e;refine⟨rN,trivial,fun y aP=>?_,fun l e=>by cases e⟩;exact Sg.rH (iQ:=fun y:Nat×aK×Nat=>y.2.2<g) (fun t x r h=>by
   obtain⟨_,_,h⟩:=vV h;obtain⟨_,_,h⟩:=vV h;exact ais h) (uF hz).1 y aP
 split at h
 ·obtain⟨z,hz,e⟩:=z7 h;have e:y=_:=e;subst e;refine⟨rN,fun a aX=>?_,trivial,fun l e=>?_⟩
  ·exact Sg.rH (iQ:=fun a:Around=>yd a) (fun t x r h=>aFD h) hz a aX
  ·cases e;exact(D_ hz).2
 ·cases h
theorem aFF{g:Nat}{t:B}{y:Rule Sw28.Pos}{r:B}(h:pos g t=some (y,r)):y.skip<8:=by
 obtain⟨x,aq,h⟩:=pv.mp h;obtain⟨ait,_,aH⟩:=vV aq;have rN:=ap4 aH;split at h
 ·obtain⟨z,hz,e⟩:=z7 h;have e:y=_:=e;subst e;exact rN
 split at h
 ·obtain⟨z,hz,e⟩:=z7 h;have e:y=_:=e;subst e;exact rN
 split at h
 ·obtain⟨z,hz,e⟩:=z7 h;have e:y=_:=e;subst e;exact rN
 split at h
 ·obtain⟨z,hz,e⟩:=z7 h;have e:y=_:=e;subst e;exact rN
 ·cases h
theorem aFG{g:Nat}{t:B}{s:Span}{r:B}(h:span g t=some (s,r)):s.first<=s.last/\s.sign+(s.last-s.first)<g:=by
 obtain⟨x,aq,h⟩:=pv.mp h;simp only[]at h;split at h
 ·cases h
 ·rename_i aR;cases h;dsimp only at *;omega
theorem ap5:∀ {m:List Span},(∀ s∈m,s.first<=s.last)->apart m=true->m.Pairwise fun a b=>a.last<b.first
 | [],_,_=>.nil
 | [a],_,_=>List.pairwise_singleton _ _
 |a::b::r,hle,h=>by
  simp only[apart,jf,pg]at h;have bV:=ap5 (fun s aH=>hle s (h2 _ aH)) h.2;refine x8.mpr ⟨fun s aH=>?_,bV⟩;rcases gR.mp aH with rfl|aH
  ·exact h.1
  ·have:=(x8.mp bV).1 s aH
   have:=hle b (h2 _ h_);omega
theorem aFH{t:B}{y:Font×B}(h:file t=some y):pG y.1:=by
 unfold file at h;split at h
 ·obtain⟨g,b5,h⟩:=pv.mp h;obtain⟨m,hm,h⟩:=pv.mp h;obtain⟨c,aV,h⟩:=pv.mp h;obtain⟨w,hw,h⟩:=pv.mp h;obtain⟨s,aH,h⟩:=pv.mp h;obtain⟨p,aL,h⟩:=pv.mp h;simp only[]at h;obtain⟨f,hf,rfl⟩:=qY.mp h;have Dt:=(uF b5).2;simp only[jf,pg]at Dt;have yJ:=uF hm;have sp:=Sg.rH (iQ:=fun s:Span=>s.first<=s.last/\s.sign+(s.last-s.first)<g.1) (fun t x r h=>aFG h) yJ.1;have lJ:=uF aH;have sub:=Sg.rH (iQ:=fun y:Rule Sub=>y.skip<8/\Eu y.rule/\aaV g.1 y.rule/\∀ l,y.rule=.around l->l.length<=64) (fun t x r h=>aFE h) lJ.1;have ps:=Sg.rH (iQ:=fun y:Rule Sw28.Pos=>y.skip<8) (fun t x r h=>aFF h) aL;have aiu:=uF hf;have idx:∀ {k:Nat} {t:B} {x:aK} {r:B},only (fun l=>rising l && l.all fun i=>decide (i<k)) (many 0 64 u16) t=some (x,r)->(∀ n∈x,n<k)/\x.length<=64:=fun{k t x r} h=>by
   obtain⟨h1,aC⟩:=uF h;simp only[jf,rU,pg]at aC;exact⟨aC.2,(D_ h1).2⟩
  have b0:=Sg.rH (iQ:=fun x:Nat×aK×aK=>(∀ n∈x.2.1,n<s.1.length)/\(∀ n∈x.2.2,n<p.1.length)/\x.2.1.length<=64/\x.2.2.length<=64) (fun t x r h=>by
   obtain⟨_,_,h⟩:=vV h;obtain⟨_,h1,aC⟩:=vV h;obtain⟨a1,a2⟩:=idx h1;obtain⟨b1,iv⟩:=idx aC;exact⟨a1,b1,a2,iv⟩) aiu.1
  exact{
   cl:=aag aV
   ad:=aag hw
   g1:=Dt.1
   Jw:=Dt.2
   r5:=Sg.CZ (iQ:=fun z=>z<4) (fun t x r h=>by simpa using(uF h).2) aV
   mo:=⟨fun s aH=>(sp s aH).1,ap5 (fun s aH=>(sp s aH).1) yJ.2⟩
   ms:=fun s aH=>(sp s aH).2
   sk:=fun r aA=>(sub r aA).1
   pH:=fun r aA=>ps r aA
   so:=fun r aA=>(sub r aA).2.1
   fW:=fun r aA=>(sub r aA).2.2.1
   ac:=fun r aA l e=>by
    refine⟨(sub r aA).2.2.2 l e,fun a aX y aP=>?_⟩;have:=rU.mp lJ.2 r aA;rw[e]at this;have:=rU.mp this a aX;have:=rU.mp this y aP;show aaW s.1 y.2;cases a9:s.1[y.2]? with
    |none=>rw[a9]at this;cases this
    |some q =>
     rw[a9]at this;simp only[]at this;cases dw:q.rule with
     |one u=>exact⟨q,u,a9,dw⟩
     |more u=>rw[dw]at this;cases this
     |joined u=>rw[dw]at this;cases this
     |around u=>rw[dw]at this;cases this
   fM:=(D_ lJ.1).2
   pl:=(D_ aL).2
   b0:=b0
   wB:=(D_ aiu.1).2
   fr:=aiu.2 }
 ·cases h
theorem aFI:Sg.ail:=fun bs f _ h=>by
 rw[← aal]at h;obtain⟨x,aq,h⟩:=pv.mp h;split at h
 ·cases h;exact aFH aq
 ·cases h
end Sr
namespace Sg
open PySem L2 Sr
open Sw28 (Item Font passed times many signAt rising Rule u16 within asked byte setOn begun s16 Anchor mapped word)
def fG(K:cp)(av:g_)(x g:Str)(st:Stmt):Prop:=∃ f d,cu K x x st f d/\av g=some (.ref f)
def aiv(K:cp)(av:g_)(g:Str):Prop:=∃ C,av g=some (.ref C)/\yN K C
def aah(K:cp)(av:g_)(g:Str)(xs:List V):Prop:=∃ p,av g=some (.ref p)/\∀ H,fO K H p xs
def o'(K:cp)(av:g_)(g:Str)(C:au):Prop:=av g=some (.ref C)/\iU K C
def pa(K:cp)(C:au)(q:Str)(st:Stmt):Prop:=∃ f d,cu K "__init__" q st f d/\mq K C f
def je(K:cp)(C:au)(m q:Str)(st:Stmt):Prop:=∃ f d,cu K m q st f d/\Meth K C m f
section
variable{K:cp}{h:Heap}{av:g_}{g m q:Str}{C f:au}{st:Stmt}{jL:aO}{hQ an:Option au}{pP:Array (Option aO)}{c3 doc pm bK fu:aO}
theorem aFJ(X:K.In h)(G:h.Ns mainGlobals av)(a:PySem.W.nsIn K mainGlobals g=some (some (.ref f)):=by k_is)(l:K.lookup f=some ⟨jL,hQ,.func (PySem.W.fnOf m m (sl st) (ri st) (cA st) .none c3 doc pm an bK fu),pP⟩:=by k_is)
  (c:PySem.W.codeIn K bK m=true:=by k_is) (k:PySem.W.keepIn K (.ref f)=true:=by k_is):fG K av m g st:=⟨f,_,acq l c k,El X G a⟩
theorem p1(X:K.In h)(G:h.Ns mainGlobals av)(a:PySem.W.nsIn K mainGlobals g=some (some (.ref C)):=by k_is)(yv:PySem.W.plainGet K C Str.empty=true:=by k_is)(hd:PySem.W.hasDictIn K C=true:=by k_is)(po:PySem.W.plainOver K C=true:=by k_is)(bG:PySem.W.findIn K (.ref C) "__setattr__"=some (some (.builtin "object.__setattr__")):=by k_is):o' K av g C:=⟨El X G a,yv,hd,po,bG⟩
theorem jq(a:PySem.W.findIn K (.ref C) m=some (some (.ref f)):=by k_is)(i:PySem.W.isFn K (.ref f)=true:=by k_is)(l:K.lookup f=some ⟨jL,hQ,.func (PySem.W.fnOf m q (sl st) (ri st) (cA st) .none c3 doc pm an bK fu),pP⟩:=by k_is)
  (c:PySem.W.codeIn K bK q=true:=by k_is) (k:PySem.W.keepIn K (.ref f)=true:=by k_is):je K C m q st:=⟨f,_,acq l c k,a,i,k⟩
theorem p2(a:PySem.W.findIn K (.ref C) "__init__"=some (some (.ref f)):=by k_is) (i:PySem.W.isFn K (.ref f)=true:=by k_is) (l:K.lookup f=some ⟨jL,hQ,.func (PySem.W.fnOf "__init__" q (sl st) (ri st) (cA st) .none c3 doc pm an bK fu),pP⟩:=by k_is)
  (c:PySem.W.codeIn K bK q=true:=by k_is) (k:PySem.W.keepIn K (.ref f)=true:=by k_is) (mk:PySem.W.makesIn K C=true:=by k_is) (aFK:PySem.W.keepIn K (.ref C)=true:=by k_is):pa K C q st:=⟨f,_,acq l c k,mk,a,i,aFK⟩
theorem fZ(a:PySem.W.findIn K (.ref C) g=some none:=by k_is):cQ K C g:=a
theorem ap6(X:K.In h)(G:h.Ns mainGlobals av)(a:PySem.W.nsIn K mainGlobals g=some (some (.ref C)):=by k_is)(e:PySem.W.excIn K C [.type "Exception",.type "BaseException",.type "object"] "Exception.__new__"=true:=by kernel_rfl):aiv K av g:=⟨C,El X G a,e⟩
theorem aFL(X:K.In h)(G:h.Ns mainGlobals av){v:Int}{tk:Nat}(a:PySem.W.nsIn K mainGlobals g=some (some (.int v tk)):=by k_is):∃ u,av g=some u/\RelV (.int v) u:=⟨_,El X G a,tk,rfl⟩
theorem aFM(X:K.In h)(G:h.Ns mainGlobals av){p:au}{x0 x1:Int}{t0 t1 n:Nat}(a:PySem.W.nsIn K mainGlobals g=some (some (.ref p)):=by k_is)(l:K.lookup p=some ⟨.type "tuple",hQ,.seq #[.int x0 t0,.int x1 t1] n,pP⟩:=by k_is):aah K av g [.int x0,.int x1] :=
 ⟨p,El X G a,fun H=>.inr ⟨_,_,_,l,rfl,rfl,by show 2<=sizeLine;decide,(.cons ⟨t0,rfl⟩ (.cons ⟨t1,rfl⟩ .nil))⟩⟩
theorem aFN(X:K.In h)(G:h.Ns mainGlobals av){p:au}{x0 x1 iG kv:Int}{t0 t1 t2 t3 n:Nat}(a:PySem.W.nsIn K mainGlobals g=some (some (.ref p)):=by k_is)(l:K.lookup p=some ⟨.type "tuple",hQ,.seq #[.int x0 t0,.int x1 t1,.int iG t2,.int kv t3] n,pP⟩:=by k_is):aah K av g [.int x0,.int x1,.int iG,.int kv] :=
 ⟨p,El X G a,fun H=>.inr ⟨_,_,_,l,rfl,rfl,by show 4<=sizeLine;decide,(.cons ⟨t0,rfl⟩ (.cons ⟨t1,rfl⟩ (.cons ⟨t2,rfl⟩ (.cons ⟨t3,rfl⟩ .nil))))⟩⟩
theorem aFO(ait:∃ C,o' K av "Context" C/\pa K C "Context.__init__" acM/\cQ K C "before"/\cQ K C "there"/\cQ K C "behind"/\cQ K C "acts") (gn:∃ C,o' K av "Slot" C/\pa K C "Slot.__init__" acN/\je K C "bits_at" "Slot.bits_at" acO/\cQ K C "free"/\cQ K C "allowed") (eH:∃ C,o' K av "Contexts" C/\pa K C "Contexts.__init__" acP/\je K C "first_fitting" "Contexts.first_fitting" acQ/\cQ K C "entries"/\cQ K C "onward"/\cQ K C "backward") (ni:∃ C,o' K av "Rule" C/\pa K C "Rule.__init__" acR/\cQ K C "kind"/\cQ K C "passes"/\cQ K C "body") (Gi:∃ C,o' K av "Feature" C/\pa K C "Feature.__init__" acS/\cQ K C "change_numbers"/\cQ K C "place_numbers") (BZ:∃ C,o' K av "Font" C/\pa K C "Font.__init__" acT/\je K C "sign_of" "Font.sign_of" acU/\je K C "is_mark" "Font.is_mark" acV/\je K C "passes_over" "Font.passes_over" acW/\je K C "left_places" "Font.left_places" acX/\cQ K C "pieces"/\cQ K C "classes"/\cQ K C "widths"/\cQ K C "passing"/\cQ K C "changes"/\cQ K C "places"/\cQ K C "features") (aFP:∃ C,o' K av "Joining" C/\pa K C "Joining.__init__" acY/\cQ K C "order"/\cQ K C "length"/\cQ K C "joined") (aFQ:∃ C,o' K av "Joinings" C/\pa K C "Joinings.__init__" acZ/\je K C "tell" "Joinings.tell" ac0/\je K C "first_fitting" "Joinings.first_fitting" ac1/\cQ K C "by_signs"/\cQ K C "lengths") (aFR:aiv K av "WrongFile") (aFS:∃ C,o' K av "Reader" C/\pa K C "Reader.__init__" ac2/\je K C "byte" "Reader.byte" ac3/\je K C "number" "Reader.number" ac4/\je K C "long_number" "Reader.long_number" ac5/\je K C "signed_number" "Reader.signed_number" ac6/\je K C "within" "Reader.within" ac7/\je K C "sign" "Reader.sign" ac8/\je K C "many_signs" "Reader.many_signs" ac9/\je K C "require_end" "Reader.require_end" ac_/\cQ K C "content"/\cQ K C "at"/\cQ K C "sign_count") (aFT:∃ C,o' K av "Anchor" C/\pa K C "Anchor.__init__" ac'/\cQ K C "mark_class"/\cQ K C "right"/\cQ K C "up") (aFU:∃ C,o' K av "Anchors" C/\pa K C "Anchors.__init__" ada/\cQ K C "marks"/\cQ K C "bases") (aFV:∃ C,o' K av "Move" C/\pa K C "Move.__init__" adb/\cQ K C "right"/\cQ K C "up"/\cQ K C "wider") (aFW:aiv K av "TooLong") (aFX:∃ C,o' K av "Row" C/\pa K C "Row.__init__" ade/\je K C "become" "Row.become" adf/\je K C "begin_placing" "Row.begin_placing" adg/\cQ K C "signs"/\cQ K C "characters"/\cQ K C "widths"/\cQ K C "rights"/\cQ K C "ups") (aFY:∃ C,o' K av "Session" C/\pa K C "Session.__init__" adh/\je K C "start" "Session.start" adi/\je K C "take_file" "Session.take_file" adk/\je K C "tell_sign" "Session.tell_sign" adl/\je K C "tell_feature" "Session.tell_feature" adn/\je K C "tell_set" "Session.tell_set" ado/\cQ K C "font") (aFZ:∃ C,o' K av "Feed" C/\pa K C "Feed.__init__" adp/\je K C "has_more" "Feed.has_more" adq/\je K C "take" "Feed.take" adt/\je K C "take_list" "Feed.take_list" adu/\cQ K C "calls"/\cQ K C "at") (aF0:fG K av "make_slot" "make_slot" adv) (aF1:fG K av "make_slots" "make_slots" adw) (aF2:fG K av "require" "require" adx) (aF3:fG K av "require_rising" "require_rising" ady) (aF4:fG K av "require_not_falling" "require_not_falling" adz) (aF5:fG K av "read_exchanges" "read_exchanges" adA) (aF6:fG K av "read_spreads" "read_spreads" adB) (aF7:fG K av "read_joinings" "read_joinings" adC) (aF8:fG K av "read_set" "read_set" adD) (aF9:fG K av "read_sets" "read_sets" adE) (aF_:fG K av "read_act" "read_act" adF) (aF':fG K av "read_context" "read_context" adG) (aGa:fG K av "read_contexts" "read_contexts" adH) (aGb:fG K av "read_body" "read_body_changefile" adI) (aGc:fG K av "read_rule" "read_rule_changefile" adJ) (aGd:fG K av "require_acts" "require_acts" adK) (aGe:fG K av "read_change_rules" "read_change_rules" adL) (aGf:fG K av "exchange_signs" "exchange_signs" adM) (aGg:fG K av "spread_signs" "spread_signs" adN) (aGh:fG K av "join_signs" "join_signs" adO) (aGi:fG K av "do_acts" "do_acts" adP) (aGj:fG K av "change_around" "change_around" adQ) (aGk:fG K av "change_by" "change_by" adR) (aGl:fG K av "read_move" "read_move" adS) (aGm:fG K av "read_moves" "read_moves" adT) (aGn:fG K av "read_pairs" "read_pairs" adU) (aGo:fG K av "read_anchor" "read_anchor" adV) (aGp:fG K av "read_anchor_list" "read_anchor_list" adW) (aGq:fG K av "read_anchors" "read_anchors" adX) (aGr:fG K av "read_body" "read_body_placefile" adY) (aGs:fG K av "read_rule" "read_rule_placefile" adZ) (aGt:fG K av "read_place_rules" "read_place_rules" ad0) (aGu:fG K av "read_piece" "read_piece" ad1) (aGv:fG K av "read_pieces" "read_pieces" ad2) (aGw:fG K av "read_class" "read_class" ad3) (aGx:fG K av "read_rule_numbers" "read_rule_numbers" ad4) (aGy:fG K av "read_features" "read_features" ad5) (aGz:fG K av "read_font" "read_font" ad6) (aGA:fG K av "move_signs" "move_signs" ad7) (aGB:fG K av "widen_pairs" "widen_pairs" ad8) (aGC:fG K av "attach" "attach" ad9) (aGD:fG K av "attach_to_bases" "attach_to_bases" ad_) (aGE:fG K av "attach_to_marks" "attach_to_marks" ad') (aGF:fG K av "place_by" "place_by" aea) (aGG:fG K av "asked_features" "asked_features" aeb) (aGH:fG K av "rules_in_order" "rules_in_order" aec) (aGI:fG K av "set_characters" "set_characters" aed) (aGJ:fG K av "tell_row" "tell_row" aee) (aGK:fG K av "answer_call" "answer_call" aef) (aGL:fG K av "answers" "answers" aeg) (k_MARK:∃ u,av "MARK"=some u/\RelV (.int (3)) u) (k_EXCHANGE:∃ u,av "EXCHANGE"=some u/\RelV (.int (1)) u) (k_SPREAD:∃ u,av "SPREAD"=some u/\RelV (.int (2)) u) (k_JOIN:∃ u,av "JOIN"=some u/\RelV (.int (3)) u) (k_LOOK_AROUND:∃ u,av "LOOK_AROUND"=some u/\RelV (.int (4)) u) (k_MOVE:∃ u,av "MOVE"=some u/\RelV (.int (1)) u) (k_PAIR:∃ u,av "PAIR"=some u/\RelV (.int (2)) u) (k_MARK_TO_BASE:∃ u,av "MARK_TO_BASE"=some u/\RelV (.int (3)) u) (k_MARK_TO_MARK:∃ u,av "MARK_TO_MARK"=some u/\RelV (.int (4)) u) (k_LAST_CHARACTER:∃ u,av "LAST_CHARACTER"=some u/\RelV (.int (1114111)) u) (k_MOST_SIGNS:∃ u,av "MOST_SIGNS"=some u/\RelV (.int (4096)) u) (k_SG_START:∃ u,av "SG_START"=some u/\RelV (.int (1)) u) (k_SG_OPEN:∃ u,av "SG_OPEN"=some u/\RelV (.int (2)) u) (k_SG_SIGN:∃ u,av "SG_SIGN"=some u/\RelV (.int (3)) u) (k_SG_HAS:∃ u,av "SG_HAS"=some u/\RelV (.int (4)) u) (k_WRONG_NUMBER:∃ u,av "WRONG_NUMBER"=some u/\RelV (.int (-1)) u) (k_WRONG_FILE:∃ u,av "WRONG_FILE"=some u/\RelV (.int (-2)) u) (k_NO_FILE:∃ u,av "NO_FILE"=some u/\RelV (.int (-4)) u) (k_TOO_LONG:∃ u,av "TOO_LONG"=some u/\RelV (.int (-5)) u) (k_NO_ROOM:∃ u,av "NO_ROOM"=some u/\RelV (.int (-6)) u) (k_MODULUS:∃ u,av "MODULUS"=some u/\RelV (.int (4294967296)) u) (aGM:aah K av "PASSING" [.int 0,.int 1,.int 2,.int 4]) (aGN:aah K av "FIRST_BYTES" [.int 73,.int 112]) (hB:av "len"=none) (jA:av "range"=none) (xd:av "enumerate"=none) (X5:av "zip"=none) (yX:av "dict"=none) (X6:av "tuple"=none) (GF:av "list"=none) (afC:av "max"=none) (afD:av "sorted"=none):∃ t,Txt K av t:=by
 obtain⟨rq,⟨aeh,sv⟩,⟨Ky,Kz,Wn,aei⟩,Wl,Qz,Wm,QB⟩:=ait;obtain⟨tH,⟨aej,vo⟩,⟨KC,KD,Wq,aek⟩,⟨KH,KJ,Wr,Ws⟩,Gm,Wo⟩:=gn;obtain⟨jw,⟨ael,tK⟩,⟨KN,KQ,Wv,aem⟩,⟨KR,KX,Ww,aen⟩,Gn,Wt,Wu⟩:=eH;obtain⟨rr,⟨Wx,jy⟩,⟨KY,KZ,Wz,Wy⟩,tL,QC,ru⟩:=ni;obtain⟨qJ,⟨aeo,Gp⟩,⟨K4,K5,WL,aep⟩,WD,WK⟩:=Gi;obtain⟨eu,⟨aer,gq⟩,⟨K6,K7,WQ,aes⟩,⟨K8,K9,WR,WT⟩,⟨K_,La,WW,WX⟩,⟨Lb,Ld,WY,QG⟩,⟨Le,Lf,W0,yQ⟩,Ca,QD,WM,QF,Cd,Gq,Ce⟩:=BZ;obtain⟨nj,⟨aeu,vp⟩,⟨Lg,Lh,W3,aev⟩,QH,QJ,W2⟩:=aFP;obtain⟨su,⟨aew,sx⟩,⟨Li,Lj,W4,aex⟩,⟨Lk,Ln,W5,aey⟩,⟨Lp,Lq,W6,aez⟩,Cg,QK⟩:=aFQ;obtain⟨jl,W7,W8⟩:=aFR;obtain⟨iJ,⟨aeA,dV⟩,⟨Lr,Ls,W9,aeB⟩,⟨Lw,Lx,W_,Gu⟩,⟨Ly,Lz,Xa,w5⟩,⟨LC,LK,Xb,QL⟩,⟨LQ,LR,Xc,yS⟩,⟨L1,L_,Xd,jz⟩,⟨Ma,Mf,Xe,rv⟩,⟨Mg,Mh,Xf,QM⟩,⟨Mi,Mj,Xg,aeC⟩,Gs,Ci,yR⟩:=aFS;obtain⟨qK,⟨aeD,tM⟩,⟨Mk,Ml,Xh,aeE⟩,QS,QT,QV⟩:=aFT;obtain⟨rt,⟨aeF,Gv⟩,⟨Mp,Mq,Xk,aeG⟩,Xi,Xj⟩:=aFU;obtain⟨vm,⟨aeH,yU⟩,⟨Mr,Ms,Xo,aeI⟩,Xl,Xm,Xn⟩:=aFV;obtain⟨B_,Xp,Xq⟩:=aFW;obtain⟨fC,⟨aeJ,eE⟩,⟨Mt,Mu,Xr,aeK⟩,⟨Mv,Mw,Xu,Cj⟩,⟨Mx,Mz,Xv,aeL⟩,iw,w6,vq,yV,yW⟩:=aFX;obtain⟨jx,⟨aeM,oV⟩,⟨MF,MJ,Xw,aeN⟩,⟨MK,MN,Xx,aeO⟩,⟨MP,M4,Xy,aeP⟩,⟨M5,M6,Xz,aeQ⟩,⟨M7,M8,XC,aeR⟩,⟨M9,M_,XD,aeS⟩,tO⟩:=aFY;obtain⟨iY,⟨aeT,kI⟩,⟨Nb,Nf,XF,aeU⟩,⟨Ng,Nh,XH,aeV⟩,⟨Ni,Nj,XJ,Gw⟩,⟨Nk,Nm,XK,QW⟩,Ck,w7⟩:=aFZ;obtain⟨Np,Nq,QX,aeW⟩:=aF0;obtain⟨Nr,Nt,Gx,XM⟩:=aF1;obtain⟨Nu,Nv,nk,oW⟩:=aF2;obtain⟨Nx,Ny,rx,tQ⟩:=aF3;obtain⟨Nz,NK,QZ,aeX⟩:=aF4;obtain⟨NP,NQ,Q0,aeY⟩:=aF5;obtain⟨NT,NZ,Q5,aeZ⟩:=aF6;obtain⟨N5,N6,Q6,ae0⟩:=aF7;obtain⟨N7,N8,Q7,ae1⟩:=aF8;obtain⟨N_,Oa,Cm,Q8⟩:=aF9;obtain⟨Ob,Oc,Q9,ae2⟩:=aF_;obtain⟨Od,Oe,Q_,ae3⟩:=aF';obtain⟨Og,Oh,Q',ae4⟩:=aGa;obtain⟨Oi,Oj,Ra,ae5⟩:=aGb;obtain⟨Ol,Om,Rb,ae6⟩:=aGc;obtain⟨Oo,Oq,Rd,ae7⟩:=aGd;obtain⟨Ot,Ou,Rf,ae8⟩:=aGe;obtain⟨Ov,Ow,Rg,ae9⟩:=aGf;obtain⟨Ox,Oz,Rh,ae_⟩:=aGg;obtain⟨OD,OJ,Ri,ae'⟩:=aGh;obtain⟨O1,O2,Rj,afa⟩:=aGi;obtain⟨O3,O4,Rk,afb⟩:=aGj;obtain⟨O5,O6,Rm,afc⟩:=aGk;obtain⟨O7,O8,Rn,afd⟩:=aGl;obtain⟨O9,O_,Ro,afe⟩:=aGm;obtain⟨O',Pa,Rp,afg⟩:=aGn;obtain⟨Pb,Pg,Rq,afh⟩:=aGo;obtain⟨Ph,Pj,Gy,XP⟩:=aGp;obtain⟨Pk,Pn,Rr,afi⟩:=aGq;obtain⟨Pq,Pr,Rt,afj⟩:=aGr;obtain⟨Pu,Px,Ru,afk⟩:=aGs;obtain⟨Py,Pz,Rv,afl⟩:=aGt;obtain⟨PB,PJ,Rw,afm⟩:=aGu;obtain⟨PK,PL,Rx,afn⟩:=aGv;obtain⟨PN,PT,Ry,afo⟩:=aGw;obtain⟨PX,P0,Gz,XQ⟩:=aGx;obtain⟨P1,P4,Rz,afp⟩:=aGy;obtain⟨P_,P',RB,afq⟩:=aGz;obtain⟨Qa,Qc,RC,afr⟩:=aGA;obtain⟨Qd,Qe,RD,afs⟩:=aGB;obtain⟨Qf,Qg,GC,XR⟩:=aGC;obtain⟨Qh,Qi,RG,aft⟩:=aGD;obtain⟨Qj,Qk,RJ,afu⟩:=aGE;obtain⟨Ql,Qm,RK,afv⟩:=aGF;obtain⟨Qn,Qo,RL,afw⟩:=aGG;obtain⟨Qp,Qq,GD,XS⟩:=aGH;obtain⟨Qs,Qt,RM,afx⟩:=aGI;obtain⟨Qu,Qv,RN,afy⟩:=aGJ;obtain⟨Qw,Qx,RP,afz⟩:=aGK;obtain⟨Qy,Wk,X3,afA⟩:=aGL;obtain⟨Gk,k_PASSING,afB⟩:=aGM;obtain⟨Gl,k_FIRST_BYTES,X4⟩:=aGN;exact⟨⟨rq,Ky,Kz,tH,KC,KD,KH,KJ,jw,KN,KQ,KR,KX,rr,KY,KZ,qJ,K4,K5,eu,K6,K7,K8,K9,K_,La,Lb,Ld,Le,Lf,nj,Lg,Lh,su,Li,Lj,Lk,Ln,Lp,Lq,jl,iJ,Lr,Ls,Lw,Lx,Ly,Lz,LC,LK,LQ,LR,L1,L_,Ma,Mf,Mg,Mh,Mi,Mj,qK,Mk,Ml,rt,Mp,Mq,vm,Mr,Ms,B_,fC,Mt,Mu,Mv,Mw,Mx,Mz,jx,MF,MJ,MK,MN,MP,M4,M5,M6,M7,M8,M9,M_,iY,Nb,Nf,Ng,Nh,Ni,Nj,Nk,Nm,Np,Nq,Nr,Nt,Nu,Nv,Nx,Ny,Nz,NK,NP,NQ,NT,NZ,N5,N6,N7,N8,N_,Oa,Ob,Oc,Od,Oe,Og,Oh,Oi,Oj,Ol,Om,Oo,Oq,Ot,Ou,Ov,Ow,Ox,Oz,OD,OJ,O1,O2,O3,O4,O5,O6,O7,O8,O9,O_,O',Pa,Pb,Pg,Ph,Pj,Pk,Pn,Pq,Pr,Pu,Px,Py,Pz,PB,PJ,PK,PL,PN,PT,PX,P0,P1,P4,P_,P',Qa,Qc,Qd,Qe,Qf,Qg,Qh,Qi,Qj,Qk,Ql,Qm,Qn,Qo,Qp,Qq,Qs,Qt,Qu,Qv,Qw,Qx,Qy,Wk,Gk,Gl⟩,⟨aeh,sv,aei,Wl,Qz,Wm,QB,Wn,aej,vo,aek,Gm,Wo,Wq,Wr,Ws,ael,tK,aem,Gn,Wt,Wu,Wv,Ww,aen,Wx,jy,Wy,tL,QC,ru,Wz,aeo,Gp,aep,WD,WK,WL,aer,gq,aes,Ca,QD,WM,QF,Cd,Gq,Ce,WQ,WR,WT,WW,WX,WY,QG,W0,yQ,aeu,vp,aev,QH,QJ,W2,W3,aew,sx,aex,Cg,QK,W4,W5,aey,W6,aez,W7,W8,aeA,dV,aeB,Gs,Ci,yR,W9,W_,Gu,Xa,w5,Xb,QL,Xc,yS,Xd,jz,Xe,rv,Xf,QM,Xg,aeC,aeD,tM,aeE,QS,QT,QV,Xh,aeF,Gv,aeG,Xi,Xj,Xk,aeH,yU,aeI,Xl,Xm,Xn,Xo,Xp,Xq,aeJ,eE,aeK,iw,w6,vq,yV,yW,Xr,Xu,Cj,Xv,aeL,aeM,oV,aeN,tO,Xw,Xx,aeO,Xy,aeP,Xz,aeQ,XC,aeR,XD,aeS,aeT,kI,aeU,Ck,w7,XF,XH,aeV,XJ,Gw,XK,QW,QX,aeW,Gx,XM,nk,oW,rx,tQ,QZ,aeX,Q0,aeY,Q5,aeZ,Q6,ae0,Q7,ae1,Cm,Q8,Q9,ae2,Q_,ae3,Q',ae4,Ra,ae5,Rb,ae6,Rd,ae7,Rf,ae8,Rg,ae9,Rh,ae_,Ri,ae',Rj,afa,Rk,afb,Rm,afc,Rn,afd,Ro,afe,Rp,afg,Rq,afh,Gy,XP,Rr,afi,Rt,afj,Ru,afk,Rv,afl,Rw,afm,Rx,afn,Ry,afo,Gz,XQ,Rz,afp,RB,afq,RC,afr,RD,afs,GC,XR,RG,aft,RJ,afu,RK,afv,RL,afw,GD,XS,RM,afx,RN,afy,RP,afz,X3,afA,k_MARK,k_EXCHANGE,k_SPREAD,k_JOIN,k_LOOK_AROUND,k_MOVE,k_PAIR,k_MARK_TO_BASE,k_MARK_TO_MARK,k_LAST_CHARACTER,k_MOST_SIGNS,k_SG_START,k_SG_OPEN,k_SG_SIGN,k_SG_HAS,k_WRONG_NUMBER,k_WRONG_FILE,k_NO_FILE,k_TOO_LONG,k_NO_ROOM,k_MODULUS,k_PASSING,afB,k_FIRST_BYTES,X4,hB,jA,xd,X5,yX,X6,GF,afC,afD⟩⟩
end
end Sg
namespace Att
open PySem PySem.W PySem.Calls PyProof.Rows
theorem aGO{P:Params}{h:Heap}:∀ (ns:List Int) (vs:dH),WellAll P h vs (ns.map WData.int)->IntsAre vs ns:=by
 intro ns;induction ns with
 |nil =>
  intro vs w;rw[v7]at w;cases w;exact .nil
 |cons n ns bV =>
  intro vs w;rw[fU]at w;cases w with
  |cons a b =>
   cases a;exact .cons _ _ (bV _ b)
end Att
namespace L2
open PySem PySem.Spec PyProof.Rows
theorem ap7:∀ {vs:dH} {ns:List Int},IntsAre vs ns->Vals (ns.map V.int) vs
 |_,_,.nil=>.nil
 |_,_,.cons n t h=>.cons ⟨t,rfl⟩ (ap7 h)
def Only(H:ao):Prop:=∀ b,H b=none\/∃ o xs,H b=some (.sX o (.lst xs))
theorem aGP{P:fx}{w:e4}{K:cp}{av pJ:g_}{gJ:ti}{k:Nat}{aZ a:au}{fd:cG}{x:Str}{sp:eY}{fV:aY}{vs:dH}{ns out:List Int}
  (hT:K.In fV.heap) (Z9:fV.heap.Ns mainGlobals av) (ak:fV.heap.Ns builtinsNs pJ) (sE:∀ x:Str,x≠"__name__"->pJ x=bootBuiltins x) (aGQ:fV.heap.NoLimit) (b5:fV.gens=#[])
  (aX:fV.heap.get? a=some { cls:=.type "list",data:=.seq vs.toArray }) (hi:IntsAre vs ns) (aF:ns.length<=sizeLine) (aA:hI k callerA)
  (F:∀ base:Heap,K.In base->base.Ns mainGlobals av->cJ P w K av base gJ k aZ fd [x] sp) (aGR:∀ (s:aY) (u:aO),BindsTo s fd ⟨[u],[]⟩ [(x,u)])
  (yw:∀ H:ao,Only H->aT K H a (ns.map V.int)->sp [.ref a] H (fun v H1=>∃ D,v=.ref D/\H1 D=some (.lst (out.map V.int))) fun _ _ _=>False)
  (aGS:∀ H e s',gJ [] H fV (fun _ _ _=>False) e s'->False) :
  codeAny (model P w) callerA (.call (.ref aZ) ⟨[.ref a],[]⟩) (fun r s'=>(∃ (D:au) (its:dH) (n:Nat),r=.ok (.ret (.ref D))/\s'.heap.get? D=some { cls:=.type "list",data:=.seq its.toArray n }/\Vals (out.map V.int) its)/\OldK fV.heap s'.heap/\s'.os=fV.os/\AllBare s'.gens) fV:=by
 have e0:=ap7 hi;have aGT:=hi.length;have core:∀ H:ao,Only H->aT K H a (ns.map V.int)->ht P w H fV.heap->(∀ b,H b≠none->b=a)->(H a≠none->K.lookup a=none) ->
   codeAny (model P w) callerA (.call (.ref aZ) ⟨[.ref a],[]⟩) (fun r s'=>(∃ (D:au) (its:dH) (n:Nat),r=.ok (.ret (.ref D))/\s'.heap.get? D=some { cls:=.type "list",data:=.seq its.toArray n }/\Vals (out.map V.int) its)/\OldK fV.heap s'.heap/\s'.os=fV.os/\AllBare s'.gens) fV:=by
  intro H ap8 d1 bL mC hv;have ap9:∀ {b:au} {o:Obj},fV.heap.get? b=some o->H b=none->(wG fV.heap H).get? b=some o:=fun e n=>arN e n;have JX:∀ {b:au} {o:Obj} {es:Array DictEntry} {ep:Nat},fV.heap.get? b=some o->o.data=.dict es ep->H b=none:=fun{b o es ep} e d=>by
   cases q:H b with
   |none=>rfl
   |some u =>
    have e':b=a:=mC b (by rw[q];simp);subst e';rw[aX]at e;cases e;have d':Data.seq vs.toArray _=Data.dict es ep:=d;cases d'
  have aai:∀ {b:au} {m:g_},fV.heap.Ns b m->(wG fV.heap H).Ns b m:=fun{b m} ⟨o,es,ep,e,d,r⟩=>⟨o,es,ep,ap9 e (JX e d),d,r⟩;have ap_:K.In (wG fV.heap H):=fun b o e=>ap9 (hT b o e) (by
   cases q:H b with
   |none=>rfl
   |some u =>
    have e':b=a:=mC b (by rw[q];simp);subst e';rw[hv (by rw[q];simp)]at e;cases e)
  have zL:Mod K av (wG fV.heap H):=⟨ap_,aai Z9,⟨pJ,aai ak,sE⟩,let ⟨aGU,h1,aC⟩:=aGQ;⟨aGU,aai h1,aC⟩⟩;have fB:Bt P w K av (wG fV.heap H) callerA [] fV H:=⟨rfl,zL,fun b o e=>arO e,Aj (arM _ _),trivial,fun b ak=>absurd (show b∈([]:d2) from ak) (by simp),bL,.of_eq b5⟩;refine codeAny_mono ((F _ ap_ (aai Z9)).run callerA [] fV H ⟨[.ref a],[]⟩ [.ref a] [.ref a] _ _ aA fB (aGR fV (.ref a)) (.cons rfl .nil) (yw H ap8 d1)) fun r s' h=>?_;cases r with
  |error e=>exact(aGS H e s' h).elim
  |ok wB =>
   cases wB with
   |next=>exact False.elim h
   |brk=>exact False.elim h
   |cont=>exact False.elim h
   |ret u =>
    obtain⟨v,H',os,bare,un,aqa,r',q⟩:=h;obtain⟨D,d9,bw⟩:=q;subst d9;obtain rfl:u=Value.ref D:=r';obtain⟨_,its,n,aGV,Zg⟩:=aqa D _ bw;refine⟨⟨D,its,n,Z,Zg,aGV⟩,OldK.of_keep fun b o e=>?_,os,bare⟩;cases q:H b with
    |none=>exact un.keep b o e q (by intro z;exact absurd (show b∈([]:d2) from z) (by simp)) (by simp)
    |some u =>
     rcases ap8 b with z|⟨cY,xs,z⟩
     ·rw[q]at z;cases z
     ·have eH:=un.uV b cY _ z
      obtain⟨bF,_⟩:=bL b _ z;obtain⟨a9,_⟩:=aqa b _ eH;rw[e]at bF;cases bF;exact a9
 cases aN:K.lookup a with
 |some o =>
  have e:=hT a o aN;rw[aX]at e;cases e;refine core (fun _=>none) (fun _=>.inl rfl) (.inr ⟨_,vs.toArray,_,aN,rfl,rfl,rfl,by rw[iD,aGT];exact aF,by simpa using e0⟩) (fun b u z=>by have lG:(none:Option HO)=some u:=z;cases lG) (fun b z=>absurd rfl z) fun z=>absurd rfl z
 |none =>
  refine core (fun b=>if b=a then some (.sX { cls:=.type "list",data:=.seq vs.toArray } (.lst (ns.map V.int)))else none) (fun b=>?_) (.inl (.inr ⟨{ cls:=.type "list",data:=.seq vs.toArray },bM rfl⟩)) (fun b u z=>?_) (fun b z=>?_) fun _=>aN
  ·by_cases ak:b=a
   ·exact .inr ⟨_,_,bM ak⟩
   ·exact .inl (bx ak)
  ·by_cases ak:b=a
   ·have lG:=(bM ak).symm.trans z
    cases lG;subst ak;exact⟨aX,by rw[ey];exact aF,vs,_,e0,aX⟩
   ·have lG:=(bx ak).symm.trans z
    cases lG
  ·by_cases ak:b=a
   ·exact ak
   ·exact absurd (bx ak) z
end L2
namespace Sg
open PySem PySem.W L2 PyProof.Rows
theorem aqb:∀ {ns:List Int} {its:dH},Vals (ns.map V.int) its->CarriedAll its (ns.map PyData.int)
 | [],_,h=>by cases h;exact .nil
 |n::ns,_,h=>by
  cases h with
  |cons a b =>
   obtain⟨t,rfl⟩:=a;exact .cons (.int n t) (aqb b)
theorem aGW{P:Params}{h:Heap}{args:List WData}{vals:dH}(uO:PySem.Challenge.rw_signrow_s01_answers.pre args=true)(lC:WellAll P h vals args) :
  ∃ a vs ns,vals=[Value.ref a]/\args=[WData.list (ns.map WData.int)]/\h.get? a=some { cls:=.type "list",data:=.seq vs.toArray }/\IntsAre vs ns/\ns.length<=30000/\PySw28.answers_asked ns=true /\
   ∀ d,same d (.list ((PySw28.answers ns).map WData.int))=true->PySem.Challenge.rw_signrow_s01_answers.post args d=true:=by
 have DY:WShape.hasAll [] args [.list .int]=true:=os_shapes args uO;obtain⟨d,r,rfl,h1,aC⟩:=hasAllW_cons DY;obtain rfl:=hasAllW_nil aC;obtain⟨xs,rfl,bI⟩:=hasW_list h1;obtain⟨ns,rfl⟩:=items_int bI;have e:ofPy (PyData.list (ns.map PyData.int))=.list (ns.map WData.int):=by
  rw[← ofPys_ints];rfl
 have z0:=os_pre_isSome uO;rw[← e]at z0 uO;obtain⟨dec,_,most,_⟩:=os_dec_ints (least:=0) (most:=30000) (lo:=_root_.Int.negSucc 2147483647) (hi:=_root_.Int.ofNat 4294967295) z0;have asked:=os_pre_asked (r:=PySem.Challenge.rw_signrow_s01_answers) uO dec;have post:∀ d,same d (.list ((PySw28.answers ns).map WData.int))=true->PySem.Challenge.rw_signrow_s01_answers.post [ofPy (PyData.list (ns.map PyData.int))] d=true:=fun d hd=>os_post (r:=PySem.Challenge.rw_signrow_s01_answers) dec hd;rw[e]at post;cases lC with
 |cons yc aa_ =>
  cases aa_;cases yc with
  |list bB ahZ=>exact⟨_,_,ns,Z,Z,bB,Att.aGO ns _ ahZ,most,asked,post⟩
theorem walk{q:fx}{loose:List Str}{aGX:(g_)->Heap->Prop}{aqc:e4->Heap->Prop}{d:DefRec}{K:Params->cp}(aGY:d.name="answers") (aIo:d.params.defaults=[])
  (ix:∀ (w:e4) (h:Heap),aqc w h->(K w.params).In h)
  (F:∀ (w:e4) (av:g_) (h:Heap),(K w.params).In h->h.Ns mainGlobals av->∃ t,Txt (K w.params) av t) :
  WalkOS q loose aGX aqc PySem.Challenge.rw_signrow_s01_answers d [] (fun f vs=>PySem.call f vs):=by
 intro w jZ fV av pJ G Y aZ o pm cd doc abH c3 bB hd wK bw T5 b5 args vals as uO hlay aIp lC aIq;have hT:=ix w _ Y;obtain⟨t,T⟩:=F w av _ hT G.T.g;obtain⟨a,vs,ns,rfl,rfl,aGZ,hints,hlen,z4,aG0⟩:=aGW uO lC;rw[aGY]at T5;have fB:=T5.symm.trans T.afA;cases fB;have hz:ns.length<=sizeLine:=by
  have:sizeLine=16777216:=sizeLine_eq;omega
 refine enter_call (codeAny_mono (aGP (P:=PySem.Challenge.rw_signrow_s01_answers.prog) (out:=PySw28.answers ns) (gJ:=cM PySem.Challenge.rw_signrow_s01_answers.prog w) (x:="calls") (k:=17) (sp:=apV t (K w.params)) hT G.T.g G.T.b G.T.builtins G.T.nolimit b5 aGZ hints hz ⟨rfl,by decide,by decide⟩ (fun base _ _=>aFj T) ?_ (fun H _ d1=>⟨_,rfl,a,ns,rfl,d1,z4,Sr.aFI,fun D H' aG1 _=>⟨D,rfl,aG1⟩⟩) fun H e s' h=>?_) fun r s' h=>?_)
 ·intro s u;obtain⟨jL,hQ,c3,doc,pm,an,bK,fu,pP,e,_,_⟩:=T.X3.ex;rw[e];exact .of_eq rfl
 ·obtain⟨_,_,_,_,_,_,_,_,_,z⟩:=h;exact z
 ·obtain⟨⟨D,its,n,rfl,Zg,e0⟩,aC,bI,dz⟩:=h;refine⟨.inl ⟨_,_,[D],Z,osNone,readsW_of_reads (reads_newData ⟨_,Zg,rfl,n,rfl⟩ (aqb e0)),osPost (aG0 _ (os_same_ints rfl)),fun z=>absurd z jr⟩,aC,bI,dz⟩
end Sg
structure PySem.W.Fast:Prop where
 (tw7303573845391293568 tw12733296930793858432 tw3310122299758894048 tw12914744128056341537 tw3304597726236096097 tw13622522023581323522 tw4387075373943793026 tw13346147272947152420 tw12868841111235590084 tw10265063814379803620 tw1634764292850886501 tw16566752058838301862 tw9831050982072673606 tw4760035391072807654 tw17419864571076937702 tw17198334725073665479 tw1185243650751923464 tw12306814873944452712 tw7429092937204683945 tw2776553312494220137 tw7892801009559841769 tw4917558800827584556 tw13441851062203179277 tw3578328596779438445 tw2483792486223624589 tw16521168848774931854 tw11580765787584584495 tw17187457906645358320 tw7804849740388112 tw17864822773029955440 tw18118117452996822673 tw13563628656914669425 tw1013589752687786067 tw11037969710519543155 tw8976343641861108627 tw481346063221926230 tw7129556794960136249 tw5581683045349726649 tw3740902745089226169 tw5653318311306977721 tw3078003961765978875 tw16961612539301047740 tw2919354306202274588 tw787619308454529085 tw16940198642999970589 tw16627652918048553119 tw10477497921307307295 tw1517169688108450783 tw2065178344382569346 tw18155671332664343789 tw2875539057186267281 tw5915010791611805885 tw2776216258781015579 tw16875343185539652920 tw9516478987393022649 tw16963313384980916 tw16100428125399577474 tw7038691730325934565 tw5427906906448553528 tw14228958471404198859 tw3406188770913111994 tw940222361210683616 tw4743239003127517780 tw5802901130878270573 tw16671563242106044415 tw8119229950803529321 tw4948553106963766039 tw6338259824257396825 tw13735596136432583946 tw5878453700767705906 tw15238131849965930491 tw16559225740021409632 tw7163123012044194237 tw9933502617387315133 tw13452522387452255366 tw13308197192730602917 tw12317691649839166936 tw18139521064287005363 tw3524896765572904987 tw17650064786380210768 tw14800511520427980111 tw8114620025738995867 tw17951985785102340057 tw16760571434835283933 tw17257842819476184278 tw9191196386532070340 tw16986404966781386774 tw12271463200099728386 tw15656841884760703734 tw1995031928691772967 tw7986757144096199532 tw12592175929428522703 tw11352420798715368750 tw7466856035243461640 tw14528784065970786148 tw9342246869671372844 tw11455641093742926020 tw14597048399898748992 tw2296729224804976747 tw2816701013621229216 tw3617254145734317673 tw12602923063454017722 tw17125796386039896208 tw14628541338106216003 tw17886451936279328647 tw9067227959479442612 tw14897184556709351487 tw12358372427887513640 tw8880071237058323185 tw15065538199301595956 tw12529853190517723169 tw2686582093188590021 tw12022239894798153113 tw6870202573520611133 tw14283300026433343730 tw9997141894577298853 tw9124052380233195846 tw12269365061573365692 tw16373276008491959306 tw9547956352667687115 tw6209969360759034026 tw6226954796254163238 tw3925077497571429002 tw13067795295097406724 tw8655796270220781688 tw1024920308774690758 tw8127129054280130349 tw5469111275323722852 tw15118588024701984404 tw18277954033450675716 tw18081254168759878078 tw12643297513025013728 tw13088071966870093590 tw8819139819241780498 tw4999146841981408686 tw9845848564708864489 tw14460953234548297636 tw3146875915169919739 tw7141841750196717538 tw17871781006558848791 tw981066200104516303 tw13492155705567366744 tw5348067867094025913 tw7334974726649490240 tw16470289210882152062 tw14335183317951956335 tw12941982808379806532 tw18349012366028159835 tw14571763474602915780 tw8680397447819550108 tw1768781234869210779 tw8525039911482427956 tw9828967536283247158 tw9283367681044861055 tw12672086724788641245 tw12492934239777310094 tw6604742080349288074 tw6596210474645146383 tw16499275834574121569 tw11963562707229415357 tw5497318677928389810 tw12328208438058703833 tw11234098657426559840 tw1314943616887401823 tw1101815921895442261 tw18206664485209822618 tw10094819794898451453 tw14983250869380903744 tw8682933689507478968 tw1202832898027219723 tw8262518980453796317 tw12785192101616737827 tw6645625394224750329 tw18376545334469062267 tw16663763952640436337 tw18163662846280878350 tw452392132623467102 tw18094128427128232713 tw14501957722456146607 tw8894925033038217083 tw584497685265275863 tw11352369483533521247 tw17633499298238390751 tw2576812571937254018 tw7663959592259375476 tw2164853236558275848 tw6968231092250459600 tw8706676117297527357 tw775391464179469679 tw6640073344395898901 tw9177938138705435748 tw16244401544224073722 tw6256271552925358337 tw1292602236778457942 tw3645196519599120724 tw4978270238063401689 tw9692935511007643670 tw551159693943883786 tw9948671422217801710 tw11822412134838155339 tw16301388005885273221 tw16053671804433506338 tw412826297240881933 tw7570957091881013955 tw3688487537695107303 tw16661908749744883931 tw730042992954023772 tw3493879114171492318 tw9613310235960564268 tw11735098251017670252 tw4298923815800281224 tw17974456447640966376 tw17862203056850466633 tw397690523733415438 tw14616676266062713162 tw11248610963512300295 tw6112452746411577642 tw5747633212111586988 tw3023535110770641087 tw4558528985441765642 tw3212349375053393644 tw15654988021152989554 tw5370567161376499331:True)
open PySem PySem.W PyProof.Rows
set_option maxRecDepth 100000 in
set_option maxHeartbeats 0 in
theorem PySem.Challenge.cw_signrow_s01_answers_holds : PySem.Challenge.rw_signrow_s01_answers.Holds := by
 w_on
 k_headS
 (case hw=>exact⟨[.list [.int 1]],by decide +kernel,by decide +kernel⟩)
 k_fillS
 refine Sg.walk rfl rfl (fun w h Y=>PySem.W.kIn_of Y) ?F
 case F =>
  intro w av h hT G;apply Sg.aFO;exact⟨_,Sg.p1 hT G,Sg.p2,Sg.fZ,Sg.fZ,Sg.fZ,Sg.fZ⟩;exact⟨_,Sg.p1 hT G,Sg.p2,Sg.jq,Sg.fZ,Sg.fZ⟩;exact⟨_,Sg.p1 hT G,Sg.p2,Sg.jq,Sg.fZ,Sg.fZ,Sg.fZ⟩;exact⟨_,Sg.p1 hT G,Sg.p2,Sg.fZ,Sg.fZ,Sg.fZ⟩;exact⟨_,Sg.p1 hT G,Sg.p2,Sg.fZ,Sg.fZ⟩;exact⟨_,Sg.p1 hT G,Sg.p2,Sg.jq,Sg.jq,Sg.jq,Sg.jq,Sg.fZ,Sg.fZ,Sg.fZ,Sg.fZ,Sg.fZ,Sg.fZ,Sg.fZ⟩;exact⟨_,Sg.p1 hT G,Sg.p2,Sg.fZ,Sg.fZ,Sg.fZ⟩;exact⟨_,Sg.p1 hT G,Sg.p2,Sg.jq,Sg.jq,Sg.fZ,Sg.fZ⟩;exact Sg.ap6 hT G;exact⟨_,Sg.p1 hT G,Sg.p2,Sg.jq,Sg.jq,Sg.jq,Sg.jq,Sg.jq,Sg.jq,Sg.jq,Sg.jq,Sg.fZ,Sg.fZ,Sg.fZ⟩;exact⟨_,Sg.p1 hT G,Sg.p2,Sg.fZ,Sg.fZ,Sg.fZ⟩;exact⟨_,Sg.p1 hT G,Sg.p2,Sg.fZ,Sg.fZ⟩;exact⟨_,Sg.p1 hT G,Sg.p2,Sg.fZ,Sg.fZ,Sg.fZ⟩;exact Sg.ap6 hT G;exact⟨_,Sg.p1 hT G,Sg.p2,Sg.jq,Sg.jq,Sg.fZ,Sg.fZ,Sg.fZ,Sg.fZ,Sg.fZ⟩;exact⟨_,Sg.p1 hT G,Sg.p2,Sg.jq,Sg.jq,Sg.jq,Sg.jq,Sg.jq,Sg.fZ⟩;exact⟨_,Sg.p1 hT G,Sg.p2,Sg.jq,Sg.jq,Sg.jq,Sg.fZ,Sg.fZ⟩
  iterate 50 exact Sg.aFJ hT G
  iterate 21 exact Sg.aFL hT G
  exact Sg.aFN hT G;exact Sg.aFM hT G
  iterate 9 exact PySem.W.mg_none_of hT G (by k_is)
#print axioms PySem.Challenge.cw_signrow_s01_answers_holds
